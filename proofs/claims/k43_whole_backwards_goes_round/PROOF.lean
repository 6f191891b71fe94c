import PyProof.Rows.All
import Wide.All
import OpenK.AllK
import Wide.FinOn
import Lean
import PyProof.EqAt
import PyProof.EqKinds
import PyProof.TupleCall
import PySem.Challenge.RW_roundprice_k43_whole_backwards_goes_roun
set_option Elab.async false
set_option linter.all false
set_option maxRecDepth 100000
set_option genSizeOf false
set_option genSizeOfSpec false
set_option bootstrap.genMatcherCode false
namespace L2
open PySem PySem.Spec PyProof.Rows
noncomputable abbrev Key := Sum Int Str
noncomputable def keyIs : Key → Value → Bool
  | .inl k, v => Value.isInt k v
  | .inr x, v => Value.isStrOf x v
noncomputable def keyH (w : World) : Key → Int
  | .inl k => hashInt k
  | .inr x => hashStr w x
theorem keyIs_shape : ∀ {k : Key} {v : Value}, keyIs k v = true → (∃ i t, k = Sum.inl i ∧ v = Value.int i t) ∨ (∃ x t, k = Sum.inr x ∧ v = Value.str x t)
  | .inl i, v, h => by
    obtain ⟨t, e⟩ := Value.isInt_shape (k := i) (v := v) h
    exact .inl ⟨i, t, rfl, e⟩
  | .inr x, v, h => by
    obtain ⟨t, e⟩ := Value.isStrOf_shape (x := x) (v := v) h
    exact .inr ⟨x, t, rfl, e⟩
theorem key_ll (a b : Int) : decide ((Sum.inl a : Key) = Sum.inl b) = (a == b) := by
  by_cases e : a = b
  · subst e; simp
  · have h : ¬ (Sum.inl a : Key) = Sum.inl b := fun q => e (Sum.inl.inj q)
    rw [decide_eq_false h]
    exact (beq_eq_false_iff_ne.mpr e).symm
theorem key_rr (a b : Str) : decide ((Sum.inr a : Key) = Sum.inr b) = decide (a = b) := by
  by_cases e : a = b
  · subst e; simp
  · have h : ¬ (Sum.inr a : Key) = Sum.inr b := fun q => e (Sum.inr.inj q)
    rw [decide_eq_false h, decide_eq_false e]
theorem key_lr (a : Int) (b : Str) : decide ((Sum.inl a : Key) = Sum.inr b) = false := decide_eq_false (fun q => nomatch q)
theorem key_rl (a : Str) (b : Int) : decide ((Sum.inr a : Key) = Sum.inl b) = false := decide_eq_false (fun q => nomatch q)
noncomputable def mixKind (prog : Program) (w : World) : PySem.KeyKind prog w Key where
  is := keyIs
  hash := keyH w
  inj := fun v a b ha hb => by
    rcases keyIs_shape ha with ⟨i, t, rfl, rfl⟩ | ⟨x, t, rfl, rfl⟩
    · rcases keyIs_shape hb with ⟨j, u, rfl, e⟩ | ⟨y, u, rfl, e⟩
      · injection e with e1 _; rw [e1]
      · exact nomatch e
    · rcases keyIs_shape hb with ⟨j, u, rfl, e⟩ | ⟨y, u, rfl, e⟩
      · exact nomatch e
      · injection e with e1 _; rw [e1]
  byValue := fun k v h => by
    rcases keyIs_shape h with ⟨i, t, rfl, rfl⟩ | ⟨x, t, rfl, rfl⟩ <;> rfl
  pyHash := fun hv h => by
    rcases keyIs_shape hv with ⟨i, t, rfl, rfl⟩ | ⟨x, t, rfl, rfl⟩
    · exact wpAny_pyHash_int h
    · exact wpAny_pyHash_str h
  eqBool := fun hu hv h => by
    rcases keyIs_shape hu with ⟨i, t, rfl, rfl⟩ | ⟨x, t, rfl, rfl⟩
    · rcases keyIs_shape hv with ⟨j, u, rfl, rfl⟩ | ⟨y, u, rfl, rfl⟩
      · rw [key_ll] at h; exact wpAny_eqBool_int h
      · rw [key_lr] at h; exact SeqAt.EqAt.int_str i t y u _ _ _ _ h
    · rcases keyIs_shape hv with ⟨j, u, rfl, rfl⟩ | ⟨y, u, rfl, rfl⟩
      · rw [key_rl] at h; exact SeqAt.EqAt.str_int x t j u _ _ _ _ h
      · rw [key_rr] at h; exact wpAny_eqBool_str h
  «strs» := fun k x t v h => by
    rcases keyIs_shape h with ⟨i, u, rfl, e⟩ | ⟨y, u, rfl, e⟩
    · exact nomatch e
    · injection e with e1 _
      subst e1
      cases v <;> rfl
end L2
namespace L2
open PySem PySem.Spec PyProof.Rows
inductive V where
  | non | bl (b : Bool) | int (i : Int) | str (x : Str) | byt (b : Array UInt8) | flt (b : UInt64) | ref (a : Addr) | ty (n : String)
  deriving DecidableEq
noncomputable def RelV : V → Value → Prop
  | .non, u => u = Value.none
  | .bl b, u => u = Value.bool b
  | .int i, u => ∃ t, u = Value.int i t
  | .str x, u => ∃ t, u = Value.str x t
  | .byt b, u => ∃ t, u = Value.bytes b t
  | .flt b, u => ∃ t, u = Value.float b t
  | .ref a, u => u = Value.ref a
  | .ty n, u => u = Value.type n
noncomputable abbrev Vals : List V → List Value → Prop := Paired RelV
theorem Vals.length {xs : List V} {us : List Value} (r : Vals xs us) : xs.length = us.length := Paired.length r
theorem Vals.get : ∀ {xs : List V} {us : List Value} {i : Nat} {x : V}, Vals xs us → xs[i]? = some x → ∃ u, us[i]? = some u ∧ RelV x u
  | _, _, _, _, .nil, e => by simp at e
  | _, _, 0, _, .cons r _, e => by simp at e; subst e; exact ⟨_, rfl, r⟩
  | _, _, i + 1, x, .cons _ t, e => by
    obtain ⟨u, h1, h2⟩ := Vals.get (i := i) (x := x) t (by simpa using e)
    exact ⟨u, by simpa using h1, h2⟩
theorem Vals.set {x : V} {u : Value} (r : RelV x u) : ∀ {xs : List V} {us : List Value} (i : Nat), Vals xs us → Vals (xs.set i x) (us.set i u)
  | _, _, _, .nil => .nil
  | _, _, 0, .cons _ t => .cons r t
  | _, _, i + 1, .cons q t => .cons q (Vals.set r i t)
theorem Vals.append : ∀ {xs ys : List V} {us ws : List Value}, Vals xs us → Vals ys ws → Vals (xs ++ ys) (us ++ ws)
  | _, _, _, _, .nil, s => s
  | _, _, _, _, .cons r t, s => .cons r (Vals.append t s)
theorem Vals.take : ∀ {xs : List V} {us : List Value} (n : Nat), Vals xs us → Vals (xs.take n) (us.take n)
  | _, _, 0, _ => .nil
  | _, _, _ + 1, .nil => .nil
  | _, _, n + 1, .cons r t => .cons r (Vals.take n t)
theorem Vals.drop : ∀ {xs : List V} {us : List Value} (n : Nat), Vals xs us → Vals (xs.drop n) (us.drop n)
  | _, _, 0, r => r
  | _, _, _ + 1, .nil => .nil
  | _, _, n + 1, .cons _ t => Vals.drop n t
noncomputable def RelO : Option V → Option Value → Prop
  | some v, some u => RelV v u
  | none, none => True
  | _, _ => False
noncomputable def KV {κ : Type} : List (κ × V) → List (κ × Value) → Prop := Paired fun (p : κ × V) (q : κ × Value) => p.1 = q.1 ∧ RelV p.2 q.2
noncomputable def kV : Key → V
  | .inl i => .int i
  | .inr x => .str x
inductive HO where
  /-- a list -/
  | lst (xs : List V)
  /-- a tuple (never changes) -/
  | tup (xs : List V)
  /-- a dict whose keys are ints and texts; one whose keys are tuples of ints and texts (the empty one is both) -/
  | dK (kvs : List (Key × V)) | dT (kvs : List (List Key × V))
  /-- a set of ints: its members, its size -/
  | set (S : Int → Bool) (n : Nat)
  /-- an instance of the class at C, its dict at dx, its attributes -/
  | ins (C dx : Addr) (fs : List (Str × V))
  /-- the dict of the instance at x -/
  | own (x : Addr)
  /-- the dict of an exception -/
  | xd (fs : List (Str × V))
  /-- a bound method, f of x -/
  | met (f x : Addr)
  /-- a range object lo, lo + 1, .. below hi -/
  | rng (lo hi : Int)
  /-- a thing that is known to the object (the script; a dict while a loop walks it): read, never written while it is so -/
  | frz (o : Obj) (u : HO)
  /-- a code object's table -/
  | tbl (ps : Array Value)
  /-- any other thing, by what is true of its one object (a def of one's own: SetO a S n := HO.ext fun h => ..) -/
  | ext (φ : Heap → Prop)
noncomputable abbrev Hp := Addr → Option HO
noncomputable def upd (H : Hp) (a : Addr) (o : HO) : Hp := fun b => if b = a then some o else H b
theorem upd_same {H : Hp} {a : Addr} {o : HO} : upd H a o a = some o := by unfold upd; rw [if_pos rfl]
theorem upd_ne {H : Hp} {a b : Addr} {o : HO} (h : b ≠ a) : upd H a o b = H b := by unfold upd; rw [if_neg h]
theorem ne_of {H : Hp} {a b : Addr} {o u : HO} (h : H a = some o) (h' : H b = some u) (d : o ≠ u) : a ≠ b := by
  intro e; subst e; rw [h] at h'; exact d (Option.some.inj h')
theorem ne_of_none {H : Hp} {a b : Addr} {o : HO} (h : H a = some o) (h' : H b = none) : a ≠ b := by
  intro e; subst e; rw [h] at h'; cases h'
section
variable (P : Program) (w : World)
noncomputable def ObjOk (H : Hp) (h : Heap) (a : Addr) : HO → Prop
  | .lst xs => xs.length ≤ sizeLine ∧ ∃ (its : List Value) (n : Nat), Vals xs its ∧ h.get? a = some { cls := .type "list", data := .seq its.toArray n }
  | .tup xs => xs.length ≤ sizeLine ∧ ∃ its : List Value, Vals xs its ∧ IsTup h a its.toArray
  | .dK kvs => kvs.length ≤ sizeLine ∧ (a == sysModules) = false ∧ ∃ vs, KV kvs vs ∧ h.DictOf (mixKind P w) a vs
  | .dT kvs => kvs.length ≤ sizeLine ∧ (a == sysModules) = false ∧ ∃ xs : List (List Key × Addr × Value),
      Paired (fun (p : List Key × V) (q : List Key × Addr × Value) => p.1 = q.1 ∧ H q.2.1 = some (.tup (p.1.map kV)) ∧ RelV p.2 q.2.2) kvs xs ∧
      ∃ o es ep, h.get? a = some o ∧ o.ExactDict ∧ o.data = .dict es ep ∧ es.toList = xs.map (entryOfKey (tupleKind (mixKind P w))) ∧ (xs.map (·.1)).Nodup
  | .set S n => h.SetOf (intKind P w) a S n
  | .ins C dx fs => H dx = some (.own a) ∧ fs.length ≤ 1000 ∧ dx ≠ a ∧ h.get? a = some (PySem.W.instObj C dx) ∧
      ∃ mA, h.Ns1 dx mA ∧ (∀ f, RelO (fs.lookup f) (mA f)) ∧ PySem.Within mA (fs.map (·.1))
  | .own _ => ∃ o, h.get? a = some o
  | .xd fs => ∃ mA, h.Ns1 a mA ∧ ∀ f, RelO (fs.lookup f) (mA f)
  | .rng lo hi => ∃ t u v, h.get? a = some { cls := .type "range", data := .fields #[.int lo t, .int hi u, .int 1 v] }
  | .frz o u => h.get? a = some o ∧ ObjOk H h a u
  | .tbl ps => h.get? a = some { cls := .none, data := .fields ps }
  | .met f x => h.get? a = some (PySem.W.methodObj (.ref f) (.ref x))
  | .ext φ => φ h ∧ (∃ o, h.get? a = some o) ∧ ∀ h1 h2 : Heap, φ h1 → (∀ o, h1.get? a = some o → h2.get? a = some o) → φ h2
noncomputable def HOk (H : Hp) (h : Heap) : Prop := ∀ a o, H a = some o → ObjOk P w H h a o
end
section
variable {P : Program} {w : World} {H H' : Hp} {h h' : Heap} {a : Addr} {o : HO}
theorem ObjOk.lt (x : ObjOk P w H h a o) : a < h.objs.size := by
  cases o with
  | lst xs => obtain ⟨_, _, _, _, e⟩ := x; exact Heap.lt_size e
  | tup xs => obtain ⟨_, _, _, p⟩ := x; exact p.lt
  | dK kvs => obtain ⟨_, _, _, _, o, _, _, e, _⟩ := x; exact Heap.lt_size e
  | dT kvs => obtain ⟨_, _, _, _, o, _, _, e, _⟩ := x; exact Heap.lt_size e
  | set S n => obtain ⟨o, _, _, _, e, _⟩ := x; exact Heap.lt_size e
  | ins C dx fs => obtain ⟨_, _, _, e, _⟩ := x; exact Heap.lt_size e
  | own y => obtain ⟨_, e⟩ := x; exact Heap.lt_size e
  | xd fs => obtain ⟨_, ⟨_, _, _, e, _⟩, _⟩ := x; exact Heap.lt_size e
  | rng lo hi => obtain ⟨_, _, _, e⟩ := x; exact Heap.lt_size e
  | frz ob u => obtain ⟨e, _⟩ := x; exact Heap.lt_size e
  | tbl ps => exact Heap.lt_size (show h.get? a = some _ from x)
  | met f y => exact Heap.lt_size (show h.get? a = some _ from x)
  | ext φ => obtain ⟨_, ⟨_, e⟩, _⟩ := x; exact Heap.lt_size e
theorem Paired.mapP {α β : Type} {F G : α → β → Prop} : ∀ {l₁ : List α} {l₂ : List β}, Paired F l₁ l₂ → (∀ a b, F a b → G a b) → Paired G l₁ l₂
  | _, _, .nil, _ => .nil
  | _, _, .cons r t, f => .cons (f _ _ r) (Paired.mapP t f)
theorem ObjOk.stay (x : ObjOk P w H h a o) (k : ∀ b u, (b = a ∨ H b = some (.own a)) → h.get? b = some u → h'.get? b = some u)
    (ho : ∀ b, H b = some (.own a) → H' b = some (.own a)) (ht : ∀ b xs, H b = some (.tup xs) → H' b = some (.tup xs)) : ObjOk P w H' h' a o := by
  induction o with
  | lst xs => obtain ⟨z, its, n, r, e⟩ := x; exact ⟨z, its, n, r, k _ _ (.inl rfl) e⟩
  | tup xs => obtain ⟨z, its, r, ob, e, c⟩ := x; exact ⟨z, its, r, ob, k _ _ (.inl rfl) e, c⟩
  | dK kvs => obtain ⟨z, y, vs, r, ob, es, ep, e, c⟩ := x; exact ⟨z, y, vs, r, ob, es, ep, k _ _ (.inl rfl) e, c⟩
  | dT kvs =>
    obtain ⟨z, y, xs, r, ob, es, ep, e, c⟩ := x
    exact ⟨z, y, xs, Paired.mapP r fun p q z => ⟨z.1, ht _ _ z.2.1, z.2.2⟩, ob, es, ep, k _ _ (.inl rfl) e, c⟩
  | set S n => obtain ⟨ob, es, ep, t, e, c⟩ := x; exact ⟨ob, es, ep, t, k _ _ (.inl rfl) e, c⟩
  | ins C dx fs =>
    obtain ⟨d, z, ne, e, mA, ⟨od, es, ep, e2, c⟩, r⟩ := x
    exact ⟨ho _ d, z, ne, k _ _ (.inl rfl) e, mA, ⟨od, es, ep, k _ _ (.inr d) e2, c⟩, r⟩
  | own y => obtain ⟨ob, e⟩ := x; exact ⟨ob, k _ _ (.inl rfl) e⟩
  | xd fs => obtain ⟨mA, ⟨od, es, ep, e, c⟩, r⟩ := x; exact ⟨mA, ⟨od, es, ep, k _ _ (.inl rfl) e, c⟩, r⟩
  | rng lo hi => obtain ⟨t, u, v, e⟩ := x; exact ⟨t, u, v, k _ _ (.inl rfl) e⟩
  | frz ob u ih => obtain ⟨e, q⟩ := x; exact ⟨k _ _ (.inl rfl) e, ih q⟩
  | tbl ps =>
    have e : h.get? a = some { cls := .none, data := .fields ps } := x
    show h'.get? a = some { cls := .none, data := .fields ps }
    exact k a _ (.inl rfl) e
  | met f y =>
    have e : h.get? a = some (PySem.W.methodObj (.ref f) (.ref y)) := x
    show h'.get? a = some (PySem.W.methodObj (.ref f) (.ref y))
    exact k a _ (.inl rfl) e
  | ext φ => obtain ⟨p, ⟨o, e⟩, st⟩ := x; exact ⟨st _ _ p fun o q => k _ _ (.inl rfl) q, ⟨o, k _ _ (.inl rfl) e⟩, st⟩
theorem HOk.lt (x : HOk P w H h) (e : H a = some o) : a < h.objs.size := (x a o e).lt
theorem HOk.fresh (x : HOk P w H h) (e : h.objs.size ≤ a) : H a = none := by
  cases q : H a with
  | none => rfl
  | some u => exact absurd (Nat.lt_of_lt_of_le (x.lt q) e) (Nat.lt_irrefl _)
theorem HOk.kept (x : HOk P w H h) (k : ∀ b u, h.get? b = some u → h'.get? b = some u) : HOk P w H h' := fun a o e =>
  (x a o e).stay (fun b u _ q => k b u q) (fun _ q => q) fun _ _ q => q
theorem HOk.laid (x : HOk P w H h) (k : ∀ b u, h.get? b = some u → h'.get? b = some u) (hp : h.objs.size ≤ a) (new : ObjOk P w (upd H a o) h' a o) : HOk P w (upd H a o) h' := fun b u e => by
  have hn := x.fresh hp
  by_cases hb : b = a
  · subst hb; rw [upd_same] at e; cases e; exact new
  · rw [upd_ne hb] at e
    exact (x b u e).stay (fun c v _ q => k c v q) (fun c q => by rw [upd_ne (ne_of_none q hn)]; exact q) fun c xs q => by rw [upd_ne (ne_of_none q hn)]; exact q
end
noncomputable def Rd (H : Hp) (a : Addr) (u : HO) : Prop := H a = some u ∨ ∃ o, H a = some (.frz o u)
theorem Rd.of {H : Hp} {a : Addr} {u : HO} (h : H a = some u) : Rd H a u := .inl h
theorem Rd.ok {P : Program} {w : World} {H : Hp} {h : Heap} {a : Addr} {u : HO} (r : Rd H a u) (x : HOk P w H h) : ObjOk P w H h a u := by
  rcases r with r | ⟨o, r⟩
  · exact x a u r
  · obtain ⟨_, q⟩ := x a _ r
    exact q
noncomputable def Mut : Option HO → Prop
  | some (.lst _) => True
  | some (.dK _) => True
  | some (.dT _) => True
  | some (.set _ _) => True
  | some (.ins _ _ _) => True
  | some (.ext _) => True
  | _ => False
section
variable {P : Program} {w : World} {H : Hp} {h h' : Heap} {x e : Addr} {o' : HO}
theorem HOk.write (ok : HOk P w H h) (mu : Mut (H x)) (he : e = x ∨ H e = some (.own x)) (k : ∀ b u, b ≠ e → h.get? b = some u → h'.get? b = some u) (heo : ∃ u, h'.get? e = some u)
    (new : ObjOk P w (upd H x o') h' x o') : HOk P w (upd H x o') h' := fun b u q => by
  have nown : ∀ c y, H c = some (.own y) → c ≠ x := fun c y r z => by subst z; rw [r] at mu; exact mu
  have ntup : ∀ c xs, H c = some (.tup xs) → c ≠ x := fun c xs r z => by subst z; rw [r] at mu; exact mu
  by_cases hb : b = x
  · subst hb; rw [upd_same] at q; cases q; exact new
  · rw [upd_ne hb] at q
    by_cases hbe : b = e
    · have q' : H b = some (.own x) := by
        rcases he with z | z
        · exact absurd (hbe.trans z) hb
        · rw [hbe]; exact z
      rw [q] at q'; cases q'
      obtain ⟨v, hv⟩ := heo
      exact ⟨v, by rw [hbe]; exact hv⟩
    · refine (ok b u q).stay (fun c v hc r => k c v ?_ r) (fun c r => by rw [upd_ne (nown c b r)]; exact r) fun c xs r => by rw [upd_ne (ntup c xs r)]; exact r
      rcases hc with rfl | hc
      · exact hbe
      · rintro rfl
        rcases he with z | z
        · exact nown c b hc z
        · rw [hc] at z; cases z; exact hb rfl
end
structure Un (fs ex : List Addr) (H H' : Hp) (h h' : Heap) : Prop where
  keep : ∀ b o, h.get? b = some o → H b = none → b ∉ fs → b ∉ ex → h'.get? b = some o
  slot : ∀ b o, h.get? b = some o → H b = none → b ∈ fs → b ∉ ex → ∃ sl, h'.get? b = some { o with slots := sl }
  free : ∀ b o, h.get? b = some o → H b = none → b ∉ ex → H' b = none
  there : ∀ b o, h.get? b = some o → b ∉ ex → ∃ o', h'.get? b = some o'
  tups : ∀ b xs, H b = some (.tup xs) → H' b = some (.tup xs)
  frzs : ∀ b o u, H b = some (.frz o u) → H' b = some (.frz o u)
  tbls : ∀ b ps, H b = some (.tbl ps) → ∃ more, H' b = some (.tbl (ps ++ more))
section
variable {fs fs' ex ex' : List Addr} {H H1 H2 : Hp} {h h1 h2 h' : Heap} {a x e : Addr} {o : HO}
theorem Un.any (u : Un fs ex H H1 h h1) {b : Addr} {ob : Obj} (q : h.get? b = some ob) (n : H b = none) (hx : b ∉ ex) : ∃ sl, h1.get? b = some { ob with slots := sl } := by
  by_cases hb : b ∈ fs
  · exact u.slot b ob q n hb hx
  · exact ⟨ob.slots, u.keep b ob q n hb hx⟩
theorem Un.trans (a : Un fs ex H H1 h h1) (b : Un fs ex H1 H2 h1 h2) : Un fs ex H H2 h h2 where
  keep := fun c ob q n hc hx => b.keep c ob (a.keep c ob q n hc hx) (a.free c ob q n hx) hc hx
  slot := fun c ob q n hc hx => by
    obtain ⟨sl, e1⟩ := a.slot c ob q n hc hx
    obtain ⟨sl', e2⟩ := b.slot c _ e1 (a.free c ob q n hx) hc hx
    exact ⟨sl', e2⟩
  free := fun c ob q n hx => by
    obtain ⟨o', e1⟩ := a.there c ob q hx
    exact b.free c o' e1 (a.free c ob q n hx) hx
  there := fun c ob q hx => by
    obtain ⟨o', e1⟩ := a.there c ob q hx
    exact b.there c o' e1 hx
  tups := fun c xs q => b.tups c xs (a.tups c xs q)
  frzs := fun c ob xs q => b.frzs c ob xs (a.frzs c ob xs q)
  tbls := fun c ps q => by
    obtain ⟨m1, e1⟩ := a.tbls c ps q
    obtain ⟨m2, e2⟩ := b.tbls c _ e1
    exact ⟨m1 ++ m2, by rw [e2, Array.append_assoc]⟩
theorem Un.kept (k : ∀ b u, h.get? b = some u → h'.get? b = some u) : Un fs ex H H h h' :=
  ⟨fun b ob q _ _ _ => k b ob q, fun b ob q _ _ _ => ⟨ob.slots, k b ob q⟩, fun _ _ _ n _ => n, fun b ob q _ => ⟨ob, k b ob q⟩, fun _ _ q => q, fun _ _ _ q => q, fun _ ps q => ⟨#[], by rw [q]; simp⟩⟩
theorem Un.refl : Un fs ex H H h h := Un.kept fun _ _ q => q
theorem Un.laid (k : ∀ b u, h.get? b = some u → h'.get? b = some u) (hp : h.objs.size ≤ a) (hn : H a = none) : Un fs ex H (upd H a o) h h' where
  keep := fun b u q _ _ _ => k b u q
  slot := fun b u q _ _ _ => ⟨u.slots, k b u q⟩
  free := fun b u q n _ => by rw [upd_ne (Nat.ne_of_lt (Nat.lt_of_lt_of_le (Heap.lt_size q) hp))]; exact n
  there := fun b u q _ => ⟨u, k b u q⟩
  tups := fun b xs q => by rw [upd_ne (ne_of_none q hn)]; exact q
  frzs := fun b u xs q => by rw [upd_ne (ne_of_none q hn)]; exact q
  tbls := fun b ps q => ⟨#[], by rw [upd_ne (ne_of_none q hn), q]; simp⟩
theorem Un.write (mu : Mut (H x)) (he : e = x ∨ H e = some (.own x)) (k : ∀ b u, b ≠ e → h.get? b = some u → h'.get? b = some u) (heo : ∃ u, h'.get? e = some u) : Un fs ex H (upd H x o) h h' := by
  have hx : ∀ b, H b = none → b ≠ x := fun b n z => by subst z; rw [n] at mu; exact mu
  have hb : ∀ b, H b = none → b ≠ e := fun b n z => by
    subst z
    rcases he with r | r
    · exact hx b n r
    · rw [n] at r; cases r
  have hm : ∀ b u, H b = some u → ¬ Mut (some u) → b ≠ x := fun b u q nm z => by subst z; rw [q] at mu; exact nm mu
  refine ⟨fun b u q n _ _ => k b u (hb b n) q, fun b u q n _ _ => ⟨u.slots, k b u (hb b n) q⟩, fun b u q n _ => by rw [upd_ne (hx b n)]; exact n, fun b u q _ => ?_,
    fun b xs q => by rw [upd_ne (hm b _ q fun z => z)]; exact q, fun b u xs q => by rw [upd_ne (hm b _ q fun z => z)]; exact q, fun b ps q => ⟨#[], by rw [upd_ne (hm b _ q fun z => z), q]; simp⟩⟩
  by_cases hbe : b = e
  · subst hbe; exact heo
  · exact ⟨u, k b u hbe q⟩
theorem Un.mono (u : Un fs ex H H1 h h1) (hs : ∀ b ∈ fs, b ∈ fs') (hx : ∀ b ∈ ex, b ∈ ex') : Un fs' ex' H H1 h h1 :=
  ⟨fun b ob q n hb he => u.keep b ob q n (fun z => hb (hs b z)) fun z => he (hx b z), fun _ _ q n _ he => u.any q n fun z => he (hx _ z), fun b ob q n he => u.free b ob q n fun z => he (hx b z), fun b ob q he => u.there b ob q fun z => he (hx b z), u.tups, u.frzs, u.tbls⟩
end
noncomputable def trk (h : Heap) (H : Hp) : List Addr := (List.range h.objs.size).filter fun a => (H a).isSome
noncomputable def hidT (h : Heap) (H : Hp) : Heap := PySem.W.hideAll h (trk h H)
theorem hidT_size (h : Heap) (H : Hp) : (hidT h H).objs.size = h.objs.size := PySem.W.hideAll_size _ _
theorem hidT_get {h : Heap} {H : Hp} {b : Addr} {o : Obj} (e : h.get? b = some o) (n : H b = none) : (hidT h H).get? b = some o :=
  PySem.W.hideAll_get _ e fun hm => by
    have q : (H b).isSome = true := (List.mem_filter.mp hm).2
    rw [n] at q; simp at q
theorem of_hidT {h : Heap} {H : Hp} {b : Addr} {o : Obj} (e : (hidT h H).get? b = some o) : h.get? b = some o ∧ H b = none := by
  have e' : h.get? b = some o := PySem.W.of_hideAll (trk h H) e
  refine ⟨e', ?_⟩
  cases q : H b with
  | none => rfl
  | some x =>
    have hm : b ∈ trk h H := List.mem_filter.mpr ⟨List.mem_range.mpr (Heap.lt_size e'), by simp [q]⟩
    have z : (hidT h H).get? b = none := PySem.W.hideAll_none (trk h H) hm
    rw [z] at e; cases e
noncomputable def allNews (g h : Heap) (L : Addr) : List (Addr × Obj) := (List.range h.objs.size).filterMap fun a => if a = L ∨ (g.get? a).isSome = true then none else (h.get? a).map fun o => (a, o)
noncomputable def rest (g h : Heap) (L d : Addr) : List (Addr × Obj) := (allNews g h L).filter fun p => decide (p.1 ≠ d)
end L2
namespace L2
open PySem PySem.Spec PyProof.Rows
structure Mod (K : PySem.W.Frag) (mg : Str → Option Value) (base : Heap) : Prop where
  kin : K.In base
  glob : base.Ns mainGlobals mg
  blt : ∃ mb, base.Ns builtinsNs mb ∧ ∀ x : Str, x ≠ "__name__" → mb x = bootBuiltins x
  nolimit : base.NoLimit
structure Cx where
  prog : Program
  w : World
  K : PySem.W.Frag
  mg : Str → Option Value
  base : Heap
  A : Around
  N : List Str
  s₀ : Shared
  H₀ : Hp
  env : Env
  outer : List Env
  stack : List Env
  ex : List Addr
  fn : Str → Bool
  calm : Bool
  pn : List (Addr × Obj)
  xe : Value → Shared → Prop
noncomputable def frs (l : List Env) : List Addr := l.filterMap (·.frame)
noncomputable abbrev Cx.fs (X : Cx) : List Addr := frs X.outer
noncomputable def Vis (sc : Scope) (x : Str) : Prop := sc.names.lookup x = some .local ∨ sc.names.lookup x = some .cell ∨ sc.names.lookup x = some .free
noncomputable def Loc (sc : Scope) (x : Str) : Prop := sc.names.lookup x = some .local ∨ sc.names.lookup x = some .cell
noncomputable def Look (env : Env) (h : Heap) (m : Str → Option Value) (x : Str) (u : Value) : Prop :=
  (env.kindOf x = some .local ∧ m x = some u) ∨ ((env.kindOf x = some .cell ∨ env.kindOf x = some .free) ∧ ∃ c, env.cells.lookup x = some c ∧ h.IsCell c (some u))
structure Cx.Ok (X : Cx) : Prop where
  mod : Mod X.K X.mg X.base
  kind : X.env.scope.kind = .function
  glob : X.env.globals = mainGlobals
  blt : X.env.builtins = builtinsNs
  above : X.s₀.heap.objs.size ≤ X.env.locals
  inj : ∀ x y c, X.env.cells.lookup x = some c → X.env.cells.lookup y = some c → x = y
  has : ∀ x, (X.env.kindOf x = some .cell ∨ X.env.kindOf x = some .free) → ∃ c, X.env.cells.lookup x = some c
  cab : ∀ x c, X.fn x = true → X.env.cells.lookup x = some c → X.s₀.heap.objs.size ≤ c
  hd : X.calm = true → X.A.handled = none
  frames : X.A.frames = some X.stack
  stk : X.stack = X.outer ∨ (X.stack = X.env :: X.outer ∧ X.env.frame = some X.env.locals)
  exf : ∀ b ∈ X.ex, b ≠ X.env.locals ∧ ∀ x c, X.env.cells.lookup x = some c → c ≠ b
  bs : ∀ b o, X.base.get? b = some o → X.s₀.heap.get? b = some o ∧ X.H₀ b = none
  bsz : X.base.objs.size ≤ X.s₀.heap.objs.size
  noex : ∀ b o, X.base.get? b = some o → b ∉ X.ex
  exfs : ∀ b ∈ X.ex, b ∉ X.fs
  funs : X.s₀.heap.FunFrames X.base X.outer
  frf : ∀ b ∈ X.fs, X.H₀ b = none
structure Inv (X : Cx) (pins : List (Addr × Obj)) (σ : List (Option V)) (H : Hp) (s : Shared) : Prop where
  ok : X.Ok
  os : s.os = X.s₀.os
  bare : AllBare s.gens
  base : Un X.fs X.ex X.H₀ H X.s₀.heap s.heap
  loc : ∃ m, s.heap.Ns X.env.locals m ∧ ∀ (i : Nat) (x : Str) (v : V), X.N[i]? = some x → σ[i]? = some (some v) → Vis X.env.scope x → ∃ u, RelV v u ∧ Look X.env s.heap m x u
  cell : ∀ x c, X.env.cells.lookup x = some c → ∃ v, s.heap.IsCell c v
  free : H X.env.locals = none
  freeC : ∀ x c, X.env.cells.lookup x = some c → H c = none
  pin : ∀ p ∈ X.pn ++ pins, s.heap.get? p.1 = some p.2 ∧ H p.1 = none ∧ p.1 ≠ X.env.locals ∧ p.1 ∉ X.fs ∧ ∀ v, p.2.data ≠ .cell v
  hok : HOk X.prog X.w H s.heap
  len : σ.length = X.N.length
section
variable {X : Cx} {pins : List (Addr × Obj)} {σ : List (Option V)} {H H' : Hp} {s : Shared} {h' : Heap}
theorem Cx.Ok.nofr (ok : X.Ok) {b : Addr} {o : Obj} (e : X.base.get? b = some o) : b ∉ X.fs := fun hb => by
  have := (ok.funs.mem hb).1
  rw [e] at this; cases this
theorem Inv.bs (I : Inv X pins σ H s) : ∀ b o, X.base.get? b = some o → s.heap.get? b = some o ∧ H b = none := fun b o e =>
  ⟨I.base.keep b o (I.ok.bs b o e).1 (I.ok.bs b o e).2 (I.ok.nofr e) (I.ok.noex b o e), I.base.free b o (I.ok.bs b o e).1 (I.ok.bs b o e).2 (I.ok.noex b o e)⟩
theorem Inv.bk (I : Inv X pins σ H s) : ∀ b o, X.base.get? b = some o → s.heap.get? b = some o := fun b o e => (I.bs b o e).1
theorem Inv.mod (I : Inv X pins σ H s) : Mod X.K X.mg X.base := I.ok.mod
theorem Inv.kIn (I : Inv X pins σ H s) : X.K.In s.heap := I.ok.mod.kin.keeps I.bk
theorem Inv.nolimit (I : Inv X pins σ H s) : s.heap.NoLimit := I.ok.mod.nolimit.keeps I.bk
theorem Inv.fr (I : Inv X pins σ H s) : ∃ m, Fr X.base X.env.locals s.heap m :=
  let ⟨m, hn, _⟩ := I.loc
  ⟨m, hn, I.bk, Nat.le_trans I.ok.bsz I.ok.above⟩
theorem Inv.lt (I : Inv X pins σ H s) : X.env.locals < s.heap.objs.size := let ⟨_, hn, _⟩ := I.loc; hn.lt
theorem Inv.sz (I : Inv X pins σ H s) : X.s₀.heap.objs.size ≤ s.heap.objs.size := Nat.le_trans I.ok.above (Nat.le_of_lt I.lt)
theorem Inv.nofs (I : Inv X pins σ H s) {a : Addr} (h : s.heap.objs.size ≤ a) : a ∉ X.fs := fun hb => by
  obtain ⟨_, o, ho, _⟩ := I.ok.funs.mem hb
  exact absurd (Nat.lt_of_lt_of_le (Heap.lt_size ho) (Nat.le_trans I.sz h)) (Nat.lt_irrefl _)
theorem Inv.cne (I : Inv X pins σ H s) : ∀ x c, X.env.cells.lookup x = some c → c ≠ X.env.locals := fun x c e z => by
  obtain ⟨v, o, ho, hd⟩ := I.cell x c e
  obtain ⟨m, ⟨o', es, ep, ho', hd', _⟩, _⟩ := I.loc
  rw [z, ho'] at ho; cases ho; rw [hd'] at hd; cases hd
theorem Inv.funs (I : Inv X pins σ H s) : s.heap.FunFrames X.base X.outer := by
  have all : ∀ (l : List Env), (∀ b ∈ frs l, b ∈ X.fs) → X.s₀.heap.FunFrames X.base l → s.heap.FunFrames X.base l := by
    intro l
    induction l with
    | nil => intro _ _; trivial
    | cons env r ih =>
      intro hs hl
      obtain ⟨hk, ⟨L, o, hf, hn, ho, hd⟩, hr⟩ := hl
      have hL : L ∈ X.fs := hs L (by unfold frs; rw [List.filterMap_cons, hf]; exact List.mem_cons_self)
      obtain ⟨sl, e⟩ := I.base.slot L o ho (I.ok.frf L hL) hL fun z => I.ok.exfs L z hL
      exact ⟨hk, ⟨L, _, hf, hn, e, hd⟩, ih (fun b hb => hs b (by unfold frs; rw [List.filterMap_cons, hf]; exact List.mem_cons_of_mem _ hb)) hr⟩
  exact all X.outer (fun _ hb => hb) I.ok.funs
theorem Inv.stack (I : Inv X pins σ H s) : s.heap.FunFrames X.base X.stack := by
  rcases I.ok.stk with e | ⟨e, hf⟩
  · rw [e]; exact I.funs
  · rw [e]
    obtain ⟨m, hn, _⟩ := I.loc
    refine .cons (by rw [I.ok.kind]; decide) hf hn ?_ I.funs
    exact Heap.get?_none_of_le (Nat.le_trans I.ok.bsz I.ok.above)
theorem Inv.stkSub (I : Inv X pins σ H s) : ∀ b ∈ frs X.stack, b ∈ X.env.locals :: X.fs := fun b hb => by
  rcases I.ok.stk with e | ⟨e, hf⟩
  · rw [e] at hb; exact List.mem_cons_of_mem _ hb
  · rw [e] at hb
    unfold frs at hb
    rw [List.filterMap_cons, hf] at hb
    exact hb
theorem Inv.stkFree (I : Inv X pins σ H s) : ∀ b ∈ frs X.stack, H b = none := fun b hb => by
  rcases List.mem_cons.mp (I.stkSub b hb) with e | hb
  · rw [e]; exact I.free
  · obtain ⟨_, o, ho, _⟩ := I.ok.funs.mem hb
    exact I.base.free b o ho (I.ok.frf b hb) fun z => I.ok.exfs b z hb
theorem Inv.step {g' : Array GenState} {t' : Nat} {d' : Drawn} {ch : List Addr} (I : Inv X pins σ H s)
    (hch : ∀ b ∈ ch, (b ∈ X.ex ∨ X.s₀.heap.objs.size ≤ b) ∧ b ≠ X.env.locals ∧ (∀ x c, X.env.cells.lookup x = some c → c ≠ b) ∧ ∀ p ∈ X.pn ++ pins, p.1 ≠ b)
    (keep : ∀ b o, b ≠ X.env.locals → b ∉ X.fs → b ∉ ch → s.heap.get? b = some o → H b = none → h'.get? b = some o)
    (slot : ∀ b o, b ≠ X.env.locals → b ∈ X.fs → b ∉ ch → s.heap.get? b = some o → H b = none → ∃ sl, h'.get? b = some { o with slots := sl }) (free : ∀ b o, b ∉ ch → s.heap.get? b = some o → H b = none → H' b = none)
    (there : ∀ b o, b ∉ ch → s.heap.get? b = some o → ∃ o', h'.get? b = some o')
    (tups : ∀ b xs, H b = some (.tup xs) → H' b = some (.tup xs)) (frzs : ∀ b o u, H b = some (.frz o u) → H' b = some (.frz o u)) (tbls : ∀ b ps, H b = some (.tbl ps) → ∃ more, H' b = some (.tbl (ps ++ more)))
    (ns : ∀ m, s.heap.Ns X.env.locals m → h'.Ns X.env.locals m) (hok : HOk X.prog X.w H' h') (hg : AllBare g') :
    Inv X pins σ H' { s with heap := h', gens := g', drawn := d', toks := t' } := by
  have neL : ∀ b o, X.s₀.heap.get? b = some o → b ≠ X.env.locals := fun b o e => Nat.ne_of_lt (Nat.lt_of_lt_of_le (Heap.lt_size e) I.ok.above)
  have neC : ∀ b o, X.s₀.heap.get? b = some o → b ∉ X.ex → b ∉ ch := fun b o e hx hb => by
    rcases (hch b hb).1 with z | z
    · exact hx z
    · exact absurd (Nat.lt_of_lt_of_le (Heap.lt_size e) z) (Nat.lt_irrefl _)
  have cellK : ∀ x c, X.env.cells.lookup x = some c → ∀ v, s.heap.IsCell c v → h'.IsCell c v := fun x c e v ⟨o, ho, hd⟩ => by
    have nch : c ∉ ch := fun z => (hch c z).2.2.1 x c e rfl
    by_cases hc : c ∈ X.fs
    · obtain ⟨sl, q⟩ := slot c o (I.cne x c e) hc nch ho (I.freeC x c e)
      exact ⟨_, q, hd⟩
    · exact ⟨o, keep c o (I.cne x c e) hc nch ho (I.freeC x c e), hd⟩
  refine ⟨I.ok, I.os, hg, ⟨fun b o e n hb hx => ?_, fun b o e n hb hx => ?_, fun b o e n hx => ?_, fun b o e hx => ?_, fun b xs e => tups b xs (I.base.tups b xs e), fun b o xs e => frzs b o xs (I.base.frzs b o xs e), fun b ps e => ?_⟩, ?_, fun x c e => ?_, ?_, fun x c e => ?_, fun p hp => ?_, hok, I.len⟩
  · exact keep b o (neL b o e) hb (neC b o e hx) (I.base.keep b o e n hb hx) (I.base.free b o e n hx)
  · obtain ⟨sl, e1⟩ := I.base.slot b o e n hb hx
    obtain ⟨sl', e2⟩ := slot b _ (neL b o e) hb (neC b o e hx) e1 (I.base.free b o e n hx)
    exact ⟨sl', e2⟩
  · obtain ⟨o', e1⟩ := I.base.there b o e hx
    exact free b o' (neC b o e hx) e1 (I.base.free b o e n hx)
  · obtain ⟨o', e1⟩ := I.base.there b o e hx
    exact there b o' (neC b o e hx) e1
  · obtain ⟨m1, e1⟩ := I.base.tbls b ps e
    obtain ⟨m2, e2⟩ := tbls b _ e1
    exact ⟨m1 ++ m2, by rw [e2, Array.append_assoc]⟩
  · obtain ⟨m, hn, hl⟩ := I.loc
    refine ⟨m, ns m hn, fun i x v e1 e2 e3 => ?_⟩
    obtain ⟨u, r, l⟩ := hl i x v e1 e2 e3
    refine ⟨u, r, ?_⟩
    rcases l with l | ⟨k, c, e, z⟩
    · exact .inl l
    · exact .inr ⟨k, c, e, cellK x c e _ z⟩
  · obtain ⟨v, z⟩ := I.cell x c e
    exact ⟨v, cellK x c e v z⟩
  · obtain ⟨m, ⟨o, _, _, ho, _⟩, _⟩ := I.loc
    exact free _ o (fun z => (hch _ z).2.1 rfl) ho I.free
  · obtain ⟨v, o, ho, hd⟩ := I.cell x c e
    exact free c o (fun z => (hch c z).2.2.1 x c e rfl) ho (I.freeC x c e)
  · obtain ⟨e, n, ne, nf, d⟩ := I.pin p hp
    have nch : p.1 ∉ ch := fun z => (hch p.1 z).2.2.2 p hp rfl
    exact ⟨keep p.1 p.2 ne nf nch e n, free p.1 p.2 nch e n, ne, nf, d⟩
theorem Inv.un {t' : Nat} (I : Inv X pins σ H s) (u : Un X.fs [] H H' s.heap h') (hok : HOk X.prog X.w H' h') : Inv X pins σ H' { s with heap := h', toks := t' } := by
  obtain ⟨m, ⟨o, es, ep, ho, r⟩, _⟩ := id I.loc
  obtain ⟨sl, hL⟩ := u.any ho I.free (by simp)
  exact I.step (g' := s.gens) (d' := s.drawn) (ch := []) (fun _ z => nomatch z) (fun b o _ hb _ e n => u.keep b o e n hb (by simp)) (fun b o _ hb _ e n => u.slot b o e n hb (by simp)) (fun b o _ e n => u.free b o e n (by simp)) (fun b o _ e => u.there b o e (by simp)) u.tups u.frzs u.tbls (fun m' hm => by
    obtain ⟨o', es', ep', ho', r'⟩ := hm
    rw [ho] at ho'; cases ho'
    exact ⟨_, es', ep', hL, r'⟩) hok I.bare
theorem Inv.call {g' : Array GenState} {t' : Nat} {d' : Drawn} {ch : List Addr} (I : Inv X pins σ H s) (u : Un (frs X.stack) ch H H' s.heap h') (hok : HOk X.prog X.w H' h') (hg : AllBare g')
    (hch : ∀ b ∈ ch, (b ∈ X.ex ∨ X.s₀.heap.objs.size ≤ b) ∧ b ≠ X.env.locals ∧ (∀ x c, X.env.cells.lookup x = some c → c ≠ b) ∧ ∀ p ∈ X.pn ++ pins, p.1 ≠ b) :
    Inv X pins σ H' { s with heap := h', gens := g', drawn := d', toks := t' } := by
  obtain ⟨m, ⟨o, es, ep, ho, r⟩, _⟩ := id I.loc
  obtain ⟨sl, hL⟩ := u.any ho I.free fun z => (hch _ z).2.1 rfl
  exact I.step (ch := ch) hch (fun b o hL hb hc e n => u.keep b o e n (fun z => (List.mem_cons.mp (I.stkSub b z)).elim hL hb) hc) (fun b o _ _ hc e n => u.any e n hc) (fun b o hc e n => u.free b o e n hc) (fun b o hc e => u.there b o e hc) u.tups u.frzs u.tbls (fun m' hm => by
    obtain ⟨o', es', ep', ho', r'⟩ := hm
    rw [ho] at ho'; cases ho'
    exact ⟨_, es', ep', hL, r'⟩) hok hg
theorem Inv.turned {t' : Nat} {it : Addr} (I : Inv X pins σ H s) (k : ∀ b o, b ≠ it → s.heap.get? b = some o → h'.get? b = some o) (hn : H it = none) (hL : it ≠ X.env.locals)
    (h1 : it ∈ X.ex ∨ X.s₀.heap.objs.size ≤ it) (h2 : ∀ x c, X.env.cells.lookup x = some c → c ≠ it) (h3 : ∀ p ∈ X.pn ++ pins, p.1 ≠ it) : Inv X pins σ H { s with heap := h', toks := t' } := by
  have nit : ∀ b u, H b = some u → b ≠ it := fun b u e z => by rw [z, hn] at e; cases e
  refine I.step (g' := s.gens) (d' := s.drawn) (ch := [it]) (fun b hb => ?_) (fun b o _ _ hc e _ => k b o (fun z => hc (by simp [z])) e) (fun b o _ _ hc e _ => ⟨o.slots, k b o (fun z => hc (by simp [z])) e⟩) (fun _ _ _ _ n => n)
    (fun b o hc e => ⟨o, k b o (fun z => hc (by simp [z])) e⟩) (fun _ _ e => e) (fun _ _ _ e => e) (fun b ps e => ⟨#[], by rw [e]; simp⟩) (fun m hm => ?_) (fun b u e => ?_) I.bare
  · have e : b = it := by simpa using hb
    subst e
    exact ⟨h1, hL, h2, h3⟩
  · obtain ⟨o, es, ep, ho, r⟩ := hm
    exact ⟨o, es, ep, k _ o (Ne.symm hL) ho, r⟩
  · refine (I.hok b u e).stay (fun c v hc q => k c v ?_ q) (fun _ q => q) fun _ _ q => q
    rcases hc with z | z
    · rw [z]; exact nit b u e
    · exact nit c _ z
theorem Inv.tok (I : Inv X pins σ H s) (t : Nat) : Inv X pins σ H { s with toks := t } := I.un (h' := s.heap) (t' := t) Un.refl I.hok
theorem Inv.kept {t' : Nat} (I : Inv X pins σ H s) (k : ∀ b u, s.heap.get? b = some u → h'.get? b = some u) : Inv X pins σ H { s with heap := h', toks := t' } := I.un (Un.kept k) (I.hok.kept k)
theorem Inv.laid {a : Addr} {o : HO} {t' : Nat} (I : Inv X pins σ H s) (k : ∀ b u, s.heap.get? b = some u → h'.get? b = some u) (hp : s.heap.objs.size ≤ a) (new : ObjOk X.prog X.w (upd H a o) h' a o) :
    Inv X pins σ (upd H a o) { s with heap := h', toks := t' } := I.un (Un.laid k hp (I.hok.fresh hp)) (I.hok.laid k hp new)
theorem Inv.write {x e : Addr} {o : HO} {t' : Nat} (I : Inv X pins σ H s) (mu : Mut (H x)) (he : e = x ∨ H e = some (.own x)) (k : ∀ b u, b ≠ e → s.heap.get? b = some u → h'.get? b = some u) (heo : ∃ u, h'.get? e = some u)
    (new : ObjOk X.prog X.w (upd H x o) h' x o) : Inv X pins σ (upd H x o) { s with heap := h', toks := t' } := I.un (Un.write mu he k heo) (I.hok.write mu he k heo new)
theorem Inv.pins_of {pins' : List (Addr × Obj)} (I : Inv X pins σ H s) (h : ∀ p ∈ pins', s.heap.get? p.1 = some p.2 ∧ H p.1 = none ∧ p.1 ≠ X.env.locals ∧ p.1 ∉ X.fs ∧ ∀ v, p.2.data ≠ .cell v) : Inv X pins' σ H s :=
  ⟨I.ok, I.os, I.bare, I.base, I.loc, I.cell, I.free, I.freeC, fun p hp => (List.mem_append.mp hp).elim (fun z => I.pin p (List.mem_append_left _ z)) (h p), I.hok, I.len⟩
theorem nodup_ix {N : List Str} (hN : N.Nodup) {i j : Nat} {x : Str} (a : N[i]? = some x) (b : N[j]? = some x) : i = j := by
  obtain ⟨h1, e1⟩ := List.getElem?_eq_some_iff.mp a
  obtain ⟨h2, e2⟩ := List.getElem?_eq_some_iff.mp b
  exact (List.getElem_inj hN).mp (e1.trans e2.symm)
theorem store_ok2 {M : Model} {A : Around} {E : Value → Shared → Prop} {i : Nat} {x : Str} {v : V} {u : Value} {Q : Unit → Shared → Prop} (I : Inv X pins σ H s) (hN : X.N.Nodup) (hi : X.N[i]? = some x) (hx : Loc X.env.scope x) (r : RelV v u)
    (h : ∀ s', Inv X pins (σ.set i (some v)) H s' → (∃ a, Heap.SameBut a s.heap s'.heap ∧ (a = X.env.locals ∨ X.env.cells.lookup x = some a)) → Q () s') (hf : X.fn x = true ∨ X.env.scope.names.lookup x = some .local := by first | exact .inl rfl | exact .inr rfl | assumption) : wpAny M A (storeName X.env x u) Q E s := by
  obtain ⟨m, hn, hl⟩ := id I.loc
  have hcls : (X.env.scope.kind == .class || (X.env.scope.kind == .module && X.env.locals != X.env.globals)) = false := by rw [I.ok.kind]; rfl
  have hiσ : i < σ.length := by rw [I.len]; exact (List.getElem?_eq_some_iff.mp hi).1
  have cne := I.cne
  have tracked : ∀ {a : Addr} {h' : Heap}, (∃ o, s.heap.get? a = some o ∧ H a = none) → Heap.SameBut a s.heap h' → HOk X.prog X.w H h' := fun {a h'} ha hs b ob e => by
    obtain ⟨_, _, hfree⟩ := ha
    refine (I.hok b ob e).stay (fun c w' hc q => (hs.2 c ?_).trans q) (fun _ q => q) fun _ _ q => q
    rintro rfl
    rcases hc with rfl | hc
    · rw [hfree] at e; cases e
    · rw [hfree] at hc; cases hc
  rcases hx with hk | hk
  · refine wpAny_storeName_local hk hn (fun h' hn' hs => ?_) hcls
    obtain ⟨oL, _, _, hoL, _⟩ := id hn
    refine h _ ⟨I.ok, I.os, I.bare, ⟨fun b o e n hb hx => ?_, fun b o e n hb hx => ?_, I.base.free, fun b o e hx => ?_, I.base.tups, I.base.frzs, I.base.tbls⟩, ⟨_, hn', fun j y v' e1 e2 e3 => ?_⟩, fun y c e => ?_, I.free, I.freeC, fun p hp => ?_, tracked ⟨oL, hoL, I.free⟩ hs, by simpa using I.len⟩ ⟨_, hs, .inl rfl⟩
    · exact (hs.2 b (Nat.ne_of_lt (Nat.lt_of_lt_of_le (Heap.lt_size e) I.ok.above))).trans (I.base.keep b o e n hb hx)
    · obtain ⟨sl, e1⟩ := I.base.slot b o e n hb hx
      exact ⟨sl, (hs.2 b (Nat.ne_of_lt (Nat.lt_of_lt_of_le (Heap.lt_size e) I.ok.above))).trans e1⟩
    · obtain ⟨o', e1⟩ := I.base.there b o e hx
      exact ⟨o', (hs.2 b (Nat.ne_of_lt (Nat.lt_of_lt_of_le (Heap.lt_size e) I.ok.above))).trans e1⟩
    · by_cases hj : j = i
      · subst hj
        rw [hi] at e1; cases e1
        rw [List.getElem?_set_self hiσ] at e2
        cases e2
        exact ⟨u, r, .inl ⟨hk, by simp⟩⟩
      · rw [List.getElem?_set_ne (Ne.symm hj)] at e2
        obtain ⟨u', r', q⟩ := hl j y v' e1 e2 e3
        refine ⟨u', r', ?_⟩
        rcases q with ⟨k, e⟩ | ⟨k, c, e, z⟩
        · refine .inl ⟨k, ?_⟩
          have : y ≠ x := fun e => hj (nodup_ix hN e1 (e ▸ hi))
          simp [this, e]
        · exact .inr ⟨k, c, e, z.sameBut hs (cne y c e)⟩
    · obtain ⟨w', z⟩ := I.cell y c e
      exact ⟨w', z.sameBut hs (cne y c e)⟩
    · obtain ⟨e, n, ne, nf, d⟩ := I.pin p hp
      exact ⟨(hs.2 p.1 ne).trans e, n, ne, nf, d⟩
  · have hfn : X.fn x = true := by
      rcases hf with z | z
      · exact z
      · rw [z] at hk; cases hk
    obtain ⟨c, hc⟩ := I.ok.has x (.inl hk)
    obtain ⟨w', z⟩ := I.cell x c hc
    refine wpAny_storeName_cell I.ok.kind hk hc z (fun h' hc' hs => ?_)
    obtain ⟨oc, hoc, hocd⟩ := id z
    refine h { s with heap := h' } ⟨I.ok, I.os, I.bare, ⟨fun b o e n hb hx => ?_, fun b o e n hb hx => ?_, I.base.free, fun b o e hx => ?_, I.base.tups, I.base.frzs, I.base.tbls⟩, ⟨m, hn.sameBut hs (Ne.symm (cne x c hc)), fun j y v' e1 e2 e3 => ?_⟩, fun y c' e => ?_, I.free, I.freeC, fun p hp => ?_, tracked ⟨oc, hoc, I.freeC x c hc⟩ hs, by simpa using I.len⟩ ⟨c, hs, .inr hc⟩
    · exact (hs.2 b (Nat.ne_of_lt (Nat.lt_of_lt_of_le (Heap.lt_size e) (I.ok.cab x c hfn hc)))).trans (I.base.keep b o e n hb hx)
    · obtain ⟨sl, e1⟩ := I.base.slot b o e n hb hx
      exact ⟨sl, (hs.2 b (Nat.ne_of_lt (Nat.lt_of_lt_of_le (Heap.lt_size e) (I.ok.cab x c hfn hc)))).trans e1⟩
    · obtain ⟨o', e1⟩ := I.base.there b o e hx
      exact ⟨o', (hs.2 b (Nat.ne_of_lt (Nat.lt_of_lt_of_le (Heap.lt_size e) (I.ok.cab x c hfn hc)))).trans e1⟩
    · by_cases hj : j = i
      · subst hj
        rw [hi] at e1; cases e1
        rw [List.getElem?_set_self hiσ] at e2
        cases e2
        exact ⟨u, r, .inr ⟨.inl hk, c, hc, hc'⟩⟩
      · rw [List.getElem?_set_ne (Ne.symm hj)] at e2
        obtain ⟨u', r', q⟩ := hl j y v' e1 e2 e3
        refine ⟨u', r', ?_⟩
        rcases q with q | ⟨k, c', e, z'⟩
        · exact .inl q
        · refine .inr ⟨k, c', e, z'.sameBut hs ?_⟩
          rintro rfl
          exact hj (nodup_ix hN e1 (I.ok.inj _ _ _ e hc ▸ hi))
    · by_cases hcc : c' = c
      · subst hcc; exact ⟨_, hc'⟩
      · obtain ⟨w2, z2⟩ := I.cell y c' e
        exact ⟨w2, z2.sameBut hs hcc⟩
    · obtain ⟨e, n, ne, nf, d⟩ := I.pin p hp
      refine ⟨(hs.2 p.1 ?_).trans e, n, ne, nf, d⟩
      intro q
      rw [q, hoc] at e
      have q' : oc = p.2 := Option.some.inj e
      exact d w' (by rw [← q']; exact hocd)
theorem store_ok {M : Model} {A : Around} {E : Value → Shared → Prop} {i : Nat} {x : Str} {v : V} {u : Value} {Q : Unit → Shared → Prop} (I : Inv X pins σ H s) (hN : X.N.Nodup) (hi : X.N[i]? = some x) (hx : Loc X.env.scope x) (r : RelV v u)
    (h : ∀ s', Inv X pins (σ.set i (some v)) H s' → Q () s') (hf : X.fn x = true ∨ X.env.scope.names.lookup x = some .local := by first | exact .inl rfl | exact .inr rfl | assumption) : wpAny M A (storeName X.env x u) Q E s :=
  store_ok2 I hN hi hx r (fun s' I' _ => h s' I') hf
theorem Inv.call' {s' : Shared} {ch : List Addr} (I : Inv X pins σ H s) (ho : s'.os = s.os) (u : Un (frs X.stack) ch H H' s.heap s'.heap) (hok : HOk X.prog X.w H' s'.heap) (hg : AllBare s'.gens)
    (hch : ∀ b ∈ ch, (b ∈ X.ex ∨ X.s₀.heap.objs.size ≤ b) ∧ b ≠ X.env.locals ∧ (∀ x c, X.env.cells.lookup x = some c → c ≠ b) ∧ ∀ p ∈ X.pn ++ pins, p.1 ≠ b) : Inv X pins σ H' s' := by
  obtain ⟨h', g', d', t', o'⟩ := s'
  have e : o' = s.os := ho
  subst e
  exact I.call (g' := g') (t' := t') (d' := d') u hok hg hch
end
noncomputable abbrev XK := Value → Option Addr → Hp → Prop
noncomputable abbrev St := List (Option V)
noncomputable abbrev VK := V → Hp → Prop
noncomputable abbrev TE := St → Hp → VK → Prop
noncomputable abbrev TT := St → Hp → (Bool → Hp → Prop) → Prop
noncomputable abbrev TA := St → Hp → (List V → Hp → Prop) → Prop
structure Ends where
  nx : St → Hp → Prop
  rt : VK
  bk : St → Hp → Prop := fun _ _ => False
  ct : St → Hp → Prop := fun _ _ => False
noncomputable abbrev TS := Ends → St → Hp → Prop
noncomputable def EP (X : Cx) (pins : List (Addr × Obj)) (σ : St) (Q : VK) (u : Value) (s' : Shared) : Prop := ∃ v H', Inv X pins σ H' s' ∧ RelV v u ∧ Q v H'
noncomputable def TP (X : Cx) (pins : List (Addr × Obj)) (σ : St) (Q : Bool → Hp → Prop) (b : Bool) (s' : Shared) : Prop := ∃ H', Inv X pins σ H' s' ∧ Q b H'
noncomputable def AP (X : Cx) (pins : List (Addr × Obj)) (σ : St) (Q : List V → Hp → Prop) (us : List Value) (s' : Shared) : Prop := ∃ vs H', Inv X pins σ H' s' ∧ Vals vs us ∧ Q vs H'
noncomputable def SP (X : Cx) (pins : List (Addr × Obj)) (D : Ends) (f : Flow) (s' : Shared) : Prop :=
  match f with
  | .next => ∃ σ' H', Inv X pins σ' H' s' ∧ D.nx σ' H'
  | .brk => ∃ σ' H', Inv X pins σ' H' s' ∧ D.bk σ' H'
  | .cont => ∃ σ' H', Inv X pins σ' H' s' ∧ D.ct σ' H'
  | .ret u => ∃ v σ' H', Inv X pins σ' H' s' ∧ RelV v u ∧ D.rt v H'
noncomputable def PE (X : Cx) (e : Expr) (t : TE) : Prop :=
  ∀ (pins : List (Addr × Obj)) (s : Shared) (σ : St) (H : Hp) (Q : VK), Inv X pins σ H s → t σ H Q → wpAny (model X.prog X.w) X.A (eval e X.env) (EP X pins σ Q) X.xe s
noncomputable def PT (X : Cx) (e : Expr) (t : TT) : Prop :=
  ∀ (pins : List (Addr × Obj)) (s : Shared) (σ : St) (H : Hp) (Q : Bool → Hp → Prop), Inv X pins σ H s → t σ H Q → wpAny (model X.prog X.w) X.A (isTrue e X.env (eval e X.env)) (TP X pins σ Q) X.xe s
noncomputable def PW (X : Cx) (e : Expr) (t : TT) : Prop :=
  ∀ (whole : Sem Value) (pins : List (Addr × Obj)) (s : Shared) (σ : St) (H : Hp) (Q : Bool → Hp → Prop), Inv X pins σ H s → t σ H Q → wpAny (model X.prog X.w) X.A (isTrue e X.env whole) (TP X pins σ Q) X.xe s
theorem PW.pt {X : Cx} {e : Expr} {t : TT} (h : PW X e t) : PT X e t := h _
noncomputable def PA (X : Cx) (es : List Expr) (t : TA) : Prop :=
  ∀ (pos : Pos) (pins : List (Addr × Obj)) (s : Shared) (σ : St) (H : Hp) (Q : List V → Hp → Prop), Inv X pins σ H s → t σ H Q → wpAny (model X.prog X.w) X.A (spliced (backTo pos (starEach es X.env))) (AP X pins σ Q) X.xe s
noncomputable def PS (X : Cx) (st : Stmt) (t : TS) : Prop :=
  ∀ (pins : List (Addr × Obj)) (s : Shared) (σ : St) (H : Hp) (D : Ends), Inv X pins σ H s → t D σ H → wpAny (model X.prog X.w) X.A (exec st X.env) (SP X pins D) X.xe s
noncomputable def PSs (X : Cx) (st : List Stmt) (t : TS) : Prop :=
  ∀ (pins : List (Addr × Obj)) (s : Shared) (σ : St) (H : Hp) (D : Ends), Inv X pins σ H s → t D σ H → wpAny (model X.prog X.w) X.A (execs st X.env) (SP X pins D) X.xe s
theorem thn {α : Type} {t : Sem α} {Q Q' : α → Shared → Prop} {M : Model} {A : Around} {E : Value → Shared → Prop} {s : Shared} (h : wpAny M A t Q E s) (hQ : ∀ a s, Q a s → Q' a s) : wpAny M A t Q' E s := wpAny_mono h hQ fun _ _ x => x
end L2
namespace L2
open PySem PySem.Spec PyProof.Rows
section
variable {X : Cx}
noncomputable def tVar (i : Nat) : TE := fun σ H Q => ∃ v, σ[i]? = some (some v) ∧ Q v H
noncomputable def tC (v : V) : TE := fun _ H Q => Q v H
theorem pe_var {i : Nat} {x : Str} {pos : Pos} (hN : X.N[i]? = some x) (hv : Vis X.env.scope x) (hd : (x == ("__debug__" : Str)) = false := by decide) (hcd : (x == ("__classdict__" : Str)) = false := by decide) : PE X (.Name x pos) (tVar i) := by
  intro pins s σ H Q I h
  obtain ⟨v, e, h⟩ := h
  obtain ⟨m, hn, hl⟩ := I.loc
  obtain ⟨u, r, l⟩ := hl i x v hN e hv
  have fin : EP X pins σ Q u s := ⟨v, H, I, r, h⟩
  rcases l with ⟨hk, hm⟩ | ⟨hk, c, hc, hcell⟩
  · exact wpAny_Name (wpAny_loadName_local I.ok.kind hk hn hm fin) hd
  · rcases hk with hk | hk
    · exact wpAny_Name (wpAny_loadName_cell I.ok.kind hk hc hcell fin) hd
    · exact wpAny_Name (wpAny_loadName_free I.ok.kind hk hc hcell fin hcd) hd
theorem pe_int {i j pos} : PE X (.Constant (.int i) j pos) (tC (.int i)) := fun _ _ _ H _ I h => wpAny_Constant_int ⟨.int i, H, I.tok _, ⟨_, rfl⟩, h⟩
theorem pe_bl {b j pos} : PE X (.Constant (.bool b) j pos) (tC (.bl b)) := fun _ _ _ H _ I h => Constant_bool ⟨.bl b, H, I, rfl, h⟩
theorem pe_non {j pos} : PE X (.Constant .none j pos) (tC .non) := fun _ _ _ H _ I h => Constant_none ⟨.non, H, I, rfl, h⟩
theorem pe_str {x j pos} : PE X (.Constant (.str x) j pos) (tC (.str x)) := fun _ _ _ H _ I h => Calls.Constant_str ⟨.str x, H, I.tok _, ⟨_, rfl⟩, h⟩
noncomputable def Gl (X : Cx) (x : Str) : Prop := X.env.kindOf x = some .globalImplicit
theorem ld_glob {E : Value → Shared → Prop} {pins : List (Addr × Obj)} {s : Shared} {σ : St} {H : Hp} {x : Str} {u : Value} {pos : Pos} {Q : Value → Shared → Prop} (I : Inv X pins σ H s) (hg : Gl X x) (hm : X.mg x = some u) (h : Q u s)
    (hd : (x == ("__debug__" : Str)) = false := by decide) : wpAny (model X.prog X.w) X.A (eval (.Name x pos) X.env) Q E s :=
  Calls.Name_function_global I.ok.kind hg (Calls.loadGlobal_global (by rw [I.ok.glob]; exact I.mod.glob.keeps I.bk) hm h) hd
theorem ld_blt {E : Value → Shared → Prop} {pins : List (Addr × Obj)} {s : Shared} {σ : St} {H : Hp} {x : Str} {u : Value} {pos : Pos} {Q : Value → Shared → Prop} (I : Inv X pins σ H s) (hg : Gl X x) (hm : X.mg x = none) (hv : bootBuiltins x = some u) (h : Q u s)
    (hn : x ≠ "__name__" := by decide) (hd : (x == ("__debug__" : Str)) = false := by decide) : wpAny (model X.prog X.w) X.A (eval (.Name x pos) X.env) Q E s := by
  obtain ⟨mb, h1, h2⟩ := I.mod.blt
  exact Calls.Name_function_global I.ok.kind hg (Calls.loadGlobal_builtin (by rw [I.ok.glob]; exact I.mod.glob.keeps I.bk) hm (by rw [I.ok.blt]; exact h1.keeps I.bk) ((h2 x hn).trans hv) h) hd
theorem pe_bltn {x : Str} {v : V} {u : Value} {pos : Pos} (hg : Gl X x) (hm : X.mg x = none) (hv : bootBuiltins x = some u) (r : RelV v u) (hn : x ≠ "__name__" := by decide) (hd : (x == ("__debug__" : Str)) = false := by decide) : PE X (.Name x pos) (tC v) :=
  fun _ _ _ H _ I h => ld_blt I hg hm hv ⟨v, H, I, r, h⟩ hn hd
variable {a b : Expr} {ta tb : TE} {pos : Pos}
noncomputable def tB (t : TE) : TT := fun σ H Q => t σ H fun x H1 => ∃ c, x = .bl c ∧ Q c H1
theorem pt_val {e : Expr} {t : TE} (h : PE X e t) (he : ∀ whole, isTrue e X.env whole = (do let v ← whole; standAt e.pos; holding [v] (truthy v)) := by intro _; rfl) : PT X e (tB t) := by
  intro pins s σ H Q I hw
  refine isTrue_plain (thn (h pins s σ H _ I hw) fun v s1 ⟨x, H1, I1, r1, q1⟩ => ?_) (he _)
  obtain ⟨d, rfl, q⟩ := q1
  cases r1
  exact wpAny_truthy_bool ⟨H1, I1, q⟩
variable {tA tB' : TT} {rest : List Expr}
noncomputable def tAnd (t u : TT) : TT := fun σ H Q => t σ H fun c H1 => if c = true then u σ H1 Q else Q false H1
noncomputable def tOr (t u : TT) : TT := fun σ H Q => t σ H fun c H1 => if c = true then Q true H1 else u σ H1 Q
noncomputable def tNot (t : TT) : TT := fun σ H Q => t σ H fun c H1 => Q (!c) H1
theorem pw_and1 (ha : PT X a tA) : PW X (.BoolOp .And [a] pos) tA := by
  intro wh pins s σ H Q I h
  refine isTrue_and (thn (ha pins s σ H Q I h) fun c s1 e => ?_)
  cases c with
  | true => exact isTrue_and_nil e
  | false => exact e
theorem pw_or1 (ha : PT X a tA) : PW X (.BoolOp .Or [a] pos) tA := by
  intro wh pins s σ H Q I h
  refine isTrue_or (thn (ha pins s σ H Q I h) fun c s1 e => ?_)
  cases c with
  | false => exact isTrue_or_nil e
  | true => exact e
theorem pw_and (ha : PT X a tA) (hb : PW X (.BoolOp .And (b :: rest) pos) tB') : PW X (.BoolOp .And (a :: b :: rest) pos) (tAnd tA tB') := by
  intro wh pins s σ H Q I h
  refine isTrue_and (thn (ha pins s σ H _ I h) fun c s1 ⟨H1, I1, q1⟩ => ?_)
  cases c with
  | true => exact hb wh pins s1 σ H1 Q I1 q1
  | false => exact ⟨H1, I1, q1⟩
theorem pw_or (ha : PT X a tA) (hb : PW X (.BoolOp .Or (b :: rest) pos) tB') : PW X (.BoolOp .Or (a :: b :: rest) pos) (tOr tA tB') := by
  intro wh pins s σ H Q I h
  refine isTrue_or (thn (ha pins s σ H _ I h) fun c s1 ⟨H1, I1, q1⟩ => ?_)
  cases c with
  | true => exact ⟨H1, I1, q1⟩
  | false => exact hb wh pins s1 σ H1 Q I1 q1
theorem pt_not (ha : PT X a tA) : PT X (.UnaryOp .Not a pos) (tNot tA) := by
  intro pins s σ H Q I h
  exact isTrue_not (ha pins s σ H (fun c H1 => Q (!c) H1) I h)
noncomputable def tAndV (ta tb : TE) : TE := fun σ H Q => ta σ H fun x H1 => ∃ c, x = .bl c ∧ if c = true then tb σ H1 Q else Q (.bl false) H1
noncomputable def tNotV (ta : TE) : TE := fun σ H Q => ta σ H fun x H1 => ∃ c, x = .bl c ∧ Q (.bl (!c)) H1
theorem pe_one {op} {t : TE} (h : PE X a t) : PE X (.BoolOp op [a] pos) t := fun pins s σ H Q I hw => BoolOp_one (h pins s σ H Q I hw)
theorem pe_and (ha : PE X a ta) (hb : PE X (.BoolOp .And (b :: rest) pos) tb) : PE X (.BoolOp .And (a :: b :: rest) pos) (tAndV ta tb) := by
  intro pins s σ H Q I h
  refine BoolOp_and (thn (ha pins s σ H _ I h) fun v s1 ⟨x, H1, I1, r1, q1⟩ => ?_)
  obtain ⟨c, rfl, q1⟩ := q1
  cases r1
  refine wpAny_truthy_bool ?_
  cases c with
  | true => exact hb pins s1 σ H1 Q I1 q1
  | false => exact ⟨.bl false, H1, I1, rfl, q1⟩
theorem pe_not (ha : PE X a ta) : PE X (.UnaryOp .Not a pos) (tNotV ta) := by
  intro pins s σ H Q I h
  refine UnaryOp_ (thn (ha pins s σ H _ I h) fun v s1 ⟨x, H1, I1, r1, q1⟩ => ?_)
  obtain ⟨c, rfl, q1⟩ := q1
  cases r1
  exact not_of (wpAny_truthy_bool ⟨.bl (!c), H1, I1, rfl, q1⟩)
end
end L2
namespace L2
open PySem PySem.Spec PyProof.Rows
noncomputable def SqL (K : PySem.W.Frag) (H : Hp) (a : Addr) (xs : List V) : Prop :=
  Rd H a (.lst xs) ∨
    ∃ (o : Obj) (its : Array Value) (n : Nat), K.lookup a = some o ∧ o.cls = .type "list" ∧ o.dict = none ∧ o.data = .seq its n ∧ its.size ≤ sizeLine ∧ Vals xs its.toList
noncomputable def SqT (K : PySem.W.Frag) (H : Hp) (a : Addr) (xs : List V) : Prop :=
  Rd H a (.tup xs) ∨
    ∃ (o : Obj) (its : Array Value) (n : Nat), K.lookup a = some o ∧ o.cls = .type "tuple" ∧ o.data = .seq its n ∧ its.size ≤ sizeLine ∧ Vals xs its.toList
noncomputable def absV : Value → Option V
  | .none => some .non
  | .bool b => some (.bl b)
  | .int i _ => some (.int i)
  | .str x _ => some (.str x)
  | .bytes b _ => some (.byt b)
  | .float b _ => some (.flt b)
  | .ref a => some (.ref a)
  | .type n => some (.ty n)
  | _ => none
theorem RelV.abs {x : V} {u : Value} (r : RelV x u) : absV u = some x := by
  cases x with
  | non => cases r; rfl
  | bl _ => cases r; rfl
  | int _ => obtain ⟨t, rfl⟩ := r; rfl
  | str _ => obtain ⟨t, rfl⟩ := r; rfl
  | byt _ => obtain ⟨t, rfl⟩ := r; rfl
  | flt _ => obtain ⟨t, rfl⟩ := r; rfl
  | ref _ => cases r; rfl
  | ty _ => cases r; rfl
theorem RelV.inj {x y : V} {u : Value} (r : RelV x u) (q : RelV y u) : x = y := Option.some.inj (r.abs.symm.trans q.abs)
theorem Vals.inj : ∀ {xs ys : List V} {us : List Value}, Vals xs us → Vals ys us → xs = ys
  | _, _, _, .nil, .nil => rfl
  | _, _, _, .cons r t, .cons r' t' => by rw [r.inj r', Vals.inj t t']
section
variable {X : Cx} {pins : List (Addr × Obj)} {σ : St} {H : Hp} {s : Shared} {a : Addr} {xs ys : List V}
theorem SqL.of {K : PySem.W.Frag} (h : H a = some (.lst xs)) : SqL K H a xs := .inl (.inl h)
theorem SqT.of {K : PySem.W.Frag} (h : H a = some (.tup xs)) : SqT K H a xs := .inl (.inl h)
theorem Inv.list (I : Inv X pins σ H s) (h : SqL X.K H a xs) : ∃ its : List Value, Vals xs its ∧ PlainL s.heap a its.toArray ∧ xs.length ≤ sizeLine := by
  rcases h with h | ⟨o, its, n, hk, hc, hd, hs, hz, r⟩
  · obtain ⟨z, its, n, r, e⟩ := h.ok I.hok
    exact ⟨its, r, ⟨_, n, e, rfl, rfl, rfl⟩, z⟩
  · refine ⟨its.toList, r, ⟨o, n, I.kIn a o hk, hc, hd, by simpa using hs⟩, ?_⟩
    have e := r.length
    simp only [Array.length_toList] at e
    omega
theorem Inv.tuple (I : Inv X pins σ H s) (h : SqT X.K H a xs) : ∃ its : List Value, Vals xs its ∧ IsTup s.heap a its.toArray ∧ xs.length ≤ sizeLine := by
  rcases h with h | ⟨o, its, n, hk, hc, hs, hz, r⟩
  · obtain ⟨z, its, r, p⟩ := h.ok I.hok
    exact ⟨its, r, p, z⟩
  · refine ⟨its.toList, r, ⟨o, I.kIn a o hk, hc, n, by simpa using hs⟩, ?_⟩
    have e := r.length
    simp only [Array.length_toList] at e
    omega
theorem Inv.list_inj (I : Inv X pins σ H s) (h : SqL X.K H a xs) (h' : SqL X.K H a ys) : xs = ys := by
  obtain ⟨its, r, ⟨o, n, e, _, _, d⟩, _⟩ := I.list h
  obtain ⟨its', r', ⟨o', n', e', _, _, d'⟩, _⟩ := I.list h'
  rw [e] at e'; cases e'
  rw [d] at d'
  injection d' with d1 _
  have : its = its' := by simpa using congrArg Array.toList d1
  subst this
  exact r.inj r'
end
noncomputable abbrev Cx.wish (X : Cx) (E : Value → Shared → Prop) : Cx := { X with xe := E }
noncomputable abbrev Cx.nox (X : Cx) : Cx := X.wish fun _ _ => False
theorem Cx.Ok.wish {X : Cx} (ok : X.Ok) (E : Value → Shared → Prop) : (X.wish E).Ok :=
  ⟨ok.mod, ok.kind, ok.glob, ok.blt, ok.above, ok.inj, ok.has, ok.cab, ok.hd, ok.frames, ok.stk, ok.exf, ok.bs, ok.bsz, ok.noex, ok.exfs, ok.funs, ok.frf⟩
theorem Cx.Ok.unwish {X : Cx} {E : Value → Shared → Prop} (ok : (X.wish E).Ok) : X.Ok :=
  ⟨ok.mod, ok.kind, ok.glob, ok.blt, ok.above, ok.inj, ok.has, ok.cab, ok.hd, ok.frames, ok.stk, ok.exf, ok.bs, ok.bsz, ok.noex, ok.exfs, ok.funs, ok.frf⟩
section
variable {X : Cx} {pins : List (Addr × Obj)} {σ : St} {H : Hp} {s : Shared} {E : Value → Shared → Prop}
theorem Inv.wish (I : Inv X pins σ H s) (E : Value → Shared → Prop) : Inv (X.wish E) pins σ H s := ⟨I.ok.wish E, I.os, I.bare, I.base, I.loc, I.cell, I.free, I.freeC, I.pin, I.hok, I.len⟩
theorem Inv.unwish (I : Inv (X.wish E) pins σ H s) : Inv X pins σ H s := ⟨I.ok.unwish, I.os, I.bare, I.base, I.loc, I.cell, I.free, I.freeC, I.pin, I.hok, I.len⟩
theorem SP.unwish {D : Ends} {f : Flow} {s' : Shared} (h : SP (X.wish E) pins D f s') : SP X pins D f s' := by
  cases f with
  | next => obtain ⟨σ', H', I, q⟩ := h; exact ⟨σ', H', I.unwish, q⟩
  | brk => obtain ⟨σ', H', I, q⟩ := h; exact ⟨σ', H', I.unwish, q⟩
  | cont => obtain ⟨σ', H', I, q⟩ := h; exact ⟨σ', H', I.unwish, q⟩
  | ret u => obtain ⟨v, σ', H', I, r, q⟩ := h; exact ⟨v, σ', H', I.unwish, r, q⟩
theorem PE.nox {e : Expr} {t : TE} (h : PE X.nox e t) : PE X e t := fun pins s σ H Q I hw =>
  wpAny_mono (h pins s σ H Q (I.wish _) hw) (fun _ _ ⟨v, H', I', r, q⟩ => ⟨v, H', I'.unwish, r, q⟩) fun _ _ z => False.elim z
theorem PT.nox {e : Expr} {t : TT} (h : PT X.nox e t) : PT X e t := fun pins s σ H Q I hw =>
  wpAny_mono (h pins s σ H Q (I.wish _) hw) (fun _ _ ⟨H', I', q⟩ => ⟨H', I'.unwish, q⟩) fun _ _ z => False.elim z
theorem PSs.nox {st : List Stmt} {t : TS} (h : PSs X.nox st t) : PSs X st t := fun pins s σ H D I hw =>
  wpAny_mono (h pins s σ H D (I.wish _) hw) (fun _ _ q => q.unwish) fun _ _ z => False.elim z
end
section
variable {X : Cx} {st : Stmt} {rest : List Stmt} {t u : TS} {e : Expr} {te : TE} {pos : Pos}
noncomputable def tNext : TS := fun D σ H => D.nx σ H
noncomputable def tSeq (t u : TS) : TS := fun D σ H => t { D with nx := u D } σ H
theorem pss_nil : PSs X [] tNext := fun _ _ σ H _ I h => wpAny_execs_nil ⟨σ, H, I, h⟩
theorem pss_cons (h1 : PS X st t) (h2 : PSs X rest u) : PSs X (st :: rest) (tSeq t u) := by
  intro pins s σ H D I h
  refine wpAny_execs_cons (thn (h1 pins s σ H { D with nx := u D } I h) fun f s1 q => ?_)
  cases f with
  | next =>
    obtain ⟨σ', H', I', q⟩ := q
    exact h2 pins s1 σ' H' D I' q
  | ret v => exact q
  | brk => exact q
  | cont => exact q
theorem pss_one (h1 : PS X st t) : PSs X [st] t := by
  intro pins s σ H D I h
  refine wpAny_execs_cons (thn (h1 pins s σ H D I h) fun f s1 q => ?_)
  cases f with
  | next => exact wpAny_execs_nil q
  | ret v => exact q
  | brk => exact q
  | cont => exact q
theorem Inv.quiet {pins : List (Addr × Obj)} {σ : St} {H : Hp} {s : Shared} (I : Inv X pins σ H s) : interactive X.env = false := by simp [interactive, I.ok.kind]
noncomputable def tDrop (te : TE) : TS := fun D σ H => te σ H fun _ H1 => D.nx σ H1
theorem ps_expr (he : PE X e te) (hs : swapsWith e none pos.line X.env = pure false := by rfl) : PS X (.Expr e pos) (tDrop te) := by
  intro pins s σ H D I h
  exact wpAny_Expr_any (thn (he pins s σ H _ I h) fun v s1 ⟨x, H1, I1, r1, q1⟩ => ⟨σ, H1, I1, q1⟩) I.quiet hs
noncomputable def tRet (te : TE) : TS := fun D σ H => te σ H D.rt
theorem ps_ret (he : PE X e te) : PS X (.Return (some e) pos) (tRet te) := by
  intro pins s σ H D I h
  exact wpAny_Return_some (thn (he pins s σ H _ I h) fun v s1 ⟨x, H1, I1, r1, q1⟩ => ⟨x, σ, H1, I1, r1, q1⟩)
noncomputable def tIfS (c : TT) (t u : TS) : TS := fun D σ H => c σ H fun b H1 => if b = true then t D σ H1 else u D σ H1
theorem ps_if {c : Expr} {a b : List Stmt} {tc : TT} (hc : PT X c tc) (ha : PSs X a t) (hb : PSs X b u) : PS X (.If c a b pos) (tIfS tc t u) := by
  intro pins s σ H D I h
  refine wpAny_If (thn (hc pins s σ H _ I h) fun d s1 ⟨H1, I1, q1⟩ => ?_)
  cases d with
  | true => exact ha pins s1 σ H1 D I1 q1
  | false => exact hb pins s1 σ H1 D I1 q1
end
noncomputable abbrev TG := V → St → Hp → (St → Hp → Prop) → Prop
noncomputable abbrev TGs := List V → St → Hp → (St → Hp → Prop) → Prop
noncomputable def PG (X : Cx) (target : Expr) (t : TG) : Prop :=
  ∀ (pins : List (Addr × Obj)) (s : Shared) (σ : St) (H : Hp) (v : V) (u : Value) (Q : St → Hp → Prop), Inv X pins σ H s → RelV v u → t v σ H Q →
    wpAny (model X.prog X.w) X.A (assign target X.env u) (fun _ s' => ∃ σ' H', Inv X pins σ' H' s' ∧ Q σ' H') X.xe s
section
variable {X : Cx} {pos : Pos}
noncomputable def gName (i : Nat) : TG := fun v σ H Q => Q (σ.set i (some v)) H
theorem pg_name {i : Nat} {x : Str} (hN : X.N.Nodup) (hi : X.N[i]? = some x) (hx : Loc X.env.scope x) (hf : X.fn x = true ∨ X.env.scope.names.lookup x = some .local := by first | exact .inl rfl | exact .inr rfl | assumption) : PG X (.Name x pos) (gName i) := by
  intro pins s σ H v u Q I r h
  exact wpAny_assign_Name (store_ok I hN hi hx r (fun s' I' => ⟨_, H, I', h⟩) hf)
noncomputable def tAsg (te : TE) (g : TG) : TS := fun D σ H => te σ H fun x H1 => g x σ H1 D.nx
theorem ps_set {i : Nat} {x : Str} {e : Expr} {te : TE} {pos' : Pos} (hN : X.N.Nodup) (hi : X.N[i]? = some x) (hx : Loc X.env.scope x) (he : PE X e te) (hs : swapsWith e (some (.Name x pos')) pos.line X.env = pure false := by rfl) (hf : X.fn x = true ∨ X.env.scope.names.lookup x = some .local := by first | exact .inl rfl | exact .inr rfl | assumption) :
    PS X (.Assign [.Name x pos'] e pos) (tAsg te (gName i)) := by
  intro pins s σ H D I h
  refine wpAny_Assign_Name (thn (he pins s σ H _ I h) fun v s1 ⟨y, H1, I1, r1, q1⟩ => ?_) hs
  exact store_ok I1 hN hi hx r1 (fun s2 I2 => ⟨_, H1, I2, q1⟩) hf
noncomputable def tPar (i j : Nat) (ta : TA) : TS := fun D σ H => ta σ H fun vs H1 => ∃ v w, vs = [v, w] ∧ D.nx ((σ.set i (some v)).set j (some w)) H1
theorem ps_par {i j : Nat} {x y : Str} {a b : Expr} {ta : TA} {px py pt : Pos} {kt k2 pt2} (hc : X.calm = true) (hN : X.N.Nodup) (hi : X.N[i]? = some x) (hj : X.N[j]? = some y) (hij : i ≠ j)
    (hx : X.env.scope.names.lookup x = some .local) (hy : X.env.scope.names.lookup y = some .local) (ha : PA X [a, b] ta)
    (hw : swappedStores [.Tuple [.Name x px, .Name y py] kt pt] (.Tuple [a, b] k2 pt2) X.env = pure (some [x, y]))
    (hs : swapsWithSole [.Tuple [.Name x px, .Name y py] kt pt] (.Tuple [a, b] k2 pt2) pos.line X.env = pure false := by rfl) :
    PS X (.Assign [.Tuple [.Name x px, .Name y py] kt pt] (.Tuple [a, b] k2 pt2) pos) (tPar i j ta) := by
  intro pins s σ H D I h
  rw [exec_Assign_arm]
  refine wpAny_bind (wpAny_standAt ?_)
  rw [hs]
  refine wpAny_bind (wpAny_pure ?_)
  rw [if_neg (by decide)]
  refine wpAny_bind (Tuple_ (thn (ha _ pins s σ H _ I h) fun us s1 ⟨vs, H1, I1, r1, q1⟩ => ?_))
  obtain ⟨v, w, e1, q1⟩ := q1
  subst e1
  obtain ⟨u1, u2, rfl, rv, rw'⟩ : ∃ u1 u2, us = [u1, u2] ∧ RelV v u1 ∧ RelV w u2 := by
    cases r1 with
    | cons p q =>
      cases q with
      | cons p' q' =>
        cases q'
        exact ⟨_, _, rfl, p, p'⟩
  refine wpAny_newObj_type ?_ (by show 2 ≤ sizeLine; decide)
  have I2 : Inv X pins σ H1 { s1 with heap := s1.heap.push { cls := .type "tuple", data := .seq [u1, u2].toArray } } := I1.kept (t' := s1.toks) fun b o e => Heap.get?_push_of_some _ e
  rw [hw]
  refine wpAny_bind (wpAny_pure ?_)
  show wpAny (model X.prog X.w) X.A (do rule "assign.swapped-stores"; let items ← unpackItems (.ref s1.heap.objs.size) 2 none; assignInOrder [fun v => bindName X.env y v, fun v => bindName X.env x v] items.reverse; pure Flow.next) _ _ _
  refine wpAny_bind (wpAny_rule (wpAny_bind (unpackItems_tuple (items := #[u1, u2]) (I.ok.hd hc) (IsTup.new s1.heap _) fun h' hx' => ?_)))
  have I3 := I2.kept (h' := h') (t' := s1.toks) fun b o e => hx' b o (Nat.ne_of_lt (Heap.lt_size e)) e
  show wpAny _ _ (assignInOrder [fun v => bindName X.env y v, fun v => bindName X.env x v] [u2, u1] >>= fun _ => pure Flow.next) _ _ _
  refine wpAny_bind (assignInOrder_cons (wpAny_bindName (store_ok I3 hN hj (.inl hy) rw' (fun s2 I4 => ?_) (.inr hy))))
  refine assignInOrder_cons (wpAny_bindName (store_ok I4 hN hi (.inl hx) rv (fun s3 I5 => assignInOrder_nil (wpAny_pure ?_)) (.inr hx)))
  rw [List.set_comm _ _ (Ne.symm hij)] at I5
  exact ⟨_, H1, I5, q1⟩
end
section
variable {X : Cx} {pos : Pos}
noncomputable def tWhile (c : TT) (tb : TS) : TS := fun D σ H => ∃ W : Nat → St → Hp → Prop, (∃ m, W m σ H) ∧ ∀ m σ H, W m σ H →
  c σ H fun b H1 => if b = true then ∃ N : St → Hp → Prop, (∀ σ' H', N σ' H' → ∃ m', m' < m ∧ W m' σ' H') ∧ tb { D with nx := N, ct := N, bk := D.nx } σ H1 else D.nx σ H1
theorem ps_while {c : Expr} {body : List Stmt} {tc : TT} {tb : TS} (hp : PassesOwn (model X.prog X.w) X.A X.env X.xe) (hc : PT X c tc) (hb : PSs X body tb) : PS X (.While c body [] pos) (tWhile tc tb) := by
  intro pins s σ H D I h
  obtain ⟨W, ⟨m0, w0⟩, turn⟩ := h
  refine wpAny_While (codeAny_whileLoop (fun n s' => ∃ σ' H', Inv X pins σ' H' s' ∧ W n σ' H') ?_ m0 ⟨σ, H, I, w0⟩)
  rintro n s1 ⟨σ1, H1, I1, w1⟩
  refine wpAny_passesOwn hp (thn (hc pins s1 σ1 H1 _ I1 (turn n σ1 H1 w1)) fun b s2 ⟨H2, I2, q2⟩ => ?_)
  cases b with
  | true =>
    obtain ⟨N, hN, q2⟩ := q2
    rw [if_pos rfl]
    refine wpAny_passesOwn hp (thn (hb pins s2 σ1 H2 _ I2 q2) fun f s3 q3 => ?_)
    cases f with
    | next =>
      obtain ⟨σ3, H3, I3, n3⟩ := q3
      obtain ⟨m', hm, w3⟩ := hN σ3 H3 n3
      exact ⟨m', hm, σ3, H3, I3, w3⟩
    | cont =>
      obtain ⟨σ3, H3, I3, n3⟩ := q3
      obtain ⟨m', hm, w3⟩ := hN σ3 H3 n3
      exact ⟨m', hm, σ3, H3, I3, w3⟩
    | brk => exact q3
    | ret v => exact q3
  | false =>
    rw [if_neg Bool.false_ne_true]
    exact wpAny_execs_nil ⟨σ1, H2, I2, q2⟩
end
structure It where
  go : Nat → Hp → Prop
  yld : Nat → Hp → V → Hp → Prop
  stop : Nat → Hp → Prop
noncomputable def FpOk (X : Cx) (pins : List (Addr × Obj)) (H : Hp) (b : Addr) : Prop :=
  H b = none ∧ b ≠ X.env.locals ∧ b ∉ X.fs ∧ (b ∈ X.ex ∨ X.s₀.heap.objs.size ≤ b) ∧ (∀ x c, X.env.cells.lookup x = some c → c ≠ b) ∧ ∀ p ∈ X.pn ++ pins, p.1 ≠ b
theorem Inv.fpOk {X : Cx} {pins : List (Addr × Obj)} {σ : St} {H H' : Hp} {s : Shared} {b : Addr} (I : Inv X pins σ H s) (hb : s.heap.objs.size ≤ b) (hn : H' b = none) : FpOk X pins H' b := by
  refine ⟨hn, Nat.ne_of_gt (Nat.lt_of_lt_of_le I.lt hb), I.nofs hb, .inr (Nat.le_trans I.sz hb), fun x c e z => ?_, fun p hp z => ?_⟩
  · obtain ⟨v, q⟩ := I.cell x c e
    exact absurd (Nat.lt_of_lt_of_le q.lt (by rw [z]; exact hb)) (Nat.lt_irrefl _)
  · exact absurd (Nat.lt_of_lt_of_le (Heap.lt_size (I.pin p hp).1) (by rw [z]; exact hb)) (Nat.lt_irrefl _)
structure Turn (P : Program) (w : World) (K : PySem.W.Frag) (tg : Expr) (J : It) (fp : List Addr) (it : Addr) (tn : Nat → Heap → Prop) : Prop where
  mem : it ∈ fp
  obj : ∀ i h, tn i h → ∀ b ∈ fp, ∃ o, h.get? b = some o ∧ ∀ v, o.data ≠ .cell v
  keep : ∀ i h h', tn i h → (∀ b ∈ fp, ∀ o, h.get? b = some o → h'.get? b = some o) → tn i h'
  item : ∀ (X : Cx), X.prog = P → X.w = w → X.K = K → X.calm = true → ∀ (i : Nat) (pins : List (Addr × Obj)) (s : Shared) (σ : St) (H : Hp) (E : Value → Shared → Prop), Inv X pins σ H s → (∀ b ∈ fp, FpOk X pins H b) → tn i s.heap → J.go i H →
    wpAny (model P w) X.A (pyNext (.ref it)) (fun r s1 => ∃ u, r = some u ∧
      wpAny (model P w) X.A (letOwnedTupleGo tg (.ref it) u) (fun _ s2 => ∃ x H', Inv X pins σ H' s2 ∧ RelV x u ∧ J.yld i H x H' ∧ tn (i + 1) s2.heap ∧ ∀ b ∈ fp, H' b = none) E s1) E s
  done : ∀ (X : Cx), X.prog = P → X.w = w → X.K = K → X.calm = true → ∀ (i : Nat) (pins : List (Addr × Obj)) (s : Shared) (σ : St) (H : Hp) (E : Value → Shared → Prop), Inv X pins σ H s → (∀ b ∈ fp, FpOk X pins H b) → tn i s.heap → J.stop i H →
    wpAny (model P w) X.A (pyNext (.ref it)) (fun r s1 => r = none ∧ Inv X pins σ H s1) E s
  self : ∀ (A : Around) (i : Nat) (s : Shared) (Q : Value → Shared → Prop) (E : Value → Shared → Prop), tn i s.heap → Q (.ref it) s → wpAny (model P w) A (pyIter (.ref it)) Q E s
noncomputable abbrev TI := St → Hp → (It → Hp → Prop) → Prop
noncomputable def PIE (X : Cx) (pins : List (Addr × Obj)) (σ : St) (tg : Expr) (R : It → Hp → Prop) (itv : Value) (s2 : Shared) : Prop :=
  ∃ (it : Addr) (fp : List Addr) (tn : Nat → Heap → Prop) (J : It) (H' : Hp), itv = .ref it ∧ Inv X pins σ H' s2 ∧ Turn X.prog X.w X.K tg J fp it tn ∧ tn 0 s2.heap ∧ (∀ b ∈ fp, FpOk X pins H' b) ∧ R J H'
noncomputable def PI (X : Cx) (tg iter : Expr) (wi : TI) : Prop :=
  ∀ (pins : List (Addr × Obj)) (s : Shared) (σ : St) (H : Hp) (R : It → Hp → Prop), Inv X pins σ H s → wi σ H R →
    wpAny (model X.prog X.w) X.A (eval iter X.env) (fun v s1 => wpAny (model X.prog X.w) X.A (pyIter v) (PIE X pins σ tg R) X.xe s1) X.xe s
theorem go_of {M : Model} {A : Around} {E : Value → Shared → Prop} {s : Shared} {tg : Expr} {it : Addr} {u : Value} {o : Obj} {n : String} {vs : Array Value} {Q : Unit → Shared → Prop} (ho : s.heap.get? it = some o) (hc : o.cls = .type n) (hd : o.data = .fields vs)
    (hn : ["enumerate", "zip", "dict_itemiterator", "dict_reverseitemiterator", "odict_iterator", "itertools.zip_longest", "itertools.pairwise"].contains n = false) (hQ : Q () s) : wpAny M A (letOwnedTupleGo tg (.ref it) u) Q E s := by
  unfold letOwnedTupleGo
  cases tg <;> first
    | exact wpAny_pure hQ
    | (cases u <;> first
        | exact wpAny_pure hQ
        | (refine wpAny_bind (wpAny_load ho ?_)
           rw [hc, hd]
           show wpAny M A (if (["enumerate", "zip", "dict_itemiterator", "dict_reverseitemiterator", "odict_iterator", "itertools.zip_longest", "itertools.pairwise"].contains n && vs[0]? == some (rawInt _)) = true then _ else _) Q E s
           rw [if_neg (by intro h; rw [hn, Bool.false_and] at h; cases h)]
           exact wpAny_pure hQ))
noncomputable def Itl (K : PySem.W.Frag) (a : Addr) : It :=
  ⟨fun i H => ∃ xs x, SqL K H a xs ∧ xs[i]? = some x, fun i H x H' => H' = H ∧ ∀ xs, SqL K H a xs → xs[i]? = some x, fun i H => ∃ xs, SqL K H a xs ∧ xs.length ≤ i⟩
noncomputable def Itr (lo : Int) (n : Nat) : It := ⟨fun i _ => i < n, fun i H x H' => H' = H ∧ x = .int (lo + i), fun i _ => n ≤ i⟩
theorem turn_list {P : Program} {w : World} {K : PySem.W.Frag} {tg : Expr} (a it : Addr) : Turn P w K tg (Itl K a) [it] it (fun i h => h.IsListIter it a i) where
  mem := by simp
  obj := fun i h st b hb => by
    have e : b = it := by simpa using hb
    subst e
    obtain ⟨o, e, c, d⟩ := st
    exact ⟨o, e, fun v z => by rw [d] at z; cases z⟩
  keep := fun i h h' st k => st.at fun o e => k it (by simp) o e
  item := by
    intro X hP hw hK hc i pins s σ H E I hf st hg
    subst hP hw hK
    obtain ⟨xs, x, hq, hx⟩ := hg
    obtain ⟨its, rv, p, hz⟩ := I.list hq
    obtain ⟨u, hu, ru⟩ := rv.get hx
    obtain ⟨f0, f1, f2, f3, f4, f5⟩ := hf it (by simp)
    refine wpAny_pyNext_list_item st p.isList (x := u) (by simpa using hu) fun h' st' sb => ?_
    have I1 : Inv X pins σ H { s with heap := h' } := I.turned (t' := s.toks) (fun b o hb e => (sb.2 b hb).trans e) f0 f1 f3 f4 f5
    obtain ⟨o, e, c, d⟩ := id st'
    exact ⟨u, rfl, go_of (s := { s with heap := h' }) e c d (by decide) ⟨x, H, I1, ru, ⟨rfl, fun ys hy => by rw [I.list_inj hy hq]; exact hx⟩, st', fun b hb => (hf b hb).1⟩⟩
  done := by
    intro X hP hw hK hc i pins s σ H E I hf st hg
    subst hP hw hK
    obtain ⟨xs, hq, hx⟩ := hg
    obtain ⟨its, rv, p, hz⟩ := I.list hq
    obtain ⟨f0, f1, f2, f3, f4, f5⟩ := hf it (by simp)
    have hl := rv.length
    exact wpAny_pyNext_list_end (I.ok.hd hc) st p.isList (by simp; omega) fun h' eb => ⟨rfl, I.turned (t' := s.toks) (fun b o hb e => eb b o hb e) f0 f1 f3 f4 f5⟩
  self := fun _ _ _ _ _ st h => wpAny_pyIter_listiter st h
theorem turn_range {P : Program} {w : World} {K : PySem.W.Frag} {tg : Expr} (it : Addr) (lo : Int) (n : Nat) : Turn P w K tg (Itr lo n) [it] it (fun i h => IsRangeIter h it (lo + (i : Nat) * 1) ((n : Int) - (i : Nat)) 1) where
  mem := by simp
  obj := fun i h st b hb => by
    have e : b = it := by simpa using hb
    subst e
    exact ⟨_, st, fun v z => by
      have z' : Data.fields _ = Data.cell v := z
      cases z'⟩
  keep := fun i h h' st k => k it (by simp) _ st
  item := by
    intro X hP hw hK hc i pins s σ H E I hf st hg
    subst hP hw hK
    obtain ⟨f0, f1, f2, f3, f4, f5⟩ := hf it (by simp)
    have W := Walks.range (prog := X.prog) (w := X.w) (I.ok.hd hc) it lo 1 n
    refine W.item i s _ _ hg st fun v h' tk hv st' kk => ?_
    obtain ⟨t, rfl⟩ := hv
    have I1 : Inv X pins σ H { s with heap := h', toks := tk } := I.turned (fun b o hb e => kk b o (by simpa using hb) e) f0 f1 f3 f4 f5
    refine ⟨_, rfl, go_of (s := { s with heap := h', toks := tk }) (n := "range_iterator") st' rfl rfl (by decide) ⟨.int (lo + i), H, I1, ⟨t, ?_⟩, ⟨rfl, rfl⟩, st', fun b hb => (hf b hb).1⟩⟩
    rw [Int.mul_one]
  done := by
    intro X hP hw hK hc i pins s σ H E I hf st hg
    subst hP hw hK
    obtain ⟨f0, f1, f2, f3, f4, f5⟩ := hf it (by simp)
    exact wpAny_pyNext_range_end (I.ok.hd hc) st (by have : n ≤ i := hg; omega) fun h' eb => ⟨rfl, I.turned (t' := s.toks) (fun b o hb e => eb b o hb e) f0 f1 f3 f4 f5⟩
  self := fun _ _ _ _ _ st h => wpAny_pyIter_rangeiter st h
end L2
namespace L2
open PySem PySem.Spec PyProof.Rows
section
variable {X : Cx} {tg : Expr}
noncomputable def iList (K : PySem.W.Frag) (tl : TE) : TI := fun σ H R => tl σ H fun x H1 => ∃ a, x = .ref a ∧ (∃ xs, SqL K H1 a xs) ∧ R (Itl K a) H1
theorem pi_list {l : Expr} {tl : TE} (hl : PE X l tl) : PI X tg l (iList X.K tl) := by
  intro pins s σ H R I h
  refine thn (hl pins s σ H _ I h) fun v s1 ⟨x, H1, I1, r1, q1⟩ => ?_
  obtain ⟨a, e, ⟨xs, hq⟩, q⟩ := q1
  subst e
  cases r1
  obtain ⟨its, rv, p, hz⟩ := I1.list hq
  refine wpAny_pyIter_list p.isList ?_
  refine ⟨s1.heap.objs.size, [s1.heap.objs.size], _, _, H1, rfl, I1.kept (t' := s1.toks) fun b o e => Heap.get?_push_of_some _ e, turn_list a _, ⟨_, Heap.get?_push_size _ rfl, rfl, rfl⟩, fun b hb => ?_, q⟩
  have e : b = s1.heap.objs.size := by simpa using hb
  subst e
  exact I1.fpOk (Nat.le_refl _) (I1.hok.fresh (Nat.le_refl _))
theorem range_it {pins : List (Addr × Obj)} {σ : St} {H : Hp} {s : Shared} {R : It → Hp → Prop} {E : Value → Shared → Prop} {lo hi : Int} {t u v : Tok} {tk : Nat} (I : Inv X pins σ H s) (h1 : -(2 ^ 62) ≤ lo) (h2 : lo < 2 ^ 62) (h3 : -(2 ^ 62) ≤ hi) (h4 : hi < 2 ^ 62)
    (q : R (Itr lo (hi - lo).toNat) H) : wpAny (model X.prog X.w) X.A (pyIter (.ref s.heap.objs.size)) (PIE X pins σ tg R) E { s with heap := s.heap.push { cls := .type "range", data := .fields #[.int lo t, .int hi u, .int 1 v] }, toks := tk } := by
  refine wpAny_pyIter_range (IsRange.new ..) (small_one h1 h2 h3 h4) ?_
  have I1 : Inv X pins σ H { s with heap := s.heap.push { cls := .type "range", data := .fields #[.int lo t, .int hi u, .int 1 v] }, toks := tk } := I.kept fun b o e => Heap.get?_push_of_some _ e
  refine ⟨(s.heap.push { cls := .type "range", data := .fields #[.int lo t, .int hi u, .int 1 v] }).objs.size, [(s.heap.push { cls := .type "range", data := .fields #[.int lo t, .int hi u, .int 1 v] }).objs.size], _, _, H, rfl,
    I1.kept (t' := tk) fun b o e => Heap.get?_push_of_some _ e, turn_range _ lo (hi - lo).toNat, ?_, fun b hb => ?_, q⟩
  · have e1 : lo + ((0 : Nat) : Int) * 1 = lo := by simp
    have e2 : (((hi - lo).toNat : Nat) : Int) - ((0 : Nat) : Int) = Builtin.Range.rangeSize lo hi 1 := by rw [rangeSize_one]; split <;> omega
    show IsRangeIter _ _ (lo + ((0 : Nat) : Int) * 1) ((((hi - lo).toNat : Nat) : Int) - ((0 : Nat) : Int)) 1
    rw [e1, e2]
    exact Heap.get?_push_size _ rfl
  · have e : b = (s.heap.push { cls := .type "range", data := .fields #[.int lo t, .int hi u, .int 1 v] }).objs.size := by simpa using hb
    subst e
    exact I1.fpOk (Nat.le_refl _) (I1.hok.fresh (Nat.le_refl _))
noncomputable def iRng1 (ta : TA) : TI := fun σ H R => ta σ H fun vs H1 => ∃ j : Int, vs = [.int j] ∧ -(2 ^ 62) ≤ j ∧ j < 2 ^ 62 ∧ R (Itr 0 j.toNat) H1
noncomputable def iRng2 (ta : TA) : TI := fun σ H R => ta σ H fun vs H1 => ∃ i j : Int, vs = [.int i, .int j] ∧ (-(2 ^ 62) ≤ i ∧ i < 2 ^ 62 ∧ -(2 ^ 62) ≤ j ∧ j < 2 ^ 62) ∧ R (Itr i (j - i).toNat) H1
theorem pi_range1 {a : Expr} {ta : TA} {p pos : Pos} (hg : Gl X "range") (hm : X.mg "range" = none) (ha : PA X [a] ta) (hs : starEach [a] X.env = [(false, eval a X.env)] := by rfl) : PI X tg (.Call (.Name "range" p) [a] [] pos) (iRng1 ta) := by
  intro pins s σ H R I h
  refine Call_ (ld_blt I hg hm boot_range (PyProof.Rows.callWith_type1 (thn (ha pos pins s σ H _ I h) fun us s1 ⟨vs, H1, I1, r1, q1⟩ => ?_) hs rfl))
  obtain ⟨j, e, q1, q2, q⟩ := q1
  subst e
  cases r1 with
  | cons r rr =>
    cases rr
    obtain ⟨t, rfl⟩ := r
    exact call_range_1 (range_it I1 (by omega) (by omega) q1 q2 (by simpa using q))
theorem pi_range2 {a b : Expr} {ta : TA} {p pos : Pos} (hg : Gl X "range") (hm : X.mg "range" = none) (ha : PA X [a, b] ta) (hs : starEach [a, b] X.env = [(false, eval a X.env), (false, eval b X.env)] := by rfl) (hs2 : starEach [b] X.env = [(false, eval b X.env)] := by rfl) :
    PI X tg (.Call (.Name "range" p) [a, b] [] pos) (iRng2 ta) := by
  intro pins s σ H R I h
  refine Call_ (ld_blt I hg hm boot_range (PyProof.Rows.callWith_type1 (thn (ha pos pins s σ H _ I h) fun us s1 ⟨vs, H1, I1, r1, q1⟩ => ?_) (by rw [hs, hs2]) (by rw [hs2]; rfl)))
  obtain ⟨i, j, e, ⟨q1, q2, q3, q4⟩, q⟩ := q1
  subst e
  cases r1 with
  | cons r rr =>
    cases rr with
    | cons r' rr =>
      cases rr
      obtain ⟨t, rfl⟩ := r
      obtain ⟨t', rfl⟩ := r'
      exact call_range_2 (range_it I1 q1 q2 q3 q4 q)
noncomputable def tFor (wi : TI) (g : TG) (tb : TS) : TS := fun D σ H => wi σ H fun J H1 => ∃ W : Nat → Nat → St → Hp → Prop, (∃ m, W 0 m σ H1) ∧ ∀ i m σ H, W i m σ H →
  (J.stop i H ∧ D.nx σ H) ∨ (J.go i H ∧ ∃ N : St → Hp → Prop, (∀ σ' H', N σ' H' → ∃ m', m' < m ∧ W (i + 1) m' σ' H') ∧ ∀ x H', J.yld i H x H' → g x σ H' fun σ2 H2 => tb { D with nx := N, ct := N, bk := D.nx } σ2 H2)
noncomputable def pinsAt (fp : List Addr) (h : Heap) : List (Addr × Obj) := fp.filterMap fun b => (h.get? b).map fun o => (b, o)
theorem mem_pinsAt {fp : List Addr} {h : Heap} {b : Addr} {o : Obj} (hb : b ∈ fp) (e : h.get? b = some o) : (b, o) ∈ pinsAt fp h := List.mem_filterMap.mpr ⟨b, hb, by rw [e]; rfl⟩
theorem of_pinsAt {fp : List Addr} {h : Heap} {p : Addr × Obj} (hp : p ∈ pinsAt fp h) : p.1 ∈ fp ∧ h.get? p.1 = some p.2 := by
  obtain ⟨b, hb, e⟩ := List.mem_filterMap.mp hp
  cases q : h.get? b with
  | none => rw [q] at e; cases e
  | some o =>
    rw [q] at e
    have e' : (b, o) = p := Option.some.inj e
    subst e'
    exact ⟨hb, q⟩
theorem Inv.pinned {pins : List (Addr × Obj)} {σ : St} {H : Hp} {s : Shared} {fp : List Addr} (I : Inv X pins σ H s) (hf : ∀ b ∈ fp, FpOk X pins H b) (ho : ∀ b ∈ fp, ∃ o, s.heap.get? b = some o ∧ ∀ v, o.data ≠ .cell v) : Inv X (pins ++ pinsAt fp s.heap) σ H s :=
  I.pins_of fun p hp => (List.mem_append.mp hp).elim (fun z => I.pin p (List.mem_append_right _ z)) fun z => by
    obtain ⟨hb, e⟩ := of_pinsAt z
    obtain ⟨f0, f1, f2, _⟩ := hf p.1 hb
    obtain ⟨o, e', d⟩ := ho p.1 hb
    rw [e] at e'; cases e'
    exact ⟨e, f0, f1, f2, d⟩
theorem Inv.unpinned {pins pl : List (Addr × Obj)} {σ : St} {H : Hp} {s : Shared} (I : Inv X (pins ++ pl) σ H s) : Inv X pins σ H s := I.pins_of fun p hp => I.pin p (List.mem_append_right _ (List.mem_append_left _ hp))
theorem ps_for {iter : Expr} {body : List Stmt} {wi : TI} {g : TG} {tb : TS} {pos : Pos} (hp : PassesOwn (model X.prog X.w) X.A X.env X.xe) (hc : X.calm = true) (hi : PI X tg iter wi) (hg : PG X tg g) (hb : PSs X body tb)
    (hs : ∀ x, foldedSetIterable iter X.env x = pure x := by intro _; rfl) : PS X (.For tg iter body [] pos) (tFor wi g tb) := by
  intro pins s σ H D I h
  refine wpAny_For (thn (hi pins s σ H _ I h) fun v s1 h1 => thn h1 fun itv s2 h2 => ?_) hs
  obtain ⟨it, fp, tn, J, H2, e, I2, T, st2, f2, W, ⟨m0, w0⟩, turn⟩ := h2
  subst e
  have stat : ∀ {H' : Hp}, (∀ b ∈ fp, H' b = none) → ∀ b ∈ fp, FpOk X pins H' b := fun hn b hb => ⟨hn b hb, (f2 b hb).2⟩
  refine codeAny_forLoop_any (fun n s' => ∃ i σ' H', Inv X pins σ' H' s' ∧ tn i s'.heap ∧ (∀ b ∈ fp, H' b = none) ∧ W i n σ' H') ?_ m0 ⟨0, σ, H2, I2, st2, fun b hb => (f2 b hb).1, w0⟩
  rintro n s3 ⟨i, σ3, H3, I3, st3, fr3, w3⟩
  rcases turn i n σ3 H3 w3 with ⟨stop, qn⟩ | ⟨go, N, hN, step⟩
  · refine wpAny_passesOwn hp (thn (T.done X rfl rfl rfl hc i pins s3 σ3 H3 X.xe I3 (stat fr3) st3 stop) fun r s4 ⟨hr, I4⟩ => ?_)
    subst hr
    exact wpAny_execs_nil ⟨σ3, H3, I4, qn⟩
  · refine wpAny_passesOwn hp (thn (T.item X rfl rfl rfl hc i pins s3 σ3 H3 X.xe I3 (stat fr3) st3 go) fun r s4 ⟨u, hr, h4⟩ => ?_)
    subst hr
    refine wpAny_passesOwn hp (thn h4 fun _ s5 ⟨x, H5, I5, r5, y5, st5, fr5⟩ => ?_)
    have I5' := I5.pinned (stat fr5) (T.obj _ _ st5)
    refine wpAny_passesOwn hp (thn (hg _ s5 σ3 H5 x u _ I5' r5 (step x H5 y5)) fun _ s6 ⟨σ6, H6, I6, q6⟩ => ?_)
    refine wpAny_passesOwn hp (thn (hb _ s6 σ6 H6 _ I6 q6) fun f s7 q7 => ?_)
    have again : ∀ {σ7 : St} {H7 : Hp}, Inv X (pins ++ pinsAt fp s5.heap) σ7 H7 s7 → N σ7 H7 → ∃ m, m < n ∧ ∃ i σ' H', Inv X pins σ' H' s7 ∧ tn i s7.heap ∧ (∀ b ∈ fp, H' b = none) ∧ W i m σ' H' := fun {σ7 H7} I7 n7 => by
      obtain ⟨m', hm, w7⟩ := hN σ7 H7 n7
      refine ⟨m', hm, i + 1, σ7, H7, I7.unpinned, T.keep _ _ _ st5 fun b hb o e => (I7.pin (b, o) (List.mem_append_right _ (List.mem_append_right _ (mem_pinsAt hb e)))).1, fun b hb => ?_, w7⟩
      obtain ⟨o, e, d⟩ := T.obj _ _ st5 b hb
      exact (I7.pin (b, o) (List.mem_append_right _ (List.mem_append_right _ (mem_pinsAt hb e)))).2.1
    cases f with
    | next => obtain ⟨σ7, H7, I7, n7⟩ := q7; exact again I7 n7
    | cont => obtain ⟨σ7, H7, I7, n7⟩ := q7; exact again I7 n7
    | brk => obtain ⟨σ7, H7, I7, q7⟩ := q7; exact ⟨σ7, H7, I7.unpinned, q7⟩
    | ret v => obtain ⟨x7, σ7, H7, I7, r7, q7⟩ := q7; exact ⟨x7, σ7, H7, I7.unpinned, r7, q7⟩
end
theorem for_list {K : PySem.W.Frag} {a : Addr} {xs : List V} {g : TG} {tb : TS} {D : Ends} {σ : St} {H : Hp} (Pv : Nat → St → Hp → Prop) (h0 : Pv 0 σ H) (hl : ∀ i σ H, i ≤ xs.length → Pv i σ H → SqL K H a xs)
    (hs : ∀ i x σ H, xs[i]? = some x → Pv i σ H → g x σ H fun σ2 H2 => tb { D with nx := Pv (i + 1), ct := Pv (i + 1), bk := D.nx } σ2 H2) (hd : ∀ σ H, Pv xs.length σ H → D.nx σ H) :
    ∃ W : Nat → Nat → St → Hp → Prop, (∃ m, W 0 m σ H) ∧ ∀ i m σ H, W i m σ H →
      ((Itl K a).stop i H ∧ D.nx σ H) ∨ ((Itl K a).go i H ∧ ∃ N : St → Hp → Prop, (∀ σ' H', N σ' H' → ∃ m', m' < m ∧ W (i + 1) m' σ' H') ∧ ∀ x H', (Itl K a).yld i H x H' → g x σ H' fun σ2 H2 => tb { D with nx := N, ct := N, bk := D.nx } σ2 H2) := by
  refine ⟨fun i m σ H => m = xs.length - i ∧ i ≤ xs.length ∧ Pv i σ H, ⟨xs.length, by simp, Nat.zero_le _, h0⟩, ?_⟩
  rintro i m σ H ⟨rfl, hi, p⟩
  have q := hl i σ H hi p
  by_cases hlt : i < xs.length
  · refine .inr ⟨⟨xs, xs[i], q, by simp [hlt]⟩, Pv (i + 1), fun σ' H' p' => ⟨xs.length - (i + 1), by omega, rfl, hlt, p'⟩, fun x H' y => ?_⟩
    obtain ⟨e, y⟩ := y
    subst e
    exact hs i x σ _ (y xs q) p
  · have e : i = xs.length := by omega
    subst e
    exact .inl ⟨⟨xs, q, Nat.le_refl _⟩, hd σ H p⟩
theorem for_range {lo : Int} {n : Nat} {g : TG} {tb : TS} {D : Ends} {σ : St} {H : Hp} (Pv : Nat → St → Hp → Prop) (h0 : Pv 0 σ H)
    (hs : ∀ i σ H, i < n → Pv i σ H → g (.int (lo + i)) σ H fun σ2 H2 => tb { D with nx := Pv (i + 1), ct := Pv (i + 1), bk := D.nx } σ2 H2) (hd : ∀ σ H, Pv n σ H → D.nx σ H) :
    ∃ W : Nat → Nat → St → Hp → Prop, (∃ m, W 0 m σ H) ∧ ∀ i m σ H, W i m σ H →
      ((Itr lo n).stop i H ∧ D.nx σ H) ∨ ((Itr lo n).go i H ∧ ∃ N : St → Hp → Prop, (∀ σ' H', N σ' H' → ∃ m', m' < m ∧ W (i + 1) m' σ' H') ∧ ∀ x H', (Itr lo n).yld i H x H' → g x σ H' fun σ2 H2 => tb { D with nx := N, ct := N, bk := D.nx } σ2 H2) := by
  refine ⟨fun i m σ H => m = n - i ∧ i ≤ n ∧ Pv i σ H, ⟨n, by simp, Nat.zero_le _, h0⟩, ?_⟩
  rintro i m σ H ⟨rfl, hi, p⟩
  by_cases hlt : i < n
  · refine .inr ⟨hlt, Pv (i + 1), fun σ' H' p' => ⟨n - (i + 1), by omega, rfl, hlt, p'⟩, fun x H' y => ?_⟩
    obtain ⟨e, y⟩ := y
    subst e y
    exact hs i σ _ hlt p
  · have e : i = n := by omega
    subst e
    exact .inl ⟨Nat.le_refl _, hd σ H p⟩
theorem while_by {c : TT} {tb : TS} {D : Ends} {σ : St} {H : Hp} (Pv : St → Hp → Prop) (μ : St → Hp → Nat) (h0 : Pv σ H)
    (hs : ∀ σ H, Pv σ H → c σ H fun b H1 => if b = true then tb { D with nx := fun σ' H' => Pv σ' H' ∧ μ σ' H' < μ σ H, ct := fun σ' H' => Pv σ' H' ∧ μ σ' H' < μ σ H, bk := D.nx } σ H1 else D.nx σ H1)
    (mono : ∀ σ H Q Q', (∀ b H1, Q b H1 → Q' b H1) → c σ H Q → c σ H Q') : tWhile c tb D σ H := by
  refine ⟨fun m σ H => m = μ σ H ∧ Pv σ H, ⟨_, rfl, h0⟩, ?_⟩
  rintro m σ H ⟨rfl, p⟩
  refine mono σ H _ _ (fun b H1 q => ?_) (hs σ H p)
  cases b with
  | true => exact ⟨_, fun σ' H' ⟨p', l⟩ => ⟨_, l, rfl, p'⟩, q⟩
  | false => exact q
end L2
namespace L2
open PySem PySem.Spec PyProof.Rows
noncomputable abbrev R2 := V → V → Hp → VK → Prop
noncomputable def OpR (X : Cx) (f : Value → Value → Sem Value) (r : R2) : Prop :=
  ∀ (pins : List (Addr × Obj)) (s : Shared) (σ : St) (H : Hp) (x y : V) (v u : Value) (Q : VK), Inv X pins σ H s → RelV x v → RelV y u → r x y H Q →
    wpAny (model X.prog X.w) X.A (f v u) (EP X pins σ Q) X.xe s
noncomputable def UnR (X : Cx) (f : Value → Sem Value) (r : V → Hp → VK → Prop) : Prop :=
  ∀ (pins : List (Addr × Obj)) (s : Shared) (σ : St) (H : Hp) (x : V) (v : Value) (Q : VK), Inv X pins σ H s → RelV x v → r x H Q →
    wpAny (model X.prog X.w) X.A (f v) (EP X pins σ Q) X.xe s
noncomputable def CallR (X : Cx) (f : Value) (r : List V → Hp → VK → Prop) : Prop :=
  ∀ (pins : List (Addr × Obj)) (s : Shared) (σ : St) (H : Hp) (xs : List V) (us : List Value) (Q : VK), Inv X pins σ H s → Vals xs us → r xs H Q →
    wpAny (model X.prog X.w) X.A (call f us) (EP X pins σ Q) X.xe s
noncomputable def tOp (r : R2) (ta tb : TE) : TE := fun σ H Q => ta σ H fun x H1 => tb σ H1 fun y H2 => r x y H2 Q
noncomputable def tUn (r : V → Hp → VK → Prop) (ta : TE) : TE := fun σ H Q => ta σ H fun x H1 => r x H1 Q
noncomputable def rI (C : Int → Int → Prop) (g : Int → Int → V) : R2 := fun x y H Q => ∃ i j, x = .int i ∧ y = .int j ∧ C i j ∧ Q (g i j) H
noncomputable def rI0 (g : Int → Int → V) : R2 := fun x y H Q => ∃ i j, x = .int i ∧ y = .int j ∧ Q (g i j) H
noncomputable def rU (g : Int → V) : V → Hp → VK → Prop := fun x H Q => ∃ i, x = .int i ∧ Q (g i) H
section
variable {X : Cx} {a b c : Expr} {ta tb tc : TE} {pos : Pos}
theorem binT (ha : PE X a ta) (hb : PE X b tb) {pins : List (Addr × Obj)} {s : Shared} {σ : St} {H : Hp} {R : V → V → Hp → Prop} (I : Inv X pins σ H s)
    (h : ta σ H fun x H1 => tb σ H1 fun y H2 => R x y H2) {Q : Value → Shared → Prop} {f : Value → Value → Sem Value}
    (hf : ∀ v u s2 x y H2, Inv X pins σ H2 s2 → RelV x v → RelV y u → R x y H2 → wpAny (model X.prog X.w) X.A (f v u) Q X.xe s2) :
    wpAny (model X.prog X.w) X.A (eval a X.env) (fun v s₁ => wpAny (model X.prog X.w) X.A (eval b X.env) (fun u s₂ => wpAny (model X.prog X.w) X.A (f v u) Q X.xe s₂) X.xe s₁) X.xe s := by
  refine thn (ha pins s σ H _ I h) fun v s1 ⟨x, H1, I1, r1, q1⟩ => ?_
  refine thn (hb pins s1 σ H1 _ I1 q1) fun u s2 ⟨y, H2, I2, r2, q2⟩ => ?_
  exact hf v u s2 x y H2 I2 r1 r2 q2
theorem pe_op {op : Operator} {r : R2} (ho : OpR X (binaryOp op) r) (ha : PE X a ta) (hb : PE X b tb) : PE X (.BinOp a op b pos) (tOp r ta tb) := by
  intro pins s σ H Q I h
  exact wpAny_BinOp (binT ha hb I h fun v u s2 x y H2 I2 rx ry q => ho pins s2 σ H2 x y v u Q I2 rx ry q)
theorem pe_un {op : UnaryOp} {r : V → Hp → VK → Prop} (ho : UnR X (unaryOp op) r) (ha : PE X a ta) : PE X (.UnaryOp op a pos) (tUn r ta) := by
  intro pins s σ H Q I h
  exact UnaryOp_ (thn (ha pins s σ H _ I h) fun v s1 ⟨x, H1, I1, r1, q1⟩ => ho pins s1 σ H1 x v Q I1 r1 q1)
theorem opI {f : Value → Value → Sem Value} {C : Int → Int → Prop} {g : Int → Int → Int}
    (rule : ∀ (i j : Int) (t u : Tok) (s : Shared) (Q : Value → Shared → Prop) (E : Value → Shared → Prop), C i j → Q (.int (g i j) s.toks) { s with toks := s.toks + 1 } → wpAny (model X.prog X.w) X.A (f (.int i t) (.int j u)) Q E s) :
    OpR X f (rI C fun i j => .int (g i j)) := by
  intro pins s σ H x y v u Q I rx ry h
  obtain ⟨i, j, rfl, rfl, hc, q⟩ := h
  obtain ⟨t, rfl⟩ := rx
  obtain ⟨t', rfl⟩ := ry
  exact rule i j t t' s _ _ hc ⟨.int (g i j), H, I.tok _, ⟨_, rfl⟩, q⟩
theorem opI0 {f : Value → Value → Sem Value} {g : Int → Int → Int}
    (rule : ∀ (i j : Int) (t u : Tok) (s : Shared) (Q : Value → Shared → Prop) (E : Value → Shared → Prop), Q (.int (g i j) s.toks) { s with toks := s.toks + 1 } → wpAny (model X.prog X.w) X.A (f (.int i t) (.int j u)) Q E s) :
    OpR X f (rI0 fun i j => .int (g i j)) := by
  intro pins s σ H x y v u Q I rx ry h
  obtain ⟨i, j, rfl, rfl, q⟩ := h
  obtain ⟨t, rfl⟩ := rx
  obtain ⟨t', rfl⟩ := ry
  exact rule i j t t' s _ _ ⟨.int (g i j), H, I.tok _, ⟨_, rfl⟩, q⟩
theorem opB0 {f : Value → Value → Sem Value} {g : Int → Int → Bool}
    (rule : ∀ (i j : Int) (t u : Tok) (s : Shared) (Q : Value → Shared → Prop) (E : Value → Shared → Prop), Q (.bool (g i j)) s → wpAny (model X.prog X.w) X.A (f (.int i t) (.int j u)) Q E s) :
    OpR X f (rI0 fun i j => .bl (g i j)) := by
  intro pins s σ H x y v u Q I rx ry h
  obtain ⟨i, j, rfl, rfl, q⟩ := h
  obtain ⟨t, rfl⟩ := rx
  obtain ⟨t', rfl⟩ := ry
  exact rule i j t t' s _ _ ⟨.bl (g i j), H, I, rfl, q⟩
noncomputable def CPow (i j : Int) : Prop := 0 ≤ j ∧ j ≤ 1000000 ∧ i.natAbs < 2 ^ 64
noncomputable def CMul (i j : Int) : Prop := (-(2 ^ 64) < i ∧ i < 2 ^ 64) ∨ (-(2 ^ 64) < j ∧ j < 2 ^ 64)
theorem CMul.ok {i j : Int} (h : CMul i j) : IntMulOk i j := by
  rcases h with ⟨h1, h2⟩ | ⟨h1, h2⟩
  · exact .of_left (intBits_le_64 h1 h2)
  · exact .of_right (intBits_le_64 h1 h2)
theorem op_add : OpR X (binaryOp .Add) (rI0 fun i j => .int (i + j)) := opI0 fun _ _ _ _ _ _ _ q => add_int q
theorem op_sub : OpR X (binaryOp .Sub) (rI0 fun i j => .int (i - j)) := opI0 fun _ _ _ _ _ _ _ q => sub_int q
theorem op_mod : OpR X (binaryOp .Mod) (rI (fun _ j => 0 < j) fun i j => .int (i % j)) := opI fun i j _ _ _ _ _ hc q => by
  have h1 : (0 : Int) < j := hc
  exact mod_int' (by omega) (by rw [Int.fmod_eq_emod_of_nonneg i (by omega)]; exact q)
theorem op_pow : OpR X (binaryOp .Pow) (rI CPow fun i j => .int (i ^ j.toNat)) := opI fun _ _ _ _ _ _ _ hc q => pow_int_small hc.1 hc.2.1 hc.2.2 q
theorem unI {f : Value → Sem Value} {g : Int → Int}
    (rule : ∀ (i : Int) (t : Tok) (s : Shared) (Q : Value → Shared → Prop) (E : Value → Shared → Prop), Q (.int (g i) s.toks) { s with toks := s.toks + 1 } → wpAny (model X.prog X.w) X.A (f (.int i t)) Q E s) :
    UnR X f (rU fun i => .int (g i)) := by
  intro pins s σ H x v Q I rx h
  obtain ⟨i, rfl, q⟩ := h
  obtain ⟨t, rfl⟩ := rx
  exact rule i t s _ _ ⟨.int (g i), H, I.tok _, ⟨_, rfl⟩, q⟩
theorem un_neg : UnR X (unaryOp .USub) (rU fun i => .int (-i)) := unI fun _ _ _ _ _ q => neg_int q
end
noncomputable def scal : V → V → Bool
  | .non, .non => true | .non, .int _ => true | .int _, .non => true | .non, .bl _ => true | .bl _, .non => true | .non, .str _ => true | .str _, .non => true
  | .int _, .int _ => true | .bl _, .bl _ => true | .str _, .str _ => true | .byt _, .byt _ => true
  | .int _, .str _ => true | .str _, .int _ => true | .bl _, .str _ => true | .str _, .bl _ => true
  | _, _ => false
noncomputable def rEq : R2 := fun x y H Q => scal x y = true ∧ Q (.bl (decide (x = y))) H
noncomputable def rNe : R2 := fun x y H Q => scal x y = true ∧ Q (.bl (!decide (x = y))) H
theorem dec_int {i j : Int} : decide (V.int i = V.int j) = (i == j) := by
  rw [Bool.eq_iff_iff]
  simp
theorem dec_bl {i j : Bool} : decide (V.bl i = V.bl j) = (i == j) := by
  rw [Bool.eq_iff_iff]
  simp
theorem dec_str {i j : Str} : decide (V.str i = V.str j) = (i == j) := by
  rw [Bool.eq_iff_iff]
  simp
theorem dec_byt {i j : Array UInt8} : decide (V.byt i = V.byt j) = (i.toList == j.toList) := by
  rw [Bool.eq_iff_iff]
  cases i
  cases j
  simp
section
variable {X : Cx} {a b c : Expr} {ta tb tc : TE} {pos : Pos}
theorem fin_bl {pins : List (Addr × Obj)} {σ : St} {H : Hp} {s : Shared} {Q : VK} {k k' : Bool} (I : Inv X pins σ H s) (q : Q (.bl k) H) (e : k = k') : EP X pins σ Q (.bool k') s := by
  subst e
  exact ⟨.bl k, H, I, rfl, q⟩
theorem op_eq : OpR X (compareOp .Eq) rEq := by
  intro pins s σ H x y v u Q I rx ry h
  obtain ⟨hs, q⟩ := h
  cases x with
  | non =>
    cases rx
    cases y with
    | non => cases ry; exact PySem.EqNone.eq_none_none (fin_bl I q (by simp))
    | bl j => cases ry; exact PySem.EqNone.eq_none_bool (fin_bl I q (by simp))
    | int j => obtain ⟨t', rfl⟩ := ry; exact PySem.EqNone.eq_none_int (fin_bl I q (by simp))
    | str j => obtain ⟨t', rfl⟩ := ry; exact PySem.EqNone.eq_none_str (fin_bl I q (by simp))
    | _ => exact absurd (show false = true from hs) Bool.false_ne_true
  | bl i =>
    cases rx
    cases y with
    | non => cases ry; exact PySem.EqNone.eq_bool_none (fin_bl I q (by simp))
    | bl j => cases ry; exact eq_bool (fin_bl I q dec_bl)
    | str j => obtain ⟨t', rfl⟩ := ry; exact PySem.EqMixed.eq_bool_str (fin_bl I q (by simp))
    | _ => exact absurd (show false = true from hs) Bool.false_ne_true
  | int i =>
    obtain ⟨t, rfl⟩ := rx
    cases y with
    | non => cases ry; exact PySem.EqNone.eq_int_none (fin_bl I q (by simp))
    | int j => obtain ⟨t', rfl⟩ := ry; exact eq_int (fin_bl I q dec_int)
    | str j => obtain ⟨t', rfl⟩ := ry; exact PySem.EqMixed.eq_int_str (fin_bl I q (by simp))
    | _ => exact absurd (show false = true from hs) Bool.false_ne_true
  | str i =>
    obtain ⟨t, rfl⟩ := rx
    cases y with
    | non => cases ry; exact PySem.EqNone.eq_str_none (fin_bl I q (by simp))
    | bl j => cases ry; exact PySem.EqMixed.eq_str_bool (fin_bl I q (by simp))
    | int j => obtain ⟨t', rfl⟩ := ry; exact PySem.EqMixed.eq_str_int (fin_bl I q (by simp))
    | str j => obtain ⟨t', rfl⟩ := ry; exact eq_str (fin_bl I q dec_str)
    | _ => exact absurd (show false = true from hs) Bool.false_ne_true
  | byt i =>
    obtain ⟨t, rfl⟩ := rx
    cases y with
    | byt j => obtain ⟨t', rfl⟩ := ry; exact PySem.W.eq_bytes (fin_bl I q dec_byt)
    | _ => exact absurd (show false = true from hs) Bool.false_ne_true
  | _ => cases y <;> exact absurd (show false = true from hs) Bool.false_ne_true
theorem op_ne : OpR X (compareOp .NotEq) rNe := by
  intro pins s σ H x y v u Q I rx ry h
  obtain ⟨hs, q⟩ := h
  cases x with
  | non =>
    cases rx
    cases y with
    | non => cases ry; exact PySem.EqNone.ne_none_none (fin_bl I q (by simp))
    | bl j => cases ry; exact PySem.EqNone.ne_none_bool (fin_bl I q (by simp))
    | int j => obtain ⟨t', rfl⟩ := ry; exact PySem.EqNone.ne_none_int (fin_bl I q (by simp))
    | str j => obtain ⟨t', rfl⟩ := ry; exact PySem.EqNone.ne_none_str (fin_bl I q (by simp))
    | _ => exact absurd (show false = true from hs) Bool.false_ne_true
  | bl i =>
    cases rx
    cases y with
    | non => cases ry; exact PySem.EqNone.ne_bool_none (fin_bl I q (by simp))
    | bl j => cases ry; exact ne_bool (fin_bl I q (congrArg not dec_bl))
    | str j => obtain ⟨t', rfl⟩ := ry; exact PySem.EqMixed.ne_bool_str (fin_bl I q (by simp))
    | _ => exact absurd (show false = true from hs) Bool.false_ne_true
  | int i =>
    obtain ⟨t, rfl⟩ := rx
    cases y with
    | non => cases ry; exact PySem.EqNone.ne_int_none (fin_bl I q (by simp))
    | int j => obtain ⟨t', rfl⟩ := ry; exact ne_int (fin_bl I q (congrArg not dec_int))
    | str j => obtain ⟨t', rfl⟩ := ry; exact PySem.EqMixed.ne_int_str (fin_bl I q (by simp))
    | _ => exact absurd (show false = true from hs) Bool.false_ne_true
  | str i =>
    obtain ⟨t, rfl⟩ := rx
    cases y with
    | non => cases ry; exact PySem.EqNone.ne_str_none (fin_bl I q (by simp))
    | bl j => cases ry; exact PySem.EqMixed.ne_str_bool (fin_bl I q (by simp))
    | int j => obtain ⟨t', rfl⟩ := ry; exact PySem.EqMixed.ne_str_int (fin_bl I q (by simp))
    | str j => obtain ⟨t', rfl⟩ := ry; exact ne_str (fin_bl I q (congrArg not dec_str))
    | _ => exact absurd (show false = true from hs) Bool.false_ne_true
  | byt i =>
    obtain ⟨t, rfl⟩ := rx
    cases y with
    | byt j => obtain ⟨t', rfl⟩ := ry; exact PySem.W.ne_bytes (fin_bl I q (congrArg not dec_byt))
    | _ => exact absurd (show false = true from hs) Bool.false_ne_true
  | _ => cases y <;> exact absurd (show false = true from hs) Bool.false_ne_true
theorem op_lt : OpR X (compareOp .Lt) (rI0 fun i j => .bl (decide (i < j))) := opB0 fun _ _ _ _ _ _ _ q => lt_int q
theorem op_le : OpR X (compareOp .LtE) (rI0 fun i j => .bl (decide (i ≤ j))) := opB0 fun _ _ _ _ _ _ _ q => le_int q
theorem op_gt : OpR X (compareOp .Gt) (rI0 fun i j => .bl (decide (j < i))) := opB0 fun _ _ _ _ _ _ _ q => gt_int q
theorem op_ge : OpR X (compareOp .GtE) (rI0 fun i j => .bl (decide (j ≤ i))) := opB0 fun _ _ _ _ _ _ _ q => ge_int q
theorem op_isN : OpR X (compareOp .Is) (fun x y H Q => y = .non ∧ Q (.bl (decide (x = .non))) H) := by
  intro pins s σ H x y v u Q I rx ry h
  obtain ⟨rfl, q⟩ := h
  cases ry
  refine is_none_gen (fin_bl I q ?_)
  cases x <;> first
    | (cases rx; rfl)
    | (obtain ⟨t, rfl⟩ := rx; rfl)
theorem nomark (b : Expr) {op : CmpOp} (h : op ≠ .In := by decide) (h2 : op ≠ .NotIn := by decide) : behindInMarks op b = false := by
  have e1 : (op == CmpOp.In) = false := by cases op <;> first | rfl | exact absurd rfl h
  have e2 : (op == CmpOp.NotIn) = false := by cases op <;> first | rfl | exact absurd rfl h2
  cases b <;> simp [behindInMarks, e1, e2]
theorem pe_cmpR {op : CmpOp} {r : R2} (ho : OpR X (compareOp op) r) (ha : PE X a ta) (hb : PE X b tb) (hm : behindInMarks op b = false) : PE X (.Compare a [op] [b] pos) (tOp r ta tb) := by
  intro pins s σ H Q I h
  exact wpAny_Compare1 (binT ha hb I h fun v u s2 x y H2 I2 rx ry q => ho pins s2 σ H2 x y v u Q I2 rx ry q) hm
noncomputable def tTest (t : TE) : TT := fun σ H Q => t σ H fun x H' => ∃ k, x = .bl k ∧ Q k H'
theorem pt_cmpR {op : CmpOp} {r : R2} (ho : OpR X (compareOp op) r) (ha : PE X a ta) (hb : PE X b tb) (hm : behindInMarks op b = false) : PT X (.Compare a [op] [b] pos) (tTest (tOp r ta tb)) := by
  intro pins s σ H Q I h
  refine wpAny_isTrue_Compare1 (thn (ha pins s σ H _ I h) fun v s1 ⟨x, H1, I1, r1, q1⟩ => thn (hb pins s1 σ H1 _ I1 q1) fun u s2 ⟨y, H2, I2, r2, q2⟩ =>
    thn (ho pins s2 σ H2 x y v u _ I2 r1 r2 q2) fun c s3 ⟨z, H3, I3, r3, k, e, q3⟩ => ?_) hm
  subst e
  cases r3
  exact wpAny_truthy_bool ⟨H3, I3, q3⟩
theorem line63 : (sizeLine : Nat) < 2 ^ 63 := by rw [sizeLine_eq]; decide
theorem vals1 {x : V} {us : List Value} (r : Vals [x] us) : ∃ u, us = [u] ∧ RelV x u := by
  cases r with
  | cons r1 r2 => cases r2; exact ⟨_, rfl, r1⟩
theorem vals2 {x y : V} {us : List Value} (r : Vals [x, y] us) : ∃ u w', us = [u, w'] ∧ RelV x u ∧ RelV y w' := by
  cases r with
  | cons r1 r2 =>
    cases r2 with
    | cons r3 r4 => cases r4; exact ⟨_, _, rfl, r1, r3⟩
theorem call_max2 (hc : X.calm = true) : CallR X (.builtin "max") (fun xs H Q => ∃ i j, xs = [.int i, .int j] ∧ Q (.int (if j > i then j else i)) H) := by
  intro pins s σ H xs us Q I r h
  obtain ⟨i, j, rfl, q⟩ := h
  obtain ⟨u, w', rfl, ⟨t, rfl⟩, ⟨t', rfl⟩⟩ := vals2 r
  refine max_two_ints (I.ok.hd hc) fun h' tk k => ⟨_, H, I.kept k, ?_, q⟩
  by_cases hj : j > i
  · rw [if_pos hj, if_pos hj]; exact ⟨_, rfl⟩
  · rw [if_neg hj, if_neg hj]; exact ⟨_, rfl⟩
theorem call_min2 (hc : X.calm = true) : CallR X (.builtin "min") (fun xs H Q => ∃ i j, xs = [.int i, .int j] ∧ Q (.int (if j < i then j else i)) H) := by
  intro pins s σ H xs us Q I r h
  obtain ⟨i, j, rfl, q⟩ := h
  obtain ⟨u, w', rfl, ⟨t, rfl⟩, ⟨t', rfl⟩⟩ := vals2 r
  refine min_two_ints (I.ok.hd hc) fun h' tk k => ⟨_, H, I.kept k, ?_, q⟩
  by_cases hj : j < i
  · rw [if_pos hj, if_pos hj]; exact ⟨_, rfl⟩
  · rw [if_neg hj, if_neg hj]; exact ⟨_, rfl⟩
end
end L2
namespace L2
open PySem PySem.Spec PyProof.Rows
structure ObjM (h : Heap) (x dx C : Addr) (mA : Str → Option Value) : Prop where
  obj : h.get? x = some (PySem.W.instObj C dx)
  ns : h.Ns1 dx mA
  ne : dx ≠ x
theorem lookIn_ns {h : Heap} {dx : Addr} {mA : Str → Option Value} (n : h.Ns1 dx mA) : ∃ od, h.get? dx = some od ∧ ∀ name, PySem.W.lookIn name od = some (mA name) := by
  obtain ⟨o, es, ep, ho, hd, hk, _, hm⟩ := n
  refine ⟨o, ho, fun name => ?_⟩
  have e := hm name
  unfold nsFind findBy at e
  rw [← Array.find?_toList] at e
  unfold PySem.W.lookIn
  rw [hd]
  dsimp only
  split
  · rename_i y q
    rw [q] at e
    exact congrArg some e
  · rename_i q
    rw [q] at e
    have a : es.toList.any (·.refKey) = false := by
      rw [List.any_eq_false]
      intro y hy
      obtain ⟨z, t, hkey⟩ := hk y (Array.mem_toList_iff.mp hy)
      simp [DictEntry.refKey, hkey]
    have a' : ¬ es.toList.any (·.refKey) = true := by rw [a]; exact Bool.false_ne_true
    rw [if_neg a']
    exact congrArg some e
theorem ObjM.look {h : Heap} {x dx C : Addr} {mA : Str → Option Value} (I : ObjM h x dx C mA) : ∃ od, PySem.W.InstAt h x (PySem.W.instObj C dx) C (some od) ∧ ∀ name, PySem.W.lookIn name od = some (mA name) :=
  let ⟨od, ho, hl⟩ := lookIn_ns I.ns
  ⟨od, ⟨I.obj, rfl, rfl, ho⟩, hl⟩
section
variable {prog : Program} {w : World} {A : Around} {E : Value → Shared → Prop} {s : Shared} {K : PySem.W.Frag} {x dx C f : Addr} {mA : Str → Option Value} {name : Str} {v : Value}
theorem get_map {expr : Bool} {Q : Value → Shared → Prop} (X : K.In s.heap) (I : ObjM s.heap x dx C mA) (hg : PySem.W.plainGet K C name = true) (hh : PySem.W.hasDictIn K C = true)
    (ha : PySem.W.findIn K (.ref C) name = some none) (hv : mA name = some v) (hv' : PySem.W.handedIn v = true) (h : Q v { s with toks := s.toks + 1 }) :
    wpAny (model prog w) A (getAttr (.ref x) name expr) Q E s := by
  obtain ⟨od, J, hl⟩ := I.look
  exact PySem.W.get_value X J (PySem.W.plainGet_of hg).1 (PySem.W.findObj_own hh ha rfl (by rw [hl, hv])) hv' h
theorem set_map {ns : List Str} {Q : Unit → Shared → Prop} (X : K.In s.heap) (I : ObjM s.heap x dx C mA)
    (hs : PySem.W.findIn K (.ref C) "__setattr__" = some (some (.builtin "object.__setattr__"))) (hp : PySem.W.plainOver K C = true) (ht : PySem.W.takerIn K C name = some none) (hh : PySem.W.hasDictIn K C = true)
    (hw : PySem.Within mA ns) (hsz : ns.length ≤ sizeLine)
    (h : ∀ h', ObjM h' x dx C (fun y => if y = name then some v else mA y) → Heap.SameBut dx s.heap h' → Q () { s with heap := h', toks := s.toks + 2 }) :
    wpAny (model prog w) A (setAttr (.ref x) name v) Q E s := by
  obtain ⟨od, J, hl⟩ := I.look
  refine PySem.W.set_plain X J hs (PySem.W.osa_open (s := { s with toks := s.toks + 1 }) (r := none) X J hp ht fun b => ?_)
  obtain ⟨cd, hc, hd'⟩ := PySem.W.any_some hh
  have hx : s.heap.get? x = some ⟨.ref C, some dx, .plain, #[]⟩ := I.obj
  refine wpAny_bind (wpAny_pure (wpAny_bind (wpAny_bind (wpAny_loadPart hx (wpAny_bind (PySem.W.Looks.here (s := { s with toks := s.toks + 1 }) (PySem.W.looks_clsIn X hc) ?_))))))
  rw [hd']
  refine wpAny_pure (a := some dx) (wpAny_bind (wpAny_pure (wpAny_bind ?_)))
  refine wpAny_nsSet1 (s := { s with toks := s.toks + 1 }) I.ns fun h' hn2 hs2 => ?_
  obtain ⟨oD, esD, epD, hoD, hdD, hcD⟩ := hn2.count (PySem.Within.cons name v hw)
  refine wpAny_bind (wpAny_lookBehind hoD (by rw [hdD]; exact pastItsLine_dict (Nat.le_trans hcD (by rw [List.length_cons]; omega))) ?_)
  exact wpAny_pure (h _ ⟨(hs2.2 _ (Ne.symm I.ne)).trans I.obj, hn2, I.ne⟩ hs2)
theorem make_map {R : Result → Shared → Prop} {vs : List Value} {kw : List (Str × Value)} (X : K.In s.heap) (hm : PySem.W.makesIn K C = true)
    (hi : PySem.W.findIn K (.ref C) "__init__" = some (some (.ref f))) (hf : PySem.W.typeIn K (.ref f) = some (.type "function"))
    (h : codeAny (model prog w) (A.under (.builtin "type.__call__" ⟨.ref C :: vs, kw⟩)) (.call (.ref f) ⟨.ref (s.heap.objs.size + 1) :: vs, kw⟩) (PySem.W.InitBack (s.heap.objs.size + 1) R)
      { s with heap := (s.heap.push PySem.W.emptyDict).push (PySem.W.instObj C s.heap.objs.size) }) :
    codeAny (model prog w) A (.call (.ref C) ⟨vs, kw⟩) R s := by
  obtain ⟨hh, g, d, t, os⟩ := s
  exact PySem.W.make_core (PySem.W.makes_of X hm) (PySem.W.looks_findIn X hi) (fun self => PySem.W.bind_fn X self hf) (.inl rfl) h
end
noncomputable def putF (f : Str) (v : V) : List (Str × V) → List (Str × V)
  | [] => [(f, v)]
  | (g, x) :: r => if g = f then (g, v) :: r else (g, x) :: putF f v r
theorem lookup_putF (f g : Str) (v : V) : ∀ fs : List (Str × V), (putF f v fs).lookup g = if g = f then some v else fs.lookup g
  | [] => by
    show List.lookup g [(f, v)] = _
    by_cases h : g = f
    · have hb : (g == f) = true := beq_iff_eq.mpr h
      simp only [List.lookup, hb, if_pos h]
    · have hb : (g == f) = false := beq_eq_false_iff_ne.mpr h
      simp only [List.lookup, hb, if_neg h]
  | (k, x) :: r => by
    have ih := lookup_putF f g v r
    rw [show putF f v ((k, x) :: r) = (if k = f then (k, v) :: r else (k, x) :: putF f v r) from rfl]
    by_cases hk : k = f
    · rw [if_pos hk]
      by_cases h : g = k
      · have hb : (g == k) = true := beq_iff_eq.mpr h
        simp only [List.lookup, hb, if_pos (h.trans hk)]
      · have hb : (g == k) = false := beq_eq_false_iff_ne.mpr h
        simp only [List.lookup, hb, if_neg (fun e : g = f => h (e.trans hk.symm))]
    · rw [if_neg hk]
      by_cases h : g = k
      · have hb : (g == k) = true := beq_iff_eq.mpr h
        simp only [List.lookup, hb, if_neg (fun e : g = f => hk (h.symm.trans e))]
      · have hb : (g == k) = false := beq_eq_false_iff_ne.mpr h
        simp only [List.lookup, hb]
        exact ih
theorem keys_putF (f : Str) (v : V) : ∀ fs : List (Str × V), f ∈ (putF f v fs).map (·.1) ∧ ∀ g, g ∈ fs.map (·.1) → g ∈ (putF f v fs).map (·.1)
  | [] => ⟨by simp [putF], fun g h => by simp at h⟩
  | (k, x) :: r => by
    obtain ⟨i1, i2⟩ := keys_putF f v r
    rw [show putF f v ((k, x) :: r) = (if k = f then (k, v) :: r else (k, x) :: putF f v r) from rfl]
    by_cases hk : k = f
    · rw [if_pos hk]
      subst hk
      exact ⟨by simp, fun g h => by simpa using h⟩
    · rw [if_neg hk]
      refine ⟨?_, fun g h => ?_⟩
      · rw [List.map_cons]
        exact List.mem_cons_of_mem _ i1
      · rw [List.map_cons] at h ⊢
        rcases List.mem_cons.mp h with e | e
        · exact List.mem_cons.mpr (.inl e)
        · exact List.mem_cons_of_mem _ (i2 g e)
theorem length_putF (f : Str) (v : V) : ∀ fs : List (Str × V), (putF f v fs).length ≤ fs.length + 1
  | [] => by simp [putF]
  | (k, x) :: r => by
    have ih := length_putF f v r
    rw [show putF f v ((k, x) :: r) = (if k = f then (k, v) :: r else (k, x) :: putF f v r) from rfl]
    by_cases hk : k = f
    · rw [if_pos hk, List.length_cons, List.length_cons]; omega
    · rw [if_neg hk, List.length_cons, List.length_cons]; omega
theorem RelO.some_of {v : V} {o : Option Value} (r : RelO (some v) o) : ∃ u, o = some u ∧ RelV v u := by
  cases o with
  | none => exact (show False from r).elim
  | some u => exact ⟨u, rfl, r⟩
theorem handed_of {v : V} {u : Value} (r : RelV v u) : PySem.W.handedIn u = true := by
  cases v with
  | non => cases (show u = Value.none from r); rfl
  | bl b => cases (show u = Value.bool b from r); rfl
  | int i => obtain ⟨t, e⟩ := (show ∃ t, u = Value.int i t from r); cases e; rfl
  | str x => obtain ⟨t, e⟩ := (show ∃ t, u = Value.str x t from r); cases e; rfl
  | byt b => obtain ⟨t, e⟩ := (show ∃ t, u = Value.bytes b t from r); cases e; rfl
  | flt b => obtain ⟨t, e⟩ := (show ∃ t, u = Value.float b t from r); cases e; rfl
  | ref a => cases (show u = Value.ref a from r); rfl
  | ty n => cases (show u = Value.type n from r); rfl
section
variable {P : Program} {w : World} {H H' : Hp} {h h' : Heap} {a C dx : Addr} {fs fs' : List (Str × V)}
theorem ins_get (hok : HOk P w H h) (e : H a = some (.ins C dx fs)) : ∃ mA, ObjM h a dx C mA ∧ (∀ f, RelO (fs.lookup f) (mA f)) ∧ PySem.Within mA (fs.map (·.1)) ∧ fs.length ≤ 1000 ∧ H dx = some (.own a) := by
  obtain ⟨d, z, ne, ob, mA, n, r, q⟩ := (show ObjOk P w H h a (.ins C dx fs) from hok a _ e)
  exact ⟨mA, ⟨ob, n, ne⟩, r, q, z, d⟩
end
structure Cls (K : PySem.W.Frag) (C : Addr) : Prop where
  pg : PySem.W.plainGet K C Str.empty = true
  hd : PySem.W.hasDictIn K C = true
  po : PySem.W.plainOver K C = true
  sa : PySem.W.findIn K (.ref C) "__setattr__" = some (some (.builtin "object.__setattr__"))
theorem Cls.get {K : PySem.W.Frag} {C : Addr} (c : Cls K C) (f : Str) : PySem.W.plainGet K C f = true := c.pg
noncomputable def NoAttr (K : PySem.W.Frag) (C : Addr) (f : Str) : Prop := PySem.W.findIn K (.ref C) f = some none
theorem NoAttr.taker {K : PySem.W.Frag} {C : Addr} {f : Str} (n : NoAttr K C f) : PySem.W.takerIn K C f = some none := by
  unfold PySem.W.takerIn
  rw [show PySem.W.findIn K (.ref C) f = some none from n]
  rfl
section
variable {X : Cx} {pins : List (Addr × Obj)} {σ : St} {H : Hp} {s : Shared} {a C dx : Addr} {fs : List (Str × V)} {f : Str} {v : V} {A : Around} {E : Value → Shared → Prop}
theorem getattr_ok {b : Bool} {Q : Value → Shared → Prop} (I : Inv X pins σ H s) (e : H a = some (.ins C dx fs)) (c : Cls X.K C) (n : NoAttr X.K C f) (l : fs.lookup f = some v)
    (h : ∀ u s', Inv X pins σ H s' → RelV v u → Q u s') : wpAny (model X.prog X.w) A (getAttr (.ref a) f b) Q E s := by
  obtain ⟨mA, O, r, _, _, _⟩ := ins_get I.hok e
  obtain ⟨u, hu, ru⟩ := RelO.some_of (v := v) (o := mA f) (by rw [← l]; exact r f)
  exact get_map I.kIn O (c.get f) c.hd n hu (handed_of ru) (h u _ (I.tok _) ru)
theorem setattr_ok {y : V} {u : Value} {Q : Unit → Shared → Prop} (I : Inv X pins σ H s) (e : H a = some (.ins C dx fs)) (c : Cls X.K C) (n : NoAttr X.K C f) (hl : fs.length < 1000) (ry : RelV y u)
    (h : ∀ s', Inv X pins σ (upd H a (.ins C dx (putF f y fs))) s' → Q () s') : wpAny (model X.prog X.w) A (setAttr (.ref a) f u) Q E s := by
  obtain ⟨mA, O, r, wi, _, ho⟩ := ins_get I.hok e
  have hz : (fs.map (·.1)).length ≤ sizeLine := by rw [List.length_map, sizeLine_eq]; omega
  refine set_map I.kIn O c.sa c.po n.taker c.hd wi hz fun h' O' sb => h _ ?_
  have hd : ∃ o, h'.get? dx = some o := let ⟨o, _, _, e', _⟩ := O'.ns; ⟨o, e'⟩
  refine I.write (x := a) (e := dx) (by rw [e]; exact True.intro) (.inr ho) (fun b q hb z => (sb.2 b hb).trans z) hd ?_
  refine ⟨by rw [upd_ne O.ne]; exact ho, ?_, O.ne, O'.obj, _, O'.ns, fun g => ?_, fun g hg => ?_⟩
  · have := length_putF f y fs; omega
  · show RelO ((putF f y fs).lookup g) (if g = f then some u else mA g)
    rw [lookup_putF]
    by_cases q : g = f
    · rw [if_pos q, if_pos q]; exact ry
    · rw [if_neg q, if_neg q]; exact r g
  · by_cases q : g = f
    · rw [q]; exact (keys_putF f y fs).1
    · refine (keys_putF f y fs).2 g (wi g fun z => hg ?_)
      show (if g = f then some u else mA g) = none
      rw [if_neg q]; exact z
theorem Inv.made (I : Inv X pins σ H s) : Inv X pins σ (upd (upd H s.heap.objs.size (.own (s.heap.objs.size + 1))) (s.heap.objs.size + 1) (.ins C s.heap.objs.size []))
    { s with heap := (s.heap.push PySem.W.emptyDict).push (PySem.W.instObj C s.heap.objs.size) } := by
  have e1 : (s.heap.push PySem.W.emptyDict).get? s.heap.objs.size = some PySem.W.emptyDict := Heap.get?_push_size s.heap rfl
  have e2 : ((s.heap.push PySem.W.emptyDict).push (PySem.W.instObj C s.heap.objs.size)).get? (s.heap.objs.size + 1) = some (PySem.W.instObj C s.heap.objs.size) := by
    have := Heap.get?_push_size (s.heap.push PySem.W.emptyDict) (o := PySem.W.instObj C s.heap.objs.size) rfl
    rwa [Heap.size_push] at this
  have e3 : (s.heap.push PySem.W.emptyDict).Ns s.heap.objs.size (fun _ => none) := ⟨PySem.W.emptyDict, #[], _, e1, rfl, (fun e he => absurd he (by simp)), fun _ => rfl⟩
  have I1 := I.laid (a := s.heap.objs.size) (o := .own (s.heap.objs.size + 1)) (h' := s.heap.push PySem.W.emptyDict) (t' := s.toks) (fun b u q => Heap.get?_push_of_some _ q) (Nat.le_refl _) ⟨_, e1⟩
  refine I1.laid (a := s.heap.objs.size + 1) (o := .ins C s.heap.objs.size []) (t' := s.toks) (fun b u q => Heap.get?_push_of_some _ q) (Nat.le_of_eq (Heap.size_push _ _)) ?_
  have ne : s.heap.objs.size ≠ s.heap.objs.size + 1 := Nat.ne_of_lt (Nat.lt_succ_self _)
  refine ⟨by rw [upd_ne ne, upd_same], Nat.zero_le _, ne, e2, fun _ => none, (Heap.Ns1.of_empty e3).at fun o q => Heap.get?_push_of_some _ q, fun _ => True.intro, fun y hy => absurd rfl hy⟩
theorem attr_of {prog : Program} {w : World} {env : Env} {e : Expr} {f : Str} {pos : Pos} {s : Shared} {Q : Value → Shared → Prop} (hb : attributeBase e f env (eval e env) = eval e env)
    (h : wpAny (model prog w) A (eval e env) (fun o s₁ => wpAny (model prog w) A (getAttr o f true) Q E s₁) E s) : wpAny (model prog w) A (eval (.Attribute e f pos) env) Q E s :=
  Attribute_any_ h (by rw [arm_eval_Attribute, hb])
end
noncomputable def tFld (K : PySem.W.Frag) (ta : TE) (f : Str) : TE := fun σ H Q => ta σ H fun x H1 => ∃ a C dx fs v, x = .ref a ∧ H1 a = some (.ins C dx fs) ∧ Cls K C ∧ NoAttr K C f ∧ fs.lookup f = some v ∧ Q v H1
noncomputable def sFld (K : PySem.W.Frag) (ta tv : TE) (f : Str) : TS := fun D σ H => tv σ H fun y H1 => ta σ H1 fun x H2 => ∃ a C dx fs, x = .ref a ∧ H2 a = some (.ins C dx fs) ∧ Cls K C ∧ NoAttr K C f ∧ fs.length < 1000 ∧
  D.nx σ (upd H2 a (.ins C dx (putF f y fs)))
section
variable {X : Cx} {o e value : Expr} {f : Str} {pos pos' tpos : Pos} {ta tv : TE}
theorem pe_fld (he : PE X e ta) (hb : attributeBase e f X.env (eval e X.env) = eval e X.env) : PE X (.Attribute e f pos) (tFld X.K ta f) := by
  intro pins s σ H Q I h
  refine attr_of hb (thn (he pins s σ H _ I h) fun u s1 ⟨x, H1, I1, rx, a, C, dx, fs, v, ex, ea, c, n, l, q⟩ => ?_)
  subst ex
  obtain rfl : u = Value.ref a := rx
  exact getattr_ok I1 ea c n l fun u' s2 I2 ru => ⟨v, H1, I2, ru, q⟩
theorem ps_fld (ha : PE X o ta) (hv : PE X value tv) (hs : swapsWith value (some (.Attribute o f pos')) pos.line X.env = pure false) : PS X (.Assign [.Attribute o f pos'] value pos) (sFld X.K ta tv f) := by
  intro pins s σ H D I h
  refine plainObj_wpAny_Assign_Attribute (thn (hv pins s σ H _ I h) fun u s1 ⟨y, H1, I1, ry, q⟩ => thn (ha pins s1 σ H1 _ I1 q) fun ov s2 ⟨x, H2, I2, rx, a, C, dx, fs, ex, ea, c, n, l, q2⟩ => ?_) hs
  subst ex
  obtain rfl : ov = Value.ref a := rx
  exact setattr_ok I2 ea c n l ry fun s3 I3 => ⟨σ, _, I3, q2⟩
end
section
variable {X : Cx} {pins : List (Addr × Obj)} {σ : St} {H : Hp} {s : Shared} {A : Around} {E : Value → Shared → Prop} {Q : Value → Shared → Prop} {c : Value} {b : Bool}
inductive TyOf (K : PySem.W.Frag) (H : Hp) : V → Value → Prop where
  | non : TyOf K H .non (.type "NoneType")
  | bl (x : Bool) : TyOf K H (.bl x) (.type "bool")
  | int (i : Int) : TyOf K H (.int i) (.type "int")
  | str (x : Str) : TyOf K H (.str x) (.type "str")
  | flt (x : UInt64) : TyOf K H (.flt x) (.type "float")
  | lst {a : Addr} {xs : List V} (e : H a = some (.lst xs)) : TyOf K H (.ref a) (.type "list")
  | frz {a : Addr} {o : Obj} {xs : List V} (e : H a = some (.frz o (.lst xs))) : TyOf K H (.ref a) (.type "list")
  | tup {a : Addr} {xs : List V} (e : H a = some (.tup xs)) : TyOf K H (.ref a) (.type "tuple")
  | dK {a : Addr} {kvs : List (Key × V)} (e : H a = some (.dK kvs)) : TyOf K H (.ref a) (.type "dict")
  | dT {a : Addr} {kvs : List (List Key × V)} (e : H a = some (.dT kvs)) : TyOf K H (.ref a) (.type "dict")
  | ins {a C dx : Addr} {fs : List (Str × V)} (e : H a = some (.ins C dx fs)) (cl : Cls K C) (ha : PySem.W.findIn K (.ref C) "__class__" = some (some (.builtin "object.__class__")))
      (hn : PySem.W.specialIn K (.builtin "object.__class__") "__get__" = some (some (.builtin "getset_descriptor.__get__"))) (htk : PySem.W.takesIn K (.builtin "object.__class__") = some true)
      (hm : PySem.W.mroIn K C (.type "object") = some true) : TyOf K H (.ref a) (.ref C)
theorem isinst_ok {x : V} {u t : Value} (I : Inv X pins σ H s) (rx : RelV x u) (ty : TyOf X.K H x t) (e : PySem.W.kitOne X.K t c = some b) (h : ∀ tk, Q (.bool b) { s with toks := tk }) :
    wpAny (model X.prog X.w) A (call (.builtin "isinstance") [u, c]) Q E s := by
  cases ty with
  | non => cases (show u = Value.none from rx); exact PySem.W.kia_one PySem.W.kitx_none I.kIn True.intro e (fun z => nomatch z) h
  | bl y => cases (show u = Value.bool y from rx); exact PySem.W.kia_one PySem.W.kitx_bool I.kIn True.intro e (fun z => nomatch z) h
  | int i => obtain ⟨t, q⟩ := (show ∃ t, u = Value.int i t from rx); cases q; exact PySem.W.kia_one PySem.W.kitx_int I.kIn True.intro e (fun z => nomatch z) h
  | str y => obtain ⟨t, q⟩ := (show ∃ t, u = Value.str y t from rx); cases q; exact PySem.W.kia_one PySem.W.kitx_str I.kIn True.intro e (fun z => nomatch z) h
  | flt y => obtain ⟨t, q⟩ := (show ∃ t, u = Value.float y t from rx); cases q; exact PySem.W.kia_one PySem.W.kitx_float I.kIn True.intro e (fun z => nomatch z) h
  | @lst a xs ea =>
    cases (show u = Value.ref a from rx)
    obtain ⟨_, _, n, _, h1⟩ := (show ObjOk X.prog X.w H s.heap a (.lst xs) from I.hok a _ ea)
    exact PySem.W.kia_one PySem.W.kitx_list I.kIn ⟨_, h1, rfl⟩ e (fun z => nomatch z) h
  | @frz a ob xs ea =>
    cases (show u = Value.ref a from rx)
    obtain ⟨_, _, _, n, _, h1⟩ := (show ObjOk X.prog X.w H s.heap a (.frz ob (.lst xs)) from I.hok a _ ea)
    exact PySem.W.kia_one PySem.W.kitx_list I.kIn ⟨_, h1, rfl⟩ e (fun z => nomatch z) h
  | @tup a xs ea =>
    cases (show u = Value.ref a from rx)
    obtain ⟨_, _, _, p⟩ := (show ObjOk X.prog X.w H s.heap a (.tup xs) from I.hok a _ ea)
    obtain ⟨o, h1, h2, _⟩ := p
    exact PySem.W.kia_one PySem.W.kitx_tuple I.kIn ⟨o, h1, h2⟩ e (fun z => nomatch z) h
  | @dK a kvs ea =>
    cases (show u = Value.ref a from rx)
    obtain ⟨_, _, vs, _, p⟩ := (show ObjOk X.prog X.w H s.heap a (.dK kvs) from I.hok a _ ea)
    obtain ⟨o, es, ep, h1, h2, _⟩ := p
    exact PySem.W.kia_one PySem.W.kitx_dict I.kIn ⟨o, h1, h2.1⟩ e (fun z => nomatch z) h
  | @dT a kvs ea =>
    cases (show u = Value.ref a from rx)
    obtain ⟨_, _, xs, _, o, es, ep, h1, h2, _⟩ := (show ObjOk X.prog X.w H s.heap a (.dT kvs) from I.hok a _ ea)
    exact PySem.W.kia_one PySem.W.kitx_dict I.kIn ⟨o, h1, h2.1⟩ e (fun z => nomatch z) h
  | @ins a C dx fs ea cl ha hn htk hm =>
    cases (show u = Value.ref a from rx)
    obtain ⟨mA, O, _⟩ := ins_get I.hok ea
    obtain ⟨od, J, _⟩ := O.look
    exact PySem.W.kia_one (PySem.W.kitx_own (cl.get _) cl.hd ha hn htk hm) I.kIn J e (fun z => nomatch z) h
end
end L2
namespace L2
open PySem PySem.Spec PyProof.Rows
structure Room (k : Nat) (A : Around) : Prop where
  hd : A.handled = none
  dp : A.depth + 3 * k + 5 < recursionLimit
  un : A.units + 16 * k + 200 < cLine
theorem Room.mono {j k : Nat} {A : Around} (r : Room k A) (h : j ≤ k) : Room j A := ⟨r.hd, by have := r.dp; omega, by have := r.un; omega⟩
theorem Room.deeper {k : Nat} {A : Around} (r : Room (k + 1) A) (env : Env) : Room k (A.deeper env) :=
  ⟨r.hd, by have := r.dp; show A.depth + 1 + 3 * k + 5 < _; omega, by have := r.un; show A.units + 3 + 16 * k + 200 < _; omega⟩
theorem Room.in1 {k : Nat} {A : Around} (r : Room (k + 1) A) : Room k A.in1 :=
  ⟨r.hd, by have := r.dp; show A.depth + 3 * k + 5 < _; omega, by have := r.un; show A.units + 1 + 16 * k + 200 < _; omega⟩
theorem make_depth {A : Around} {C : Addr} {us : List Value} {kw : List (Str × Value)} : (A.under (.builtin "type.__call__" ⟨.ref C :: us, kw⟩)).depth = A.depth + 1 := by
  first | rfl | simp [Around.under, Code.weight, Code.isCreation, Code.isGuard, Code.isCaller, Code.frames, Code.isFrame, guardIds]
theorem make_units {A : Around} {C : Addr} {us : List Value} {kw : List (Str × Value)} : (A.under (.builtin "type.__call__" ⟨.ref C :: us, kw⟩)).units = A.units + 1 := by
  first | rfl | simp [Around.under, Code.cUnits, Code.frames, Code.isFrame]
theorem Room.make {k : Nat} {A : Around} (r : Room (k + 1) A) (C : Addr) (us : List Value) (kw : List (Str × Value)) : Room k (A.under (.builtin "type.__call__" ⟨.ref C :: us, kw⟩)) :=
  ⟨r.hd, by have := r.dp; rw [make_depth]; omega, by have := r.un; rw [make_units]; omega⟩
theorem Room.depth {k : Nat} {A : Around} (r : Room k A) : A.depth < recursionLimit := by have := r.dp; omega
theorem Room.units {k : Nat} {A : Around} (r : Room k A) : A.units + 64 < cLine := by have := r.un; omega
noncomputable def tNil : TA := fun _ H Q => Q [] H
noncomputable def tCons (ta : TE) (tr : TA) : TA := fun σ H Q => ta σ H fun x H1 => tr σ H1 fun xs H2 => Q (x :: xs) H2
section
variable {X : Cx} {e : Expr} {es : List Expr} {te : TE} {t : TA} {pos : Pos}
theorem pa_nil : PA X [] tNil := fun _ _ _ _ H Q I h => Calls.spliced_nil ⟨[], H, I, .nil, h⟩
theorem pa_cons (ha : PE X e te) (hr : PA X es t) (hs : starEach (e :: es) X.env = (false, eval e X.env) :: starEach es X.env := by rfl) : PA X (e :: es) (tCons te t) := by
  intro pos pins s σ H Q I h
  rw [hs]
  show wpAny _ _ (spliced ((false, eval e X.env) :: backTo pos (starEach es X.env))) _ _ s
  refine Calls.spliced_cons (thn (ha pins s σ H _ I h) fun u s1 ⟨x, H1, I1, r1, q1⟩ => ?_)
  exact thn (hr pos pins s1 σ H1 _ I1 q1) fun us s2 ⟨xs, H2, I2, r2, q2⟩ => ⟨x :: xs, H2, I2, .cons r1 r2, q2⟩
noncomputable def tTup (t : TA) : TE := fun σ H Q => t σ H fun xs H1 => xs.length ≤ sizeLine ∧ ∀ p, H1 p = none → Q (.ref p) (upd H1 p (.tup xs))
theorem pe_tup {x1} (h : PA X es t) : PE X (.Tuple es x1 pos) (tTup t) := by
  intro pins s σ H Q I hq
  refine wpAny_Tuple_spliced (thn (h pos pins s σ H _ I hq) fun us s1 ⟨xs, H1, I1, r, z, q⟩ => ⟨by rw [← r.length]; exact z, ?_⟩)
  have hf : H1 s1.heap.objs.size = none := I1.hok.fresh (Nat.le_refl _)
  refine ⟨.ref s1.heap.objs.size, upd H1 s1.heap.objs.size (.tup xs), I1.laid (t' := s1.toks) (fun b u e => Heap.get?_push_of_some _ e) (Nat.le_refl _) ?_, rfl, q _ hf⟩
  exact ⟨z, us, r, ⟨_, Heap.get?_push_size _ rfl, rfl, _, rfl⟩⟩
end
noncomputable abbrev Sp := List V → Hp → VK → XK → Prop
noncomputable abbrev CXT := List Env → Hp → Shared → XK → Value → Shared → Prop
structure Env0 (P : Program) (w : World) (K : PySem.W.Frag) (mg : Str → Option Value) (base : Heap) (A : Around) (outer : List Env) (s : Shared) (H : Hp) : Prop where
  frames : A.frames = some outer
  mod : Mod K mg base
  bs : ∀ b o, base.get? b = some o → s.heap.get? b = some o ∧ H b = none
  bsz : base.objs.size ≤ s.heap.objs.size
  funs : s.heap.FunFrames base outer
  frf : ∀ b ∈ frs outer, H b = none
  hok : HOk P w H s.heap
  bare : AllBare s.gens
noncomputable def CE (outer : List Env) (P : Program) (w : World) (H : Hp) (s : Shared) (Q : VK) (u : Value) (s' : Shared) : Prop :=
  ∃ v H', s'.os = s.os ∧ AllBare s'.gens ∧ Un (frs outer) [] H H' s.heap s'.heap ∧ HOk P w H' s'.heap ∧ RelV v u ∧ Q v H'
noncomputable def CR (CX : CXT) (outer : List Env) (P : Program) (w : World) (H : Hp) (s : Shared) (Q : VK) (E : XK) (r : Result) (s' : Shared) : Prop :=
  match r with
  | .ok (.ret u) => CE outer P w H s Q u s'
  | .ok _ => False
  | .error e => CX outer H s E e s'
structure FnOk (P : Program) (w : World) (K : PySem.W.Frag) (mg : Str → Option Value) (base : Heap) (CX : CXT) (k : Nat) (f : Addr) (fd : FuncData) (ps : List Str) (sp : Sp) : Prop where
  len : ∀ vs H Q E, sp vs H Q E → vs.length = ps.length
  run : ∀ (A : Around) (outer : List Env) (s : Shared) (H : Hp) (args : Args) (us : List Value) (vs : List V) (Q : VK) (E : XK), Room k A → Env0 P w K mg base A outer s H → BindsTo s fd args (ps.zip us) → Vals vs us → sp vs H Q E →
    codeAny (model P w) A (.call (.ref f) args) (CR CX outer P w H s Q E) s
theorem FnOk.mono {P : Program} {w : World} {K : PySem.W.Frag} {mg : Str → Option Value} {base : Heap} {CX : CXT} {j k : Nat} {f : Addr} {fd : FuncData} {ps : List Str} {sp : Sp} (F : FnOk P w K mg base CX j f fd ps sp) (h : j ≤ k) :
    FnOk P w K mg base CX k f fd ps sp := ⟨F.len, fun A outer s H args us vs Q E hr => F.run A outer s H args us vs Q E (hr.mono h)⟩
theorem Env0.make {P : Program} {w : World} {K : PySem.W.Frag} {mg : Str → Option Value} {base : Heap} {A : Around} {outer : List Env} {s : Shared} {H : Hp} (e : Env0 P w K mg base A outer s H) (C : Addr) (us : List Value) (kw : List (Str × Value)) :
    Env0 P w K mg base (A.under (.builtin "type.__call__" ⟨.ref C :: us, kw⟩)) outer s H := ⟨by first | exact e.frames | (simpa [Around.under, Code.envs, Code.isFrame, pushEnvs] using e.frames), e.mod, e.bs, e.bsz, e.funs, e.frf, e.hok, e.bare⟩
theorem Env0.in1 {P : Program} {w : World} {K : PySem.W.Frag} {mg : Str → Option Value} {base : Heap} {A : Around} {outer : List Env} {s : Shared} {H : Hp} (e : Env0 P w K mg base A outer s H) :
    Env0 P w K mg base A.in1 outer s H := ⟨e.frames, e.mod, e.bs, e.bsz, e.funs, e.frf, e.hok, e.bare⟩
section
variable {X : Cx} {pins : List (Addr × Obj)} {σ : St} {H : Hp} {s s' : Shared}
theorem Inv.env0 (I : Inv X pins σ H s) : Env0 X.prog X.w X.K X.mg X.base X.A X.stack s H :=
  ⟨I.ok.frames, I.ok.mod, I.bs, Nat.le_trans I.ok.bsz I.sz, I.stack, I.stkFree, I.hok, I.bare⟩
theorem Inv.after {Q : VK} {u : Value} (I : Inv X pins σ H s) (h : CE X.stack X.prog X.w H s Q u s') : EP X pins σ Q u s' := by
  obtain ⟨v, H', os, bare, un, hok, r, q⟩ := h
  obtain ⟨hh, g, d, t, os'⟩ := s'
  obtain rfl : os' = s.os := os
  exact ⟨v, H', I.call (h' := hh) (g' := g) (d' := d) (t' := t) (ch := []) un hok bare (fun b z => absurd z (by simp)), r, q⟩
end
noncomputable def tCall (sp : Sp) (dvs : List V) (E : XK) (t : TA) : TE := fun σ H Q => t σ H fun vs H1 => sp (vs ++ dvs) H1 Q E
noncomputable def tMake (C : Addr) (sp : Sp) (dvs : List V) (E : XK) (t : TA) : TE := fun σ H Q => t σ H fun vs H1 => ∀ x dx, H1 x = none → H1 dx = none → dx ≠ x →
  sp (.ref x :: (vs ++ dvs)) (upd (upd H1 dx (.own x)) x (.ins C dx [])) (fun v H2 => v = .non ∧ Q (.ref x) H2) E
noncomputable def Binds (K : PySem.W.Frag) (fd : FuncData) (ps : List Str) (ds : List Value) : Prop :=
  ∀ (s : Shared) (us : List Value), K.In s.heap → (us ++ ds).length = ps.length → BindsTo s fd ⟨us, []⟩ (ps.zip (us ++ ds))
theorem Binds.all {K : PySem.W.Frag} {fd : FuncData} {ps : List Str} (h : ∀ us : List Value, us.length = ps.length → bindArgs fd ⟨us, []⟩ = pure (ps.zip us)) : Binds K fd ps [] := fun s us _ hl => by
  rw [List.append_nil] at hl ⊢
  exact .of_eq (h us hl)
noncomputable def Passes (CX : CXT) (X : Cx) (E : XK) : Prop := ∀ (pins : List (Addr × Obj)) (σ : St) (H : Hp) (s : Shared) (e : Value) (s' : Shared), Inv X pins σ H s → CX X.stack H s E e s' → X.xe e s'
section
variable {X : Cx} {CX : CXT} {k : Nat} {f C : Addr} {fd : FuncData} {ps : List Str} {sp : Sp} {dvs : List V} {ds : List Value} {E : XK} {x m : Str} {p pos apos : Pos} {e o : Expr} {es : List Expr} {ta : TE} {t : TA}
theorem run_fn {pins : List (Addr × Obj)} {σ : St} {H : Hp} {s : Shared} {Q : VK} {us : List Value} {vs : List V} (F : FnOk X.prog X.w X.K X.mg X.base CX k f fd ps sp) (hr : Room k X.A) (hb : Binds X.K fd ps ds) (hd : Vals dvs ds) (hx : Passes CX X E)
    (I : Inv X pins σ H s) (r : Vals vs us) (h : sp (vs ++ dvs) H Q E) : wpAny (model X.prog X.w) X.A (call (.ref f) us) (EP X pins σ Q) X.xe s := by
  have r2 : Vals (vs ++ dvs) (us ++ ds) := r.append hd
  have hl : (us ++ ds).length = ps.length := by rw [← r2.length]; exact F.len _ _ _ _ h
  refine wpAny_call (codeAny_mono (F.run X.A X.stack s H ⟨us, []⟩ (us ++ ds) (vs ++ dvs) Q E hr I.env0 (hb s us I.kIn hl) r2 h) fun r s' hq => ?_)
  cases r with
  | error e => exact hx pins σ H s e s' I hq
  | ok fl =>
    cases fl with
    | ret u => exact I.after hq
    | next => exact False.elim hq
    | brk => exact False.elim hq
    | cont => exact False.elim hq
theorem pe_call (F : FnOk X.prog X.w X.K X.mg X.base CX k f fd ps sp) (hr : Room k X.A) (hg : Gl X x) (hm : X.mg x = some (.ref f)) (hk : PySem.W.keepIn X.K (.ref f) = true) (hb : Binds X.K fd ps ds) (hd : Vals dvs ds) (hx : Passes CX X E)
    (ha : PA X (e :: es) t) (hdb : (x == ("__debug__" : Str)) = false := by decide) (he : starEach (e :: es) X.env = (false, eval e X.env) :: starEach es X.env := by rfl) (hpl : (backTo pos (starEach es X.env)).any (·.1) = false := by rfl) :
    PE X (.Call (.Name x p) (e :: es) [] pos) (tCall sp dvs E t) := by
  intro pins s σ H Q I h
  refine wpAny_Call_Name_kw (ld_glob I hg hm ?_ hdb)
  refine PySem.W.callWith_K (h₀ := X.base) I.ok.mod.kin hk (thn (ha pos pins s σ H _ I h) fun us s1 ⟨vs, H1, I1, r, q⟩ => ⟨I1.kIn, ?_⟩) he hpl
  exact run_fn F hr hb hd hx I1 r q
structure Mk (K : PySem.W.Frag) (C f : Addr) : Prop where
  makes : PySem.W.makesIn K C = true
  init : PySem.W.findIn K (.ref C) "__init__" = some (some (.ref f))
  fn : PySem.W.isFn K (.ref f) = true
  kp : PySem.W.keepIn K (.ref C) = true
theorem run_make {pins : List (Addr × Obj)} {σ : St} {H : Hp} {s : Shared} {Q : VK} {us : List Value} {vs : List V} (M : Mk X.K C f) (F : FnOk X.prog X.w X.K X.mg X.base CX k f fd ps sp) (hr : Room (k + 1) X.A) (hb : Binds X.K fd ps ds) (hd : Vals dvs ds)
    (hx : Passes CX X E) (I : Inv X pins σ H s) (r : Vals vs us)
    (h : ∀ x dx, H x = none → H dx = none → dx ≠ x → sp (.ref x :: (vs ++ dvs)) (upd (upd H dx (.own x)) x (.ins C dx [])) (fun v H2 => v = .non ∧ Q (.ref x) H2) E) :
    wpAny (model X.prog X.w) X.A (call (.ref C) us) (EP X pins σ Q) X.xe s := by
  have hq := h (s.heap.objs.size + 1) s.heap.objs.size (I.hok.fresh (Nat.le_succ _)) (I.hok.fresh (Nat.le_refl _)) (Nat.ne_of_lt (Nat.lt_succ_self _))
  have I2 := Inv.made (C := C) I
  have r2 : Vals (V.ref (s.heap.objs.size + 1) :: (vs ++ dvs)) (Value.ref (s.heap.objs.size + 1) :: (us ++ ds)) := .cons rfl (r.append hd)
  have hl : (Value.ref (s.heap.objs.size + 1) :: us ++ ds).length = ps.length := by
    have e := r2.length
    rw [F.len _ _ _ _ hq] at e
    exact e.symm
  refine wpAny_call (make_map (f := f) I.kIn M.makes M.init (beq_iff_eq.mp M.fn) (codeAny_mono (F.run _ X.stack _ _ ⟨Value.ref (s.heap.objs.size + 1) :: us, []⟩ (Value.ref (s.heap.objs.size + 1) :: (us ++ ds)) _ _ E (hr.make C us [])
    (I2.env0.make C us []) (hb _ (Value.ref (s.heap.objs.size + 1) :: us) I2.kIn hl) r2 hq) fun r s' hq' => ?_))
  cases r with
  | error e => exact hx pins σ _ _ e s' I2 hq'
  | ok fl =>
    cases fl with
    | ret u =>
      obtain ⟨v, H', I3, rv, ev, q3⟩ := I2.after hq'
      subst ev
      exact ⟨rv, ⟨V.ref (s.heap.objs.size + 1), H', I3, rfl, q3⟩⟩
    | next => exact False.elim hq'
    | brk => exact False.elim hq'
    | cont => exact False.elim hq'
theorem pe_make (M : Mk X.K C f) (F : FnOk X.prog X.w X.K X.mg X.base CX k f fd ps sp) (hr : Room (k + 1) X.A) (hg : Gl X x) (hm : X.mg x = some (.ref C)) (hb : Binds X.K fd ps ds) (hd : Vals dvs ds) (hx : Passes CX X E)
    (ha : PA X (e :: es) t) (hdb : (x == ("__debug__" : Str)) = false := by decide) (he : starEach (e :: es) X.env = (false, eval e X.env) :: starEach es X.env := by rfl) (hpl : (backTo pos (starEach es X.env)).any (·.1) = false := by rfl) :
    PE X (.Call (.Name x p) (e :: es) [] pos) (tMake C sp dvs E t) := by
  intro pins s σ H Q I h
  refine wpAny_Call_Name_kw (ld_glob I hg hm ?_ hdb)
  refine PySem.W.callWith_K (h₀ := X.base) I.ok.mod.kin M.kp (thn (ha pos pins s σ H _ I h) fun us s1 ⟨vs, H1, I1, r, q⟩ => ⟨I1.kIn, ?_⟩) he hpl
  exact run_make M F hr hb hd hx I1 r q
end
section
variable {X : Cx} {CX : CXT} {k : Nat} {f C : Addr} {fd : FuncData} {ps ks : List Str} {sp : Sp} {E : XK} {x m : Str} {p pos apos kpos : Pos} {e o : Expr} {es : List Expr} {kws : List Keyword} {te ta : TE} {t tk : TA} {nm : Option Str}
variable {g : List Value → List Value → List Value} {gV : List V → List V → List V}
end
structure FnScope (N P : List Str) (sc : Scope) : Prop where
  kind : sc.kind = .function
  co : sc.isCoroutine = false
  gen : sc.isGenerator = false
  nd : N.Nodup
  pre : N.take P.length = P
  par : ∀ x ∈ P, sc.names.lookup x = some .local ∨ sc.names.lookup x = some .cell
  nofree : ∀ y ∈ sc.names, y.2 ≠ .free
theorem bindL_out {kindOf : Str → Option NameKind} {x : Str} : ∀ {binds : List (Str × Value)} {m : Str → Option Value}, (∀ v, (x, v) ∉ binds) → bindL kindOf binds m x = m x
  | [], _, _ => rfl
  | (n, v) :: r, m, h => by
    unfold bindL
    rw [bindL_out fun w hw => h w (List.mem_cons_of_mem _ hw)]
    split
    · have : x ≠ n := by rintro rfl; exact h v List.mem_cons_self
      simp [this]
    · rfl
theorem bindC_out {kindOf : Str → Option NameKind} {x : Str} : ∀ {binds : List (Str × Value)} {m : Str → Option Value}, (∀ v, (x, v) ∉ binds) → bindC kindOf binds m x = m x
  | [], _, _ => rfl
  | (n, v) :: r, m, h => by
    unfold bindC
    rw [bindC_out fun w hw => h w (List.mem_cons_of_mem _ hw)]
    split
    · rfl
    · have : x ≠ n := by rintro rfl; exact h v List.mem_cons_self
      simp [this]
theorem bindL_get {kindOf : Str → Option NameKind} {x : Str} {v : Value} : ∀ {P : List Str} {vs : List Value} {i : Nat} {m : Str → Option Value}, P.Nodup → P[i]? = some x → vs[i]? = some v → kindOf x = some .local →
    bindL kindOf (P.zip vs) m x = some v
  | [], _, _, _, _, h, _, _ => by simp at h
  | _ :: _, [], _, _, _, _, h, _ => by simp at h
  | p :: P, w :: vs, 0, m, nd, h1, h2, hk => by
    simp at h1 h2; subst h1; subst h2
    show bindL kindOf ((p, w) :: P.zip vs) m p = _
    unfold bindL
    rw [bindL_out fun v hv => (List.nodup_cons.mp nd).1 (List.of_mem_zip hv).1, if_pos hk]
    simp
  | p :: P, w :: vs, i + 1, m, nd, h1, h2, hk => by
    show bindL kindOf ((p, w) :: P.zip vs) m x = _
    unfold bindL
    exact bindL_get (i := i) (List.nodup_cons.mp nd).2 (by simpa using h1) (by simpa using h2) hk
theorem bindC_get {kindOf : Str → Option NameKind} {x : Str} {v : Value} : ∀ {P : List Str} {vs : List Value} {i : Nat} {m : Str → Option Value}, P.Nodup → P[i]? = some x → vs[i]? = some v → kindOf x ≠ some .local →
    bindC kindOf (P.zip vs) m x = some v
  | [], _, _, _, _, h, _, _ => by simp at h
  | _ :: _, [], _, _, _, _, h, _ => by simp at h
  | p :: P, w :: vs, 0, m, nd, h1, h2, hk => by
    simp at h1 h2; subst h1; subst h2
    show bindC kindOf ((p, w) :: P.zip vs) m p = _
    unfold bindC
    rw [bindC_out fun v hv => (List.nodup_cons.mp nd).1 (List.of_mem_zip hv).1, if_neg hk]
    simp
  | p :: P, w :: vs, i + 1, m, nd, h1, h2, hk => by
    show bindC kindOf ((p, w) :: P.zip vs) m x = _
    unfold bindC
    exact bindC_get (i := i) (List.nodup_cons.mp nd).2 (by simpa using h1) (by simpa using h2) hk
noncomputable def start (N : List Str) (vs : List V) : St := vs.map some ++ List.replicate (N.length - vs.length) none
noncomputable def cxOf (CX : CXT) (P : Program) (w : World) (K : PySem.W.Frag) (mg : Str → Option Value) (base : Heap) (N : List Str) (qual : Str) (scope : Scope) (f : Addr) (cd : Value) (A : Around) (outer : List Env) (s : Shared) (H : Hp) (E : XK) : Cx where
  prog := P
  w := w
  K := K
  mg := mg
  base := base
  A := A.deeper (envOfC qual scope s.heap.objs.size f cd)
  N := N
  s₀ := s
  H₀ := H
  env := envOfC qual scope s.heap.objs.size f cd
  outer := outer
  stack := envOfC qual scope s.heap.objs.size f cd :: outer
  ex := []
  calm := true
  fn := fun _ => true
  pn := []
  xe := fun e s' => wpAny (model P w) (A.deeper (envOfC qual scope s.heap.objs.size f cd)) (leaving (envOfC qual scope s.heap.objs.size f cd) e) (fun _ s'' => CX outer H s E e s'') (fun e' s'' => CX outer H s E e' s'') s'
theorem cell_has {sc : Scope} {n : Nat} {x : Str} (h : sc.names.lookup x = some .cell) : ∃ c, (cellsFrom n sc.names []).lookup x = some c := by
  have q := PySem.W.cellsFrom_some sc.names n [] (.inl h)
  exact Option.isSome_iff_exists.mp q
theorem inv_start {CX : CXT} {P : Program} {w : World} {K : PySem.W.Frag} {mg : Str → Option Value} {base : Heap} {N ps : List Str} {qual : Str} {scope : Scope} {f : Addr} {cd : Value} {A : Around} {outer : List Env} {s s1 : Shared} {H : Hp} {E : XK} {us : List Value} {vs : List V}
    (S : FnScope N ps scope) (hd : A.handled = none) (e0 : Env0 P w K mg base A outer s H) (hl : vs.length = ps.length) (r : Vals vs us)
    (x : InCallC s s.heap.objs.size (bindL (envOfC qual scope s.heap.objs.size f cd).kindOf (ps.zip us) fun _ => none) (cellsFrom (s.heap.objs.size + 1) scope.names []) (bindC (envOfC qual scope s.heap.objs.size f cd).kindOf (ps.zip us) fun _ => none) s1) :
    Inv (cxOf CX P w K mg base N qual scope f cd A outer s H E) [] (start N vs) H s1 := by
  have hpl : ps.length ≤ N.length := by have := congrArg List.length S.pre; rw [List.length_take] at this; omega
  obtain ⟨h1, tk, rfl, hk⟩ := x.done
  have noA : ∀ b : Addr, b ∉ (cxOf CX P w K mg base N qual scope f cd A outer s H E).ex := fun b z => absurd (show b ∈ ([] : List Addr) from z) (by simp)
  refine ⟨⟨e0.mod, S.kind, rfl, rfl, Nat.le_refl _, fun y z c h1 h2 => ?_, fun y hy => ?_, fun y c _ h => ?_, fun _ => hd, Around.frames_deeper e0.frames, .inr ⟨rfl, rfl⟩, fun b z => absurd z (noA b), e0.bs, e0.bsz, fun b _ _ => noA b, fun b z => absurd z (noA b), e0.funs, e0.frf⟩,
    rfl, e0.bare, Un.kept hk, ⟨_, x.toInCall.ns, fun i y v h1 h2 h3 => ?_⟩, fun y c h => ⟨_, x.cell y c h⟩, e0.hok.fresh (Nat.le_refl _), fun y c h => ?_, fun p hp => absurd (show p ∈ ([] : List (Addr × Obj)) from hp) (by simp), e0.hok.kept hk, ?_⟩
  · exact name_of_addr x.apart (PySem.mem_of_lookup h1) (PySem.mem_of_lookup h2)
  · have hy : scope.names.lookup y = some .cell ∨ scope.names.lookup y = some .free := hy
    rcases hy with hy | hy
    · exact cell_has hy
    · exact absurd rfl (S.nofree _ (PySem.mem_of_lookup hy))
  · exact Nat.le_of_lt (x.above y c (PySem.mem_of_lookup h))
  · have hi : i < vs.length := by
      unfold start at h2
      by_cases hi : i < vs.length
      · exact hi
      · rw [List.getElem?_append_right (by simpa using hi)] at h2
        rw [List.getElem?_replicate] at h2
        split at h2 <;> cases h2
    have ha : vs[i]? = some v := by
      unfold start at h2
      rw [List.getElem?_append_left (by simpa using hi), List.getElem?_map] at h2
      cases e : vs[i]? with
      | none => rw [e] at h2; cases h2
      | some a => rw [e] at h2; cases h2; rfl
    obtain ⟨u, hu, rv⟩ := r.get ha
    have hp : ps[i]? = some y := by
      rw [← S.pre, List.getElem?_take_of_lt (by omega)]; exact h1
    have ndP : ps.Nodup := by rw [← S.pre]; exact S.nd.sublist (List.take_sublist _ _)
    refine ⟨u, rv, ?_⟩
    rcases S.par y (List.mem_of_getElem? hp) with k | k
    · exact .inl ⟨k, bindL_get ndP hp hu k⟩
    · obtain ⟨c, e⟩ := cell_has (n := s.heap.objs.size + 1) k
      refine .inr ⟨.inl k, c, e, ?_⟩
      have q := x.cell y c e
      rw [bindC_get ndP hp hu (by show scope.names.lookup y ≠ _; rw [k]; decide)] at q
      exact q
  · exact e0.hok.fresh (Nat.le_of_lt (x.above y c (PySem.mem_of_lookup h)))
  · unfold start
    show _ = N.length
    rw [List.length_append, List.length_map, List.length_replicate]
    omega
theorem fn_of {CX : CXT} {P : Program} {w : World} {K : PySem.W.Frag} {mg : Str → Option Value} {base : Heap} {k : Nat} {f : Addr} {name qual : Str} {params : Arguments} {body : List Stmt} {scope : Scope} {dV kV doc pm cdv ct oc : Value} {an od : Option Addr}
    {osl : Array (Option Value)} {N ps : List Str} {sp : Sp} (lk : K.lookup f = some ⟨oc, od, .func (PySem.W.fnOf name qual params body scope dV kV doc pm an cdv ct), osl⟩) (hcd : PySem.W.codeIn K cdv qual = true) (S : FnScope N ps scope)
    (len : ∀ vs H Q E, sp vs H Q E → vs.length = ps.length)
    (hbody : ∀ (A : Around) (outer : List Env) (s : Shared) (H : Hp) (vs : List V) (Q : VK) (E : XK), Room k (A.deeper (envOfC qual scope s.heap.objs.size f cdv)) → sp vs H Q E →
      ∃ t, PSs (cxOf CX P w K mg base N qual scope f cdv A outer s H E) body t ∧ t { nx := fun _ H' => Q .non H', rt := Q } (start N vs) H) :
    FnOk P w K mg base CX (k + 1) f (PySem.W.fnOf name qual params body scope dV kV doc pm an cdv ct) ps sp := by
  refine ⟨len, fun A outer s H args us vs Q E hr e0 hb r hsp => ?_⟩
  have hl := len _ _ _ _ hsp
  have KX : K.In s.heap := e0.mod.kin.keeps fun b o e => (e0.bs b o e).1
  have lim : s.heap.NoLimit := e0.mod.nolimit.keeps fun b o e => (e0.bs b o e).1
  have hkind : ∀ y ∈ ps.zip us, scope.names.lookup y.1 = some .local ∨ (scope.names.lookup y.1 = some .cell ∧ ((cellsFrom (s.heap.objs.size + 1) scope.names []).lookup y.1).isSome = true) := fun ⟨n, v⟩ hy => by
    rcases S.par n (List.of_mem_zip hy).1 with q | q
    · exact .inl q
    · exact .inr ⟨q, PySem.W.cellsFrom_some _ _ _ (.inl q)⟩
  refine codeAny_call_function hr.depth (KX _ _ lk) rfl S.co S.gen rfl (PySem.W.codeRec_of KX hcd) (hb _ _ _ _ ?_)
  refine wpAny_newFunctionEnv_cells S.kind hkind fun env he s1 x => ?_
  subst he
  refine ⟨lim.keeps x.toInCall.keep, codeAny_func ?_⟩
  obtain ⟨t, ht, hq⟩ := hbody A outer s H vs Q E (hr.deeper _) hsp
  have I : Inv (cxOf CX P w K mg base N qual scope f cdv A outer s H E) [] (start N vs) H s1 := inv_start S hr.hd e0 hl r x
  refine wpAny_mono (ht [] s1 (start N vs) H _ I hq) (fun fl s' hs => ?_) fun e s' hs => hs
  have fin : ∀ {σ' : St} {H' : Hp} {v : V} {u : Value}, Inv (cxOf CX P w K mg base N qual scope f cdv A outer s H E) [] σ' H' s' → RelV v u → Q v H' → CE outer P w H s Q u s' :=
    fun {σ' H' v u} J rv q => ⟨v, H', J.os, J.bare, J.base, J.hok, rv, q⟩
  cases fl with
  | ret u =>
    obtain ⟨v, σ', H', J, rv, q⟩ := hs
    exact fin J rv q
  | next =>
    obtain ⟨σ', H', J, q⟩ := hs
    exact fin (v := V.non) (u := Value.none) J rfl q
  | brk =>
    obtain ⟨_, _, _, q⟩ := hs
    exact False.elim q
  | cont =>
    obtain ⟨_, _, _, q⟩ := hs
    exact False.elim q
end L2
namespace L2
open PySem PySem.Spec PyProof.Rows
section
variable {X : Cx} {x : Str} {p pos : Pos} {e : Expr} {es : List Expr} {t : TA} {id T : String} {r : List V → Hp → VK → Prop}
noncomputable def tCB (r : List V → Hp → VK → Prop) (t : TA) : TE := fun σ H Q => t σ H fun vs H1 => r vs H1 Q
theorem pe_callB (hc : CallR X (.builtin id) r) (hg : Gl X x) (hm : X.mg x = none) (hv : bootBuiltins x = some (.builtin id)) (ha : PA X (e :: es) t) (hn : x ≠ "__name__" := by decide) (hdb : (x == ("__debug__" : Str)) = false := by decide)
    (he : starEach (e :: es) X.env = (false, eval e X.env) :: starEach es X.env := by rfl) (hpl : (backTo pos (starEach es X.env)).any (·.1) = false := by rfl) : PE X (.Call (.Name x p) (e :: es) [] pos) (tCB r t) := by
  intro pins s σ H Q I h
  refine wpAny_Call_Name_kw (ld_blt I hg hm hv ?_ hn hdb)
  exact PyProof.Rows.callWith_builtin1 (thn (ha pos pins s σ H _ I h) fun us s1 ⟨vs, H1, I1, r1, q1⟩ => hc pins s1 σ H1 vs us Q I1 r1 q1) he hpl
theorem pe_callTy (hc : CallR X (.type T) r) (hg : Gl X x) (hm : X.mg x = none) (hv : bootBuiltins x = some (.type T)) (ha : PA X (e :: es) t) (hn : x ≠ "__name__" := by decide) (hdb : (x == ("__debug__" : Str)) = false := by decide)
    (he : starEach (e :: es) X.env = (false, eval e X.env) :: starEach es X.env := by rfl) (hpl : (backTo pos (starEach es X.env)).any (·.1) = false := by rfl) : PE X (.Call (.Name x p) (e :: es) [] pos) (tCB r t) := by
  intro pins s σ H Q I h
  refine wpAny_Call_Name_kw (ld_blt I hg hm hv ?_ hn hdb)
  exact PyProof.Rows.callWith_type1 (thn (ha pos pins s σ H _ I h) fun us s1 ⟨vs, H1, I1, r1, q1⟩ => hc pins s1 σ H1 vs us Q I1 r1 q1) he hpl
end
end L2
namespace HT
open PySem PyProof.Rows
section
open PySem.SeqAt
open PySem.AutoSeq1 (wpAny_loadPart')
open PySem.MeetsSeq PySem.MeetsSeq2 PySem.MeetsSeq3
end
section
variable {prog : Program} {w : World} {A : Around} {E : Value → Shared → Prop} {s : Shared}
noncomputable def sIx (n d : Nat) : Option Int → Nat
  | none => d
  | some v => if v < 0 then (v + (n : Int)).toNat else min v.toNat n
theorem sIx_none (n d : Nat) : sIx n d none = d := rfl
theorem sIx_nat (n d k : Nat) : sIx n d (some (k : Int)) = min k n := by
  show (if (k : Int) < 0 then ((k : Int) + (n : Int)).toNat else min (k : Int).toNat n) = min k n
  rw [if_neg (by omega), Int.toNat_natCast]
end
end HT
namespace L2
open PySem PySem.Spec PyProof.Rows
noncomputable abbrev TO := St → Hp → (Option Int → Hp → Prop) → Prop
noncomputable def PO (X : Cx) (e : Option Expr) (t : TO) : Prop :=
  ∀ (pins : List (Addr × Obj)) (s : Shared) (σ : St) (H : Hp) (Q : Option Int → Hp → Prop), Inv X pins σ H s → t σ H Q →
    wpAny (model X.prog X.w) X.A (evalPart e X.env) (fun u s' => ∃ o H', Inv X pins σ H' s' ∧ IsPart u o ∧ Q o H') X.xe s
noncomputable def tNoPart : TO := fun _ H Q => Q none H
noncomputable def tPart (t : TE) : TO := fun σ H Q => t σ H fun x H1 => ∃ i, x = .int i ∧ Q (some i) H1
section
variable {X : Cx} {e : Expr} {te : TE} {lo hi : Option Expr} {tl th : TO} {pos p2 : Pos}
theorem po_none : PO X none tNoPart := by
  intro pins s σ H Q I h
  rw [evalPart_none]
  exact wpAny_pure ⟨none, H, I, .none, h⟩
theorem po_some (h : PE X e te) : PO X (some e) (tPart te) := by
  intro pins s σ H Q I hw
  rw [evalPart_some]
  refine thn (h pins s σ H _ I hw) fun u s1 ⟨x, H1, I1, r1, q1⟩ => ?_
  obtain ⟨i, rfl, q⟩ := q1
  obtain ⟨t, rfl⟩ := r1
  exact ⟨some i, H1, I1, .int i t, q⟩
noncomputable def SlR (X : Cx) (r : V → Option Int → Option Int → Hp → VK → Prop) : Prop :=
  ∀ (pins : List (Addr × Obj)) (s : Shared) (σ : St) (H : Hp) (x : V) (v vl vu : Value) (lo hi : Option Int) (sl : Addr) (Q : VK), Inv X pins σ H s → RelV x v → s.heap.IsSliceOf sl vl vu .none → IsPart vl lo → IsPart vu hi → r x lo hi H Q →
    ∃ T id, typeLookup (.type T) "__getitem__" = pure (some (.builtin id)) ∧ s.TypeIs v T ∧ wpAny (model X.prog X.w) X.A (getItem v (.ref sl)) (EP X pins σ Q) X.xe s
noncomputable def tSl (r : V → Option Int → Option Int → Hp → VK → Prop) (te : TE) (tl th : TO) : TE := fun σ H Q => te σ H fun x H1 => tl σ H1 fun l H2 => th σ H2 fun u H3 => r x l u H3 Q
theorem pe_slice {r : V → Option Int → Option Int → Hp → VK → Prop} (hr : SlR X r) (he : PE X e te) (hl : PO X lo tl) (hu : PO X hi th) : PE X (.Subscript e (.Slice lo hi none p2) pos) (tSl r te tl th) := by
  intro pins s σ H Q I h
  refine Subscript_ (thn (he pins s σ H _ I h) fun v s1 ⟨x, H1, I1, r1, q1⟩ => ?_)
  refine wpAny_Slice (thn (hl pins s1 σ H1 _ I1 q1) fun vl s2 ⟨l, H2, I2, pl, q2⟩ => thn (hu pins s2 σ H2 _ I2 q2) fun vu s3 ⟨u, H3, I3, pu, q3⟩ => ?_)
  rw [evalPart_none]
  refine wpAny_pure ?_
  have I4 : Inv X pins σ H3 { s3 with heap := s3.heap.push { cls := .type "slice", data := .fields #[vl, vu, .none] } } := I3.kept (t' := s3.toks) fun b ob q => Heap.get?_push_of_some _ q
  obtain ⟨T, id, hT, ht, hg⟩ := hr pins { s3 with heap := s3.heap.push { cls := .type "slice", data := .fields #[vl, vu, .none] } } σ H3 x v vl vu l u s3.heap.objs.size Q I4 r1 (Heap.IsSliceOf.new ..) pl pu q3
  show wpAny (model X.prog X.w) X.A (subscriptTail e (.Slice lo hi none p2) v (.ref s3.heap.objs.size)) (EP X pins σ Q) X.xe { s3 with heap := s3.heap.push { cls := .type "slice", data := .fields #[vl, vu, .none] } }
  exact tail_any (ops := [.ref s3.heap.objs.size, v]) ht hT hg (by with_unfolding_all rfl)
noncomputable def cutV (xs : List V) (lo hi : Option Int) : List V := (xs.drop (HT.sIx xs.length 0 lo)).take (HT.sIx xs.length xs.length hi - HT.sIx xs.length 0 lo)
theorem cutV_length (xs : List V) (lo hi : Option Int) : (cutV xs lo hi).length ≤ xs.length := by
  unfold cutV
  rw [List.length_take, List.length_drop]
  omega
end
end L2
namespace L2
open PySem PySem.Spec PyProof.Rows
noncomputable def ixN (n : Nat) (i : Int) : Option Nat := if 0 ≤ i then (if i < n then some i.toNat else none) else if -(n : Int) ≤ i then some (i + n).toNat else none
noncomputable def atI {α : Type} (xs : List α) (i : Int) : Option α := (ixN xs.length i).bind fun j => xs[j]?
theorem ixN_seq {n : Nat} {i : Int} {j : Nat} (h : ixN n i = some j) : seqIndex? i n = some j ∧ j < n ∧ -(n : Int) ≤ i ∧ i < n := by
  unfold ixN at h
  by_cases h0 : 0 ≤ i
  · rw [if_pos h0] at h
    by_cases h1 : i < n
    · rw [if_pos h1] at h
      have e : i.toNat = j := Option.some.inj h
      exact ⟨by rw [seqIndex_of h0 h1, e], by omega, by omega, h1⟩
    · rw [if_neg h1] at h; cases h
  · rw [if_neg h0] at h
    by_cases h1 : -(n : Int) ≤ i
    · rw [if_pos h1] at h
      have e : (i + n).toNat = j := Option.some.inj h
      exact ⟨by rw [seqIndex_neg (by omega) h1, e], by omega, h1, by omega⟩
    · rw [if_neg h1] at h; cases h
theorem atI_get {α : Type} {xs : List α} {i : Int} {v : α} (h : atI xs i = some v) : ∃ j, seqIndex? i xs.length = some j ∧ xs[j]? = some v ∧ j < xs.length ∧ -(xs.length : Int) ≤ i ∧ i < xs.length := by
  unfold atI at h
  cases e : ixN xs.length i with
  | none => rw [e] at h; cases h
  | some j =>
    rw [e] at h
    obtain ⟨h1, h2, h3, h4⟩ := ixN_seq e
    exact ⟨j, h1, h, h2, h3, h4⟩
theorem atI_nat {α : Type} {xs : List α} {j : Nat} {v : α} (h : xs[j]? = some v) : atI xs (j : Int) = some v := by
  have hj : j < xs.length := (List.getElem?_eq_some_iff.mp h).1
  have e : ixN xs.length (j : Int) = some j := by
    unfold ixN
    rw [if_pos (by omega), if_pos (by omega)]; simp
  unfold atI; rw [e]; exact h
noncomputable def PlainIx (b : Expr) : Prop := ∀ o i, subscripted b false o i = operate [o, i] (getItem o i)
noncomputable def IxR (X : Cx) (r : R2) : Prop :=
  ∀ (value slice : Expr) (pins : List (Addr × Obj)) (s : Shared) (σ : St) (H : Hp) (x y : V) (v u : Value) (Q : VK), Inv X pins σ H s → RelV x v → RelV y u → r x y H Q →
    subscripted slice false v u = operate [v, u] (getItem v u) → wpAny (model X.prog X.w) X.A (subscriptTail value slice v u) (EP X pins σ Q) X.xe s
noncomputable def MtR (X : Cx) (id : String) (r : V → List V → Hp → VK → Prop) : Prop :=
  ∀ (pins : List (Addr × Obj)) (s : Shared) (σ : St) (H : Hp) (x : V) (xs : List V) (v : Value) (us : List Value) (Q : VK), Inv X pins σ H s → RelV x v → Vals xs us → r x xs H Q →
    wpAny (model X.prog X.w) X.A (call (.builtin id) (v :: us)) (EP X pins σ Q) X.xe s
section
variable {X : Cx} {a b : Expr} {ta tb : TE} {pos : Pos}
theorem pe_ix {r : R2} (hr : IxR X r) (ha : PE X a ta) (hb : PE X b tb) (hs : PlainIx b) : PE X (.Subscript a b pos) (tOp r ta tb) := by
  intro pins s σ H Q I h
  exact Subscript_ (binT ha hb I h fun v u s2 x y H2 I2 rx ry q => hr a b pins s2 σ H2 x y v u Q I2 rx ry q (hs _ _))
noncomputable def rIxL (K : PySem.W.Frag) : R2 := fun x y H Q => ∃ p xs i v, x = .ref p ∧ y = .int i ∧ SqL K H p xs ∧ atI xs i = some v ∧ Q v H
noncomputable def rIxT (K : PySem.W.Frag) : R2 := fun x y H Q => ∃ p xs i v, x = .ref p ∧ y = .int i ∧ SqT K H p xs ∧ atI xs i = some v ∧ Q v H
theorem ix_list : IxR X (rIxL X.K) := by
  intro value slice pins s σ H x y v u Q I rx ry h hs
  obtain ⟨p, xs, i, z, rfl, rfl, hq, he, q⟩ := h
  cases rx
  obtain ⟨t, rfl⟩ := ry
  obtain ⟨its, r, pl, hz⟩ := I.list hq
  obtain ⟨j, h1, h2, h3, h4, h5⟩ := atI_get he
  obtain ⟨w, ew, rw'⟩ := r.get h2
  have hl := r.length
  have hn := line63
  have fin : EP X pins σ Q w s := ⟨z, H, I, rw', q⟩
  by_cases h0 : 0 ≤ i
  · have hj : i.toNat = j := by
      rw [seqIndex_of h0 h5] at h1
      exact Option.some.inj h1
    exact item_listR pl.isList h0 (by omega) (by rw [hj]; simpa using ew) fin hs
  · have hj : (i + (its.toArray.size : Int)).toNat = j := by
      rw [seqIndex_neg (by omega) h4] at h1
      rw [List.size_toArray, ← hl]
      exact Option.some.inj h1
    exact subscriptTail_builtinR (x := w) pl.isList.typeIs slot_list_getitem.lookup
      (wpAny_getItem_list_neg (Q := fun r s' => r = w ∧ EP X pins σ Q r s') pl.isList (by omega) (by rw [List.size_toArray] <;> omega) (by omega) (by rw [hj]; simpa using ew) ⟨rfl, fin⟩) hs
theorem ix_tup : IxR X (rIxT X.K) := by
  intro value slice pins s σ H x y v u Q I rx ry h hs
  obtain ⟨p, xs, i, z, rfl, rfl, hq, he, q⟩ := h
  cases rx
  obtain ⟨t, rfl⟩ := ry
  obtain ⟨its, r, pl, hz⟩ := I.tuple hq
  obtain ⟨j, h1, h2, h3, h4, h5⟩ := atI_get he
  obtain ⟨w, ew, rw'⟩ := r.get h2
  have hl := r.length
  have hn := line63
  have fin : EP X pins σ Q w s := ⟨z, H, I, rw', q⟩
  exact subscriptTail_builtinR (x := w) pl.typeIs slot_tuple_getitem.lookup
    (getItem_tuple (j := j) (Q := fun r s' => r = w ∧ EP X pins σ Q r s') pl (by omega) (by omega) (by rw [List.size_toArray, ← hl]; exact h1) (by simpa using ew) ⟨rfl, fin⟩) hs
theorem Inv.lst {pins : List (Addr × Obj)} {σ : St} {H : Hp} {s : Shared} {p : Addr} {xs : List V} (I : Inv X pins σ H s) (h : H p = some (.lst xs)) :
    ∃ (its : List Value) (n : Nat), Vals xs its ∧ s.heap.get? p = some { cls := .type "list", data := .seq its.toArray n } ∧ xs.length ≤ sizeLine := by
  obtain ⟨z, its, n, r, e⟩ := I.hok p _ h
  exact ⟨its, n, r, e, z⟩
theorem slice_bounds (lo hi : Option Int) (n : Nat) : (sliceBounds lo hi none n).1 = ((HT.sIx n 0 lo : Nat) : Int) ∧ (sliceBounds lo hi none n).2.1 = ((HT.sIx n n hi : Nat) : Int) ∧ (sliceBounds lo hi none n).2.2 = 1 := by
  refine ⟨?_, ?_, rfl⟩
  · cases lo with
    | none => simp [sliceBounds, HT.sIx]
    | some i =>
      simp only [sliceBounds, HT.sIx, Option.getD_none, show (1 : Int) > 0 by decide, if_true]
      by_cases h : i < 0
      · simp only [h, if_true] <;> omega
      · simp only [h, if_false] <;> omega
  · cases hi with
    | none => simp [sliceBounds, HT.sIx]
    | some i =>
      simp only [sliceBounds, HT.sIx, Option.getD_none, show (1 : Int) > 0 by decide, if_true]
      by_cases h : i < 0
      · simp only [h, if_true] <;> omega
      · simp only [h, if_false] <;> omega
theorem slicePick_cut (its : List Value) (lo hi : Option Int) : slicePick its.toArray lo hi none = ((its.drop (HT.sIx its.length 0 lo)).take (HT.sIx its.length its.length hi - HT.sIx its.length 0 lo)).toArray := by
  obtain ⟨h1, h2, h3⟩ := slice_bounds lo hi its.toArray.size
  unfold slicePick
  rw [h1, h2, h3]
  simp only [sliceRange_one, pick_run, List.size_toArray] <;> rfl
noncomputable def rSlL (K : PySem.W.Frag) : V → Option Int → Option Int → Hp → VK → Prop := fun x lo hi H Q => ∃ a xs, x = .ref a ∧ SqL K H a xs ∧ ∀ p, H p = none → Q (.ref p) (upd H p (.lst (cutV xs lo hi)))
theorem sl_list : SlR X (rSlL X.K) := by
  intro pins s σ H x v vl vu lo hi sl Q I rx hs pl pu h
  obtain ⟨a, xs, rfl, hx, q⟩ := h
  cases rx
  obtain ⟨its, r, ht, hz⟩ := I.list hx
  have hlen := r.length
  refine ⟨"list", _, slot_list_getitem.lookup, ht.isList.typeIs, ?_⟩
  refine wpAny_getItem_list_slice ht.isList hs pl pu .none (by simp) ?_ (by rw [List.size_toArray] <;> omega)
  rw [slicePick_cut, ← hlen]
  refine ⟨.ref s.heap.objs.size, _, I.laid (t' := s.toks) (o := .lst (cutV xs lo hi)) (fun b ob q => Heap.get?_push_of_some _ q) (Nat.le_refl _) ?_, rfl, q _ (I.hok.fresh (Nat.le_refl _))⟩
  exact ⟨Nat.le_trans (cutV_length xs lo hi) hz, _, 0, (r.drop (HT.sIx xs.length 0 lo)).take (HT.sIx xs.length xs.length hi - HT.sIx xs.length 0 lo), Heap.get?_push_size _ rfl⟩
theorem call_len_seq : CallR X (.builtin "len") (fun xs H Q => ∃ p ys, xs = [.ref p] ∧ (SqL X.K H p ys ∨ SqT X.K H p ys) ∧ Q (.int ys.length) H) := by
  intro pins s σ H xs us Q I r h
  obtain ⟨p, ys, rfl, hq, q⟩ := h
  obtain ⟨u, rfl, rx⟩ := vals1 r
  cases rx
  have hn := line63
  rcases hq with hq | hq
  · obtain ⟨its, r', pl, hz⟩ := I.list hq
    have hlen := r'.length
    exact Calls.call_len_list pl.isList (by simp only [List.size_toArray] <;> omega) ⟨.int ys.length, H, I.tok _, ⟨s.toks + 1, by rw [List.size_toArray, hlen]⟩, q⟩
  · obtain ⟨its, r', pl, hz⟩ := I.tuple hq
    have hlen := r'.length
    exact len_tuple pl (by simp only [List.size_toArray] <;> omega) ⟨.int ys.length, H, I.tok _, ⟨s.toks + 1, by rw [List.size_toArray, hlen]⟩, q⟩
theorem call_list_of : CallR X (.type "list") (fun xs H Q => ∃ p ys, xs = [.ref p] ∧ (SqL X.K H p ys ∨ SqT X.K H p ys) ∧ ∀ l, H l = none → Q (.ref l) (upd H l (.lst ys))) := by
  intro pins s σ H xs us Q I r h
  obtain ⟨p, ys, rfl, hq, q⟩ := h
  obtain ⟨u, rfl, rx⟩ := vals1 r
  cases rx
  have fin : ∀ (its : List Value), Vals ys its → ys.length ≤ sizeLine → ∀ (h' : Heap) (c' : Nat), (∀ b o', s.heap.get? b = some o' → h'.get? b = some o') →
      h'.get? s.heap.objs.size = some { cls := .type "list", dict := none, data := .seq its.toArray c', slots := #[] } → EP X pins σ Q (.ref s.heap.objs.size) { s with heap := h' } := fun its r' hz h' c' kp e =>
    ⟨.ref s.heap.objs.size, _, I.laid (t' := s.toks) kp (Nat.le_refl _) (show ObjOk X.prog X.w _ h' _ (.lst ys) from ⟨hz, its, c', r', e⟩), rfl, q _ (I.hok.fresh (Nat.le_refl _))⟩
  rcases hq with hq | hq
  · obtain ⟨its, r', pl, hz⟩ := I.list hq
    have hlen := r'.length
    obtain ⟨o, ho, hc, n, hd⟩ := pl.isList
    exact call_list_seq p (.inl rfl) ho hc hd (fun h' c' kp e => fin its r' hz h' c' kp e) (by simp only [List.size_toArray] <;> omega)
  · obtain ⟨its, r', pl, hz⟩ := I.tuple hq
    have hlen := r'.length
    obtain ⟨o, ho, hc, n, hd⟩ := pl
    exact call_list_seq p (.inr rfl) ho hc hd (fun h' c' kp e => fin its r' hz h' c' kp e) (by simp only [List.size_toArray] <;> omega)
theorem call_tuple_of : CallR X (.type "tuple") (fun xs H Q => ∃ p ys, xs = [.ref p] ∧ ((SqL X.K H p ys ∧ ∀ l, H l = none → Q (.ref l) (upd H l (.tup ys))) ∨ (SqT X.K H p ys ∧ Q (.ref p) H))) := by
  intro pins s σ H xs us Q I r h
  obtain ⟨p, ys, rfl, h⟩ := h
  obtain ⟨u, rfl, rx⟩ := vals1 r
  cases rx
  rcases h with ⟨hq, q⟩ | ⟨hq, q⟩
  · obtain ⟨its, r', pl, hz⟩ := I.list hq
    have hlen := r'.length
    refine call_tuple_list pl.isList (fun h' kp => ?_) (by simp only [List.size_toArray] <;> omega)
    have I1 : Inv X pins σ H { s with heap := h' } := I.kept (t' := s.toks) kp
    have I2 : Inv X pins σ (upd H h'.objs.size (.tup ys)) { s with heap := h'.push { cls := .type "tuple", data := .seq its.toArray } } :=
      I1.laid (t' := s.toks) (fun b o e => Heap.get?_push_of_some _ e) (Nat.le_refl _) (show ObjOk X.prog X.w _ _ _ (.tup ys) from ⟨hz, its, r', IsTup.new _ _⟩)
    exact ⟨.ref h'.objs.size, _, I2, rfl, q _ (I1.hok.fresh (Nat.le_refl _))⟩
  · obtain ⟨its, r', pl, hz⟩ := I.tuple hq
    exact call_tuple_same pl ⟨.ref p, H, I, rfl, q⟩
noncomputable def tyV (K : PySem.W.Frag) (T : String) (x : V) (H : Hp) : Prop := match x with
  | .str _ => T = "str"
  | .int _ => T = "int"
  | .ref p => (T = "list" ∧ ∃ xs, SqL K H p xs) ∨ (T = "tuple" ∧ ∃ o, K.lookup p = some o ∧ o.cls = .type "tuple" ∧ o.dict = none) ∨
      (T = "dict" ∧ ((∃ kvs, H p = some (.dK kvs)) ∨ ∃ kvs, H p = some (.dT kvs))) ∨ (T = "set" ∧ ∃ S n, H p = some (.set S n))
  | _ => False
theorem tyV_is {pins : List (Addr × Obj)} {σ : St} {H : Hp} {s : Shared} {T : String} {x : V} {v : Value} (I : Inv X pins σ H s) (r : RelV x v) (ty : tyV X.K T x H) :
    s.TypeIs v T ∧ ∀ a, v = .ref a → ∃ ob, s.heap.get? a = some ob ∧ ob.dict = none := by
  cases x with
  | str z =>
    obtain ⟨t, rfl⟩ := r
    cases (show T = "str" from ty)
    exact ⟨typeIs_str s z t, fun _ e => nomatch e⟩
  | int i =>
    obtain ⟨t, rfl⟩ := r
    cases (show T = "int" from ty)
    exact ⟨typeIs_int s i t, fun _ e => nomatch e⟩
  | ref p =>
    cases r
    rcases ty with ⟨rfl, xs, hq⟩ | ⟨rfl, o, hk, hc, hd⟩ | ⟨rfl, hk⟩ | ⟨rfl, S, n, hk⟩
    · obtain ⟨its, _, pl, _⟩ := I.list hq
      refine ⟨pl.isList.typeIs, fun a e => ?_⟩
      cases e
      obtain ⟨o, n, e, c, hd, _⟩ := pl
      exact ⟨o, e, hd⟩
    · refine ⟨⟨o, I.kIn p o hk, hc⟩, fun a e => ?_⟩
      cases e
      exact ⟨o, I.kIn _ o hk, hd⟩
    · have z : ∃ o, s.heap.get? p = some o ∧ o.ExactDict := by
        rcases hk with ⟨kvs, hk⟩ | ⟨kvs, hk⟩
        · obtain ⟨_, _, _, _, o, _, _, e, ex, _⟩ := I.hok p _ hk
          exact ⟨o, e, ex⟩
        · obtain ⟨_, _, _, _, o, _, _, e, ex, _⟩ := I.hok p _ hk
          exact ⟨o, e, ex⟩
      obtain ⟨o, e, ex⟩ := z
      refine ⟨⟨o, e, ex.1⟩, fun a e2 => ?_⟩
      cases e2
      exact ⟨o, e, ex.2.1⟩
    · obtain ⟨o, _, _, _, e, ex, _⟩ := I.hok p _ hk
      refine ⟨⟨o, e, ex.1⟩, fun a e2 => ?_⟩
      cases e2
      exact ⟨o, e, ex.2.1⟩
  | _ => exact False.elim ty
noncomputable def tBM (K : PySem.W.Frag) (T : String) (r : V → List V → Hp → VK → Prop) (to : TE) (t : TA) : TE := fun σ H Q => to σ H fun x H1 => tyV K T x H1 ∧ t σ H1 fun xs H2 => r x xs H2 Q
variable {o e : Expr} {es : List Expr} {to : TE} {t : TA} {name : Str} {apos cpos : Pos} {T id : String} {r : V → List V → Hp → VK → Prop}
theorem pe_bm (pa : PlainAttrs T) (slot : Slot T name id) (hty : typeOf (.builtin id) = pure (.type "method_descriptor")) (hm : MtR X id r) (ho : PE X o to) (ha : PA X (e :: es) t)
    (hbase : attributeBase o name X.env (eval o X.env) = eval o X.env := by rfl)
    (hfew : ((backTo cpos (starEach (e :: es) X.env)).all (fun x => !x.1) && (backToKw cpos (keywordEach [] X.env)).all (fun x => x.1.isSome)
      && decide ((e :: es).length + ([] : List Keyword).length + (if ([] : List Keyword).isEmpty then 0 else 1) < 30)) = true := by rfl)
    (hline : (apos.endLine == cpos.line) = true := by rfl) (hs : starEach (e :: es) X.env = (false, eval e X.env) :: starEach es X.env := by rfl) (hplain : (backTo cpos (starEach es X.env)).any (·.1) = false := by rfl) :
    PE X (.Call (.Attribute o name apos) (e :: es) [] cpos) (tBM X.K T r to t) := by
  intro pins s σ H Q I h
  refine wpAny_Call_method_late hbase hfew hline rfl (thn (ho pins s σ H _ I h) fun v s1 ⟨x, H1, I1, r1, ty, q1⟩ => ?_)
  obtain ⟨h1, h2⟩ := tyV_is I1 r1 ty
  refine ⟨T, id, pa, slot, hty, h1, h2, ?_⟩
  have hA := ha cpos pins s1 σ H1 _ I1 q1
  rw [hs] at hA ⊢
  refine Calls.callWith_builtin (by show (false || (backTo cpos (starEach es X.env)).any (·.1)) = false; rw [hplain] <;> rfl) (Calls.evalArgs_plain ?_)
  exact thn hA fun us s2 ⟨vs, H2, I2, r2, q2⟩ => hm pins s2 σ H2 x vs v us Q I2 r1 r2 q2
end
end L2
namespace L2
open PySem PySem.Spec PyProof.Rows
noncomputable def MtM (X : Cx) (id : String) (r : V → List V → Hp → VK → Prop) : Prop :=
  ∀ (pins : List (Addr × Obj)) (s : Shared) (σ : St) (H : Hp) (x : V) (xs : List V) (v : Value) (us : List Value) (Q : VK), Inv X pins σ H s → RelV x v → Vals xs us → r x xs H Q →
    wpAny (model X.prog X.w) X.A (call (.builtin id) (v :: us)) (EP X pins σ Q) X.xe s
theorem Vals.one : ∀ {x : V} {us : List Value}, Vals [x] us → ∃ u, us = [u] ∧ RelV x u
  | _, _, .cons r .nil => ⟨_, rfl, r⟩
theorem Vals.two : ∀ {x y : V} {us : List Value}, Vals [x, y] us → ∃ u v, us = [u, v] ∧ RelV x u ∧ RelV y v
  | _, _, _, .cons r (.cons q .nil) => ⟨_, _, rfl, r, q⟩
theorem Vals.zero : ∀ {us : List Value}, Vals [] us → us = []
  | _, .nil => rfl
theorem Vals.reverse {xs : List V} {us : List Value} (h : Vals xs us) : Vals xs.reverse us.reverse := by
  induction h with
  | nil => exact .nil
  | cons r t ih => rw [List.reverse_cons, List.reverse_cons]; exact Vals.append ih (.cons r .nil)
section
variable {X : Cx} {pins : List (Addr × Obj)} {σ : St} {H : Hp} {s : Shared} {l b : Addr} {xs ys zs : List V}
theorem Inv.lset {its its' : List Value} {n : Nat} {f : Array Value → Array Value} {t' : Nat} (I : Inv X pins σ H s) (hH : H l = some (.lst xs))
    (e : s.heap.get? l = some { cls := .type "list", data := .seq its.toArray n }) (hf : f its.toArray = its'.toArray) (hv : Vals ys its') (hz : ys.length ≤ sizeLine) :
    Inv X pins σ (upd H l (.lst ys)) { s with heap := s.heap.update l (Obj.mapSeq f), toks := t' } := by
  have q := PySem.IsL.update e f
  rw [hf] at q
  refine I.write (x := l) (e := l) (by rw [hH]; exact trivial) (.inl rfl) (fun b' u hb hu => (Heap.get?_update_other s.heap (Obj.mapSeq f) (Ne.symm hb)).trans hu) ⟨_, q⟩ ?_
  exact ⟨hz, its', _, hv, q⟩
theorem Inv.lnew {its : List Value} {t' : Nat} (I : Inv X pins σ H s) (hv : Vals ys its) (hz : ys.length ≤ sizeLine) :
    Inv X pins σ (upd H s.heap.objs.size (.lst ys)) { s with heap := s.heap.push { cls := .type "list", data := .seq its.toArray }, toks := t' } :=
  I.laid (fun _ _ q => Heap.get?_push_of_some _ q) (Nat.le_refl _) ⟨hz, its, 0, hv, Heap.get?_push_size _ rfl⟩
theorem Inv.fresh (I : Inv X pins σ H s) : H s.heap.objs.size = none := I.hok.fresh (Nat.le_refl _)
theorem Inv.lstM (I : Inv X pins σ H s) (hH : H l = some (.lst xs)) : xs.length ≤ sizeLine ∧ ∃ (its : List Value) (n : Nat), Vals xs its ∧ xs.length = its.length ∧ s.heap.get? l = some { cls := .type "list", data := .seq its.toArray n } := by
  obtain ⟨z, its, n, r, e⟩ := I.hok l _ hH
  exact ⟨z, its, n, r, r.length, e⟩
theorem notLongL {n : Nat} (h : n ≤ sizeLine) : Builtin.List.listTooLong n = false := by
  unfold Builtin.List.listTooLong
  exact decide_eq_false (by omega)
end
section
variable {X : Cx}
noncomputable def rAppend : V → List V → Hp → VK → Prop := fun x vs H Q => ∃ l xs y, x = .ref l ∧ vs = [y] ∧ H l = some (.lst xs) ∧ xs.length < sizeLine ∧ Q .non (upd H l (.lst (xs ++ [y])))
theorem mt_append : MtM X "list.append" rAppend := by
  intro pins s σ H x vs v us Q I rx rv h
  obtain ⟨l, xs, y, rfl, rfl, hH, hz, q⟩ := h
  cases rx
  obtain ⟨u, rfl, ru⟩ := rv.one
  obtain ⟨z, its, n, r, hl, e⟩ := I.lstM hH
  refine call_meets F.slot_list_append ⟨_, e, rfl⟩ F.entry_list_append (F.args_list_append_2 _ _) (PySem.list_append l its.toArray n u (by rw [List.size_toArray]; omega)) ⟨e, ?_⟩
  refine ⟨.non, _, I.lset (its' := its ++ [u]) hH e (by simp) (r.append (.cons ru .nil)) ?_, rfl, q⟩
  rw [List.length_append, List.length_singleton]
  omega
noncomputable def rExtend : V → List V → Hp → VK → Prop := fun x vs H Q => ∃ l b xs zs, x = .ref l ∧ vs = [.ref b] ∧ H l = some (.lst xs) ∧ H b = some (.lst zs) ∧ xs.length + zs.length ≤ sizeLine ∧ Q .non (upd H l (.lst (xs ++ zs)))
theorem mt_extend : MtM X "list.extend" rExtend := by
  intro pins s σ H x vs v us Q I rx rv h
  obtain ⟨l, b, xs, zs, rfl, rfl, hH, hB, hz, q⟩ := h
  cases rx
  obtain ⟨u, rfl, ru⟩ := rv.one
  cases ru
  obtain ⟨z, its, n, r, hl, e⟩ := I.lstM hH
  obtain ⟨z2, its2, n2, r2, hl2, e2⟩ := I.lstM hB
  have hsz : its.toArray.size + its2.toArray.size ≤ sizeLine := by rw [List.size_toArray, List.size_toArray]; omega
  have hlong : ¬ (!its.toArray.isEmpty && Builtin.List.listTooLong (its.toArray.size + its2.toArray.size)) = true := by
    rw [notLongL hsz, Bool.and_false]
    exact Bool.false_ne_true
  refine call_meets F.slot_list_extend ⟨_, e, rfl⟩ F.entry_list_extend (F.args_list_extend_2 _ _)
    (AutoSeq1.list_extend_list_list_0 l its.toArray n b its2.toArray n2 hlong (by rw [List.size_toArray]; omega) (by omega)) ⟨e, e2, ?_⟩
  refine ⟨.non, _, I.lset (its' := its ++ its2) hH e (by simp) (r.append r2) ?_, rfl, q⟩
  rw [List.length_append]
  omega
noncomputable def rCat : R2 := fun x y H Q => ∃ l b xs zs, x = .ref l ∧ y = .ref b ∧ H l = some (.lst xs) ∧ H b = some (.lst zs) ∧ xs.length + zs.length ≤ sizeLine ∧ ∀ p, H p = none → Q (.ref p) (upd H p (.lst (xs ++ zs)))
theorem op_cat : OpR X (binaryOp .Add) rCat := by
  intro pins s σ H x y v u Q I rx ry h
  obtain ⟨l, b, xs, zs, rfl, rfl, hH, hB, hz, q⟩ := h
  cases rx
  cases ry
  obtain ⟨z, its, n, r, hl, e⟩ := I.lstM hH
  obtain ⟨z2, its2, n2, r2, hl2, e2⟩ := I.lstM hB
  refine PySem.P.add_list e e2 ?_ (by rw [List.size_toArray, List.size_toArray]; omega)
  have ea : its.toArray ++ its2.toArray = (its ++ its2).toArray := by simp
  rw [ea]
  exact ⟨.ref _, _, I.lnew (t' := s.toks) (r.append r2) (by rw [List.length_append]; omega), rfl, q _ I.fresh⟩
end
section
variable {prog : Program} {w : World} {A : Around} {E : Value → Shared → Prop} {s : Shared}
end
section
variable {X : Cx}
end
end L2
namespace Att
open PySem PySem.W PySem.Calls PyProof.Rows
theorem ints_of_wellAll {P : Params} {h : Heap} : ∀ (ns : List Int) (vs : List Value), WellAll P h vs (ns.map WData.int) → IntsAre vs ns := by
  intro ns
  induction ns with
  | nil =>
    intro vs w
    rw [List.map_nil] at w
    cases w
    exact .nil
  | cons n ns ih =>
    intro vs w
    rw [List.map_cons] at w
    cases w with
    | cons a b =>
      cases a
      exact .cons _ _ (ih _ b)
theorem script_of {l : OpenLaw} {n : Nat} (hn : l.most = some n) {P : Params} {h : Heap} {args : List WData} {vals : List Value}
    (hpre : l.row.toRowW.claim.pre args = true) (hwl : WellAll P h vals args) :
    ∃ a vs ns, vals = [Value.ref a] ∧ args = [WData.list (ns.map WData.int)] ∧ h.get? a = some { cls := .type "list", data := .seq vs.toArray } ∧ IntsAre vs ns ∧ ns.length ≤ n := by
  have hsh : WShape.hasAll [] args [.list .int] = true := (pre_splitW hpre).1
  have hc : l.pre.holds [] { args := args } = true := (pre_splitW hpre).2
  obtain ⟨d, r, rfl, h1, h2⟩ := hasAllW_cons hsh
  obtain rfl := hasAllW_nil h2
  obtain ⟨xs, rfl, h3⟩ := hasW_list h1
  obtain ⟨ns, rfl⟩ := items_int h3
  have hlen : ns.length ≤ n := by
    unfold OpenLaw.pre at hc
    have h4 : (WTm.not (.lt (.lit (.int (n : Int))) (.len (.arg 0)))).holds [] { args := [.list (ns.map .int)] } = true := by
      have h4 := (holds_andW hc).1
      rw [hn] at h4
      exact h4
    have h5 := condW_of h4 (w_not (w_lt w_lit (w_len_list (w_arg rfl))))
    rw [List.length_map] at h5
    refine Nat.le_of_not_lt fun q => ?_
    have q' : (n : Int) < ((ns.length : Nat) : Int) := by omega
    first
      | (rw [decide_eq_true q'] at h5; exact absurd h5 (by decide))
      | (simp at h5; omega)
  cases hwl with
  | cons w1 w2 =>
    cases w2
    cases w1 with
    | list ho hall => exact ⟨_, _, ns, rfl, rfl, ho, ints_of_wellAll ns _ hall, hlen⟩
theorem post_true (l : OpenLaw) (args : List WData) : l.row.toRowW.claim.post args (.bool true) args = true :=
  postW_of (r := l.row.toRowW) (X := (true == true))
    (show WShape.has [] (.bool true) .bool = true by first | rfl | decide | simp [WShape.has, WShape.arms, WShape.armsAll])
    (show (WTm.eq .res (.lit (.bool true))).value [] { args := args, res := some (.bool true), after := args } = some (.bool (true == true)) from w_eq_bool (w_res rfl) w_lit) rfl
section
variable {prog : Program} {w : World} {A : Around} {E : Value → Shared → Prop} {s : Shared} {K : Frag}
end
end Att
namespace L2
open PySem PySem.Spec PyProof.Rows
theorem vals_ints : ∀ {vs : List Value} {ns : List Int}, IntsAre vs ns → Vals (ns.map V.int) vs
  | _, _, .nil => .nil
  | _, _, .cons n t h => .cons ⟨t, rfl⟩ (vals_ints h)
noncomputable def Only (H : Hp) : Prop := ∀ b, H b = none ∨ ∃ o xs, H b = some (.frz o (.lst xs))
theorem law_call {P : Program} {w : World} {K : PySem.W.Frag} {mg mb : Str → Option Value} {CX : CXT} {k : Nat} {fa a : Addr} {fd : FuncData} {x : Str} {sp : Sp} {s₁ : Shared} {vs : List Value} {ns : List Int}
    (KX : K.In s₁.heap) (hns : s₁.heap.Ns mainGlobals mg) (hb : s₁.heap.Ns builtinsNs mb) (hbb : ∀ x : Str, x ≠ "__name__" → mb x = bootBuiltins x) (hlim : s₁.heap.NoLimit) (hg : s₁.gens = #[])
    (ha : s₁.heap.get? a = some { cls := .type "list", data := .seq vs.toArray }) (hi : IntsAre vs ns) (hl : ns.length ≤ sizeLine) (hr : Room k callerA)
    (F : ∀ base : Heap, K.In base → base.Ns mainGlobals mg → FnOk P w K mg base CX k fa fd [x] sp) (hbind : ∀ (s : Shared) (u : Value), BindsTo s fd ⟨[u], []⟩ [(x, u)])
    (hsp : ∀ H : Hp, Only H → SqL K H a (ns.map V.int) → sp [.ref a] H (fun v _ => v = .bl true) fun _ _ _ => False)
    (hCX : ∀ H e s', CX [] H s₁ (fun _ _ _ => False) e s' → False) :
    codeAny (model P w) callerA (.call (.ref fa) ⟨[.ref a], []⟩) (fun r s' => r = .ok (.ret (.bool true)) ∧ OldK s₁.heap s'.heap ∧ s'.os = s₁.os ∧ AllBare s'.gens) s₁ := by
  have rv := vals_ints hi
  have lenV := hi.length
  have core : ∀ H : Hp, Only H → SqL K H a (ns.map V.int) → HOk P w H s₁.heap → (∀ b, H b ≠ none → b = a) → (H a ≠ none → K.lookup a = none) →
      codeAny (model P w) callerA (.call (.ref fa) ⟨[.ref a], []⟩) (fun r s' => r = .ok (.ret (.bool true)) ∧ OldK s₁.heap s'.heap ∧ s'.os = s₁.os ∧ AllBare s'.gens) s₁ := by
    intro H hO hS hok hA hK
    have base_of : ∀ {b : Addr} {o : Obj}, s₁.heap.get? b = some o → H b = none → (hidT s₁.heap H).get? b = some o := fun e n => hidT_get e n
    have noA : ∀ {b : Addr} {o : Obj} {es : Array DictEntry} {ep : Nat}, s₁.heap.get? b = some o → o.data = .dict es ep → H b = none := fun {b o es ep} e d => by
      cases q : H b with
      | none => rfl
      | some u =>
        have e' : b = a := hA b (by rw [q]; simp)
        subst e'
        rw [ha] at e; cases e
        have d' : Data.seq vs.toArray _ = Data.dict es ep := d
        cases d'
    have nsK : ∀ {b : Addr} {m : Str → Option Value}, s₁.heap.Ns b m → (hidT s₁.heap H).Ns b m := fun {b m} ⟨o, es, ep, e, d, r⟩ => ⟨o, es, ep, base_of e (noA e d), d, r⟩
    have hKb : K.In (hidT s₁.heap H) := fun b o e => base_of (KX b o e) (by
      cases q : H b with
      | none => rfl
      | some u =>
        have e' : b = a := hA b (by rw [q]; simp)
        subst e'
        rw [hK (by rw [q]; simp)] at e; cases e)
    have hM : Mod K mg (hidT s₁.heap H) := ⟨hKb, nsK hns, ⟨mb, nsK hb, hbb⟩, let ⟨mc, h1, h2⟩ := hlim; ⟨mc, nsK h1, h2⟩⟩
    have e0 : Env0 P w K mg (hidT s₁.heap H) callerA [] s₁ H := ⟨rfl, hM, fun b o e => of_hidT e, Nat.le_of_eq (hidT_size _ _), trivial, fun b hb => absurd (show b ∈ ([] : List Addr) from hb) (by simp), hok, .of_eq hg⟩
    refine codeAny_mono ((F _ hKb (nsK hns)).run callerA [] s₁ H ⟨[.ref a], []⟩ [.ref a] [.ref a] _ _ hr e0 (hbind s₁ (.ref a)) (.cons rfl .nil) (hsp H hO hS)) fun r s' h => ?_
    cases r with
    | error e => exact (hCX H e s' h).elim
    | ok fl =>
      cases fl with
      | next => exact False.elim h
      | brk => exact False.elim h
      | cont => exact False.elim h
      | ret u =>
        obtain ⟨v, H', os, bare, un, hok', r', q⟩ := h
        have q' : v = .bl true := q
        subst q'
        obtain rfl : u = Value.bool true := r'
        refine ⟨rfl, OldK.of_keep fun b o e => ?_, os, bare⟩
        cases q : H b with
        | none => exact un.keep b o e q (by intro z; exact absurd (show b ∈ ([] : List Addr) from z) (by simp)) (by simp)
        | some u =>
          rcases hO b with z | ⟨ob, xs, z⟩
          · rw [q] at z; cases z
          · have z2 := un.frzs b ob _ z
            obtain ⟨e1, _⟩ := hok b _ z
            obtain ⟨e2, _⟩ := hok' b _ z2
            rw [e] at e1; cases e1
            exact e2
  cases hk : K.lookup a with
  | some o =>
    have e := KX a o hk
    rw [ha] at e
    cases e
    refine core (fun _ => none) (fun _ => .inl rfl) (.inr ⟨_, vs.toArray, _, hk, rfl, rfl, rfl, by rw [List.size_toArray, lenV]; exact hl, by simpa using rv⟩) (fun b u z => by have z' : (none : Option HO) = some u := z; cases z') (fun b z => absurd rfl z) fun z => absurd rfl z
  | none =>
    refine core (fun b => if b = a then some (.frz { cls := .type "list", data := .seq vs.toArray } (.lst (ns.map V.int))) else none) (fun b => ?_) (.inl (.inr ⟨{ cls := .type "list", data := .seq vs.toArray }, if_pos rfl⟩)) (fun b u z => ?_) (fun b z => ?_) fun _ => hk
    · by_cases hb : b = a
      · exact .inr ⟨_, _, if_pos hb⟩
      · exact .inl (if_neg hb)
    · by_cases hb : b = a
      · have z' := (if_pos hb).symm.trans z
        cases z'
        subst hb
        exact ⟨ha, by rw [List.length_map]; exact hl, vs, _, rv, ha⟩
      · have z' := (if_neg hb).symm.trans z
        cases z'
    · by_cases hb : b = a
      · exact hb
      · exact absurd (if_neg hb) z
end L2
namespace L2
open PySem PySem.Spec PyProof.Rows
end L2
namespace L2
open PySem PySem.Spec PyProof.Rows
noncomputable def inClass (s : Stmt) (j : Nat) : Stmt := match s with
  | .ClassDef _ _ _ body _ _ _ _ _ _ _ => body.getD j (.Pass ⟨0, 0, 0, 0⟩)
  | _ => .Pass ⟨0, 0, 0, 0⟩
noncomputable def defArgs (s : Stmt) : Arguments := match s with
  | .FunctionDef _ a _ _ _ _ _ _ _ _ => a
  | _ => { posonlyargs := [], args := [], vararg := none, kwonlyargs := [], kw_defaults := [], kwarg := none, defaults := [] }
noncomputable def defBody (s : Stmt) : List Stmt := match s with
  | .FunctionDef _ _ b _ _ _ _ _ _ _ => b
  | _ => []
noncomputable def defScope (s : Stmt) : Scope := match s with
  | .FunctionDef _ _ _ _ _ _ sc _ _ _ => sc
  | _ => { kind := .function, names := [], isGenerator := false, isCoroutine := false }
noncomputable abbrev CX0 : CXT := fun _ _ _ _ _ _ => False
noncomputable abbrev E0 : XK := fun _ _ _ => False
theorem pass0 {X : Cx} : Passes CX0 X E0 := fun _ _ _ _ _ _ _ h => h.elim
structure Fun (K : PySem.W.Frag) (x qual : Str) (st : Stmt) (f : Addr) (fd : FuncData) : Prop where
  ex : ∃ (oc : Value) (od : Option Addr) (kV doc pm : Value) (an : Option Addr) (cdv ct : Value) (osl : Array (Option Value)),
    fd = PySem.W.fnOf x qual (defArgs st) (defBody st) (defScope st) .none kV doc pm an cdv ct ∧ K.lookup f = some ⟨oc, od, .func fd, osl⟩ ∧ PySem.W.codeIn K cdv qual = true
  kp : PySem.W.keepIn K (.ref f) = true
section
variable {P : Program} {w : World} {K : PySem.W.Frag} {mg : Str → Option Value} {base : Heap}
theorem Fun.ok {x qual : Str} {st : Stmt} {f : Addr} {fd : FuncData} {N ps : List Str} {k : Nat} {sp : Sp} (F : Fun K x qual st f fd) (S : FnScope N ps (defScope st)) (len : ∀ vs H Q E, sp vs H Q E → vs.length = ps.length)
    (hbody : ∀ (cdv : Value) (A : Around) (outer : List Env) (s : Shared) (H : Hp) (vs : List V) (Q : VK) (E : XK), Room k (A.deeper (envOfC qual (defScope st) s.heap.objs.size f cdv)) → sp vs H Q E →
      ∃ t, PSs (cxOf CX0 P w K mg base N qual (defScope st) f cdv A outer s H E).nox (defBody st) t ∧ t { nx := fun _ H' => Q .non H', rt := Q } (start N vs) H) : FnOk P w K mg base CX0 (k + 1) f fd ps sp := by
  obtain ⟨oc, od, kV, doc, pm, an, cdv, ct, osl, rfl, lk, hcd⟩ := F.ex
  refine fn_of lk hcd S len fun A outer s H vs Q E hr hsp => ?_
  obtain ⟨t, h, q⟩ := hbody cdv A outer s H vs Q E hr hsp
  exact ⟨t, h.nox, q⟩
theorem Fun.binds {x qual : Str} {st : Stmt} {f : Addr} {fd : FuncData} {ps : List Str} (F : Fun K x qual st f fd)
    (h : ∀ (kV doc pm : Value) (an : Option Addr) (cdv ct : Value) (us : List Value), us.length = ps.length → bindArgs (PySem.W.fnOf x qual (defArgs st) (defBody st) (defScope st) .none kV doc pm an cdv ct) ⟨us, []⟩ = pure (ps.zip us)) : Binds K fd ps [] := by
  obtain ⟨oc, od, kV, doc, pm, an, cdv, ct, osl, rfl, lk, hcd⟩ := F.ex
  exact .all (h kV doc pm an cdv ct)
theorem fun_mk {x qual : Str} {st : Stmt} {f : Addr} {oc : Value} {od an : Option Addr} {osl : Array (Option Value)} {kV doc pm cdv ct : Value} (l : K.lookup f = some ⟨oc, od, .func (PySem.W.fnOf x qual (defArgs st) (defBody st) (defScope st) .none kV doc pm an cdv ct), osl⟩)
    (c : PySem.W.codeIn K cdv qual = true) (k : PySem.W.keepIn K (.ref f) = true) : Fun K x qual st f (PySem.W.fnOf x qual (defArgs st) (defBody st) (defScope st) .none kV doc pm an cdv ct) := ⟨⟨oc, od, kV, doc, pm, an, cdv, ct, osl, rfl, l, c⟩, k⟩
end
theorem small1000 {n : Nat} (h : n ≤ 1000) : n < sizeLine := Nat.lt_of_le_of_lt h (by decide)
section
variable {X : Cx}
theorem pv (i : Nat) {x : Str} {pos : Pos} (hN : X.N[i]? = some x := by rfl) (hv : Vis X.env.scope x := by first | exact Or.inl rfl | exact Or.inr (Or.inl rfl) | exact Or.inr (Or.inr rfl)) (hd : (x == ("__debug__" : Str)) = false := by decide)
    (hcd : (x == ("__classdict__" : Str)) = false := by decide) : PE X (.Name x pos) (tVar i) := pe_var hN hv hd hcd
end
theorem iteF {A B : Prop} (h : B) : if false = true then A else B := by
  rw [if_neg Bool.false_ne_true]
  exact h
theorem iteT {A B : Prop} (h : A) : if true = true then A else B := by
  rw [if_pos rfl]
  exact h
noncomputable def Same (H H' : Hp) : Prop := ∀ b o, H b = some o → H' b = some o
theorem Same.refl (H : Hp) : Same H H := fun _ _ h => h
theorem Same.trans {H H1 H2 : Hp} (a : Same H H1) (b : Same H1 H2) : Same H H2 := fun c o h => b c o (a c o h)
theorem Same.free {H H' : Hp} (e : Same H H') {l : Addr} (h : H' l = Option.none) : H l = Option.none := by
  cases q : H l with
  | none => rfl
  | some o =>
    rw [e l o q] at h
    cases h
theorem Same.seq {K : PySem.W.Frag} {H H' : Hp} {a : Addr} {xs : List V} (e : Same H H') (h : SqL K H a xs) : SqL K H' a xs := by
  rcases h with (h | ⟨o, h⟩) | h
  · exact .inl (.inl (e _ _ h))
  · exact .inl (.inr ⟨o, e _ _ h⟩)
  · exact .inr h
end L2
set_option Elab.async false
set_option linter.all false
set_option maxRecDepth 100000
set_option maxHeartbeats 4000000
namespace L2
open PySem PySem.Spec PyProof.Rows
section
variable {X : Cx}
theorem lt_two {n : Nat} {k : Int} (h0 : 0 < k) (h : k < 2 ^ 400) : k.natAbs.log2 < 9000 := by
  have hne : k.natAbs ≠ 0 := by omega
  have : k.natAbs.log2 < 400 := (Nat.log2_lt hne).mpr (by omega)
  omega
noncomputable def CDivB (_ j : Int) : Prop := 0 < j ∧ j < 2 ^ 400
theorem op_fdivB : OpR X (binaryOp .FloorDiv) (rI CDivB fun i j => .int (i / j)) := opI fun i j _ _ _ _ _ hc q => by
  have h1 : (0 : Int) < j := hc.1
  exact floordiv_int (by omega) (by rw [Int.fdiv_eq_ediv_of_nonneg i (by omega)]; exact q) (.inl (PyProof.noPylong_of_log2 (lt_two (n := 0) hc.1 hc.2)))
noncomputable def CMulB (i j : Int) : Prop := IntMulOk i j
theorem op_mulB : OpR X (binaryOp .Mult) (rI CMulB fun i j => .int (i * j)) := opI fun _ _ _ _ _ _ _ hc q => mul_int q hc
theorem mul_l {i j : Int} (h1 : -(2 ^ 64) < i) (h2 : i < 2 ^ 64) : CMulB i j := IntMulOk.of_left (intBits_le_64 h1 h2)
theorem mul_r {i j : Int} (h1 : -(2 ^ 64) < j) (h2 : j < 2 ^ 64) : CMulB i j := IntMulOk.of_right (intBits_le_64 h1 h2)
noncomputable def TyS (K : PySem.W.Frag) (H : Hp) (x : V) (t : Value) : Prop := TyOf K H x t ∨ (∃ a xs, x = .ref a ∧ SqT K H a xs ∧ t = .type "tuple") ∨ (∃ a xs, x = .ref a ∧ SqL K H a xs ∧ t = .type "list")
theorem TyS.tup {K : PySem.W.Frag} {H : Hp} {a : Addr} {xs : List V} (h : SqT K H a xs) : TyS K H (.ref a) (.type "tuple") := .inr (.inl ⟨a, xs, rfl, h, rfl⟩)
theorem TyS.lst {K : PySem.W.Frag} {H : Hp} {a : Addr} {xs : List V} (h : SqL K H a xs) : TyS K H (.ref a) (.type "list") := .inr (.inr ⟨a, xs, rfl, h, rfl⟩)
theorem TyS.int {K : PySem.W.Frag} {H : Hp} {i : Int} : TyS K H (.int i) (.type "int") := .inl (.int i)
theorem TyS.bl {K : PySem.W.Frag} {H : Hp} {i : Bool} : TyS K H (.bl i) (.type "bool") := .inl (.bl i)
theorem TyS.str {K : PySem.W.Frag} {H : Hp} {i : Str} : TyS K H (.str i) (.type "str") := .inl (.str i)
theorem call_isinst : CallR X (.builtin "isinstance") (fun xs H Q => ∃ x c t b, xs = [x, .ty c] ∧ TyS X.K H x t ∧ PySem.W.kitOne X.K t (.type c) = some b ∧ Q (.bl b) H) := by
  intro pins s σ H xs us Q I r h
  obtain ⟨x, c, t, b, rfl, ty, e, q⟩ := h
  obtain ⟨u, v, rfl, rx, rc⟩ := Vals.two r
  cases (show v = Value.type c from rc)
  have fin : ∀ tk, EP X pins σ Q (.bool b) { s with toks := tk } := fun tk => ⟨.bl b, H, I.tok _, rfl, q⟩
  rcases ty with ty | ⟨a, xs, rfl, hT, rfl⟩ | ⟨a, xs, rfl, hL, rfl⟩
  · exact isinst_ok I rx ty e fin
  · cases (show u = Value.ref a from rx)
    obtain ⟨its, _, p, _⟩ := I.tuple hT
    obtain ⟨o, h1, h2, _⟩ := p
    exact PySem.W.kia_one PySem.W.kitx_tuple I.kIn ⟨o, h1, h2⟩ e (fun z => nomatch z) fin
  · cases (show u = Value.ref a from rx)
    obtain ⟨its, _, p, _⟩ := I.list hL
    obtain ⟨o, _, h1, h2, _⟩ := p
    exact PySem.W.kia_one PySem.W.kitx_list I.kIn ⟨o, h1, h2⟩ e (fun z => nomatch z) fin
theorem boot_max : bootBuiltins "max" = some (.builtin "max") := by decide +kernel
theorem boot_min : bootBuiltins "min" = some (.builtin "min") := by decide +kernel
theorem boot_isinstance : bootBuiltins "isinstance" = some (.builtin "isinstance") := by decide +kernel
theorem boot_ty_int : bootBuiltins "int" = some (.type "int") := by decide +kernel
theorem boot_ty_bool : bootBuiltins "bool" = some (.type "bool") := by decide +kernel
theorem boot_ty_str : bootBuiltins "str" = some (.type "str") := by decide +kernel
theorem boot_ty_tuple : bootBuiltins "tuple" = some (.type "tuple") := by decide +kernel
theorem boot_ty_list : bootBuiltins "list" = some (.type "list") := by decide +kernel
theorem kit_int_int {K : PySem.W.Frag} : PySem.W.kitOne K (.type "int") (.type "int") = some true := rfl
theorem kit_int_bool {K : PySem.W.Frag} : PySem.W.kitOne K (.type "int") (.type "bool") = some false := by first | rfl | with_unfolding_all rfl
theorem kit_tup_tup {K : PySem.W.Frag} : PySem.W.kitOne K (.type "tuple") (.type "tuple") = some true := rfl
theorem kit_lst_lst {K : PySem.W.Frag} : PySem.W.kitOne K (.type "list") (.type "list") = some true := rfl
theorem kit_str_str {K : PySem.W.Frag} : PySem.W.kitOne K (.type "str") (.type "str") = some true := rfl
end
theorem Same.seqT {K : PySem.W.Frag} {H H' : Hp} {a : Addr} {xs : List V} (e : Same H H') (h : SqT K H a xs) : SqT K H' a xs := by
  rcases h with (h | ⟨o, h⟩) | h
  · exact .inl (.inl (e _ _ h))
  · exact .inl (.inr ⟨o, e _ _ h⟩)
  · exact .inr h
theorem same_new {H : Hp} {p : Addr} (h : H p = none) (o : HO) : Same H (upd H p o) := fun b u q => by rw [upd_ne (ne_of_none q h)]; exact q
theorem small' {n : Nat} (h : n ≤ 1000) : n ≤ sizeLine := Nat.le_of_lt (small1000 h)
section
variable {X : Cx} {es : List Expr} {t : TA} {pos : Pos}
noncomputable def tTupO (t : TA) : TE := fun σ H Q => t σ H fun xs H1 => xs.length ≤ sizeLine ∧ ∀ p H2, H1 p = none → Same H1 H2 → H2 p = some (.tup xs) → Q (.ref p) H2
noncomputable def tLstO (t : TA) : TE := fun σ H Q => t σ H fun xs H1 => xs.length ≤ sizeLine ∧ ∀ p H2, H1 p = none → Same H1 H2 → H2 p = some (.lst xs) → Q (.ref p) H2
theorem pe_tupO {x1} (h : PA X es t) : PE X (.Tuple es x1 pos) (tTupO t) := by
  intro pins s σ H Q I hq
  refine wpAny_Tuple_spliced (thn (h pos pins s σ H _ I hq) fun us s1 ⟨xs, H1, I1, r, z, q⟩ => ⟨by rw [← r.length]; exact z, ?_⟩)
  have hf : H1 s1.heap.objs.size = none := I1.hok.fresh (Nat.le_refl _)
  refine ⟨.ref s1.heap.objs.size, upd H1 s1.heap.objs.size (.tup xs), I1.laid (t' := s1.toks) (fun b u e => Heap.get?_push_of_some _ e) (Nat.le_refl _) ?_, rfl, q _ _ hf (same_new hf _) upd_same⟩
  exact ⟨z, us, r, ⟨_, Heap.get?_push_size _ rfl, rfl, _, rfl⟩⟩
theorem pe_lstO (h : PA X es t) : PE X (.List es pos) (tLstO t) := by
  intro pins s σ H Q I hq
  refine wpAny_List_spliced (thn (h pos pins s σ H _ I hq) fun us s1 ⟨xs, H1, I1, r, z, q⟩ => ⟨by rw [← r.length]; exact z, ?_⟩)
  have hf : H1 s1.heap.objs.size = none := I1.hok.fresh (Nat.le_refl _)
  refine ⟨.ref s1.heap.objs.size, upd H1 s1.heap.objs.size (.lst xs), I1.laid (t' := s1.toks) (fun b u e => Heap.get?_push_of_some _ e) (Nat.le_refl _) ?_, rfl, q _ _ hf (same_new hf _) upd_same⟩
  exact ⟨z, us, 0, r, Heap.get?_push_size _ rfl⟩
end
section
variable {env : Env} {es : List Expr}
theorem star_Name {x p} : starEach (.Name x p :: es) env = (false, eval (.Name x p) env) :: starEach es env := by first | rfl | with_unfolding_all rfl
theorem star_Constant {x j p} : starEach (.Constant x j p :: es) env = (false, eval (.Constant x j p) env) :: starEach es env := by first | rfl | with_unfolding_all rfl
theorem star_BinOp {a o b p} : starEach (.BinOp a o b p :: es) env = (false, eval (.BinOp a o b p) env) :: starEach es env := by first | rfl | with_unfolding_all rfl
theorem star_Call {a o b p} : starEach (.Call a o b p :: es) env = (false, eval (.Call a o b p) env) :: starEach es env := by first | rfl | with_unfolding_all rfl
theorem star_Subscript {a o p} : starEach (.Subscript a o p :: es) env = (false, eval (.Subscript a o p) env) :: starEach es env := by first | rfl | with_unfolding_all rfl
theorem star_Attribute {a o p} : starEach (.Attribute a o p :: es) env = (false, eval (.Attribute a o p) env) :: starEach es env := by first | rfl | with_unfolding_all rfl
theorem star_Tuple {a k p} : starEach (.Tuple a k p :: es) env = (false, eval (.Tuple a k p) env) :: starEach es env := by first | rfl | with_unfolding_all rfl
end
theorem plain_Name {x p} : PlainIx (.Name x p) := fun _ _ => rfl
theorem plain_Constant {x j p} : PlainIx (.Constant x j p) := fun _ _ => rfl
theorem plain_BinOp {a o b p} : PlainIx (.BinOp a o b p) := fun _ _ => rfl
section
variable {X : Cx} {pos : Pos}
noncomputable def gN (i : Nat) : TG := fun v σ H Q => ∀ σ', σ' = σ.set i (some v) → Q σ' H
theorem pg_nameN {i : Nat} {x : Str} {pos' : Pos} (hN : X.N.Nodup) (hi : X.N[i]? = some x) (hx : Loc X.env.scope x) (hf : X.fn x = true ∨ X.env.scope.names.lookup x = some .local := by first | exact .inl rfl | exact .inr rfl | assumption) : PG X (.Name x pos') (gN i) := by
  intro pins s σ H v u Q I r h
  exact pg_name hN hi hx hf pins s σ H v u Q I r (h _ rfl)
theorem ps_setN {i : Nat} {x : Str} {e : Expr} {te : TE} {pos' : Pos} (hN : X.N.Nodup) (hi : X.N[i]? = some x) (hx : Loc X.env.scope x) (he : PE X e te) (hs : swapsWith e (some (.Name x pos')) pos.line X.env = pure false := by rfl) (hf : X.fn x = true ∨ X.env.scope.names.lookup x = some .local := by first | exact .inl rfl | exact .inr rfl | assumption) :
    PS X (.Assign [.Name x pos'] e pos) (tAsg te (gN i)) := by
  intro pins s σ H D I h
  exact wpAny_Assign_Name (thn (he pins s σ H _ I h) fun u s1 ⟨v, H1, I1, r1, q1⟩ => store_ok I1 hN hi hx r1 (fun s2 I2 => ⟨_, H1, I2, q1 _ rfl⟩) hf) hs
end
structure CxIs (X : Cx) (N : List Str) (sc : Scope) : Prop where
  n : X.N = N
  s : X.env.scope = sc
  calm : X.calm = true
  own : PassesOwn (model X.prog X.w) X.A X.env X.xe
section
variable {X : Cx} {N : List Str} {sc : Scope} {pos : Pos}
theorem xv (c : CxIs X N sc) {i : Nat} {x : Str} (hi : N[i]? = some x) (hv : sc.names.lookup x = some .local) (hd : (x == ("__debug__" : Str)) = false) (hcd : (x == ("__classdict__" : Str)) = false) : PE X (.Name x pos) (tVar i) :=
  pe_var (by rw [c.n]; exact hi) (Or.inl (by rw [c.s]; exact hv)) hd hcd
theorem xs (c : CxIs X N sc) (nd : N.Nodup) {i : Nat} {x : Str} {e : Expr} {te : TE} {pos' : Pos} (hi : N[i]? = some x) (hv : sc.names.lookup x = some .local) (he : PE X e te) (hs : swapsWith e (some (.Name x pos')) pos.line X.env = pure false) :
    PS X (.Assign [.Name x pos'] e pos) (tAsg te (gN i)) :=
  ps_setN (by rw [c.n]; exact nd) (by rw [c.n]; exact hi) (Or.inl (by rw [c.s]; exact hv)) he hs (Or.inr (by rw [c.s]; exact hv))
theorem xt (c : CxIs X N sc) (nd : N.Nodup) {i : Nat} {x : Str} (hi : N[i]? = some x) (hv : sc.names.lookup x = some .local) : PG X (.Name x pos) (gN i) :=
  pg_nameN (by rw [c.n]; exact nd) (by rw [c.n]; exact hi) (Or.inl (by rw [c.s]; exact hv)) (Or.inr (by rw [c.s]; exact hv))
theorem xg (c : CxIs X N sc) {x : Str} (hv : sc.names.lookup x = some .globalImplicit) : Gl X x := by
  show X.env.scope.names.lookup x = _
  rw [c.s]; exact hv
end
structure WE (X : Cx) (e : Expr) (t : TE) : Prop where
  h : PE X e t
structure WT (X : Cx) (e : Expr) (t : TT) : Prop where
  h : PT X e t
structure WW (X : Cx) (e : Expr) (t : TT) : Prop where
  h : PW X e t
structure WA (X : Cx) (e : List Expr) (t : TA) : Prop where
  h : PA X e t
structure WS (X : Cx) (e : Stmt) (t : TS) : Prop where
  h : PS X e t
structure WSs (X : Cx) (e : List Stmt) (t : TS) : Prop where
  h : PSs X e t
structure WG (X : Cx) (e : Expr) (t : TG) : Prop where
  h : PG X e t
structure WI (X : Cx) (tg e : Expr) (t : TI) : Prop where
  h : PI X tg e t
structure WO (X : Cx) (e : Option Expr) (t : TO) : Prop where
  h : PO X e t
theorem WW.pt {X : Cx} {e : Expr} {t : TT} (h : WW X e t) : WT X e t := ⟨h.h.pt⟩
section
variable {X : Cx} {a b c e o : Expr} {es rest : List Expr} {ta tb tc te to : TE} {tA tB' tC' : TT} {t : TA} {pos p apos cpos p2 pos' : Pos} {st : Stmt} {sts bd ob : List Stmt} {u v : TS} {x : Str} {lo hi : Option Expr} {tl th : TO} {tg : Expr}
theorem we_int {i j} : WE X (.Constant (.int i) j pos) (tC (.int i)) := ⟨pe_int⟩
theorem we_bl {i j} : WE X (.Constant (.bool i) j pos) (tC (.bl i)) := ⟨pe_bl⟩
theorem we_non {j} : WE X (.Constant .none j pos) (tC .non) := ⟨pe_non⟩
theorem we_str {i j} : WE X (.Constant (.str i) j pos) (tC (.str i)) := ⟨pe_str⟩
theorem we_bltn {v : V} {u : Value} (hg : Gl X x) (hm : X.mg x = none) (hv : bootBuiltins x = some u) (r : RelV v u) (hn : x ≠ "__name__" := by decide) (hd : (x == ("__debug__" : Str)) = false := by decide) : WE X (.Name x pos) (tC v) := ⟨pe_bltn hg hm hv r hn hd⟩
theorem we_op {op : Operator} {r : R2} (ho : OpR X (binaryOp op) r) (ha : WE X a ta) (hb : WE X b tb) : WE X (.BinOp a op b pos) (tOp r ta tb) := ⟨pe_op ho ha.h hb.h⟩
theorem we_un {op : UnaryOp} {r : V → Hp → VK → Prop} (ho : UnR X (unaryOp op) r) (ha : WE X a ta) : WE X (.UnaryOp op a pos) (tUn r ta) := ⟨pe_un ho ha.h⟩
theorem we_one {op} (h : WE X a ta) : WE X (.BoolOp op [a] pos) ta := ⟨pe_one h.h⟩
theorem we_and (ha : WE X a ta) (hb : WE X (.BoolOp .And (b :: rest) pos) tb) : WE X (.BoolOp .And (a :: b :: rest) pos) (tAndV ta tb) := ⟨pe_and ha.h hb.h⟩
theorem we_cmpR {op : CmpOp} {r : R2} (ho : OpR X (compareOp op) r) (ha : WE X a ta) (hb : WE X b tb) (hm : behindInMarks op b = false) : WE X (.Compare a [op] [b] pos) (tOp r ta tb) := ⟨pe_cmpR ho ha.h hb.h hm⟩
theorem wt_cmpR {op : CmpOp} {r : R2} (ho : OpR X (compareOp op) r) (ha : WE X a ta) (hb : WE X b tb) (hm : behindInMarks op b = false) : WT X (.Compare a [op] [b] pos) (tTest (tOp r ta tb)) := ⟨pt_cmpR ho ha.h hb.h hm⟩
theorem wt_not (ha : WT X a tA) : WT X (.UnaryOp .Not a pos) (tNot tA) := ⟨pt_not ha.h⟩
theorem ww_and (ha : WT X a tA) (hb : WW X (.BoolOp .And (b :: rest) pos) tB') : WW X (.BoolOp .And (a :: b :: rest) pos) (tAnd tA tB') := ⟨pw_and ha.h hb.h⟩
theorem ww_or (ha : WT X a tA) (hb : WW X (.BoolOp .Or (b :: rest) pos) tB') : WW X (.BoolOp .Or (a :: b :: rest) pos) (tOr tA tB') := ⟨pw_or ha.h hb.h⟩
theorem ww_and1 (ha : WT X a tA) : WW X (.BoolOp .And [a] pos) tA := ⟨pw_and1 ha.h⟩
theorem ww_or1 (ha : WT X a tA) : WW X (.BoolOp .Or [a] pos) tA := ⟨pw_or1 ha.h⟩
theorem wt_val (h : WE X e te) (he : ∀ whole, isTrue e X.env whole = (do let v ← whole; standAt e.pos; holding [v] (truthy v)) := by intro _; rfl) : WT X e (tB te) := ⟨pt_val h.h he⟩
theorem wa_nil : WA X [] tNil := ⟨pa_nil⟩
theorem wa_cons (ha : WE X e te) (hr : WA X es t) (hs : starEach (e :: es) X.env = (false, eval e X.env) :: starEach es X.env) : WA X (e :: es) (tCons te t) := ⟨pa_cons ha.h hr.h hs⟩
theorem we_lstO (h : WA X es t) : WE X (.List es pos) (tLstO t) := ⟨pe_lstO h.h⟩
theorem we_tupO {x1} (h : WA X es t) : WE X (.Tuple es x1 pos) (tTupO t) := ⟨pe_tupO h.h⟩
theorem we_ix {r : R2} (hr : IxR X r) (ha : WE X a ta) (hb : WE X b tb) (hs : PlainIx b) : WE X (.Subscript a b pos) (tOp r ta tb) := ⟨pe_ix hr ha.h hb.h hs⟩
theorem we_slice {r : V → Option Int → Option Int → Hp → VK → Prop} (hr : SlR X r) (he : WE X e te) (hl : WO X lo tl) (hu : WO X hi th) : WE X (.Subscript e (.Slice lo hi none p2) pos) (tSl r te tl th) := ⟨pe_slice hr he.h hl.h hu.h⟩
theorem wo_none : WO X none tNoPart := ⟨po_none⟩
theorem wo_some (h : WE X e te) : WO X (some e) (tPart te) := ⟨po_some h.h⟩
section
variable {CX : CXT} {k : Nat} {f C : Addr} {fd : FuncData} {ps : List Str} {sp : Sp} {dvs : List V} {ds : List Value} {E : XK} {m : Str} {id T : String} {r : List V → Hp → VK → Prop}
theorem we_call (F : FnOk X.prog X.w X.K X.mg X.base CX k f fd ps sp) (hr : Room k X.A) (hg : Gl X x) (hm : X.mg x = some (.ref f)) (hk : PySem.W.keepIn X.K (.ref f) = true) (hb : Binds X.K fd ps ds) (hd : Vals dvs ds) (hx : Passes CX X E)
    (ha : WA X (e :: es) t) (hdb : (x == ("__debug__" : Str)) = false := by decide) (he : starEach (e :: es) X.env = (false, eval e X.env) :: starEach es X.env := by rfl) (hpl : (backTo pos (starEach es X.env)).any (·.1) = false := by rfl) :
    WE X (.Call (.Name x p) (e :: es) [] pos) (tCall sp dvs E t) := ⟨pe_call F hr hg hm hk hb hd hx ha.h hdb he hpl⟩
theorem we_callB (hc : CallR X (.builtin id) r) (hg : Gl X x) (hm : X.mg x = none) (hv : bootBuiltins x = some (.builtin id)) (ha : WA X (e :: es) t) (hn : x ≠ "__name__" := by decide) (hdb : (x == ("__debug__" : Str)) = false := by decide)
    (he : starEach (e :: es) X.env = (false, eval e X.env) :: starEach es X.env := by rfl) (hpl : (backTo pos (starEach es X.env)).any (·.1) = false := by rfl) : WE X (.Call (.Name x p) (e :: es) [] pos) (tCB r t) := ⟨pe_callB hc hg hm hv ha.h hn hdb he hpl⟩
theorem we_callTy (hc : CallR X (.type T) r) (hg : Gl X x) (hm : X.mg x = none) (hv : bootBuiltins x = some (.type T)) (ha : WA X (e :: es) t) (hn : x ≠ "__name__" := by decide) (hdb : (x == ("__debug__" : Str)) = false := by decide)
    (he : starEach (e :: es) X.env = (false, eval e X.env) :: starEach es X.env := by rfl) (hpl : (backTo pos (starEach es X.env)).any (·.1) = false := by rfl) : WE X (.Call (.Name x p) (e :: es) [] pos) (tCB r t) := ⟨pe_callTy hc hg hm hv ha.h hn hdb he hpl⟩
end
section
variable {name : Str} {T id : String} {r : V → List V → Hp → VK → Prop}
theorem we_bm (pa : PlainAttrs T) (slot : Slot T name id) (hty : typeOf (.builtin id) = pure (.type "method_descriptor")) (hm : MtR X id r) (ho : WE X o to) (ha : WA X (e :: es) t)
    (hbase : attributeBase o name X.env (eval o X.env) = eval o X.env := by rfl)
    (hfew : ((backTo cpos (starEach (e :: es) X.env)).all (fun x => !x.1) && (backToKw cpos (keywordEach [] X.env)).all (fun x => x.1.isSome)
      && decide ((e :: es).length + ([] : List Keyword).length + (if ([] : List Keyword).isEmpty then 0 else 1) < 30)) = true := by rfl)
    (hline : (apos.endLine == cpos.line) = true := by rfl) (hs : starEach (e :: es) X.env = (false, eval e X.env) :: starEach es X.env := by rfl) (hplain : (backTo cpos (starEach es X.env)).any (·.1) = false := by rfl) :
    WE X (.Call (.Attribute o name apos) (e :: es) [] cpos) (tBM X.K T r to t) := ⟨pe_bm pa slot hty hm ho.h ha.h hbase hfew hline hs hplain⟩
end
section
variable {f : Str} {tv : TE} {value : Expr}
theorem we_fld (he : WE X e ta) (hb : attributeBase e f X.env (eval e X.env) = eval e X.env) : WE X (.Attribute e f pos) (tFld X.K ta f) := ⟨pe_fld he.h hb⟩
theorem ws_fld (ha : WE X o ta) (hv : WE X value tv) (hs : swapsWith value (some (.Attribute o f pos')) pos.line X.env = pure false) : WS X (.Assign [.Attribute o f pos'] value pos) (sFld X.K ta tv f) := ⟨ps_fld ha.h hv.h hs⟩
end
section
variable {CX : CXT} {k : Nat} {f C : Addr} {fd : FuncData} {ps : List Str} {sp : Sp} {dvs : List V} {ds : List Value} {E : XK} {m : Str}
theorem we_make (M : Mk X.K C f) (F : FnOk X.prog X.w X.K X.mg X.base CX k f fd ps sp) (hr : Room (k + 1) X.A) (hg : Gl X x) (hm : X.mg x = some (.ref C)) (hb : Binds X.K fd ps ds) (hd : Vals dvs ds) (hx : Passes CX X E)
    (ha : WA X (e :: es) t) (hdb : (x == ("__debug__" : Str)) = false := by decide) (he : starEach (e :: es) X.env = (false, eval e X.env) :: starEach es X.env := by rfl) (hpl : (backTo pos (starEach es X.env)).any (·.1) = false := by rfl) :
    WE X (.Call (.Name x p) (e :: es) [] pos) (tMake C sp dvs E t) := ⟨pe_make M F hr hg hm hb hd hx ha.h hdb he hpl⟩
end
theorem wss_nil : WSs X [] tNext := ⟨pss_nil⟩
theorem wss_cons (h1 : WS X st u) (h2 : WSs X sts v) : WSs X (st :: sts) (tSeq u v) := ⟨pss_cons h1.h h2.h⟩
theorem wss_one (h1 : WS X st u) : WSs X [st] u := ⟨pss_one h1.h⟩
theorem ws_if (hc : WT X c tA) (ha : WSs X bd u) (hb : WSs X ob v) : WS X (.If c bd ob pos) (tIfS tA u v) := ⟨ps_if hc.h ha.h hb.h⟩
theorem ws_ret (he : WE X e te) : WS X (.Return (some e) pos) (tRet te) := ⟨ps_ret he.h⟩
theorem ws_expr (he : WE X e te) (hs : swapsWith e none pos.line X.env = pure false := by rfl) : WS X (.Expr e pos) (tDrop te) := ⟨ps_expr he.h hs⟩
theorem ws_while (hp : PassesOwn (model X.prog X.w) X.A X.env X.xe) (hc : WT X c tA) (hb : WSs X bd u) : WS X (.While c bd [] pos) (tWhile tA u) := ⟨ps_while hp hc.h hb.h⟩
theorem ws_for {iter : Expr} {wi : TI} {g : TG} (hp : PassesOwn (model X.prog X.w) X.A X.env X.xe) (hc : X.calm = true) (hi : WI X tg iter wi) (hg : WG X tg g) (hb : WSs X bd u)
    (hs : ∀ x, foldedSetIterable iter X.env x = pure x := by intro _; rfl) : WS X (.For tg iter bd [] pos) (tFor wi g u) := ⟨ps_for hp hc hi.h hg.h hb.h hs⟩
theorem wi_list (hl : WE X e te) : WI X tg e (iList X.K te) := ⟨pi_list hl.h⟩
theorem wi_range1 (hg : Gl X "range") (hm : X.mg "range" = none) (ha : WA X [a] t) (hs : starEach [a] X.env = [(false, eval a X.env)] := by rfl) : WI X tg (.Call (.Name "range" p) [a] [] pos) (iRng1 t) := ⟨pi_range1 hg hm ha.h hs⟩
theorem wi_range2 (hg : Gl X "range") (hm : X.mg "range" = none) (ha : WA X [a, b] t) (hs : starEach [a, b] X.env = [(false, eval a X.env), (false, eval b X.env)] := by rfl) (hs2 : starEach [b] X.env = [(false, eval b X.env)] := by rfl) :
    WI X tg (.Call (.Name "range" p) [a, b] [] pos) (iRng2 t) := ⟨pi_range2 hg hm ha.h hs hs2⟩
end
section
variable {X : Cx} {N : List Str} {sc : Scope} {pos : Pos}
theorem wxv (c : CxIs X N sc) {i : Nat} {x : Str} (hi : N[i]? = some x) (hv : sc.names.lookup x = some .local) (hd : (x == ("__debug__" : Str)) = false) (hcd : (x == ("__classdict__" : Str)) = false) : WE X (.Name x pos) (tVar i) := ⟨xv c hi hv hd hcd⟩
theorem wxs (c : CxIs X N sc) (nd : N.Nodup) {i : Nat} {x : Str} {e : Expr} {te : TE} {pos' : Pos} (hi : N[i]? = some x) (hv : sc.names.lookup x = some .local) (he : WE X e te) (hs : swapsWith e (some (.Name x pos')) pos.line X.env = pure false) :
    WS X (.Assign [.Name x pos'] e pos) (tAsg te (gN i)) := ⟨xs c nd hi hv he.h hs⟩
theorem wxt (c : CxIs X N sc) (nd : N.Nodup) {i : Nat} {x : Str} (hi : N[i]? = some x) (hv : sc.names.lookup x = some .local) : WG X (.Name x pos) (gN i) := ⟨xt c nd hi hv⟩
end
theorem unW {X : Cx} {b : List Stmt} {D : Ends} {σ : St} {H : Hp} (h : ∃ t, WSs X b t ∧ t D σ H) : ∃ t, PSs X b t ∧ t D σ H := let ⟨t, h1, h2⟩ := h; ⟨t, h1.h, h2⟩
noncomputable def Cal (P : Program) (w : World) (K : PySem.W.Frag) (mg : Str → Option Value) (base : Heap) (x : Str) (k : Nat) (ps : List Str) (sp : Sp) : Prop :=
  ∃ (f : Addr) (fd : FuncData), FnOk P w K mg base CX0 k f fd ps sp ∧ Binds K fd ps [] ∧ PySem.W.keepIn K (.ref f) = true ∧ mg x = some (.ref f)
noncomputable def clsAt (K : PySem.W.Frag) (x : Str) : Addr := match PySem.W.nsIn K mainGlobals x with
  | some (some (.ref a)) => a
  | _ => 0
theorem clsAt_eq {K : PySem.W.Frag} {x : Str} {a : Addr} (h : PySem.W.nsIn K mainGlobals x = some (some (.ref a))) : clsAt K x = a := by unfold clsAt; rw [h]
noncomputable def CalI (P : Program) (w : World) (K : PySem.W.Frag) (mg : Str → Option Value) (base : Heap) (C : Addr) (k : Nat) (ps : List Str) (sp : Sp) : Prop :=
  ∃ (f : Addr) (fd : FuncData), FnOk P w K mg base CX0 k f fd ps sp ∧ Binds K fd ps [] ∧ Mk K C f
theorem ifT {c A B : Prop} [Decidable c] (hc : c) (h : A) : if decide c = true then A else B := by rw [decide_eq_true hc]; exact iteT h
theorem ifF {c A B : Prop} [Decidable c] (hc : ¬ c) (h : B) : if decide c = true then A else B := by rw [decide_eq_false hc]; exact iteF h
theorem if2 {c A B : Prop} [Decidable c] (h1 : c → A) (h2 : ¬ c → B) : if decide c = true then A else B := by
  by_cases h : c
  · exact ifT h (h1 h)
  · exact ifF h (h2 h)
theorem ifn2 {c A B : Prop} [Decidable c] (h1 : ¬ c → A) (h2 : c → B) : if (!decide c) = true then A else B := by
  by_cases h : c
  · rw [decide_eq_true h]; exact iteF (h2 h)
  · rw [decide_eq_false h]; exact iteT (h1 h)
theorem ifnF {c A B : Prop} [Decidable c] (hc : c) (h : B) : if (!decide c) = true then A else B := by rw [decide_eq_true hc]; exact iteF h
theorem inj_int {i j : Int} (h : i = j) : V.int i = V.int j := by rw [h]
theorem ne_int {i j : Int} (h : ¬ i = j) : ¬ V.int i = V.int j := fun e => h (V.int.inj e)
theorem of_not_int {i j : Int} (h : ¬ V.int i = V.int j) : ¬ i = j := fun e => h (by rw [e])
theorem of_int {i j : Int} (h : V.int i = V.int j) : i = j := V.int.inj h
end L2
namespace L2
open PySem PySem.W PySem.Calls PyProof.Rows
theorem attach_callB {l : PySem.W.OpenLaw} {n : Nat} {q : Program} {loose : List Str} {XP : (Str → Option Value) → Heap → Prop} {YP : World → Heap → Prop} {d : DefRec}
    (hn : l.most = some n) (hdf : d.params.defaults = [])
    (call : ∀ (w : World) (s₀ s₁ : Shared) (mg mb : Str → Option Value) (fa : Addr) (o : Obj) (pm cd doc : Value) (a : Addr) (vs : List Value) (ns : List Int),
      Ground q loose [] XP w s₀ mg mb s₁.heap → YP w s₁.heap →
      s₁.heap.get? fa = some o → o.data = .func (docDef d.name d.params d.body d.scope pm cd doc) → s₁.heap.CodeRec cd d.name → mg d.name = some (.ref fa) →
      s₁.heap.get? a = some { cls := .type "list", data := .seq vs.toArray } → IntsAre vs ns → ns.length ≤ n → (∀ z ∈ ns, Builtin.Int.intBits z ≤ 1048576) → s₁.gens = #[] →
      codeAny (model l.prog w) callerA (.call (.ref fa) ⟨[.ref a], []⟩) (fun r s' => r = .ok (.ret (.bool true)) ∧ OldK s₁.heap s'.heap ∧ s'.os = s₁.os ∧ AllBare s'.gens) s₁) :
    PySem.W.WalkO q loose XP YP l.row.toRowW d [] (fun f vs => PySem.call f vs) := by
  intro w s₀ s₁ mg mb G Y fa o pm cd doc dV kV ho hd hcd hD hmg hg args vals as hpre hlay hrd hwl hlo
  obtain rfl : dV = .none := PySem.W.Dflts.none hD hdf
  obtain rfl : kV = .none := PySem.W.Dflts.noKw hD
  obtain ⟨a, vs, ns, rfl, rfl, hobj, hints, hlen⟩ := Att.script_of hn hpre hwl
  have hbits : ∀ z ∈ ns, Builtin.Int.intBits z ≤ 1048576 := fun z hz => by
    have h1 := PySem.W.layableW_arg hlay _ (List.mem_singleton.mpr rfl)
    have h2 := PySem.W.layableW_item h1 (.int z) (List.mem_map.mpr ⟨z, hz, rfl⟩)
    exact intBits_le_of_layable (show PyData.layable0 (.int z) = true from h2)
  refine PySem.W.enter_call (codeAny_mono (call w s₀ s₁ mg mb fa o pm cd doc a vs ns G Y ho (PySem.W.fd_plain hd) hcd hmg hobj hints hlen hbits hg) fun r s' hq => ?_)
  obtain ⟨rfl, h2, h3, h4⟩ := hq
  exact ⟨.inl ⟨.bool true, .bool true, [], rfl, fun _ => rfl, .bool true, Att.post_true l _, fun _ => ⟨List.Pairwise.nil, fun _ hm => (nomatch hm)⟩⟩, h2, h3, h4⟩
theorem walk_ofB {l : PySem.W.OpenLaw} {n k : Nat} {q : Program} {loose : List Str} {XP : (Str → Option Value) → Heap → Prop} {YP : World → Heap → Prop} {d : DefRec} {K : Params → PySem.W.Frag} {CX : World → CXT} {sp : World → Sp} {x : Str}
    (hn : l.most = some n) (hn2 : n ≤ sizeLine) (hdf : d.params.defaults = []) (hr : Room k callerA)
    (hY : ∀ (w : World) (h : Heap), YP w h → (K w.params).In h)
    (F : ∀ (w : World) (mg : Str → Option Value) (fa : Addr) (h : Heap), (K w.params).In h → h.Ns mainGlobals mg → mg d.name = some (.ref fa) →
      ∃ fd : FuncData, (∀ (s : Shared) (u : Value), BindsTo s fd ⟨[u], []⟩ [(x, u)]) ∧
        ∀ base : Heap, (K w.params).In base → base.Ns mainGlobals mg → FnOk l.prog w (K w.params) mg base (CX w) k fa fd [x] (sp w))
    (hsp : ∀ (w : World) (H : Hp) (a : Addr) (ns : List Int), ns.length ≤ n → (∀ z ∈ ns, Builtin.Int.intBits z ≤ 1048576) → Only H → SqL (K w.params) H a (ns.map V.int) → sp w [.ref a] H (fun v _ => v = .bl true) fun _ _ _ => False)
    (hCX : ∀ (w : World) (H : Hp) (s : Shared) (e : Value) (s' : Shared), CX w [] H s (fun _ _ _ => False) e s' → False) :
    PySem.W.WalkO q loose XP YP l.row.toRowW d [] (fun f vs => PySem.call f vs) := by
  refine attach_callB hn hdf fun w s₀ s₁ mg mb fa o pm cd doc a vs ns G Y ho hd hcd hmg hobj hints hlen hbits hg => ?_
  have KX := hY w _ Y
  obtain ⟨fd, hb, hF⟩ := F w mg fa _ KX G.T.g hmg
  exact law_call KX G.T.g G.T.b G.T.builtins G.T.nolimit hg hobj hints (Nat.le_trans hlen hn2) hr hF hb (fun H hO hS => hsp w H a ns hlen hbits hO hS) fun H e s' => hCX w H s₁ e s'
noncomputable def pick2 {α : Type} (i : Int) (a b : α) : α := if i = 0 then a else b
noncomputable def pick3 {α : Type} (i : Int) (a b c : α) : α := if i = 0 then a else if i = 1 then b else c
noncomputable def pick4 {α : Type} (i : Int) (a b c d : α) : α := if i = 0 then a else if i = 1 then b else if i = 2 then c else d
theorem at2 {a b : V} {i : Int} (h0 : 0 ≤ i) (h1 : i < 2) : atI [a, b] i = some (pick2 i a b) := by
  rcases (by omega : i = 0 ∨ i = 1) with rfl | rfl <;> rfl
theorem at2i {a b i : Int} (h0 : 0 ≤ i) (h1 : i < 2) : atI [V.int a, V.int b] i = some (.int (pick2 i a b)) := by
  rcases (by omega : i = 0 ∨ i = 1) with rfl | rfl <;> rfl
theorem at4i {a b c d i : Int} (h0 : 0 ≤ i) (h1 : i < 4) : atI [V.int a, V.int b, V.int c, V.int d] i = some (.int (pick4 i a b c d)) := by
  rcases (by omega : i = 0 ∨ i = 1 ∨ i = 2 ∨ i = 3) with rfl | rfl | rfl | rfl <;> rfl
theorem at3s {a b c : Str} {i : Int} (h0 : 0 ≤ i) (h1 : i < 3) : atI [V.str a, V.str b, V.str c] i = some (.str (pick3 i a b c)) := by
  rcases (by omega : i = 0 ∨ i = 1 ∨ i = 2) with rfl | rfl | rfl <;> rfl
theorem pick2_of {α : Type} {P : α → Prop} {i : Int} {a b : α} (ha : P a) (hb : P b) : P (pick2 i a b) := by
  unfold pick2; split <;> assumption
theorem pick3_of {α : Type} {P : α → Prop} {i : Int} {a b c : α} (ha : P a) (hb : P b) (hc : P c) : P (pick3 i a b c) := by
  unfold pick3; split; assumption; split <;> assumption
theorem pick4_of {α : Type} {P : α → Prop} {i : Int} {a b c d : α} (ha : P a) (hb : P b) (hc : P c) (hd : P d) : P (pick4 i a b c d) := by
  unfold pick4; split; assumption; split; assumption; split <;> assumption
theorem md0 {x : Int} {n : Int} (h : 0 < n) : 0 ≤ x % n := Int.emod_nonneg x (by omega)
theorem md1 {x : Int} {n : Int} (h : 0 < n) : x % n < n := Int.emod_lt_of_pos x h
theorem qT {Q : VK} {H : Hp} {c : Prop} [Decidable c] (q : Q (.bl true) H) (h : c) : Q (.bl (decide c)) H := by rw [decide_eq_true h]; exact q
theorem gcd_turn {x y : Int} (hx : 0 ≤ x) (hy : 0 < y) : Int.gcd y (x % y) = Int.gcd x y := by
  obtain ⟨m, rfl⟩ := Int.eq_ofNat_of_zero_le hx
  obtain ⟨n, rfl⟩ := Int.eq_ofNat_of_zero_le (Int.le_of_lt hy)
  show Nat.gcd n ((m : Int) % (n : Int)).natAbs = Nat.gcd m n
  have e : ((m : Int) % (n : Int)).natAbs = m % n := by
    rw [← Int.natCast_emod]; rfl
  rw [e, Nat.gcd_comm n, Nat.gcd_comm m n]
  exact (Nat.gcd_rec n m).symm
theorem gcd_end {x y : Int} (hx : 0 ≤ x) (hy : y = 0) : x = ((Int.gcd x y : Nat) : Int) := by
  subst hy
  rw [Int.gcd_zero_right]; omega
theorem gcd_pos {x y : Int} (hy : 0 < y) : 0 < ((Int.gcd x y : Nat) : Int) := by
  have : 0 < Int.gcd x y := Int.gcd_pos_of_ne_zero_right x (by omega)
  omega
theorem gcd_le {x y : Int} (hy : 0 < y) : ((Int.gcd x y : Nat) : Int) ≤ y := Int.le_of_dvd hy (Int.gcd_dvd_right x y)
structure StepD where
  w : Str
  n : Int
  d : Int
  p : Int
  y : Str
  u : Int
noncomputable def StepD.vals (st : StepD) : List V := [.str st.w, .int st.n, .int st.d, .int st.p, .str st.y, .int st.u]
structure StepD.Ok (st : StepD) : Prop where
  w : st.w = "times" ∨ st.w = "add" ∨ st.w = "off"
  n0 : 1 ≤ st.n
  n1 : st.n ≤ 100
  d0 : 1 ≤ st.d
  d1 : st.d ≤ 100
  off : st.w = "off" → st.n < st.d
  p0 : 0 ≤ st.p
  p1 : st.p ≤ 10 ^ 30
  y : st.y = "down" ∨ st.y = "up" ∨ st.y = "near"
  u0 : 1 ≤ st.u
  u1 : st.u ≤ 100
noncomputable def StepD.num (st : StepD) : Int := if st.w = "add" then st.d + st.n else if st.w = "off" then st.d - st.n else st.n
theorem StepD.Ok.num0 {st : StepD} (h : st.Ok) : 1 ≤ st.num := by
  have := h.n0; have := h.d0; have := h.off
  unfold StepD.num
  split
  · omega
  · split
    · rename_i q; have := h.off q; omega
    · omega
theorem StepD.Ok.num1 {st : StepD} (h : st.Ok) : st.num ≤ 200 := by
  have := h.n0; have := h.d0; have := h.n1; have := h.d1
  unfold StepD.num
  split
  · omega
  · split <;> omega
noncomputable def StepD.g (st : StepD) : Int := ((Int.gcd st.num st.d : Nat) : Int)
noncomputable def StepD.sn (st : StepD) : Int := st.num / st.g
noncomputable def StepD.sd (st : StepD) : Int := st.d / st.g
theorem low_mul {x y g : Int} (hg : g = ((Int.gcd x y : Nat) : Int)) : x / g * g = x ∧ y / g * g = y := by
  subst hg
  exact ⟨Int.ediv_mul_cancel (Int.gcd_dvd_left x y), Int.ediv_mul_cancel (Int.gcd_dvd_right x y)⟩
theorem low_cross {x y g : Int} (hg : g = ((Int.gcd x y : Nat) : Int)) (hp : 0 < g) : x / g * y = x * (y / g) := by
  obtain ⟨a, b⟩ := low_mul hg
  have e1 : x / g * y = x / g * (y / g * g) := by rw [b]
  have e2 : x * (y / g) = x / g * g * (y / g) := by rw [a]
  rw [e1, e2, Int.mul_assoc, Int.mul_comm g]
theorem low_gcd {x y : Int} (hy : 0 < y) : Int.gcd (x / ((Int.gcd x y : Nat) : Int)) (y / ((Int.gcd x y : Nat) : Int)) = 1 := by
  have h : 0 < Int.gcd x y := Int.gcd_pos_of_ne_zero_right x (by omega)
  exact Int.gcd_ediv_gcd_ediv_gcd h
theorem low_pos {x y : Int} (hx : 0 < x) (hy : 0 < y) : 1 ≤ x / ((Int.gcd x y : Nat) : Int) := by
  have hg := gcd_pos (x := x) hy
  obtain ⟨a, _⟩ := low_mul (x := x) (y := y) rfl
  have : 0 < x / ((Int.gcd x y : Nat) : Int) := by
    refine Int.not_le.mp fun c => ?_
    have := Int.mul_le_mul_of_nonneg_right c (Int.le_of_lt hg)
    omega
  omega
theorem low_pos' {x y : Int} (hy : 0 < y) : 1 ≤ y / ((Int.gcd x y : Nat) : Int) := by
  have hg := gcd_pos (x := x) hy
  obtain ⟨_, a⟩ := low_mul (x := x) (y := y) rfl
  have : 0 < y / ((Int.gcd x y : Nat) : Int) := by
    refine Int.not_le.mp fun c => ?_
    have := Int.mul_le_mul_of_nonneg_right c (Int.le_of_lt hg)
    omega
  omega
theorem div_le' {x g : Int} (hx : 0 ≤ x) (hg : 0 < g) : x / g ≤ x := Int.ediv_le_self g hx
theorem StepD.Ok.g0 {st : StepD} (h : st.Ok) : 0 < st.g := gcd_pos (by have := h.d0; omega)
theorem StepD.Ok.sn0 {st : StepD} (h : st.Ok) : 1 ≤ st.sn := low_pos (by have := h.num0; omega) (by have := h.d0; omega)
theorem StepD.Ok.sn1 {st : StepD} (h : st.Ok) : st.sn ≤ 200 := Int.le_trans (div_le' (by have := h.num0; omega) h.g0) h.num1
theorem StepD.Ok.sd0 {st : StepD} (h : st.Ok) : 1 ≤ st.sd := low_pos' (by have := h.d0; omega)
theorem StepD.Ok.sd1 {st : StepD} (h : st.Ok) : st.sd ≤ 100 := Int.le_trans (div_le' (by have := h.d0; omega) h.g0) h.d1
theorem StepD.Ok.m1 {st : StepD} (h : st.Ok) : CMulB st.sn st.d := mul_r (by have := h.d0; omega) (by have := h.d1; omega)
theorem StepD.Ok.m2 {st : StepD} (h : st.Ok) : CMulB st.num st.sd := mul_r (by have := h.sd0; omega) (by have := h.sd1; omega)
theorem StepD.Ok.low {st : StepD} (h : st.Ok) : Int.gcd st.sn st.sd = 1 := low_gcd (by have := h.d0; omega)
theorem gen_max {R : Int → Prop} {i j : Int} (h : ∀ z, i ≤ z → j ≤ z → (z = i ∨ z = j) → R z) : R (if j > i then j else i) := by
  by_cases c : j > i
  · rw [if_pos c]; exact h j (by omega) (by omega) (.inr rfl)
  · rw [if_neg c]; exact h i (by omega) (by omega) (.inl rfl)
theorem StepD.gn (st : StepD) : st.sn * st.g = st.num := (low_mul (x := st.num) (y := st.d) rfl).1
theorem StepD.gd (st : StepD) : st.sd * st.g = st.d := (low_mul (x := st.num) (y := st.d) rfl).2
noncomputable def roundI (num den unit : Int) (way : Str) : Int :=
  if way = "down" then num / (den * unit) * unit else if way = "up" then (num + den * unit - 1) / (den * unit) * unit else (2 * num + den * unit) / (2 * (den * unit)) * unit
theorem fl {x c : Int} (h : 0 < c) : c * (x / c) ≤ x ∧ x < c * (x / c) + c := ⟨Int.mul_ediv_self_le (by omega), Int.lt_mul_ediv_self_add h⟩
theorem told_eq (z den unit : Int) : z * unit * den = den * unit * z := by rw [Int.mul_assoc, Int.mul_comm unit den, Int.mul_comm]
theorem round_down {num den unit : Int} {way : Str} (hp : 0 < den * unit) (hw : way = "down") : roundI num den unit way * den ≤ num ∧ num < roundI num den unit way * den + den * unit := by
  have e : roundI num den unit way = num / (den * unit) * unit := if_pos hw
  have f := fl (x := num) hp
  rw [e, told_eq]
  exact f
theorem round_up {num den unit : Int} {way : Str} (hp : 0 < den * unit) (hn : ¬ way = "down") (hw : way = "up") : num ≤ roundI num den unit way * den ∧ roundI num den unit way * den < num + den * unit := by
  have e : roundI num den unit way = (num + den * unit - 1) / (den * unit) * unit := by unfold roundI; rw [if_neg hn, if_pos hw]
  have f := fl (x := num + den * unit - 1) hp
  rw [e, told_eq]
  omega
theorem round_near {num den unit : Int} {way : Str} (hp : 0 < den * unit) (hn : ¬ way = "down") (hw : ¬ way = "up") : 2 * (roundI num den unit way * den) ≤ 2 * num + den * unit ∧ 2 * num < 2 * (roundI num den unit way * den) + den * unit := by
  have e : roundI num den unit way = (2 * num + den * unit) / (2 * (den * unit)) * unit := by unfold roundI; rw [if_neg hn, if_neg hw]
  have f := fl (x := 2 * num + den * unit) (c := 2 * (den * unit)) (by omega)
  rw [Int.mul_assoc] at f
  rw [e, told_eq]
  omega
noncomputable def afterI (st : StepD) (m : Int) : Int := roundI (m * st.sn + st.p * st.sd) st.sd st.u st.y
theorem exact_g (st : StepD) (m : Int) : (m * st.sn + st.p * st.sd) * st.g = m * st.num + st.p * st.d := by
  rw [Int.add_mul, Int.mul_assoc, Int.mul_assoc, st.gn, st.gd]
theorem wide_g (st : StepD) : st.sd * st.u * st.g = st.d * st.u := by rw [Int.mul_right_comm, st.gd]
theorem sc_le {a b g : Int} (hg : 0 < g) (h : a ≤ b) : a * g ≤ b * g := Int.mul_le_mul_of_nonneg_right h (Int.le_of_lt hg)
theorem sc_lt {a b g : Int} (hg : 0 < g) (h : a < b) : a * g < b * g := Int.mul_lt_mul_of_pos_right h hg
theorem su_pos {st : StepD} (h : st.Ok) : 0 < st.sd * st.u := Int.mul_pos (by have := h.sd0; omega) (by have := h.u0; omega)
theorem ediv_is {a c z : Int} (hc : 0 < c) (h1 : z * c ≤ a) (h2 : a < z * c + c) : a / c = z := by
  have l1 : z ≤ a / c := (Int.le_ediv_iff_mul_le hc).mpr h1
  have l2 : a / c < z + 1 := (Int.ediv_lt_iff_lt_mul hc).mpr (by rw [Int.add_mul, Int.one_mul]; exact h2)
  omega
noncomputable def StepD.wide (st : StepD) : Int := st.d * st.u
noncomputable def StepD.exact (st : StepD) (m : Int) : Int := m * st.num + st.p * st.d
noncomputable def StepD.many (st : StepD) (m : Int) : Int :=
  if st.y = "up" ∧ 0 < st.exact m - st.exact m / st.wide * st.wide then st.exact m / st.wide + 1
  else if st.y = "near" ∧ st.wide ≤ 2 * (st.exact m - st.exact m / st.wide * st.wide) then st.exact m / st.wide + 1 else st.exact m / st.wide
theorem StepD.Ok.wide0 {st : StepD} (h : st.Ok) : 0 < st.wide := Int.mul_pos (by have := h.d0; omega) (by have := h.u0; omega)
theorem StepD.Ok.wide1 {st : StepD} (h : st.Ok) : st.wide ≤ 10000 := by
  have h1 : st.d * st.u ≤ st.d * 100 := Int.mul_le_mul_of_nonneg_left h.u1 (by have := h.d0; omega)
  have := h.d1
  unfold StepD.wide; omega
theorem StepD.Ok.y_up {st : StepD} (h : st.y = "up") : ¬ st.y = "down" ∧ ¬ st.y = "near" := by rw [h]; decide
theorem StepD.Ok.y_near {st : StepD} (h : st.y = "near") : ¬ st.y = "down" ∧ ¬ st.y = "up" := by rw [h]; decide
theorem StepD.Ok.y_down {st : StepD} (h : st.y = "down") : ¬ st.y = "up" ∧ ¬ st.y = "near" := by rw [h]; decide
theorem after_many {st : StepD} (h : st.Ok) (m : Int) : afterI st m = st.many m * st.u := by
  have hB := su_pos h
  have hg := h.g0
  have hE : st.exact m = (m * st.sn + st.p * st.sd) * st.g := (exact_g st m).symm
  have hW : st.wide = st.sd * st.u * st.g := (wide_g st).symm
  generalize hX : m * st.sn + st.p * st.sd = X at hE
  have eA : afterI st m = roundI X st.sd st.u st.y := by unfold afterI; rw [hX]
  rw [eA]
  generalize hb : st.sd * st.u = B at hB hW
  have hq : st.exact m / st.wide = X / B := by rw [hE, hW]; exact Int.mul_ediv_mul_of_pos_left X B hg
  have hl : st.exact m - st.exact m / st.wide * st.wide = (X - X / B * B) * st.g := by
    rw [hq, hE, hW, Int.sub_mul, Int.mul_assoc (X / B)]
  have f := fl (x := X) hB
  rw [Int.mul_comm B] at f
  unfold StepD.many roundI
  rw [hl, hq, hb, hW]
  generalize hqq : X / B = q at f
  rcases h.y with y | y | y
  · obtain ⟨n1, n2⟩ := StepD.Ok.y_down y
    rw [if_pos y, if_neg (fun z => n1 z.1), if_neg (fun z => n2 z.1)]
  · obtain ⟨n1, n2⟩ := StepD.Ok.y_up y
    rw [if_neg n1, if_pos y]
    by_cases c : 0 < X - q * B
    · have c' : 0 < (X - q * B) * st.g := Int.mul_pos c hg
      rw [if_pos ⟨y, c'⟩, ediv_is (z := q + 1) hB (by rw [Int.add_mul]; omega) (by rw [Int.add_mul]; omega)]
    · have c' : ¬ 0 < (X - q * B) * st.g := by
        have : X - q * B = 0 := by omega
        rw [this, Int.zero_mul]; decide
      rw [if_neg (fun z => c' z.2), if_neg (fun z => n2 z.1), ediv_is (z := q) hB (by omega) (by omega)]
  · obtain ⟨n1, n2⟩ := StepD.Ok.y_near y
    rw [if_neg n1, if_neg n2, if_neg (fun z => n2 z.1)]
    have hB2 : 0 < 2 * B := by omega
    have e2 : ∀ z : Int, z * (2 * B) = 2 * (z * B) := fun z => by rw [← Int.mul_assoc, Int.mul_comm z 2, Int.mul_assoc]
    by_cases c : B ≤ 2 * (X - q * B)
    · have c' : B * st.g ≤ 2 * ((X - q * B) * st.g) := by rw [← Int.mul_assoc]; exact sc_le hg c
      rw [if_pos ⟨y, c'⟩, ediv_is (z := q + 1) hB2 (by rw [e2, Int.add_mul]; omega) (by rw [e2, Int.add_mul]; omega)]
    · have c' : ¬ B * st.g ≤ 2 * ((X - q * B) * st.g) := by
        rw [← Int.mul_assoc]
        have := sc_lt hg (Int.not_le.mp c)
        omega
      rw [if_neg (fun z => c' z.2), ediv_is (z := q) hB2 (by rw [e2]; omega) (by rw [e2]; omega)]
noncomputable def StepD.cg (st : StepD) : Int := ((Int.gcd st.num st.wide : Nat) : Int)
noncomputable def StepD.cyc (st : StepD) : Int := st.wide / st.cg
noncomputable def StepD.kk (st : StepD) : Int := st.num / st.cg
theorem StepD.Ok.cg0 {st : StepD} (h : st.Ok) : 0 < st.cg := gcd_pos h.wide0
theorem StepD.Ok.cyc0 {st : StepD} (h : st.Ok) : 1 ≤ st.cyc := low_pos' h.wide0
theorem StepD.Ok.cyc1 {st : StepD} (h : st.Ok) : st.cyc ≤ 10000 := Int.le_trans (div_le' (Int.le_of_lt h.wide0) h.cg0) h.wide1
theorem StepD.Ok.kk0 {st : StepD} (h : st.Ok) : 1 ≤ st.kk := low_pos (by have := h.num0; omega) h.wide0
theorem StepD.Ok.kk1 {st : StepD} (h : st.Ok) : st.kk ≤ 200 := Int.le_trans (div_le' (by have := h.num0; omega) h.cg0) h.num1
theorem StepD.Ok.cyc_num {st : StepD} (h : st.Ok) : st.cyc * st.num = st.wide * st.kk := by
  have e := low_cross (x := st.num) (y := st.wide) (g := st.cg) rfl h.cg0
  show st.wide / st.cg * st.num = st.wide * (st.num / st.cg)
  rw [Int.mul_comm, ← e, Int.mul_comm]
theorem StepD.Ok.many_cyc {st : StepD} (h : st.Ok) (m : Int) : st.many (m + st.cyc) = st.many m + st.kk := by
  have hW := h.wide0
  have e : st.exact (m + st.cyc) = st.exact m + st.wide * st.kk := by
    unfold StepD.exact; rw [Int.add_mul, h.cyc_num]; omega
  have eq : st.exact (m + st.cyc) / st.wide = st.exact m / st.wide + st.kk := by
    rw [e, Int.add_mul_ediv_left _ _ (by omega)]
  have el : st.exact (m + st.cyc) - st.exact (m + st.cyc) / st.wide * st.wide = st.exact m - st.exact m / st.wide * st.wide := by
    rw [eq, e, Int.add_mul, Int.mul_comm st.kk]; omega
  unfold StepD.many
  rw [el, eq]
  split
  · omega
  · split <;> omega
structure Chn (K : PySem.W.Frag) (H : Hp) (l : Addr) (as : List Addr) (sts : List StepD) : Prop where
  lst : SqL K H l (as.map V.ref)
  len : as.length = sts.length
  item : ∀ (i : Nat) (a : Addr) (st : StepD), as[i]? = some a → sts[i]? = some st → SqT K H a st.vals
  ok : ∀ st ∈ sts, st.Ok
theorem Chn.same {K : PySem.W.Frag} {H H' : Hp} {l : Addr} {as : List Addr} {sts : List StepD} (c : Chn K H l as sts) (s : Same H H') : Chn K H' l as sts :=
  ⟨s.seq c.lst, c.len, fun i a st h1 h2 => s.seqT (c.item i a st h1 h2), c.ok⟩
theorem Chn.get {K : PySem.W.Frag} {H : Hp} {l : Addr} {as : List Addr} {sts : List StepD} (c : Chn K H l as sts) {i : Nat} {x : V} (h : (as.map V.ref)[i]? = some x) :
    ∃ a st, x = .ref a ∧ as[i]? = some a ∧ sts[i]? = some st ∧ SqT K H a st.vals ∧ st.Ok := by
  rw [List.getElem?_map] at h
  cases e : as[i]? with
  | none => rw [e] at h; cases h
  | some a =>
    rw [e] at h
    have hx : x = .ref a := (Option.some.inj h).symm
    have hi : i < sts.length := by rw [← c.len]; exact (List.getElem?_eq_some_iff.mp e).1
    have es : sts[i]? = some sts[i] := List.getElem?_eq_getElem hi
    exact ⟨a, sts[i], hx, rfl, es, c.item i a _ e es, c.ok _ (List.getElem_mem hi)⟩
theorem take_snoc {α : Type} {l : List α} {i : Nat} {x : α} (h : l[i]? = some x) : l.take (i + 1) = l.take i ++ [x] := by
  obtain ⟨hi, e⟩ := List.getElem?_eq_some_iff.mp h
  rw [← e, List.take_append_getElem hi]
theorem SqT.updL {K : PySem.W.Frag} {H : Hp} {a p : Addr} {xs ys : List V} {o : HO} (h : SqT K H a xs) (hp : H p = some (.lst ys)) : SqT K (upd H p o) a xs := by
  rcases h with (h | ⟨o', h⟩) | h
  · exact .inl (.inl (by rw [upd_ne (ne_of h hp (by intro z; cases z))]; exact h))
  · exact .inl (.inr ⟨o', by rw [upd_ne (ne_of h hp (by intro z; cases z))]; exact h⟩)
  · exact .inr h
noncomputable def prodI (sts : List StepD) : Int := sts.foldl (fun z st => z * st.cyc) 1
theorem prodI_snoc (sts : List StepD) (st : StepD) : prodI (sts ++ [st]) = prodI sts * st.cyc := by
  unfold prodI; rw [List.foldl_append]; rfl
noncomputable def endI (sts : List StepD) (m : Int) : Int := sts.foldl (fun z st => st.many z * st.u) m
theorem endI_snoc (sts : List StepD) (st : StepD) (m : Int) : endI (sts ++ [st]) m = st.many (endI sts m) * st.u := by
  unfold endI; rw [List.foldl_append]; rfl
theorem Same.drop {H H0 H1 : Hp} {p : Addr} {o : HO} (h : Same H H0) (hn : H p = none) (e : H1 = upd H0 p o) : Same H H1 := fun b u q => by
  rw [e, upd_ne (ne_of_none q hn)]; exact h b u q
theorem Chn.copy {K : PySem.W.Frag} {H H' : Hp} {l p : Addr} {as : List Addr} {sts : List StepD} (c : Chn K H l as sts) (s : Same H H') (f : H' p = some (.lst (as.map V.ref))) : Chn K H' p as sts :=
  ⟨SqL.of f, c.len, fun i a st h1 h2 => s.seqT (c.item i a st h1 h2), c.ok⟩
noncomputable def lineStep (z : Int × Int) (st : StepD) : Int × Int := (z.1 * st.num + st.p * z.2 * st.d, z.2 * st.d)
noncomputable def lineI (sts : List StepD) (m : Int) : Int × Int := sts.foldl lineStep (m, 1)
theorem lineI_snoc (sts : List StepD) (st : StepD) (m : Int) : lineI (sts ++ [st]) m = lineStep (lineI sts m) st := by
  unfold lineI; rw [List.foldl_append]; rfl
theorem ok_take {sts : List StepD} {i : Nat} (ok : ∀ st ∈ sts, st.Ok) : ∀ st ∈ sts.take i, st.Ok := fun st h => ok st (List.mem_of_mem_take h)
theorem Chn.cat {K : PySem.W.Frag} {H H' : Hp} {l1 l2 l : Addr} {as bs : List Addr} {sts tts : List StepD} (c : Chn K H l1 as sts) (d : Chn K H l2 bs tts) (s : Same H H') (f : H' l = some (.lst ((as ++ bs).map V.ref))) : Chn K H' l (as ++ bs) (sts ++ tts) := by
  refine ⟨SqL.of f, by rw [List.length_append, List.length_append, c.len, d.len], fun i a st h1 h2 => ?_, fun st h => ?_⟩
  · by_cases hi : i < as.length
    · rw [List.getElem?_append_left hi] at h1
      rw [List.getElem?_append_left (by rw [← c.len]; exact hi)] at h2
      exact s.seqT (c.item i a st h1 h2)
    · have hi' : as.length ≤ i := by omega
      rw [List.getElem?_append_right hi'] at h1
      rw [List.getElem?_append_right (by rw [← c.len]; exact hi'), ← c.len] at h2
      exact s.seqT (d.item _ a st h1 h2)
  · rcases List.mem_append.mp h with h | h
    · exact c.ok st h
    · exact d.ok st h
theorem Chn.one {K : PySem.W.Frag} {H : Hp} {l a : Addr} {st : StepD} (f : H l = some (.lst [V.ref a])) (t : SqT K H a st.vals) (o : st.Ok) : Chn K H l [a] [st] := by
  refine ⟨SqL.of f, rfl, fun i b st' h1 h2 => ?_, fun st' h => ?_⟩
  · cases i with
    | zero =>
      have e1 : a = b := Option.some.inj h1
      have e2 : st = st' := Option.some.inj h2
      subst e1 e2; exact t
    | succ i => simp at h1
  · rw [List.mem_singleton.mp h]; exact o
theorem prodI_one (st : StepD) : prodI [st] = st.cyc := by unfold prodI; simp
theorem prodI_two (s t : StepD) : prodI [s, t] = s.cyc * t.cyc := by unfold prodI; simp
structure IsCyc (sts : List StepD) (c r : Int) : Prop where
  c0 : 1 ≤ c
  r0 : 1 ≤ r
  per : ∀ p, 0 ≤ p → endI sts (p + c) = endI sts p + r
  least : ∀ c' r', 1 ≤ c' → c' < c → ¬ ∀ p, 0 ≤ p → endI sts (p + c') = endI sts p + r'
noncomputable def endsI (sts : List StepD) (c : Int) : List Int := (List.range c.toNat).map fun i => endI sts (i : Nat)
noncomputable def FlatAt (K : PySem.W.Frag) (H : Hp) (x : Addr) (c r : Int) (es : List Int) : Prop :=
  ∃ dx fs p, H x = some (.ins (clsAt K "Flat") dx fs) ∧ fs.lookup ("cycle" : Str) = some (.int c) ∧ fs.lookup ("rise" : Str) = some (.int r) ∧ fs.lookup ("ends" : Str) = some (.ref p) ∧ fs.lookup ("end" : Str) = none ∧ SqT K H p (es.map V.int)
theorem FlatAt.same {K : PySem.W.Frag} {H H' : Hp} {x : Addr} {c r : Int} {es : List Int} (h : FlatAt K H x c r es) (s : Same H H') : FlatAt K H' x c r es :=
  let ⟨dx, fs, p, h1, h2, h3, h4, h5, h6⟩ := h; ⟨dx, fs, p, s _ _ h1, h2, h3, h4, h5, s.seqT h6⟩
theorem FlatAt.updL {K : PySem.W.Frag} {H : Hp} {x p : Addr} {c r : Int} {es : List Int} {ys : List V} {o : HO} (h : FlatAt K H x c r es) (hp : H p = some (.lst ys)) : FlatAt K (upd H p o) x c r es :=
  let ⟨dx, fs, q, h1, h2, h3, h4, h5, h6⟩ := h; ⟨dx, fs, q, by rw [upd_ne (ne_of h1 hp (by intro z; cases z))]; exact h1, h2, h3, h4, h5, h6.updL hp⟩
theorem FlatAt.ins {K : PySem.W.Frag} {H : Hp} {x : Addr} {c r : Int} {es : List Int} (h : FlatAt K H x c r es) : ∃ dx fs, H x = some (.ins (clsAt K "Flat") dx fs) ∧ fs.lookup ("end" : Str) = none :=
  let ⟨dx, fs, _, h1, _, _, _, h5, _⟩ := h; ⟨dx, fs, h1, h5⟩
theorem prodI_pos : ∀ {sts : List StepD}, (∀ st ∈ sts, st.Ok) → 1 ≤ prodI sts := by
  have key : ∀ (n : Nat) (sts : List StepD), sts.length = n → (∀ st ∈ sts, st.Ok) → 1 ≤ prodI sts := by
    intro n
    induction n with
    | zero => intro sts h _; rw [List.length_eq_zero_iff.mp h]; exact Int.le_refl _
    | succ n ih =>
      intro sts h ok
      rcases List.eq_nil_or_concat sts with e | ⟨t, st, e⟩
      · subst e; simp at h
      · subst e
        rw [List.concat_eq_append] at h ok ⊢
        rw [List.length_append] at h
        have h' : t.length = n := by have : [st].length = 1 := rfl; omega
        have a := ih t h' (fun s hs => ok s (List.mem_append_left _ hs))
        have o := (ok st (List.mem_append_right _ (List.mem_singleton.mpr rfl))).cyc0
        rw [prodI_snoc]
        have := Int.mul_le_mul a o (by decide) (by omega)
        omega
  intro sts ok
  exact key _ sts rfl ok
section
variable {X : Cx}
theorem call_list_ofO : CallR X (.type "list") (fun xs H Q => ∃ p ys, xs = [.ref p] ∧ (SqL X.K H p ys ∨ SqT X.K H p ys) ∧ ∀ l H', H l = none → Same H H' → H' l = some (.lst ys) → Q (.ref l) H') := by
  intro pins s σ H xs us Q I r ⟨p, ys, e, hq, q⟩
  exact call_list_of pins s σ H xs us Q I r ⟨p, ys, e, hq, fun l hl => q l _ hl (same_new hl _) upd_same⟩
theorem op_catO : OpR X (binaryOp .Add) (fun x y H Q => ∃ l b xs zs, x = .ref l ∧ y = .ref b ∧ H l = some (.lst xs) ∧ H b = some (.lst zs) ∧ xs.length + zs.length ≤ sizeLine ∧ ∀ p H', H p = none → Same H H' → H' p = some (.lst (xs ++ zs)) → Q (.ref p) H') := by
  intro pins s σ H x y v u Q I rx ry ⟨l, b, xs, zs, e1, e2, h1, h2, h3, q⟩
  exact op_cat pins s σ H x y v u Q I rx ry ⟨l, b, xs, zs, e1, e2, h1, h2, h3, fun p hp => q p _ hp (same_new hp _) upd_same⟩
end
theorem snoc_ind {P : List StepD → Prop} (h0 : P []) (h1 : ∀ t st, P t → P (t ++ [st])) : ∀ sts, P sts := by
  have key : ∀ (n : Nat) (sts : List StepD), sts.length = n → P sts := by
    intro n
    induction n with
    | zero => intro sts h; rw [List.length_eq_zero_iff.mp h]; exact h0
    | succ n ih =>
      intro sts h
      rcases List.eq_nil_or_concat sts with e | ⟨t, st, e⟩
      · subst e; simp at h
      · subst e
        rw [List.concat_eq_append] at h ⊢
        rw [List.length_append] at h
        have h' : t.length = n := by have : [st].length = 1 := rfl; omega
        exact h1 t st (ih t h')
  exact fun sts => key _ sts rfl
theorem per_n {f : Int → Int} {c r : Int} (hc : 0 ≤ c) (h : ∀ p, 0 ≤ p → f (p + c) = f p + r) : ∀ (n : Nat) (p : Int), 0 ≤ p → f (p + n * c) = f p + n * r := by
  intro n
  induction n with
  | zero => intro p _; simp
  | succ n ih =>
    intro p hp
    have hn : 0 ≤ (n : Int) * c := Int.mul_nonneg (Int.natCast_nonneg n) hc
    have e1 : p + ((n + 1 : Nat) : Int) * c = (p + n * c) + c := by rw [Int.natCast_succ, Int.add_mul, Int.one_mul]; omega
    rw [e1, h _ (by omega), ih p hp, Int.natCast_succ, Int.add_mul, Int.one_mul]; omega
theorem per_z {f : Int → Int} {c r n : Int} (hc : 0 ≤ c) (h : ∀ p, 0 ≤ p → f (p + c) = f p + r) (hn : 0 ≤ n) {p : Int} (hp : 0 ≤ p) : f (p + n * c) = f p + n * r := by
  obtain ⟨k, rfl⟩ := Int.eq_ofNat_of_zero_le hn
  exact per_n hc h k p hp
theorem StepD.Ok.many_n {st : StepD} (h : st.Ok) (n : Nat) (m : Int) : st.many (m + n * st.cyc) = st.many m + n * st.kk := by
  induction n with
  | zero => simp
  | succ n ih =>
    have e1 : m + ((n + 1 : Nat) : Int) * st.cyc = (m + n * st.cyc) + st.cyc := by rw [Int.natCast_succ, Int.add_mul, Int.one_mul]; omega
    rw [e1, h.many_cyc, ih, Int.natCast_succ, Int.add_mul, Int.one_mul]; omega
noncomputable def riseI (sts : List StepD) : Int := sts.foldl (fun z st => z * (st.kk * st.u)) 1
theorem riseI_snoc (sts : List StepD) (st : StepD) : riseI (sts ++ [st]) = riseI sts * (st.kk * st.u) := by
  unfold riseI; rw [List.foldl_append]; rfl
theorem riseI_pos : ∀ (sts : List StepD), (∀ st ∈ sts, st.Ok) → 1 ≤ riseI sts := by
  refine snoc_ind (fun _ => Int.le_refl _) fun t st ih ok => ?_
  have o := ok st (List.mem_append_right _ (List.mem_singleton.mpr rfl))
  have a := ih fun s hs => ok s (List.mem_append_left _ hs)
  have b := Int.mul_le_mul o.kk0 o.u0 (by decide) (by have := o.kk0; omega)
  rw [riseI_snoc]
  have := Int.mul_le_mul a b (by decide) (by omega)
  omega
theorem end_prod : ∀ (sts : List StepD), (∀ st ∈ sts, st.Ok) → ∀ p, 0 ≤ p → endI sts (p + prodI sts) = endI sts p + riseI sts := by
  refine snoc_ind (fun _ p _ => rfl) fun t st ih ok p hp => ?_
  have o := ok st (List.mem_append_right _ (List.mem_singleton.mpr rfl))
  have okt : ∀ s ∈ t, s.Ok := fun s hs => ok s (List.mem_append_left _ hs)
  have a := prodI_pos okt
  have b := riseI_pos t okt
  have c0 := o.cyc0
  rw [prodI_snoc, riseI_snoc, endI_snoc, endI_snoc, Int.mul_comm (prodI t), per_z (by omega) (ih okt) (by omega) hp]
  obtain ⟨k, hk⟩ := Int.eq_ofNat_of_zero_le (show 0 ≤ riseI t by omega)
  rw [Int.mul_comm st.cyc, hk, o.many_n, Int.add_mul, Int.mul_assoc]
theorem cyc_dvd {sts : List StepD} {c r : Int} (h : IsCyc sts c r) : ∀ {c' r' : Int}, 0 ≤ c' → (∀ p, 0 ≤ p → endI sts (p + c') = endI sts p + r') → c ∣ c' := by
  have key : ∀ (n : Nat) (c' r' : Int), c' = n → (∀ p, 0 ≤ p → endI sts (p + c') = endI sts p + r') → c ∣ c' := by
    intro n
    induction n using Nat.strongRecOn with
    | ind n ih =>
      intro c' r' e hp
      by_cases z : c' = 0
      · rw [z]; exact Int.dvd_zero c
      · by_cases hlt : c' < c
        · exact (h.least c' r' (by omega) hlt hp).elim
        · have c0 := h.c0
          have d : c ∣ c' - c := by
            refine ih (c' - c).toNat (by omega) (c' - c) (r' - r) (by omega) fun p pp => ?_
            have a := hp p pp
            have b := h.per (p + (c' - c)) (by omega)
            rw [show p + (c' - c) + c = p + c' by omega] at b
            omega
          have := Int.dvd_add d (Int.dvd_refl c)
          rwa [show c' - c + c = c' by omega] at this
  intro c' r' h0 hp
  exact key c'.toNat c' r' (by omega) hp
theorem IsCyc.dvd {sts : List StepD} {c r : Int} (h : IsCyc sts c r) (ok : ∀ st ∈ sts, st.Ok) : c ∣ prodI sts := cyc_dvd h (by have := prodI_pos ok; omega) (end_prod sts ok)
theorem endsI_at {sts : List StepD} {c i : Int} (h0 : 0 ≤ i) (h1 : i < c) : atI ((endsI sts c).map V.int) i = some (.int (endI sts i)) := by
  have hl : i.toNat < c.toNat := by omega
  have q := atI_nat (xs := (endsI sts c).map V.int) (j := i.toNat) (v := .int (endI sts i)) (by
    unfold endsI
    rw [List.getElem?_map, List.getElem?_map, List.getElem?_range hl]
    show some (V.int (endI sts ((i.toNat : Nat) : Int))) = _
    rw [show ((i.toNat : Nat) : Int) = i by omega])
  rwa [show ((i.toNat : Nat) : Int) = i by omega] at q
theorem rise_pos {sts : List StepD} {c r : Int} (ok : ∀ st ∈ sts, st.Ok) (c0 : 1 ≤ c) (per : ∀ p, 0 ≤ p → endI sts (p + c) = endI sts p + r) (hd : c ∣ prodI sts) : 1 ≤ r := by
  obtain ⟨k, hk⟩ := hd
  have a := prodI_pos ok
  have b := riseI_pos sts ok
  have k0 : 0 ≤ k := by
    refine Int.not_lt.mp fun z => ?_
    have := Int.mul_le_mul_of_nonneg_left (show k ≤ -1 by omega) (show 0 ≤ c by omega)
    omega
  have e1 := per_z (p := 0) (by omega) per k0 (Int.le_refl 0)
  have e2 := end_prod sts ok 0 (Int.le_refl 0)
  rw [Int.mul_comm k c, ← hk, e2] at e1
  have e3 : riseI sts = k * r := by omega
  refine Int.not_lt.mp fun z => ?_
  have := Int.mul_le_mul_of_nonneg_left (show r ≤ 0 by omega) k0
  omega
end L2
namespace L2
open PySem PySem.Spec PyProof.Rows
section
variable {X : Cx} {tg : Expr}
theorem call_range2 : CallR X (.type "range") (fun xs H Q => ∃ i j, xs = [.int i, .int j] ∧ ∀ p H', H p = none → Same H H' → H' p = some (.rng i j) → Q (.ref p) H') := by
  intro pins s σ H xs us Q I r h
  obtain ⟨i, j, rfl, q⟩ := h
  obtain ⟨u, v, rfl, ⟨t, rfl⟩, ⟨t', rfl⟩⟩ := Vals.two r
  have hf : H s.heap.objs.size = none := I.hok.fresh (Nat.le_refl _)
  exact call_range_2 ⟨.ref s.heap.objs.size, upd H s.heap.objs.size (.rng i j), I.laid (t' := s.toks + 1) (fun b u e => Heap.get?_push_of_some _ e) (Nat.le_refl _) ⟨_, _, _, Heap.get?_push_size _ rfl⟩, rfl, q _ _ hf (same_new hf _) upd_same⟩
noncomputable def fromTo (i j : Int) : List Int := (List.range (j - i).toNat).map fun k => i + (k : Nat)
theorem call_list_rng (hc : X.calm = true) : CallR X (.type "list") (fun xs H Q => ∃ p i j, xs = [.ref p] ∧ H p = some (.rng i j) ∧ -(2 ^ 62) ≤ i ∧ i < 2 ^ 62 ∧ -(2 ^ 62) ≤ j ∧ j < 2 ^ 62 ∧ (j - i).toNat ≤ 1000000 ∧ ∀ l H', H l = none → Same H H' → H' l = some (.lst ((fromTo i j).map V.int)) → Q (.ref l) H') := by
  intro pins s σ H xs us Q I r h
  obtain ⟨p, i, j, rfl, hp, a1, a2, a3, a4, hz, q⟩ := h
  obtain ⟨u, rfl, rx⟩ := vals1 r
  cases rx
  obtain ⟨t, u, v, e⟩ := (show ObjOk X.prog X.w H s.heap p (.rng i j) from I.hok p _ hp)
  have hn : Builtin.Range.rangeSize i j 1 = ((j - i).toNat : Nat) := by rw [rangeSize_one]; split <;> omega
  refine call_list_range (I.ok.hd hc) e (small_one a1 a2 a3 a4) hn (by omega) fun h' tk acc' c' kp e' it => ?_
  have hf : H s.heap.objs.size = none := I.hok.fresh (Nat.le_refl _)
  have hlen : (fromTo i j).length = (j - i).toNat := by unfold fromTo; rw [List.length_map, List.length_range]
  have hv : Vals ((fromTo i j).map V.int) acc'.toList := by
    obtain ⟨sz, ev⟩ := it
    have key : ∀ (l : List Value) (k : Nat), l.length + k = (j - i).toNat → (∀ m v, l[m]? = some v → ∃ t, v = Value.int (i + ((k + m : Nat) : Int)) t) → Vals (((List.range' k l.length).map fun z => i + (z : Nat)).map V.int) l := by
      intro l
      induction l with
      | nil => intro k _ _; exact .nil
      | cons x xs ih =>
        intro k hk hx
        rw [List.length_cons, List.range'_succ, List.map_cons, List.map_cons]
        obtain ⟨t, et⟩ := hx 0 x rfl
        refine .cons ⟨t, by rw [et]; simp⟩ (ih (k + 1) (by rw [List.length_cons] at hk; omega) fun m v hm => ?_)
        obtain ⟨t, et⟩ := hx (m + 1) v (by simpa using hm)
        exact ⟨t, by rw [et]; congr 1; omega⟩
    have hs : acc'.toList.length = (j - i).toNat := by rw [Array.length_toList]; exact sz
    have := key acc'.toList 0 (by omega) fun m v hm => by
      obtain ⟨t, et⟩ := ev m v (by rw [← hm, Array.getElem?_toList])
      exact ⟨t, by rw [et, Int.mul_one, Nat.zero_add]⟩
    rw [hs] at this
    unfold fromTo
    rw [List.range_eq_range']
    exact this
  refine ⟨.ref s.heap.objs.size, upd H s.heap.objs.size (.lst ((fromTo i j).map V.int)), I.laid (t' := tk) kp (Nat.le_refl _) (show ObjOk X.prog X.w _ h' _ (.lst _) from ⟨?_, acc'.toList, c', hv, by simpa using e'⟩), rfl, q _ _ hf (same_new hf _) upd_same⟩
  rw [List.length_map, hlen]
  exact Nat.le_trans hz (by decide)
end
theorem boot_ty_range : bootBuiltins "range" = some (.type "range") := by decide +kernel
theorem seq_gen {t u : TS} {D : Ends} {σ : St} {H : Hp} (P : St → Hp → Prop) (h2 : ∀ σ H, P σ H → u D σ H) (h1 : ∀ R : St → Hp → Prop, (∀ σ H, P σ H → R σ H) → t { D with nx := R } σ H) : tSeq t u D σ H := h1 (u D) h2
section
variable {X : Cx}
theorem sl_listO : SlR X (fun x lo hi H Q => ∃ a xs, x = .ref a ∧ SqL X.K H a xs ∧ ∀ p H', H p = none → Same H H' → H' p = some (.lst (cutV xs lo hi)) → Q (.ref p) H') := by
  intro pins s σ H x v vl vu lo hi sl Q I rx hs pl pu h
  obtain ⟨a, xs, e, hq, q⟩ := h
  exact sl_list pins s σ H x v vl vu lo hi sl Q I rx hs pl pu ⟨a, xs, e, hq, fun p hp => q p _ hp (same_new hp _) upd_same⟩
end
theorem cut_take {α : Type} (f : α → V) (as : List α) (k : Nat) : cutV (as.map f) none (some (k : Int)) = (as.take k).map f := by
  unfold cutV
  rw [HT.sIx_none, HT.sIx_nat, List.drop_zero, Nat.sub_zero, List.map_take]
  rcases Nat.le_total k (as.map f).length with h | h
  · rw [Nat.min_eq_left h]
  · rw [Nat.min_eq_right h, List.take_length, List.take_of_length_le h]
theorem Chn.take {K : PySem.W.Frag} {H H' : Hp} {l p : Addr} {as : List Addr} {sts : List StepD} (c : Chn K H l as sts) (k : Nat) (s : Same H H') (f : H' p = some (.lst ((as.take k).map V.ref))) : Chn K H' p (as.take k) (sts.take k) := by
  refine ⟨SqL.of f, by rw [List.length_take, List.length_take, c.len], fun i a st h1 h2 => ?_, fun st h => c.ok st (List.mem_of_mem_take h)⟩
  have hi : i < k := by
    have := (List.getElem?_eq_some_iff.mp h1).1
    rw [List.length_take] at this; omega
  rw [List.getElem?_take_of_lt hi] at h1 h2
  exact s.seqT (c.item i a st h1 h2)
section
variable {X : Cx}
end
theorem IsCyc.same {sts : List StepD} {c r c' r' : Int} (h : IsCyc sts c r) (h' : IsCyc sts c' r') : c = c' ∧ r = r' := by
  have e : c = c' := by
    rcases Int.lt_trichotomy c c' with l | l | l
    · exact (h'.least c r h.c0 l h.per).elim
    · exact l
    · exact (h.least c' r' h'.c0 l h'.per).elim
  subst e
  have a := h.per 0 (Int.le_refl 0)
  have b := h'.per 0 (Int.le_refl 0)
  exact ⟨rfl, by omega⟩
section
variable {X : Cx}
end
theorem Chn.upd {K : PySem.W.Frag} {H : Hp} {l p : Addr} {as : List Addr} {sts : List StepD} {ys : List V} {o : HO} (c : Chn K H l as sts) (hp : H p = some (.lst ys)) (f : (upd H p o) l = some (.lst (as.map V.ref))) : Chn K (upd H p o) l as sts :=
  ⟨SqL.of f, c.len, fun i a st h1 h2 => (c.item i a st h1 h2).updL hp, c.ok⟩
end L2
set_option Elab.async false
set_option linter.all false
set_option maxRecDepth 100000
set_option maxHeartbeats 4000000
namespace L2
open PySem PySem.Spec PyProof.Rows
structure LineL (sts : List StepD) (m a b : Int) : Prop where
  a0 : 0 ≤ a
  b0 : 1 ≤ b
  b1 : b ≤ (lineI sts m).2
  e : a * (lineI sts m).2 = (lineI sts m).1 * b
theorem LineL.nil {m : Int} (h : 0 ≤ m) : LineL [] m m 1 := ⟨h, by decide, Int.le_refl _, rfl⟩
end L2
set_option Elab.async false
set_option linter.all false
set_option maxRecDepth 100000
set_option maxHeartbeats 4000000
namespace L2
open PySem PySem.Spec PyProof.Rows
noncomputable def relS (scope sc : Scope) : Scope :=
  { scope with names := scope.names.map fun (n, k) => if (k == .free && sc.kind == .function && sc.names.lookup n == some .cell) then (n, .cell) else (n, k) }
noncomputable abbrev Cx.block (X : Cx) (N : List Str) (s₀ : Shared) (H₀ : Hp) (env : Env) (ex : List Addr) (pn : List (Addr × Obj)) : Cx :=
  { X with N := N, s₀ := s₀, H₀ := H₀, env := env, outer := X.stack, ex := ex, fn := fun _ => false, pn := pn, xe := fun _ _ => False }
theorem clos_go {env : Env} {f : Str × NameKind → List (Str × Addr) → Sem (ForInStep (List (Str × Addr)))}
    (h1 : ∀ n k cs, k ≠ .free → f (n, k) cs = pure (.yield cs)) (h2 : ∀ n c cs, env.cells.lookup n = some c → f (n, .free) cs = pure (.yield ((n, c) :: cs))) :
    ∀ (l : List (Str × NameKind)) (acc : List (Str × Addr)), (∀ n, (n, .free) ∈ l → ∃ c, env.cells.lookup n = some c) → (∀ y c, acc.lookup y = some c → env.cells.lookup y = some c) →
      ∃ cl, forIn l acc f = pure cl ∧ (∀ y c, cl.lookup y = some c → env.cells.lookup y = some c) ∧ (∀ y, (y, .free) ∈ l → ∃ c, cl.lookup y = some c) ∧ ∀ y c, acc.lookup y = some c → ∃ c', cl.lookup y = some c' := by
  intro l
  induction l with
  | nil => intro acc _ h; exact ⟨acc, rfl, h, fun y hy => (List.not_mem_nil hy).elim, fun y c e => ⟨c, e⟩⟩
  | cons x l ih =>
    intro acc hf ha
    obtain ⟨n, k⟩ := x
    by_cases hk : k = .free
    · subst hk
      obtain ⟨c, hc⟩ := hf n List.mem_cons_self
      obtain ⟨cl, e, p1, p2, p3⟩ := ih ((n, c) :: acc) (fun y hy => hf y (List.mem_cons_of_mem _ hy)) fun y c' e => by
        by_cases hy : y = n
        · subst hy
          rw [List.lookup_cons_self] at e
          cases e; exact hc
        · rw [List.lookup_cons, beq_eq_false_iff_ne.mpr hy] at e
          exact ha y c' e
      refine ⟨cl, by rw [List.forIn_cons, h2 n c acc hc, pure_bind]; exact e, p1, fun y hy => ?_, fun y c' e' => ?_⟩
      · rcases List.mem_cons.mp hy with z | z
        · cases z
          exact p3 n c List.lookup_cons_self
        · exact p2 y z
      · by_cases hy : y = n
        · subst hy; exact p3 _ c List.lookup_cons_self
        · exact p3 y c' (by rw [List.lookup_cons, beq_eq_false_iff_ne.mpr hy]; exact e')
    · obtain ⟨cl, e, p1, p2, p3⟩ := ih acc (fun y hy => hf y (List.mem_cons_of_mem _ hy)) ha
      refine ⟨cl, by rw [List.forIn_cons, h1 n k acc hk, pure_bind]; exact e, p1, fun y hy => ?_, p3⟩
      rcases List.mem_cons.mp hy with z | z
      · cases z; exact (hk rfl).elim
      · exact p2 y z
theorem clos_of {scope : Scope} {env : Env} (h : ∀ n, (n, .free) ∈ scope.names → ∃ c, env.cells.lookup n = some c) :
    ∃ cl, closureFor scope env = pure cl ∧ (∀ y c, cl.lookup y = some c → env.cells.lookup y = some c) ∧ ∀ y, (y, .free) ∈ scope.names → ∃ c, cl.lookup y = some c := by
  have key := clos_go (env := env) (f := fun x cs => match x with | (name, kind) => if (kind == .free) = true then do let a ← cellOf env name; pure (.yield ((name, a) :: cs)) else pure (.yield cs))
    (fun n k cs hk => by
      have : (k == NameKind.free) = false := by simpa using hk
      simp only [this, Bool.false_eq_true, if_false]) (fun n c cs hc => by
      simp only [beq_self_eq_true, if_true]
      unfold cellOf
      rw [hc]
      rfl) scope.names [] h (fun y c e => by simp at e)
  obtain ⟨cl, e, p1, p2, _⟩ := key
  refine ⟨cl, ?_, p1, p2⟩
  rw [← e]
  simp only [closureFor]
  exact bind_pure _
noncomputable def CompR (J : It) (te : TE) (τ : List (Option V)) (Q : VK) (H1 : Hp) : Prop := ∀ p H0, H1 p = none → Same H1 H0 → H0 p = some (.lst []) →
  ∃ W : Nat → Nat → List V → Hp → Prop, (∃ m, W 0 m [] H0) ∧ ∀ i m ys H, W i m ys H → H p = some (.lst ys) →
    (J.stop i H ∧ Q (.ref p) H) ∨ (J.go i H ∧ ys.length < sizeLine ∧ ∀ x H', J.yld i H x H' → te (some x :: τ) H' fun y H2 => H2 p = some (.lst ys) ∧ ∃ m', m' < m ∧ W (i + 1) m' (ys ++ [y]) (upd H2 p (.lst (ys ++ [y]))))
noncomputable def tComp (wi : TI) (fr : List Nat) (te : TE) : TE := fun σ H Q => wi σ H fun J H1 => CompR J te (fr.map fun k => σ.getD k none) Q H1
structure CompN (X : Cx) (scope : Scope) (x : Str) (fs : List Str) (fr : List Nat) : Prop where
  kind : scope.kind = .function
  cell : ∀ y ∈ scope.names, y.2 ≠ .cell
  names : ∀ y ∈ scope.names, y.2 = .local → scope.names.lookup y.1 = some .local
  lx : scope.names.lookup x = some .local
  nd : (x :: fs).Nodup
  len : fs.length = fr.length
  frees : ∀ n, (n, NameKind.free) ∈ scope.names → X.env.scope.names.lookup n = some .cell
  fin : ∀ y ∈ fs, (y, NameKind.free) ∈ scope.names ∧ (relS scope X.env.scope).names.lookup y = some .cell
  cells : ∀ y, (relS scope X.env.scope).names.lookup y = some .cell ∨ (relS scope X.env.scope).names.lookup y = some .free → (y, NameKind.free) ∈ scope.names
  slot : ∀ (j k : Nat), fr[j]? = some k → X.N[k]? = fs[j]?
section
variable {X : Cx} {elt iter : Expr} {x : Str} {px pos : Pos} {scope : Scope} {fs : List Str} {fr : List Nat} {wi : TI} {te : TE}
theorem comp_core {pins : List (Addr × Obj)} {s : Shared} {σ : St} {H : Hp} {Q : VK} {cl : List (Str × Addr)} {RR : Value → Addr → Result → Shared → Prop} (n : CompN X scope x fs fr) (hc : X.calm = true) (hi : PI X (.Name x px) iter wi)
    (helt : ∀ s₀ H₀ env ex pn, CxIs (X.block (x :: fs) s₀ H₀ env ex pn) (x :: fs) (relS scope X.env.scope) → PE (X.block (x :: fs) s₀ H₀ env ex pn) elt te)
    (hcl1 : ∀ y c, cl.lookup y = some c → X.env.cells.lookup y = some c) (hcl2 : ∀ y, (y, NameKind.free) ∈ scope.names → ∃ c, cl.lookup y = some c)
    (I : Inv X pins σ H s) (h : tComp wi fr te σ H Q) (hRR : ∀ p C m H' s', Inv X pins σ H' s' → s'.heap.Ns C m → FpOk X pins H' C → Q (.ref p) H' → RR (.ref p) C (.ok .next) s') :
    wpAny (model X.prog X.w) X.A (eval iter X.env) (fun xv s₁ => wpAny (model X.prog X.w) X.A (pyIter xv) (fun it s₂ => wpAny (model X.prog X.w) X.A (newList []) (fun acc s₃ =>
      wpAny (model X.prog X.w) X.A (newFunctionEnv scope X.env.globals cl [] X.env.qual none .none (some X.env)) (fun cenv s₄ =>
        codeAny (model X.prog X.w) X.A (.compStart (.ListComp elt [⟨.Name x px, iter, [], 0⟩] scope pos) 0 it acc { cenv with scope := relabel scope X.env }) (RR acc cenv.locals) s₄) X.xe s₃) X.xe s₂) X.xe s₁) X.xe s := by
  refine thn (hi pins s σ H _ I h) fun v s1 h1 => thn h1 fun itv s2 h2 => ?_
  obtain ⟨it, fp, tn, J, H2, e, I2, T, st2, f2, q2⟩ := h2
  subst e
  refine wpAny_newObj_type (wpAny_newFunctionEnv n.cell (by intro y hy; simp at hy) (fun h₁ hns₁ hsb₁ => ?_) n.kind)
  dsimp only at hns₁ hsb₁ ⊢
  generalize hH3 : s2.heap.push { cls := .type "list", dict := none, data := .seq ([] : List Value).toArray } = h3 at hns₁ hsb₁ ⊢
  have hC : h3.objs.size = s2.heap.objs.size + 1 := by rw [← hH3, Heap.size_push]
  have k3 : ∀ b o, s2.heap.get? b = some o → h3.get? b = some o := fun b o e => by rw [← hH3]; exact Heap.get?_push_of_some _ e
  have hf : H2 s2.heap.objs.size = none := I2.hok.fresh (Nat.le_refl _)
  have I3 : Inv X pins σ (upd H2 s2.heap.objs.size (.lst [])) { s2 with heap := h3 } := I2.laid (t' := s2.toks) k3 (Nat.le_refl _) ⟨Nat.zero_le _, [], 0, .nil, by rw [← hH3]; exact Heap.get?_push_size _ rfl⟩
  obtain ⟨W, ⟨m0, w0⟩, turn⟩ := q2 s2.heap.objs.size _ hf (same_new hf _) upd_same
  have k4 : ∀ b o, h3.get? b = some o → h₁.get? b = some o := fun b o e => hsb₁.extBut b o (Nat.ne_of_lt (Heap.lt_size e)) (Heap.get?_push_of_some _ e)
  have hCf : h3.objs.size ∉ frs X.stack := fun z => by
    rcases List.mem_cons.mp (I3.stkSub _ z) with z | z
    · exact absurd I3.lt (by rw [← z]; exact Nat.lt_irrefl _)
    · exact I3.nofs (Nat.le_refl _) z
  have fpst : ∀ b ∈ fp, b ∉ frs X.stack := fun b hb z => by
    obtain ⟨_, f1, f2', _⟩ := f2 b hb
    rcases List.mem_cons.mp (I2.stkSub _ z) with z | z
    · exact f1 z
    · exact f2' z
  have fplt : ∀ b ∈ fp, b < s2.heap.objs.size := fun b hb => by
    obtain ⟨o, e, _⟩ := T.obj _ _ st2 b hb
    exact Heap.lt_size e
  let Y : Cx := X.block (x :: fs) { s2 with heap := h3 } (upd H2 s2.heap.objs.size (.lst [])) (compEnvC scope cl h3.objs.size X.env) fp (X.pn ++ pins)
  have hscope : Y.env.scope = relS scope X.env.scope := rfl
  have hx0 : Y.env.scope.names.lookup x = some .local := lookup_relabel_local n.lx
  have ok : Y.Ok := by
    refine ⟨I2.ok.mod, n.kind, I2.ok.glob, I2.ok.blt, Nat.le_refl _, fun y z c e1 e2 => I2.ok.inj y z c (hcl1 y c e1) (hcl1 z c e2), fun y hy => hcl2 y (n.cells y hy), (fun _ _ z _ => absurd z Bool.false_ne_true), I2.ok.hd, I2.ok.frames, .inl rfl,
      fun b hb => ⟨Nat.ne_of_lt (by rw [show Y.env.locals = h3.objs.size from rfl, hC]; exact Nat.lt_succ_of_lt (fplt b hb)), fun y c e => (f2 b hb).2.2.2.2.1 y c (hcl1 y c e)⟩,
      fun b o e => ⟨I3.bk b o e, (I3.bs b o e).2⟩, Nat.le_trans I2.ok.bsz I3.sz, fun b o e hb => ?_, fpst, I3.stack, fun b hb => I3.stkFree b hb⟩
    obtain ⟨_, _, _, f3, _⟩ := f2 b hb
    rcases f3 with z | z
    · exact I2.ok.noex b o e z
    · exact absurd (Nat.lt_of_lt_of_le (Heap.lt_size e) (Nat.le_trans I2.ok.bsz z)) (Nat.lt_irrefl _)
  have hlen : ∀ o : Option V, (o :: fr.map fun k => σ.getD k none).length = Y.N.length := fun o => by
    show _ = (x :: fs).length
    simp [n.len]
  have I4 : Inv Y [] (none :: fr.map fun k => σ.getD k none) (upd H2 s2.heap.objs.size (.lst [])) { s2 with heap := h₁, toks := s2.toks + ([] : List (Str × Value)).length } := by
    refine ⟨ok, rfl, I2.bare, Un.kept k4, ⟨_, hns₁, fun i y v e1 e2 e3 => ?_⟩, fun y c e => ?_, ?_, fun y c e => I3.freeC y c (hcl1 y c e), fun p hp => ?_, I3.hok.kept k4, hlen none⟩
    · cases i with
      | zero => simp at e2
      | succ j =>
        rw [List.getElem?_cons_succ, List.getElem?_map] at e2
        have e1' : fs[j]? = some y := by rw [← List.getElem?_cons_succ (a := x)]; exact e1
        cases hk : fr[j]? with
        | none => rw [hk] at e2; simp at e2
        | some k =>
          rw [hk] at e2
          have e2' : σ.getD k none = some v := by simpa using e2
          have e2'' : σ[k]? = some (some v) := by
            rw [List.getD_eq_getElem?_getD] at e2'
            cases q : σ[k]? with
            | none => rw [q] at e2'; simp at e2'
            | some o => rw [q] at e2'; simp at e2'; rw [e2']
          have hy : y ∈ fs := List.mem_of_getElem? e1'
          obtain ⟨hfree, hrel⟩ := n.fin y hy
          have hcell := n.frees y hfree
          obtain ⟨m, _, hl⟩ := I3.loc
          obtain ⟨u, r, l⟩ := hl k y v ((n.slot j k hk).trans e1') e2'' (.inr (.inl hcell))
          refine ⟨u, r, .inr ⟨.inl hrel, ?_⟩⟩
          rcases l with ⟨l, _⟩ | ⟨_, c, ec, hcv⟩
          · have : some NameKind.local = some NameKind.cell := l.symm.trans hcell
            cases this
          · obtain ⟨c', ec'⟩ := hcl2 y hfree
            have := hcl1 y c' ec'
            rw [ec] at this; cases this
            obtain ⟨o, ho, hd⟩ := hcv
            exact ⟨c, ec', o, k4 _ _ ho, hd⟩
    · obtain ⟨v, o, ho, hd⟩ := I3.cell y c (hcl1 y c e)
      exact ⟨v, o, k4 _ _ ho, hd⟩
    · exact I3.hok.fresh (Nat.le_refl _)
    · have hp' : p ∈ X.pn ++ pins := by rw [List.append_nil] at hp; exact hp
      obtain ⟨e, nn, ne, nf, d⟩ := I3.pin p hp'
      refine ⟨k4 _ _ e, nn, Nat.ne_of_lt (Heap.lt_size e), fun z => ?_, d⟩
      rcases List.mem_cons.mp (I3.stkSub _ z) with z | z
      · exact ne z
      · exact nf z
  have stat : ∀ {H' : Hp}, (∀ b ∈ fp, H' b = none) → ∀ b ∈ fp, FpOk Y [] H' b := fun hn b hb => by
    obtain ⟨_, _, _, _, f4, f5⟩ := f2 b hb
    exact ⟨hn b hb, (ok.exf b hb).1, fpst b hb, .inl hb, fun y c e => f4 y c (hcl1 y c e), fun p hp => f5 p (by rw [List.append_nil] at hp; exact hp)⟩
  have st4 : tn 0 h₁ := T.keep _ _ _ st2 fun b _ o e => k4 b o (k3 b o e)
  have fr4 : ∀ b ∈ fp, upd H2 s2.heap.objs.size (.lst []) b = none := fun b hb => by rw [upd_ne (Nat.ne_of_lt (fplt b hb))]; exact (f2 b hb).1
  have cis : CxIs Y (x :: fs) (relS scope X.env.scope) := ⟨rfl, rfl, hc, PassesOwn.never⟩
  have hE := helt _ _ _ _ _ cis
  have loop : ∀ s₃ : Shared, s₃ = { s2 with heap := h₁, toks := s2.toks + ([] : List (Str × Value)).length } →
      codeAny (model X.prog X.w) X.A (.compLoop (.ListComp elt [⟨.Name x px, iter, [], 0⟩] scope pos) 0 (.ref it) (.ref s2.heap.objs.size) (compEnvC scope cl h3.objs.size X.env)) (RR (.ref s2.heap.objs.size) h3.objs.size) s₃ := by
    rintro s₃ rfl
    refine codeAny_loop rfl (fun m s' => ∃ i ys o H', Inv Y [] (o :: fr.map fun k => σ.getD k none) H' s' ∧ tn i s'.heap ∧ (∀ b ∈ fp, H' b = none) ∧ H' s2.heap.objs.size = some (.lst ys) ∧ W i m ys H') (fun m s' hI => ?_) m0 ⟨0, [], none, _, I4, st4, fr4, upd_same, w0⟩
    obtain ⟨i, ys, o, H5, I5, st5, fr5, hp5, w5⟩ := hI
    show wpAny _ _ ((compTurn (.ListComp elt [⟨.Name x px, iter, [], 0⟩] scope pos) 0 (.ref it) (.ref s2.heap.objs.size) Y.env).onRaise (fun x => do noteFrame x Y.env; theTreesLotGoes x)) _ _ s'
    refine wpAny_noted ?_
    rw [compTurn_list1]
    refine wpAny_bind (wpAny_standAt (wpAny_bind ?_))
    rcases turn i m ys H5 w5 hp5 with ⟨stop, qn⟩ | ⟨go, hz, step⟩
    · refine thn (T.done Y rfl rfl rfl hc i [] s' _ H5 _ I5 (stat fr5) st5 stop) fun r s6 ⟨hr, I6⟩ => ?_
      subst hr
      refine wpAny_pure ?_
      obtain ⟨mm, hn, _⟩ := I6.loc
      have u : Un (frs X.stack) fp H2 H5 s2.heap s6.heap := (Un.laid k3 (Nat.le_refl _) hf).trans I6.base
      have I7 : Inv X pins σ H5 s6 := I2.call' (ch := fp) I6.os u I6.hok I6.bare fun b hb => by
        obtain ⟨_, g1, _, g3, g4, g5⟩ := f2 b hb
        exact ⟨g3, g1, g4, g5⟩
      exact hRR _ _ mm H5 s6 I7 hn (I2.fpOk (by rw [hC]; exact Nat.le_succ _) I6.free) qn
    · refine thn (T.item Y rfl rfl rfl hc i [] s' _ H5 _ I5 (stat fr5) st5 go) fun r s6 ⟨u, hr, h6⟩ => ?_
      subst hr
      refine wpAny_bind (thn h6 fun _ s7 ⟨xv, H7, I7, r7, y7, st7, fr7⟩ => ?_)
      have I7' := I7.pinned (stat fr7) (T.obj _ _ st7)
      refine wpAny_bind (wpAny_assign_Name (store_ok (i := 0) I7' n.nd rfl (.inl hx0) r7 (fun s8 I8 => ?_) (.inr hx0)))
      refine wpAny_bind (wpAny_bind (wpAny_mono (hE _ s8 _ H7 _ I8 (step xv H7 y7)) (fun yv s9 h9 => ?_) fun _ _ z => z.elim))
      obtain ⟨y, H9, I9, r9, hp9, m', hm, w9⟩ := h9
      refine wpAny_bind (wpAny_mono (mt_append (X := Y) _ s9 _ H9 (.ref s2.heap.objs.size) [y] (.ref s2.heap.objs.size) [yv] (fun _ H' => H' = upd H9 s2.heap.objs.size (.lst (ys ++ [y]))) I9 rfl (.cons r9 .nil) ⟨_, ys, y, rfl, rfl, hp9, hz, rfl⟩) (fun _ s10 h10 => ?_) fun _ _ z => z.elim)
      obtain ⟨_, H10, I10, _, e10⟩ := h10
      subst e10
      refine wpAny_pure (wpAny_pure ⟨rfl, m', hm, i + 1, ys ++ [y], some xv, _, I10.unpinned (pins := []), T.keep _ _ _ st7 fun b hb o e => (I10.pin (b, o) (List.mem_append_right _ (List.mem_append_right _ (mem_pinsAt hb e)))).1, fun b hb => ?_, upd_same, w9⟩)
      obtain ⟨o, e, d⟩ := T.obj _ _ st7 b hb
      exact (I10.pin (b, o) (List.mem_append_right _ (List.mem_append_right _ (mem_pinsAt hb e)))).2.1
  exact codeAny_compStart_list (loop _ rfl) (T.self _ 0 _ _ _ st4 (loop _ rfl))
theorem pe_comp (n : CompN X scope x fs fr) (hc : X.calm = true) (hi : PI X (.Name x px) iter wi)
    (helt : ∀ s₀ H₀ env ex pn, CxIs (X.block (x :: fs) s₀ H₀ env ex pn) (x :: fs) (relS scope X.env.scope) → PE (X.block (x :: fs) s₀ H₀ env ex pn) elt te)
    (hs : ∀ x, foldedSetIterable iter X.env x = pure x := by intro _; rfl) : PE X (.ListComp elt [⟨.Name x px, iter, [], 0⟩] scope pos) (tComp wi fr te) := by
  intro pins s σ H Q I h
  obtain ⟨cl, e, p1, p2⟩ := clos_of fun y hy => I.ok.has y (.inl (n.frees y hy))
  rw [eval_ListComp]
  refine wpAny_comprehension_free (use := none) rfl hs e n.kind n.names (comp_core (RR := fun acc C => compPost (model X.prog X.w) X.A X.xe none (EP X pins σ Q) acc C) n hc hi helt p1 p2 I h fun p C m H' s' I' hn hf q => ?_)
  obtain ⟨g0, g1, g2, g3, g4, g5⟩ := hf
  exact ⟨m, hn, fun h' sb => ⟨.ref p, H', I'.turned (t' := s'.toks) (fun b o hb e => (sb.2 b hb).trans e) g0 g1 g3 g4 g5, rfl, q⟩⟩
theorem ps_comp {y : Str} {py spos : Pos} {i : Nat} (n : CompN X scope x fs fr) (hc : X.calm = true) (hN : X.N.Nodup) (hiy : X.N[i]? = some y) (hy : X.env.scope.names.lookup y = some .local) (hi : PI X (.Name x px) iter wi)
    (helt : ∀ s₀ H₀ env ex pn, CxIs (X.block (x :: fs) s₀ H₀ env ex pn) (x :: fs) (relS scope X.env.scope) → PE (X.block (x :: fs) s₀ H₀ env ex pn) elt te)
    (hsw : swapsWith (.ListComp elt [⟨.Name x px, iter, [], 0⟩] scope pos) (some (.Name y py)) spos.line X.env = pure true)
    (hs : ∀ x, foldedSetIterable iter X.env x = pure x := by intro _; rfl) : PS X (.Assign [.Name y py] (.ListComp elt [⟨.Name x px, iter, [], 0⟩] scope pos) spos) (tAsg (tComp wi fr te) (gN i)) := by
  intro pins s σ H D I h
  obtain ⟨cl, e, p1, p2⟩ := clos_of fun y hy => I.ok.has y (.inl (n.frees y hy))
  rw [exec_Assign_Name_used _ _ _ _ hsw]
  refine wpAny_bind (wpAny_standAt (wpAny_bind ?_))
  show wpAny _ X.A (do let _ ← comprehension (.ListComp elt [⟨.Name x px, iter, [], 0⟩] scope pos) scope X.env _ (newList []) false (eval iter X.env) (some (assign (.Name y py) X.env))) _ _ s
  refine wpAny_bind (wpAny_mono (wpAny_comprehension_free (use := some (assign (.Name y py) X.env)) (Q := fun _ s' => SP X pins D .next s') rfl hs e n.kind n.names
    (comp_core (RR := fun acc C => compPost (model X.prog X.w) X.A X.xe (some (assign (.Name y py) X.env)) (fun _ s' => SP X pins D .next s') acc C) n hc hi helt p1 p2 I h fun p C m H' s' I' hn hf q => ?_)) (fun _ s' hq => wpAny_pure (wpAny_pure hq)) fun _ _ e => e)
  obtain ⟨g0, g1, g2, g3, g4, g5⟩ := hf
  show wpAny _ X.A (assign (.Name y py) X.env (.ref p)) _ _ _
  refine wpAny_assign_Name (store_ok2 (v := .ref p) I' hN hiy (.inl hy) rfl (fun s'' I'' ⟨a, sb, ha⟩ => ⟨m, hn.sameBut sb ?_, fun h' sb' => ⟨_, H', I''.turned (t' := s''.toks) (fun b o hb e => (sb'.2 b hb).trans e) g0 g1 g3 g4 g5, q _ rfl⟩⟩) (.inr hy))
  rcases ha with z | z
  · rw [z]; exact g1
  · exact fun w => g4 _ _ z w.symm
end
structure CompS (N : List Str) (sc scope : Scope) (x : Str) (fs : List Str) (fr : List Nat) : Prop where
  kind : scope.kind = .function
  cell : ∀ y ∈ scope.names, y.2 ≠ .cell
  names : ∀ y ∈ scope.names, y.2 = .local → scope.names.lookup y.1 = some .local
  lx : scope.names.lookup x = some .local
  nd : (x :: fs).Nodup
  frees : ∀ y ∈ scope.names, y.2 = .free → sc.names.lookup y.1 = some .cell
  fin : ∀ y ∈ fs, (y, NameKind.free) ∈ scope.names ∧ (relS scope sc).names.lookup y = some .cell
  cells : ∀ y ∈ (relS scope sc).names, y.2 = .cell ∨ y.2 = .free → (y.1, NameKind.free) ∈ scope.names
  slot : fr.map (fun k => N[k]?) = fs.map some
theorem mem_of_lookup {α : Type} : ∀ {l : List (Str × α)} {y : Str} {k : α}, l.lookup y = some k → (y, k) ∈ l
  | (n, v) :: r, y, k, h => by
    by_cases e : y = n
    · subst e
      rw [List.lookup_cons_self] at h
      cases h; exact List.mem_cons_self
    · rw [List.lookup_cons, beq_eq_false_iff_ne.mpr e] at h
      exact List.mem_cons_of_mem _ (mem_of_lookup h)
theorem CompS.of {X : Cx} {N : List Str} {sc scope : Scope} {x : Str} {fs : List Str} {fr : List Nat} (c : CxIs X N sc) (h : CompS N sc scope x fs fr) : CompN X scope x fs fr := by
  have hl : fs.length = fr.length := by
    have := congrArg List.length h.slot
    rw [List.length_map, List.length_map] at this
    exact this.symm
  refine ⟨h.kind, h.cell, h.names, h.lx, h.nd, hl, fun n hn => by rw [c.s]; exact h.frees _ hn rfl, fun y hy => by rw [c.s]; exact h.fin y hy, fun y hy => ?_, fun j k e => ?_⟩
  · rw [c.s] at hy
    rcases hy with hy | hy
    · exact h.cells _ (mem_of_lookup hy) (.inl rfl)
    · exact h.cells _ (mem_of_lookup hy) (.inr rfl)
  · rw [c.n]
    have := congrArg (fun l => l[j]?) h.slot
    simp only [List.getElem?_map, e, Option.map_some] at this
    cases q : fs[j]? with
    | none => rw [q] at this; cases this
    | some y => rw [q] at this; simpa using this
noncomputable instance {N sc scope x fs fr} : Decidable (CompS N sc scope x fs fr) :=
  decidable_of_iff (scope.kind = .function ∧ (∀ y ∈ scope.names, y.2 ≠ .cell) ∧ (∀ y ∈ scope.names, y.2 = .local → scope.names.lookup y.1 = some .local) ∧ scope.names.lookup x = some .local ∧ (x :: fs).Nodup ∧ (∀ y ∈ scope.names, y.2 = .free → sc.names.lookup y.1 = some .cell) ∧
    (∀ y ∈ fs, (y, NameKind.free) ∈ scope.names ∧ (relS scope sc).names.lookup y = some .cell) ∧ (∀ y ∈ (relS scope sc).names, y.2 = .cell ∨ y.2 = .free → (y.1, NameKind.free) ∈ scope.names) ∧ fr.map (fun k => N[k]?) = fs.map some)
    ⟨fun ⟨a, b, c, d, e, f, g, h, i⟩ => ⟨a, b, c, d, e, f, g, h, i⟩, fun ⟨a, b, c, d, e, f, g, h, i⟩ => ⟨a, b, c, d, e, f, g, h, i⟩⟩
section
variable {X : Cx} {elt iter : Expr} {x : Str} {px pos : Pos} {scope sc : Scope} {N fs : List Str} {fr : List Nat} {wi : TI} {te : TE}
theorem we_comp (c : CxIs X N sc) (n : CompS N sc scope x fs fr) (hi : WI X (.Name x px) iter wi)
    (helt : ∀ s₀ H₀ env ex pn, CxIs (X.block (x :: fs) s₀ H₀ env ex pn) (x :: fs) (relS scope sc) → WE (X.block (x :: fs) s₀ H₀ env ex pn) elt te)
    (hs : ∀ x, foldedSetIterable iter X.env x = pure x := by intro _; rfl) : WE X (.ListComp elt [⟨.Name x px, iter, [], 0⟩] scope pos) (tComp wi fr te) :=
  ⟨pe_comp (n.of c) c.calm hi.h (fun s₀ H₀ env ex pn cc => (helt s₀ H₀ env ex pn (by rw [c.s] at cc; exact cc)).h) hs⟩
theorem ws_comp {y : Str} {py spos : Pos} {i : Nat} (c : CxIs X N sc) (nd : N.Nodup) (n : CompS N sc scope x fs fr) (hiy : N[i]? = some y) (hy : sc.names.lookup y = some .local) (hi : WI X (.Name x px) iter wi)
    (helt : ∀ s₀ H₀ env ex pn, CxIs (X.block (x :: fs) s₀ H₀ env ex pn) (x :: fs) (relS scope sc) → WE (X.block (x :: fs) s₀ H₀ env ex pn) elt te)
    (hk : sc.kind = .function) (hln : py.line = pos.line) (hnx : (scope.names.any fun (n, k) => n == y && (k == .local || k == .cell)) = false)
    (hs : ∀ x, foldedSetIterable iter X.env x = pure x := by intro _; rfl) : WS X (.Assign [.Name y py] (.ListComp elt [⟨.Name x px, iter, [], 0⟩] scope pos) spos) (tAsg (tComp wi fr te) (gN i)) := by
  refine ⟨ps_comp (n.of c) c.calm (by rw [c.n]; exact nd) (by rw [c.n]; exact hiy) (by rw [c.s]; exact hy) hi.h (fun s₀ H₀ env ex pn cc => (helt s₀ H₀ env ex pn (by rw [c.s] at cc; exact cc)).h) ?_ hs⟩
  show (pure _ : Sem Bool) = pure true
  congr 1
  have h1 : (X.env.blockKind == ScopeKind.function) = true := by
    unfold Env.blockKind
    rw [c.s, hk]; rfl
  have h2 : (X.env.kindOf y == some NameKind.local) = true := by
    show (X.env.scope.names.lookup y == _) = true
    rw [c.s, hy]; rfl
  rw [h1, h2, hnx]
  show (true && true && (py.line == pos.line) && !false) = true
  rw [hln]
  simp
end
theorem comp_list {K : PySem.W.Frag} {a : Addr} {xs : List V} {te : TE} {τ : List (Option V)} {Q : VK} {H1 : Hp} (hz : xs.length ≤ sizeLine) (Pv : Addr → Nat → List V → Hp → Prop) (h0 : ∀ p H', H1 p = none → Same H1 H' → Pv p 0 [] H')
    (hl : ∀ p i ys H, i ≤ xs.length → Pv p i ys H → SqL K H a xs ∧ ys.length = i)
    (hs : ∀ p (i : Nat) x ys H, H1 p = none → xs[i]? = some x → Pv p i ys H → H p = some (.lst ys) → ∀ R : VK, (∀ y H2, H2 p = some (.lst ys) → Pv p (i + 1) (ys ++ [y]) (upd H2 p (.lst (ys ++ [y]))) → R y H2) → te (some x :: τ) H R)
    (hd : ∀ p ys H, H1 p = none → Pv p xs.length ys H → H p = some (.lst ys) → Q (.ref p) H) :
    CompR (Itl K a) te τ Q H1 := by
  intro p H0 hp s0 f0
  refine ⟨fun i m ys H => m = xs.length - i ∧ i ≤ xs.length ∧ Pv p i ys H, ⟨xs.length, by simp, Nat.zero_le _, h0 p H0 hp s0⟩, ?_⟩
  rintro i m ys H ⟨rfl, hi, hP⟩ hH
  obtain ⟨q, ql⟩ := hl p i ys H hi hP
  by_cases hlt : i < xs.length
  · refine .inr ⟨⟨xs, xs[i], q, by simp [hlt]⟩, by omega, fun x H' y => ?_⟩
    obtain ⟨e, y⟩ := y
    subst e
    exact hs p i x ys _ hp (y xs q) hP hH _ fun y H2 h1 h2 => ⟨h1, _, Nat.lt_of_lt_of_le (show xs.length - (i + 1) < xs.length - i by omega) (Nat.le_refl _), rfl, hlt, h2⟩
  · have e : i = xs.length := by omega
    subst e
    exact .inl ⟨⟨xs, q, Nat.le_refl _⟩, hd p ys H hp hP hH⟩
theorem comp_map {K : PySem.W.Frag} {a : Addr} {xs ys : List V} {te : TE} {τ : List (Option V)} {Q : VK} {H1 : Hp} (hz : xs.length ≤ sizeLine) (hS : SqL K H1 a xs) (hlen : xs.length = ys.length)
    (step : ∀ (i : Nat) x y H, xs[i]? = some x → ys[i]? = some y → Same H1 H → ∀ R : VK, (∀ H2, Same H H2 → R y H2) → te (some x :: τ) H R) (fin : ∀ p H', H1 p = none → Same H1 H' → H' p = some (.lst ys) → Q (.ref p) H') :
    CompR (Itl K a) te τ Q H1 := by
  refine comp_list hz (fun p i zs H => Same H1 H ∧ zs = ys.take i) (fun p H' _ s => ⟨s, rfl⟩) (fun p i zs H hi ⟨s, e⟩ => ⟨s.seq hS, by rw [e, List.length_take]; omega⟩) ?_ ?_
  · rintro p i x zs H hp hx ⟨s, rfl⟩ hH R hR
    have hi : i < ys.length := by rw [← hlen]; exact (List.getElem?_eq_some_iff.mp hx).1
    have hy : ys[i]? = some ys[i] := List.getElem?_eq_getElem hi
    refine step i x _ H hx hy s R fun H2 s2 => hR _ H2 (s2 _ _ hH) ⟨(s.trans s2).drop hp rfl, ?_⟩
    exact (take_snoc hy).symm
  · rintro p zs H hp ⟨s, e⟩ hH
    rw [hlen, List.take_length] at e
    subst e
    exact fin p H hp s hH
end L2
namespace L2
open PySem PySem.Spec PyProof.Rows
section
variable {X : Cx} {N : List Str} {sc : Scope} {pos : Pos} {i : Nat} {x : Str}
theorem wxvC (c : CxIs X N sc) (hi : N[i]? = some x) (hv : sc.names.lookup x = some .cell) (hd : (x == ("__debug__" : Str)) = false) (hcd : (x == ("__classdict__" : Str)) = false) : WE X (.Name x pos) (tVar i) :=
  ⟨pe_var (by rw [c.n]; exact hi) (.inr (.inl (by rw [c.s]; exact hv))) hd hcd⟩
theorem wxsC (c : CxIs X N sc) (hf : ∀ x, X.fn x = true) (nd : N.Nodup) {e : Expr} {te : TE} {pos' : Pos} (hi : N[i]? = some x) (hv : sc.names.lookup x = some .cell) (he : WE X e te) (hs : swapsWith e (some (.Name x pos')) pos.line X.env = pure false) :
    WS X (.Assign [.Name x pos'] e pos) (tAsg te (gN i)) :=
  ⟨ps_setN (by rw [c.n]; exact nd) (by rw [c.n]; exact hi) (Or.inr (by rw [c.s]; exact hv)) he.h hs (Or.inl (hf x))⟩
theorem wxtC (c : CxIs X N sc) (hf : ∀ x, X.fn x = true) (nd : N.Nodup) (hi : N[i]? = some x) (hv : sc.names.lookup x = some .cell) : WG X (.Name x pos) (gN i) :=
  ⟨pg_nameN (by rw [c.n]; exact nd) (by rw [c.n]; exact hi) (Or.inr (by rw [c.s]; exact hv)) (Or.inl (hf x))⟩
end
end L2
set_option Elab.async false
set_option linter.all false
set_option maxRecDepth 100000
set_option maxHeartbeats 4000000
namespace L2
open PySem PySem.Spec PyProof.Rows
noncomputable def Prm (p : Int) : Prop := 2 ≤ p ∧ ∀ d, 1 < d → d < p → ¬ d ∣ p
noncomputable def prodL : List Int → Int
  | [] => 1
  | p :: r => p * prodL r
theorem prodL_snoc : ∀ (l : List Int) (p : Int), prodL (l ++ [p]) = prodL l * p
  | [], p => by show p * 1 = 1 * p; omega
  | q :: r, p => by show q * prodL (r ++ [p]) = q * prodL r * p; rw [prodL_snoc r p, Int.mul_assoc]
theorem cop_dvd {q p r : Int} (e : Int.gcd q p = 1) (hd : q ∣ p * r) : q ∣ r := by
  have h1 : Nat.Coprime q.natAbs p.natAbs := e
  have h2 : q.natAbs ∣ p.natAbs * r.natAbs := by rw [← Int.natAbs_mul]; exact Int.natAbs_dvd_natAbs.mpr hd
  exact Int.natAbs_dvd_natAbs.mp (Nat.Coprime.dvd_of_dvd_mul_left h1 h2)
theorem prm_cop {p q r : Int} (hp : Prm p) (h : ¬ p ∣ q) (hd : q ∣ p * r) : q ∣ r := by
  refine cop_dvd ?_ hd
  have hg : 0 < Int.gcd q p := Int.gcd_pos_of_ne_zero_right q (by have := hp.1; omega)
  by_cases e : Int.gcd q p = 1
  · exact e
  · have h1 : ((Int.gcd q p : Nat) : Int) ∣ p := Int.gcd_dvd_right q p
    have h2 : ((Int.gcd q p : Nat) : Int) ∣ q := Int.gcd_dvd_left q p
    have h3 : ((Int.gcd q p : Nat) : Int) ≤ p := Int.le_of_dvd (by have := hp.1; omega) h1
    by_cases e2 : ((Int.gcd q p : Nat) : Int) = p
    · rw [e2] at h2; exact (h h2).elim
    · exact (hp.2 _ (by omega) (by omega) h1).elim
noncomputable def Per (sts : List StepD) (c r : Int) : Prop := ∀ p, 0 ≤ p → endI sts (p + c) = endI sts p + r
theorem dvd_least {sts : List StepD} {c r : Int} (c0 : 1 ≤ c) (hp : Per sts c r) (hl : ∀ c' r', 1 ≤ c' → c' < c → ¬ Per sts c' r') : ∀ {c' r' : Int}, 0 ≤ c' → Per sts c' r' → c ∣ c' := by
  have key2 : ∀ (m : Nat) (c' r' : Int), c' = m → Per sts c' r' → c ∣ c' := by
    intro m
    induction m using Nat.strongRecOn with
    | ind m ihm =>
      intro c' r' e' hp'
      by_cases z : c' = 0
      · rw [z]; exact Int.dvd_zero c
      · by_cases hlt : c' < c
        · exact (hl c' r' (by omega) hlt hp').elim
        · have d : c ∣ c' - c := by
            refine ihm (c' - c).toNat (by omega) (c' - c) (r' - r) (by omega) fun p pp => ?_
            have a := hp' p pp
            have b := hp (p + (c' - c)) (by omega)
            rw [show p + (c' - c) + c = p + c' by omega] at b
            omega
          have := Int.dvd_add d (Int.dvd_refl c)
          rwa [show c' - c + c = c' by omega] at this
  intro c' r' h0 hp'
  exact key2 c'.toNat c' r' (by omega) hp'
theorem least_ex {sts : List StepD} (ok : ∀ st ∈ sts, st.Ok) : ∃ c r, IsCyc sts c r := by
  have pr := prodI_pos ok
  have key : ∀ (n : Nat) (c r : Int), c = n → 1 ≤ c → Per sts c r → ∃ c r, IsCyc sts c r := by
    intro n
    induction n using Nat.strongRecOn with
    | ind n ih =>
      intro c r e c0 hp
      by_cases hex : ∃ c' r', 1 ≤ c' ∧ c' < c ∧ Per sts c' r'
      · obtain ⟨c', r', a, b, d⟩ := hex
        exact ih c'.toNat (by omega) c' r' (by omega) a d
      · have hl : ∀ c' r', 1 ≤ c' → c' < c → ¬ Per sts c' r' := fun c' r' a b d => hex ⟨c', r', a, b, d⟩
        exact ⟨c, r, c0, rise_pos ok c0 hp (dvd_least c0 hp hl (by omega) (end_prod sts ok)), hp, hl⟩
  exact key (prodI sts).toNat (prodI sts) (riseI sts) (by omega) (by omega) (end_prod sts ok)
theorem Per.inj {sts : List StepD} {c r r' : Int} (h : Per sts c r) (h' : Per sts c r') : r = r' := by
  have a := h 0 (Int.le_refl 0)
  have b := h' 0 (Int.le_refl 0)
  omega
theorem Per.mul {sts : List StepD} {c r n : Int} (h : Per sts c r) (hc : 0 ≤ c) (hn : 0 ≤ n) : Per sts (n * c) (n * r) := fun p hp => per_z hc h hn hp
structure Down (sts : List StepD) (c r : Int) (rest : List Int) : Prop where
  c0 : 1 ≤ c
  per : Per sts c r
  left : prodL rest ∣ c
  way : ∃ L rL k, IsCyc sts L rL ∧ c = k * L ∧ k ∣ prodL rest
theorem Down.start {sts : List StepD} {c r : Int} {l : List Int} (ok : ∀ st ∈ sts, st.Ok) (c0 : 1 ≤ c) (per : Per sts c r) (hl : prodL l = c) : Down sts c r l := by
  obtain ⟨L, rL, h⟩ := least_ex ok
  obtain ⟨k, hk⟩ := cyc_dvd h (show 0 ≤ c by omega) per
  exact ⟨c0, per, by rw [hl]; exact Int.dvd_refl c, L, rL, k, h, by rw [hk, Int.mul_comm], by rw [hl, hk]; exact Int.dvd_mul_left L k⟩
theorem Down.fin {sts : List StepD} {c r : Int} (d : Down sts c r []) : IsCyc sts c r := by
  obtain ⟨L, rL, k, h, e, hk⟩ := d.way
  have c0 := d.c0
  have L0 := h.c0
  have hk1 : k = 1 := by
    have hk' : k ∣ 1 := hk
    have : 0 < k := by
      refine Int.not_le.mp fun z => ?_
      have := Int.mul_le_mul_of_nonneg_right z (show 0 ≤ L by omega)
      omega
    exact Int.eq_one_of_dvd_one (by omega) hk'
  subst hk1
  rw [Int.one_mul] at e
  subst e
  rw [Per.inj d.per h.per]
  exact h
theorem Down.yes {sts : List StepD} {c r p : Int} {l : List Int} (d : Down sts c r (p :: l)) (hp : Prm p) {c' r' : Int} (hc : c = p * c') (per : Per sts c' r') : Down sts c' r' l := by
  have c0 := d.c0
  have p0 := hp.1
  have c1 : 1 ≤ c' := by
    refine Int.not_lt.mp fun z => ?_
    have := Int.mul_le_mul_of_nonneg_left (show c' ≤ 0 by omega) (show 0 ≤ p by omega)
    omega
  obtain ⟨L, rL, k, h, e, hk⟩ := d.way
  refine ⟨c1, per, ?_, ?_⟩
  · have : p * prodL l ∣ p * c' := by rw [← hc]; exact d.left
    exact Int.dvd_of_mul_dvd_mul_left (by omega) this
  · obtain ⟨k', hk'⟩ := cyc_dvd h (show 0 ≤ c' by omega) per
    refine ⟨L, rL, k', h, by rw [hk', Int.mul_comm], ?_⟩
    have L0 := h.c0
    have ek : k = p * k' := by
      refine Int.eq_of_mul_eq_mul_right (show L ≠ 0 by omega) ?_
      rw [← e, hc, hk', Int.mul_assoc, Int.mul_comm k']
    have : p * k' ∣ p * prodL l := by rw [← ek]; exact hk
    exact Int.dvd_of_mul_dvd_mul_left (by omega) this
theorem Down.no {sts : List StepD} {c r p : Int} {l : List Int} (d : Down sts c r (p :: l)) (hp : Prm p) (hn : ∀ c' r', c = p * c' → r = p * r' → ¬ Per sts c' r') : Down sts c r l := by
  obtain ⟨L, rL, k, h, e, hk⟩ := d.way
  have c0 := d.c0
  have L0 := h.c0
  refine ⟨c0, d.per, Int.dvd_trans (Int.dvd_mul_left _ _) d.left, L, rL, k, h, e, prm_cop hp (fun hd => ?_) hk⟩
  obtain ⟨k', ek⟩ := hd
  have p0 := hp.1
  have k0 : 0 ≤ k' := by
    refine Int.not_lt.mp fun z => ?_
    have h1 := Int.mul_le_mul_of_nonneg_left (show k' ≤ -1 by omega) (show 0 ≤ p by omega)
    rw [← ek] at h1
    have := Int.mul_le_mul_of_nonneg_right (show k ≤ 0 by omega) (show 0 ≤ L by omega)
    omega
  have per' : Per sts (k' * L) (k' * rL) := Per.mul h.per (by omega) k0
  refine hn (k' * L) (k' * rL) (by rw [e, ek, Int.mul_assoc]) ?_ per'
  have hper : Per sts c (p * (k' * rL)) := by
    have := Per.mul per' (Int.mul_nonneg k0 (by omega)) (show 0 ≤ p by omega)
    rwa [show p * (k' * L) = c by rw [e, ek, Int.mul_assoc]] at this
  exact Per.inj d.per hper
theorem part_per {sts : List StepD} {part rise n : Int} (hn : 1 ≤ n) (hp : 1 ≤ part) (per : Per sts (n * part) (n * rise)) (h : ∀ q, 0 ≤ q → q + part < n * part → endI sts (q + part) = endI sts q + rise) : Per sts part rise := by
  have c0 : 0 < n * part := Int.mul_pos (by omega) (by omega)
  have up : ∀ (j : Nat) (t : Int), 0 ≤ t → t < part → (j : Int) ≤ n - 1 → endI sts (t + j * part) = endI sts t + j * rise := by
    intro j
    induction j with
    | zero => intro t _ _ _; simp
    | succ j ih =>
      intro t t0 t1 hj
      have hj' : ((j : Nat) : Int) + 1 ≤ n - 1 := by omega
      have e1 : t + ((j + 1 : Nat) : Int) * part = (t + j * part) + part := by rw [Int.natCast_succ, Int.add_mul, Int.one_mul]; omega
      have b : (((j : Nat) : Int) + 1) * part ≤ (n - 1) * part := Int.mul_le_mul_of_nonneg_right hj' (by omega)
      have b0 : 0 ≤ ((j : Nat) : Int) * part := Int.mul_nonneg (Int.natCast_nonneg j) (by omega)
      rw [Int.add_mul, Int.one_mul, Int.sub_mul, Int.one_mul] at b
      rw [e1, h (t + j * part) (by omega) (by omega), ih t t0 t1 (by omega), Int.natCast_succ, Int.add_mul, Int.one_mul]; omega
  have low : ∀ p, 0 ≤ p → p < n * part → endI sts (p + part) = endI sts p + rise := by
    intro p p0 p1
    by_cases hlt : p + part < n * part
    · exact h p p0 hlt
    · obtain ⟨j, hj⟩ := Int.eq_ofNat_of_zero_le (show 0 ≤ n - 1 by omega)
      have e1 : (n - 1) * part = n * part - part := by rw [Int.sub_mul, Int.one_mul]
      have a := up j (p - (n - 1) * part) (by omega) (by omega) (by omega)
      rw [← hj] at a
      rw [show p - (n - 1) * part + (n - 1) * part = p by omega] at a
      have b := per (p - (n - 1) * part) (by omega)
      rw [show p - (n - 1) * part + n * part = p + part by omega] at b
      have e2 : (n - 1) * rise = n * rise - rise := by rw [Int.sub_mul, Int.one_mul]
      omega
  intro p pp
  have m0 : 0 ≤ p % (n * part) := Int.emod_nonneg p (by omega)
  have m1 : p % (n * part) < n * part := Int.emod_lt_of_pos p c0
  have d0 : 0 ≤ p / (n * part) := Int.ediv_nonneg pp (by omega)
  have e := Int.emod_add_mul_ediv p (n * part)
  rw [Int.mul_comm (n * part)] at e
  have a1 := per_z (by omega) per d0 m0
  have a2 := per_z (by omega) per d0 (show 0 ≤ p % (n * part) + part by omega)
  have a3 := low (p % (n * part)) m0 m1
  rw [e] at a1
  rw [show p % (n * part) + part + p / (n * part) * (n * part) = p + part by omega] at a2
  rw [a2, a1, a3]; omega
theorem per_step {sts : List StepD} {st : StepD} {c r : Int} (o : st.Ok) (c0 : 1 ≤ c) (r0 : 1 ≤ r) (per : Per sts c r) (nn : ∀ p, 0 ≤ p → 0 ≤ endI sts p) {g many : Int} (hg : g = ((Int.gcd r st.cyc : Nat) : Int)) (hm : many = st.cyc / g) :
    Per (sts ++ [st]) (c * many) (r * many / st.cyc * (st.kk * st.u)) ∧ 1 ≤ many ∧ many ∣ st.cyc ∧ 1 ≤ r * many / st.cyc := by
  have y0 := o.cyc0
  have g0 : 0 < g := by rw [hg]; exact gcd_pos (by omega)
  have gd : g ∣ st.cyc := by rw [hg]; exact Int.gcd_dvd_right _ _
  have gr : g ∣ r := by rw [hg]; exact Int.gcd_dvd_left _ _
  have em : many * g = st.cyc := by rw [hm]; exact Int.ediv_mul_cancel gd
  have er : r / g * g = r := Int.ediv_mul_cancel gr
  have m0 : 1 ≤ many := by
    refine Int.not_lt.mp fun z => ?_
    have := Int.mul_le_mul_of_nonneg_right (show many ≤ 0 by omega) (show 0 ≤ g by omega)
    omega
  have rg0 : 1 ≤ r / g := by
    refine Int.not_lt.mp fun z => ?_
    have := Int.mul_le_mul_of_nonneg_right (show r / g ≤ 0 by omega) (show 0 ≤ g by omega)
    omega
  have eq : r * many = r / g * st.cyc := by
    have : r * many = r / g * g * many := by rw [er]
    rw [this, ← em, Int.mul_assoc, Int.mul_comm g]
  have eqd : r * many / st.cyc = r / g := by rw [eq]; exact Int.mul_ediv_cancel _ (by omega)
  refine ⟨fun p hp => ?_, m0, ⟨g, em.symm⟩, by rw [eqd]; exact rg0⟩
  rw [eqd, endI_snoc, endI_snoc, Int.mul_comm c many, per_z (by omega) per (show 0 ≤ many by omega) hp, Int.mul_comm many r, eq]
  obtain ⟨k, hk⟩ := Int.eq_ofNat_of_zero_le (show 0 ≤ r / g by omega)
  rw [hk, o.many_n, Int.add_mul, Int.mul_assoc]
theorem many_nn {st : StepD} (o : st.Ok) {m : Int} (hm : 0 ≤ m) : 0 ≤ st.many m := by
  have e0 : 0 ≤ st.exact m := by
    unfold StepD.exact
    have h1 := Int.mul_nonneg hm (show 0 ≤ st.num by have := o.num0; omega)
    have h2 := Int.mul_nonneg o.p0 (show 0 ≤ st.d by have := o.d0; omega)
    omega
  have d0 := Int.ediv_nonneg e0 (Int.le_of_lt o.wide0)
  unfold StepD.many
  split
  · omega
  · split <;> omega
theorem endI_nn : ∀ (sts : List StepD), (∀ st ∈ sts, st.Ok) → ∀ p, 0 ≤ p → 0 ≤ endI sts p := by
  refine snoc_ind (fun _ p hp => hp) fun t st ih ok p hp => ?_
  have o := ok st (List.mem_append_right _ (List.mem_singleton.mpr rfl))
  rw [endI_snoc]
  exact Int.mul_nonneg (many_nn o (ih (fun s hs => ok s (List.mem_append_left _ hs)) p hp)) (by have := o.u0; omega)
structure Fac (n0 n q : Int) (fs : List Int) : Prop where
  n1 : 1 ≤ n
  q2 : 2 ≤ q
  prm : ∀ p ∈ fs, Prm p
  prod : prodL fs * n = n0
  none : ∀ d, 1 < d → d < q → ¬ d ∣ n
  len : (fs.length : Int) ≤ n0 - n
theorem Fac.start {n : Int} (h : 1 ≤ n) : Fac n n 2 [] := ⟨h, by omega, fun p hp => (List.not_mem_nil hp).elim, by show 1 * n = n; omega, fun d h1 h2 => by omega, by show ((0 : Nat) : Int) ≤ n - n; omega⟩
theorem Fac.hit {n0 n q : Int} {fs : List Int} (f : Fac n0 n q fs) (hq : q ∣ n) : Fac n0 (n / q) q (fs ++ [q]) ∧ n / q < n ∧ Prm q := by
  have q2 := f.q2
  have n1 := f.n1
  have e : n / q * q = n := Int.ediv_mul_cancel hq
  have h1 : 1 ≤ n / q := by
    refine Int.not_lt.mp fun z => ?_
    have := Int.mul_le_mul_of_nonneg_right (show n / q ≤ 0 by omega) (show 0 ≤ q by omega)
    omega
  have lt : n / q < n := by
    have := Int.mul_le_mul_of_nonneg_left q2 (show 0 ≤ n / q by omega)
    omega
  have pq : Prm q := ⟨q2, fun d h1 h2 hd => f.none d h1 h2 (Int.dvd_trans hd hq)⟩
  refine ⟨⟨h1, q2, fun p hp => ?_, ?_, fun d h1 h2 hd => f.none d h1 h2 (Int.dvd_trans hd ⟨q, e.symm⟩), ?_⟩, lt, pq⟩
  · rcases List.mem_append.mp hp with z | z
    · exact f.prm p z
    · rw [List.mem_singleton.mp z]; exact pq
  · rw [prodL_snoc, Int.mul_assoc, Int.mul_comm q, e, f.prod]
  · have := f.len
    rw [List.length_append, List.length_singleton]
    omega
theorem Fac.miss {n0 n q : Int} {fs : List Int} (f : Fac n0 n q fs) (hq : ¬ q ∣ n) : Fac n0 n (q + 1) fs :=
  ⟨f.n1, by have := f.q2; omega, f.prm, f.prod, fun d h1 h2 hd => by
    by_cases e : d = q
    · rw [e] at hd; exact hq hd
    · exact f.none d h1 (by omega) hd, f.len⟩
theorem Fac.last {n0 n q : Int} {fs : List Int} (f : Fac n0 n q fs) (h : n < q * q) (hn : 1 < n) : Prm n ∧ prodL (fs ++ [n]) = n0 := by
  refine ⟨⟨by omega, fun d h1 h2 hd => ?_⟩, by rw [prodL_snoc]; exact f.prod⟩
  have q2 := f.q2
  by_cases hlt : d < q
  · exact f.none d h1 hlt hd
  · obtain ⟨e, he⟩ := hd
    have e1 : 1 < e := by
      refine Int.not_le.mp fun z => ?_
      have := Int.mul_le_mul_of_nonneg_left z (show 0 ≤ d by omega)
      omega
    have e2 : e < q := by
      refine Int.not_le.mp fun z => ?_
      have := Int.mul_le_mul (show q ≤ d by omega) z (by omega) (by omega)
      omega
    exact f.none e e1 e2 ⟨d, by rw [he, Int.mul_comm]⟩
theorem Fac.one {n0 n q : Int} {fs : List Int} (f : Fac n0 n q fs) (hn : ¬ 1 < n) : prodL fs = n0 := by
  have n1 := f.n1
  have e : n = 1 := by omega
  have := f.prod
  rw [e, Int.mul_one] at this
  exact this
section
variable {X : Cx}
theorem call_range1 : CallR X (.type "range") (fun xs H Q => ∃ j, xs = [.int j] ∧ ∀ p H', H p = none → Same H H' → H' p = some (.rng 0 j) → Q (.ref p) H') := by
  intro pins s σ H xs us Q I r h
  obtain ⟨j, rfl, q⟩ := h
  obtain ⟨u, rfl, ⟨t, rfl⟩⟩ := vals1 r
  have hf : H s.heap.objs.size = none := I.hok.fresh (Nat.le_refl _)
  exact call_range_1 ⟨.ref s.heap.objs.size, upd H s.heap.objs.size (.rng 0 j), I.laid (t' := s.toks + 1 + 1) (fun b u e => Heap.get?_push_of_some _ e) (Nat.le_refl _) ⟨_, _, _, Heap.get?_push_size _ rfl⟩, rfl, q _ _ hf (same_new hf _) upd_same⟩
theorem call_tuple_ofO : CallR X (.type "tuple") (fun xs H Q => ∃ p ys, xs = [.ref p] ∧ SqL X.K H p ys ∧ ∀ l H', H l = none → Same H H' → H' l = some (.tup ys) → Q (.ref l) H') := by
  intro pins s σ H xs us Q I r ⟨p, ys, e, hq, q⟩
  exact call_tuple_of pins s σ H xs us Q I r ⟨p, ys, e, .inl ⟨hq, fun l hl => q l _ hl (same_new hl _) upd_same⟩⟩
end
theorem SqT.updI {K : PySem.W.Frag} {H : Hp} {a p C dx : Addr} {xs : List V} {fs : List (Str × V)} {o : HO} (h : SqT K H a xs) (hp : H p = some (.ins C dx fs)) : SqT K (upd H p o) a xs := by
  rcases h with (h | ⟨o', h⟩) | h
  · exact .inl (.inl (by rw [upd_ne (ne_of h hp (by intro z; cases z))]; exact h))
  · exact .inl (.inr ⟨o', by rw [upd_ne (ne_of h hp (by intro z; cases z))]; exact h⟩)
  · exact .inr h
theorem endsI_nil (c : Int) : (endsI [] c).map V.int = (fromTo 0 c).map V.int := by
  unfold endsI fromTo
  rw [Int.sub_zero]
  congr 1
  refine List.map_congr_left fun i _ => ?_
  show ((i : Nat) : Int) = 0 + (i : Nat)
  omega
theorem endsI_get {sts : List StepD} {c : Int} {i : Nat} {x : V} (h : ((endsI sts c).map V.int)[i]? = some x) : x = .int (endI sts (i : Nat)) ∧ i < c.toNat := by
  unfold endsI at h
  rw [List.getElem?_map, List.getElem?_map] at h
  have hi : i < c.toNat := by
    refine Nat.lt_of_not_le fun z => ?_
    rw [List.getElem?_eq_none (by rw [List.length_range]; exact z)] at h
    cases h
  rw [List.getElem?_range hi] at h
  exact ⟨(Option.some.inj h).symm, hi⟩
theorem endsI_take {sts : List StepD} {c d : Int} (h0 : 0 ≤ d) (h : d ≤ c) : cutV ((endsI sts c).map V.int) none (some d) = (endsI sts d).map V.int := by
  obtain ⟨k, rfl⟩ := Int.eq_ofNat_of_zero_le h0
  rw [cut_take]
  congr 1
  unfold endsI
  rw [← List.map_take, List.take_range]
  congr 2
  omega
theorem endsI_size {sts : List StepD} {c : Int} : ((endsI sts c).map V.int).length = c.toNat := by
  unfold endsI; rw [List.length_map, List.length_map, List.length_range]
end L2
set_option Elab.async false
set_option linter.all false
set_option maxRecDepth 100000
set_option maxHeartbeats 4000000
namespace L2
open PySem PySem.Spec PyProof.Rows
section
variable {X : Cx}
end
section
variable {X : Cx} {tg : Expr}
end
section
variable {X : Cx} {a b : Expr} {rest : List Expr} {ta tb : TE} {pos : Pos}
end
noncomputable abbrev TJ := Str → St → Hp → VK → Prop
section
variable {X : Cx} {e v1 v2 : Expr} {es : List Expr} {te : TE} {t : TJ} {pos : Pos}
end
section
variable {env : Env} {es : List Expr}
theorem star_ListComp {a g sc p} : starEach (.ListComp a g sc p :: es) env = (false, eval (.ListComp a g sc p) env) :: starEach es env := by first | rfl | with_unfolding_all rfl
end
end L2
set_option Elab.async false
set_option linter.all false
set_option maxRecDepth 100000
set_option maxHeartbeats 4000000
namespace L2
open PySem PySem.Spec PyProof.Rows PySem.NumText
noncomputable def numS (v : Int) : Str := Str.ofString (toString v)
noncomputable instance (l : List Nat) : Decidable (AllDigits l) := inferInstanceAs (Decidable (∀ c ∈ l, 48 ≤ c ∧ c ≤ 57))
noncomputable def numT (t : Str) (low high : Int) : Option Int :=
  if t = "" ∨ (numS high).length < t.length then none
  else if ¬ AllDigits t.cps.toList then none
  else if t.cps.toList.head? = some 48 ∧ ¬ t = "0" then none
  else if ((digitsVal t.cps.toList : Nat) : Int) < low ∨ high < ((digitsVal t.cps.toList : Nat) : Int) then none else some ((digitsVal t.cps.toList : Nat) : Int)
noncomputable def fracT (t w : Str) : Option (Int × Int) :=
  match (Txt.split t "/").map fun p => numT p 1 100 with
  | [some n, some d] => if w = "off" ∧ d ≤ n then none else some (n, d)
  | _ => none
noncomputable def partW (ws : List Str) (k : Nat) (al : List Str) : Option Str := if k + 1 < ws.length ∧ ws.getD k "" ∈ al then some (ws.getD k "") else none
noncomputable def sA (ws : List Str) : Option Str → Option (Int × Int) × Nat
  | none => (some (1, 1), 0)
  | some x => (fracT (ws.getD 1 "") x, 2)
noncomputable def sB (ws : List Str) (k : Nat) : Option Str → Option Int × Nat
  | none => (some 0, k)
  | some _ => (numT (ws.getD (k + 1) "") 0 (10 ^ 30), k + 2)
noncomputable def sC (ws : List Str) (k : Nat) : Option Str → Option Int × Nat
  | none => (some 1, k)
  | some _ => (numT (ws.getD (k + 1) "") 1 100, k + 2)
noncomputable def sD (w y : Option Str) : Option (Int × Int) → Option Int → Option Int → Option StepD
  | some (n, d), some pn, some un => some ⟨w.getD "times", n, d, pn, y.getD "near", un⟩
  | _, _, _ => none
noncomputable def wordsA : List Str := ["times", "add", "off"]
noncomputable def waysA : List Str := ["down", "up", "near"]
noncomputable def stepE (ws : List Str) (w y : Option Str) (f : Option (Int × Int)) (p u : Option Int) (k : Nat) : Option StepD := if k < ws.length then none else sD w y f p u
noncomputable def stepV (ws : List Str) (w pl y : Option Str) (f : Option (Int × Int) × Nat) (p u : Option Int × Nat) (r : Option StepD) : Prop :=
  w = partW ws 0 wordsA ∧ f = sA ws w ∧ pl = partW ws f.2 ["plus"] ∧ p = sB ws f.2 pl ∧ y = partW ws p.2 waysA ∧ u = sC ws p.2 y ∧ r = stepE ws w y f.1 p.1 u.1 u.2
noncomputable def stepW (ws : List Str) : Option StepD :=
  let w := partW ws 0 wordsA
  let f := sA ws w
  let p := sB ws f.2 (partW ws f.2 ["plus"])
  let y := partW ws p.2 waysA
  let u := sC ws p.2 y
  stepE ws w y f.1 p.1 u.1 u.2
theorem stepV.eq {ws : List Str} {w pl y : Option Str} {f : Option (Int × Int) × Nat} {p u : Option Int × Nat} {r : Option StepD} (h : stepV ws w pl y f p u r) : stepW ws = r := by
  obtain ⟨e1, e2, e3, e4, e5, e6, e7⟩ := h
  unfold stepW
  rw [e7, e6, e5, e4, e3, e2, e1]
theorem chn_push {K : PySem.W.Frag} {H : Hp} {l p : Addr} {as : List Addr} {sts : List StepD} {st : StepD} (c : Chn K H l as sts) (hl : H l = some (.lst (as.map V.ref))) (hT : SqT K H p st.vals) (hO : st.Ok) :
    Chn K (upd H l (.lst ((as ++ [p]).map V.ref))) l (as ++ [p]) (sts ++ [st]) := by
  refine ⟨SqL.of upd_same, by rw [List.length_append, List.length_append, c.len]; rfl, fun i a s' h1 h2 => ?_, fun s' h => ?_⟩
  · by_cases hi : i < as.length
    · rw [List.getElem?_append_left hi] at h1
      rw [List.getElem?_append_left (by rw [← c.len]; exact hi)] at h2
      exact (c.item i a s' h1 h2).updL hl
    · have hi1 := (List.getElem?_eq_some_iff.mp h1).1
      rw [List.length_append, List.length_singleton] at hi1
      have e : i = as.length := by omega
      subst e
      rw [List.getElem?_append_right (Nat.le_refl _), Nat.sub_self] at h1
      rw [c.len, List.getElem?_append_right (Nat.le_refl _), Nat.sub_self] at h2
      cases h1
      cases h2
      exact hT.updL hl
  · rcases List.mem_append.mp h with h | h
    · exact c.ok s' h
    · rw [List.mem_singleton.mp h]; exact hO
section
variable {X : Cx}
end
section
variable {X : Cx} {K : PySem.W.Frag}
end
end L2
set_option Elab.async false
set_option linter.all false
set_option maxRecDepth 100000
set_option maxHeartbeats 4000000
namespace L2
open PySem PySem.Spec PyProof.Rows
theorem roundI_mono {x y den unit : Int} {way : Str} (h : x ≤ y) (hd : 0 < den * unit) (hu : 0 ≤ unit) : roundI x den unit way ≤ roundI y den unit way := by
  unfold roundI
  split
  · exact Int.mul_le_mul_of_nonneg_right (Int.ediv_le_ediv hd h) hu
  · split
    · exact Int.mul_le_mul_of_nonneg_right (Int.ediv_le_ediv hd (by omega)) hu
    · exact Int.mul_le_mul_of_nonneg_right (Int.ediv_le_ediv (by omega) (by omega)) hu
theorem afterI_mono {st : StepD} (o : st.Ok) {x y : Int} (h : x ≤ y) : afterI st x ≤ afterI st y := by
  unfold afterI
  refine roundI_mono ?_ (su_pos o) (by have := o.u0; omega)
  have := Int.mul_le_mul_of_nonneg_right h (show 0 ≤ st.sn by have := o.sn0; omega)
  omega
theorem endI_mono : ∀ (sts : List StepD), (∀ st ∈ sts, st.Ok) → ∀ x y, x ≤ y → endI sts x ≤ endI sts y := by
  refine snoc_ind (fun _ x y h => h) fun t st ih ok x y h => ?_
  have o := ok st (List.mem_append_right _ (List.mem_singleton.mpr rfl))
  rw [endI_snoc, endI_snoc, ← after_many o, ← after_many o]
  exact afterI_mono o (ih (fun s hs => ok s (List.mem_append_left _ hs)) x y h)
structure Low (sts : List StepD) (e m : Int) : Prop where
  m0 : 0 ≤ m
  ge : e ≤ endI sts m
  lt : ∀ p, 0 ≤ p → p < m → endI sts p < e
theorem Low.uniq {sts : List StepD} {e m m' : Int} (h : Low sts e m) (h' : Low sts e m') : m = m' := by
  rcases Int.lt_trichotomy m m' with l | l | l
  · have := h'.lt m h.m0 l
    have := h.ge
    omega
  · exact l
  · have := h.lt m' h'.m0 l
    have := h'.ge
    omega
theorem Low.le {sts : List StepD} {e m p : Int} (h : Low sts e m) (hp : 0 ≤ p) (he : e ≤ endI sts p) : m ≤ p := Int.not_lt.mp fun z => by
  have := h.lt p hp z
  omega
structure From (sts : List StepD) (e first last : Int) : Prop where
  a : Low sts e first
  he : endI sts first = e
  b : Low sts (e + 1) (last + 1)
theorem From.le {sts : List StepD} {e f l : Int} (h : From sts e f l) : f ≤ l := by
  have h1 := h.a.le h.b.m0 (by have := h.b.ge; omega)
  have h2 : f ≠ l + 1 := fun z => by
    have := h.b.ge
    have := h.he
    rw [z] at this
    omega
  omega
theorem From.has {sts : List StepD} {e f l p : Int} (h : From sts e f l) (ok : ∀ st ∈ sts, st.Ok) (hp : 0 ≤ p) (he : endI sts p = e) : f ≤ p ∧ p ≤ l := by
  refine ⟨h.a.le hp (by omega), Int.not_lt.mp fun z => ?_⟩
  have a := endI_mono sts ok (l + 1) p (by omega)
  have := h.b.ge
  omega
theorem Low.hit {sts : List StepD} {m p : Int} (ok : ∀ st ∈ sts, st.Ok) (h : Low sts (endI sts p) m) (hp : 0 ≤ p) : endI sts m = endI sts p := by
  have a := h.le hp (Int.le_refl _)
  have b := endI_mono sts ok m p a
  have := h.ge
  omega
theorem end_grows {sts : List StepD} {e p : Int} (ok : ∀ st ∈ sts, st.Ok) (h0 : 0 ≤ e) (hp : prodI sts * e ≤ p) : e ≤ endI sts p := by
  have a := endI_mono sts ok _ _ hp
  have b := per_z (p := 0) (by have := prodI_pos ok; omega) (end_prod sts ok) h0 (Int.le_refl 0)
  rw [Int.zero_add, Int.mul_comm] at b
  have c := endI_nn sts ok 0 (Int.le_refl 0)
  have d := Int.mul_le_mul_of_nonneg_left (riseI_pos sts ok) h0
  omega
theorem grow_lt {sts : List StepD} {e p : Int} (ok : ∀ st ∈ sts, st.Ok) (h0 : 0 ≤ e) (h : endI sts p < e) : p < prodI sts * e := Int.not_le.mp fun z => by
  have := end_grows ok h0 z
  omega
theorem low_of {sts : List StepD} {e s l : Int} (ok : ∀ st ∈ sts, st.Ok) (hs : s = -1 ∨ endI sts s < e) (hl : e ≤ endI sts l) (h : l = s + 1) (l0 : 0 ≤ l) : Low sts e l := by
  refine ⟨l0, hl, fun p p0 p1 => ?_⟩
  rcases hs with z | z
  · omega
  · have := endI_mono sts ok p s (by omega)
    omega
section
variable {X : Cx} {e : Expr} {es : List Expr} {t : TG} {u : TGs} {pos : Pos}
end
noncomputable def Part (s1 s2 : List StepD) : Option Int → Prop
  | none => ∀ p, 0 ≤ p → endI s1 p = endI s2 p
  | some m => 0 ≤ m ∧ ¬ endI s1 m = endI s2 m ∧ ∀ p, 0 ≤ p → p < m → endI s1 p = endI s2 p
theorem Part.uniq {s1 s2 : List StepD} {r r' : Option Int} (h : Part s1 s2 r) (h' : Part s1 s2 r') : r = r' := by
  cases r with
  | none =>
    cases r' with
    | none => rfl
    | some m => exact (h'.2.1 (h m h'.1)).elim
  | some m =>
    cases r' with
    | none => exact (h.2.1 (h' m h.1)).elim
    | some m' =>
      rcases Int.lt_trichotomy m m' with l | l | l
      · exact (h.2.1 (h'.2.2 m h.1 l)).elim
      · rw [l]
      · exact (h'.2.1 (h.2.2 m' h'.1 l)).elim
theorem Part.symm {s1 s2 : List StepD} {r : Option Int} (h : Part s1 s2 r) : Part s2 s1 r := by
  cases r with
  | none => exact fun p hp => (h p hp).symm
  | some m => exact ⟨h.1, fun z => h.2.1 z.symm, fun p a b => (h.2.2 p a b).symm⟩
structure SameStep (a b : StepD) : Prop where
  num : b.num = a.num
  d : b.d = a.d
  p : b.p = a.p
  y : b.y = a.y
  u : b.u = a.u
theorem SameStep.many {a b : StepD} (h : SameStep a b) (m : Int) : b.many m = a.many m := by
  unfold StepD.many StepD.exact StepD.wide
  rw [h.num, h.d, h.p, h.y, h.u]
theorem SameStep.cyc {a b : StepD} (h : SameStep a b) : b.cyc = a.cyc := by
  unfold StepD.cyc StepD.cg StepD.wide
  rw [h.num, h.d, h.u]
theorem prd_of {α β : Type} {F : α → β → Prop} : ∀ {a : List α} {c : List β}, a.length = c.length → (∀ (i : Nat) x y, a[i]? = some x → c[i]? = some y → F x y) → Paired F a c
  | [], [], _, _ => .nil
  | x :: a, y :: c, h, f => .cons (f 0 x y rfl rfl) (prd_of (by simpa using h) fun i x' y' h1 h2 => f (i + 1) x' y' (by simpa using h1) (by simpa using h2))
theorem fromTo_get {i j : Int} {k : Nat} {x : V} (h : ((L2.fromTo i j).map V.int)[k]? = some x) : ∃ z, x = .int z ∧ i ≤ z ∧ z < j := by
  unfold L2.fromTo at h
  rw [List.getElem?_map, List.getElem?_map] at h
  by_cases hk : k < (j - i).toNat
  · rw [List.getElem?_range hk] at h
    exact ⟨i + (k : Nat), (Option.some.inj h).symm, by omega, by omega⟩
  · rw [List.getElem?_eq_none (by rw [List.length_range]; omega)] at h
    cases h
theorem fromTo_len (i j : Int) : (L2.fromTo i j).length = (j - i).toNat := by unfold L2.fromTo; rw [List.length_map, List.length_range]
theorem Same.none {H H' : Hp} {p : Addr} (s : Same H H') (h : H' p = none) : H p = none := by
  cases z : H p with
  | none => rfl
  | some o => have := s _ _ z; rw [h] at this; cases this
theorem line_den : ∀ (sts : List StepD) (m : Int), (lineI sts m).2 = (lineI sts 0).2 := by
  intro sts m
  revert sts
  refine snoc_ind rfl fun t st ih => ?_
  rw [lineI_snoc, lineI_snoc]
  show (lineI t m).2 * st.d = (lineI t 0).2 * st.d
  rw [ih]
noncomputable def denI (sts : List StepD) : Int := (lineI sts 0).2
noncomputable def addI (sts : List StepD) (p : Int) : Int := endI sts p * (lineI sts p).2 - (lineI sts p).1
end L2
set_option Elab.async false
set_option linter.all false
set_option maxRecDepth 100000
set_option maxHeartbeats 4000000
namespace L2
open PySem PySem.Spec PyProof.Rows
section
variable {X : Cx}
end
end L2
set_option Elab.async false
set_option linter.all false
set_option maxRecDepth 100000
set_option maxHeartbeats 4000000
namespace L2
open PySem PySem.Spec PyProof.Rows
section
variable {prog : Program} {w : World} {A : Around} {E : Value → Shared → Prop} {s : Shared}
theorem long_extend {R : Result → Shared → Prop} {r : Addr} {a b c : Int} {t u v : Tok} {n : Nat} (hh : A.handled = none) (hr : IsRange s.heap r a b c t u v) (hbig : Builtin.Range.small a b c = false)
    (hn : Builtin.Range.rangeSize a b c = n) (hlen : n ≤ 2 ^ 24) (S : Addr) (c₀ : Nat) (hS : s.heap.get? S = some { cls := .type "list", data := .seq #[] c₀ })
    (hR : ∀ h' tk acc' c', (∀ b o, b ≠ S → s.heap.get? b = some o → h'.get? b = some o) → h'.get? S = some { cls := .type "list", dict := none, data := .seq acc' c', slots := #[] } →
      ItemsOf (fun i v => ∃ t, v = .int (a + i * c) t) acc' n → R (.ok (.ret .none)) { s with heap := h', toks := tk }) :
    wpAny (model prog w) A.in1 (Builtin.List.listExtendWith (.ref S) (.ref r) .none)
      (fun fin s' => match fin with | .done f => R (.ok f) s' | .again c' => c'.quiet = true ∧ codeAny (model prog w) A c' R s') (fun e s' => R (.error e) s') s := by
  have nSr : S ≠ r := fun e => by rw [e, hr] at hS; simp at hS
  have lt : S < s.heap.objs.size := Heap.lt_size hS
  have nSI : S ≠ s.heap.objs.size := Nat.ne_of_lt lt
  have W := (Walks.longrange (prog := prog) (w := w) (A := A.in1) hh s.heap.objs.size a c n).toS
  have run : ∀ (h : Heap) (c₁ tk : Nat), IsLongIter h s.heap.objs.size (a + ((0 : Nat) : Int) * c) ((n : Int) - ((0 : Nat) : Int)) c → (∀ b o, b ≠ S → s.heap.get? b = some o → h.get? b = some o) →
      h.get? S = some { cls := .type "list", data := .seq #[] c₁ } → codeAny (model prog w) A (.builtin "list.extend.loop" ⟨[.ref S, .ref s.heap.objs.size, .none], []⟩) R { s with heap := h, toks := tk } := fun h c₁ tk it kp hS₁ => by
    have hsz : n ≤ sizeLine := hlen
    refine codeAny_extend_loopS W hsz S (fun hm => nSI (List.mem_singleton.mp hm)) .none n 0 _ #[] c₁ rfl (Nat.zero_le _) it hS₁ (ItemsOf.nil _) fun s' acc' c' hm hS' hacc => ?_
    rw [Moved.eq_with hm]
    refine hR s'.heap s'.toks acc' c' (fun b o hb e => hm.heap b o (fun hmem => ?_) (kp b o hb e)) hS' hacc
    rcases List.mem_cons.mp hmem with z | z
    · exact hb z
    · exact absurd (Heap.lt_size e) (by rw [List.mem_singleton.mp z]; exact Nat.lt_irrefl _)
  unfold Builtin.List.listExtendWith
  refine wpAny_bind (wpAny_typeOf (T := "range") ⟨_, hr, rfl⟩ ?_)
  have g1 : Builtin.List.listSameRef (.ref S) (.ref r) = false := by simp [Builtin.List.listSameRef, nSr]
  have g2 : (Value.type "range" == Value.type "list") = false := by decide
  have g3 : (Value.type "range" == Value.type "tuple") = false := by decide
  simp only [g1, g2, g3, Bool.or_false, Bool.false_eq_true, if_false]
  refine wpAny_bind (wpAny_pyIter_longrange hr hbig ?_)
  refine wpAny_bind (wpAny_holding (wpAny_hint_range (n := n) (Heap.get?_push_of_some _ hr) hn hlen ?_))
  have it₁ : IsLongIter (s.heap.push { cls := .type "longrange_iterator", data := .fields #[rawInt a, rawInt (Builtin.Range.rangeSize a b c), rawInt c] }) s.heap.objs.size (a + ((0 : Nat) : Int) * c) ((n : Int) - ((0 : Nat) : Int)) c := by
    show IsLongIter _ _ _ _ _
    rw [hn]
    simpa using Heap.get?_push_size _ rfl
  have hS₁ := Heap.get?_push_of_some { cls := .type "longrange_iterator", data := .fields #[rawInt a, rawInt (Builtin.Range.rangeSize a b c), rawInt c] } hS
  refine wpAny_ite_split (fun _ => ?_) (fun _ => wpAny_pure ⟨plainId_quiet F.plain_extend_loop _, run _ c₀ _ it₁ (fun b o _ e => Heap.get?_push_of_some _ e) hS₁⟩)
  refine wpAny_bind (wpAny_rule (wpAny_bind ?_))
  show wpAny _ _ (updateSeq S (·.push .none) >>= fun _ => updateSeq S (·.pop)) _ _ _
  refine wpAny_bind (wpAny_updateSeq hS₁ rfl ?_)
  have hS₂ := Heap.get?_update_self (Obj.mapSeq (·.push Value.none)) hS₁ rfl
  refine wpAny_updateSeq (hz := by seq_fits) hS₂ rfl ?_
  have hS₃ := Heap.get?_update_self (Obj.mapSeq (·.pop)) hS₂ rfl
  have oth : ∀ b' (o : Obj) (h : Heap) (f : Obj → Obj), b' ≠ S → h.get? b' = some o → (h.update S f).get? b' = some o := fun b' o h f hb e => (Heap.get?_update_other _ _ (Ne.symm hb)).trans e
  exact wpAny_pure ⟨plainId_quiet F.plain_extend_loop _, run _ _ _ (oth _ _ _ _ (Ne.symm nSI) (oth _ _ _ _ (Ne.symm nSI) it₁)) (fun b' o hb e => oth _ _ _ _ hb (oth _ _ _ _ hb (Heap.get?_push_of_some _ e))) hS₃⟩
theorem long_list {Q : Value → Shared → Prop} {r : Addr} {a b c : Int} {t u v : Tok} {n : Nat} (hh : A.handled = none) (hr : IsRange s.heap r a b c t u v) (hbig : Builtin.Range.small a b c = false)
    (hn : Builtin.Range.rangeSize a b c = n) (hlen : n ≤ 2 ^ 24)
    (hQ : ∀ h' tk acc' c', (∀ b o, s.heap.get? b = some o → h'.get? b = some o) →
      h'.get? s.heap.objs.size = some { cls := .type "list", dict := none, data := .seq acc' c', slots := #[] } → ItemsOf (fun i v => ∃ t, v = .int (a + i * c) t) acc' n → Q (.ref s.heap.objs.size) { s with heap := h', toks := tk }) :
    wpAny (model prog w) A (call (.type "list") [.ref r]) Q E s := by
  refine callType_codes (Q₁ := fun obj s₁ => obj = .ref s.heap.objs.size ∧ s₁ = { s with heap := s.heap.push { cls := .type "list", data := .seq #[] } }) F.called_list (F.typeCall_list_1 _) F.entry_list_init (code_list_new _ ⟨rfl, rfl⟩) fun obj s₁ h₁ => ?_
  obtain ⟨rfl, rfl⟩ := h₁
  have hS : (s.heap.push { cls := .type "list", data := .seq #[] }).get? s.heap.objs.size = some { cls := .type "list", data := .seq #[] } := Heap.get?_push_size _ rfl
  have hr₁ := Heap.get?_push_of_some { cls := .type "list", data := .seq #[] } hr
  have nSr : s.heap.objs.size ≠ r := fun e => by rw [e] at hS; rw [hS] at hr₁; simp at hr₁
  refine ⟨⟨_, hS, rfl⟩, F.args_list_init_2 _ _, ?_⟩
  show wpAny _ _ (do let old ← Builtin.List.listItems (.ref s.heap.objs.size); Builtin.List.listUpdate (.ref s.heap.objs.size) (fun _ => #[]); letGo old.toList.reverse; Builtin.List.listExtendWith (.ref s.heap.objs.size) (.ref r) .none) _ _ _
  refine wpAny_bind ?_
  unfold Builtin.List.listItems
  refine wpAny_bind (wpAny_seqItems hS rfl (wpAny_pure ?_))
  show wpAny _ _ (updateSeq s.heap.objs.size (fun _ => #[]) >>= fun _ => letGo (#[] : Array Value).toList.reverse >>= fun _ => Builtin.List.listExtendWith (.ref s.heap.objs.size) (.ref r) .none) _ _ _
  refine wpAny_bind (wpAny_updateSeq hS rfl ?_)
  have hS₂ := Heap.get?_update_self (Obj.mapSeq (fun _ => (#[] : Array Value))) hS rfl
  have oth : ∀ b' (o : Obj), b' ≠ s.heap.objs.size → (s.heap.push { cls := .type "list", data := .seq #[] }).get? b' = some o → ((s.heap.push { cls := .type "list", data := .seq #[] }).update s.heap.objs.size (Obj.mapSeq (fun _ => (#[] : Array Value)))).get? b' = some o :=
    fun b' o hb e => (Heap.get?_update_other _ _ (Ne.symm hb)).trans e
  refine wpAny_bind (wpAny_letGo ?_)
  refine long_extend (A := A.in1) hh (oth r _ (Ne.symm nSr) hr₁) hbig hn hlen _ _ hS₂ fun h' tk acc' c' hk hS' hacc => ?_
  exact ⟨rfl, hQ h' tk acc' c' (fun b' o e => hk b' o (Nat.ne_of_lt (Heap.lt_size e)) (oth b' o (Nat.ne_of_lt (Heap.lt_size e)) (Heap.get?_push_of_some _ e))) hS' hacc⟩
end
theorem ints_of {i : Int} {n : Nat} {acc : Array Value} (it : ItemsOf (fun k v => ∃ t, v = Value.int (i + k * 1) t) acc n) : Vals (((List.range n).map fun k => i + (k : Nat)).map V.int) acc.toList := by
  obtain ⟨sz, ev⟩ := it
  refine prd_of (F := RelV) (by rw [List.length_map, List.length_map, List.length_range, Array.length_toList]; exact sz.symm) fun k x y hx hy => ?_
  rw [List.getElem?_map, List.getElem?_map] at hx
  have hk : k < n := by
    refine Nat.lt_of_not_le fun z => ?_
    rw [List.getElem?_eq_none (by rw [List.length_range]; exact z)] at hx
    cases hx
  rw [List.getElem?_range hk] at hx
  obtain ⟨t, e⟩ := ev k y (by rw [← Array.getElem?_toList]; exact hy)
  rw [← Option.some.inj hx, e]
  exact ⟨t, by rw [Int.mul_one]⟩
theorem call_list_rngL {X : Cx} (hc : X.calm = true) : CallR X (.type "list") (fun xs H Q => ∃ p i j, xs = [.ref p] ∧ H p = some (.rng i j) ∧ (j - i).toNat ≤ 1000000 ∧ ∀ l H', H l = none → Same H H' → H' l = some (.lst ((L2.fromTo i j).map V.int)) → Q (.ref l) H') := by
  intro pins s σ H xs us Q I r h
  obtain ⟨p, i, j, rfl, hp, hz, q⟩ := h
  obtain ⟨u, rfl, rx⟩ := vals1 r
  cases rx
  obtain ⟨t, u, v, e⟩ := (show ObjOk X.prog X.w H s.heap p (.rng i j) from I.hok p _ hp)
  have hn : Builtin.Range.rangeSize i j 1 = ((j - i).toNat : Nat) := by rw [rangeSize_one]; split <;> omega
  have hf : H s.heap.objs.size = none := I.hok.fresh (Nat.le_refl _)
  have fin : ∀ h' tk acc' c', (∀ b o, s.heap.get? b = some o → h'.get? b = some o) → h'.get? s.heap.objs.size = some { cls := .type "list", dict := none, data := .seq acc' c', slots := #[] } →
      ItemsOf (fun k v => ∃ t, v = Value.int (i + k * 1) t) acc' (j - i).toNat → EP X pins σ Q (.ref s.heap.objs.size) { s with heap := h', toks := tk } := fun h' tk acc' c' kp e' it => by
    have hv : Vals ((L2.fromTo i j).map V.int) acc'.toList := ints_of it
    refine ⟨.ref s.heap.objs.size, L2.upd H s.heap.objs.size (.lst ((L2.fromTo i j).map V.int)), I.laid (t' := tk) kp (Nat.le_refl _) (show ObjOk X.prog X.w _ h' _ (.lst _) from ⟨?_, acc'.toList, c', hv, by simpa using e'⟩), rfl, q _ _ hf (same_new hf _) upd_same⟩
    rw [List.length_map, fromTo_len]
    exact Nat.le_trans hz (by decide)
  cases hs : Builtin.Range.small i j 1 with
  | true => exact call_list_range (I.ok.hd hc) e hs hn (by omega) fin
  | false => exact long_list (I.ok.hd hc) e hs hn (by omega) fin
noncomputable def Hit (sts : List StepD) (e : Int) : Prop := ∃ p, 0 ≤ p ∧ endI sts p = e
open Classical in
noncomputable def goneI (sts : List StepD) (low hi : Int) : List Int := (L2.fromTo low hi).filter fun e => decide (¬ Hit sts e)
structure Next (sts : List StepD) (p m : Int) : Prop where
  lt : p < m
  ne : ¬ endI sts m = endI sts p
  same : ∀ j, p ≤ j → j < m → endI sts j = endI sts p
theorem Next.low {sts : List StepD} {p m : Int} (h : Next sts p m) (ok : ∀ st ∈ sts, st.Ok) (p0 : 0 ≤ p) : Low sts (endI sts p + 1) m := by
  have a := endI_mono sts ok p m (by have := h.lt; omega)
  have n := h.ne
  refine ⟨by have := h.lt; omega, by omega, fun j j0 j1 => ?_⟩
  by_cases hj : p ≤ j
  · rw [h.same j hj j1]; omega
  · have := endI_mono sts ok j p (by omega)
    omega
theorem fromTo_split {a b c : Int} (h1 : a ≤ b) (h2 : b ≤ c) : L2.fromTo a c = L2.fromTo a b ++ L2.fromTo b c := by
  unfold L2.fromTo
  have e : (c - a).toNat = (b - a).toNat + (c - b).toNat := by omega
  rw [e, List.range_add, List.map_append, List.map_map]
  congr 1
  refine List.map_congr_left fun k _ => ?_
  show a + (((b - a).toNat + k : Nat) : Int) = b + (k : Nat)
  omega
theorem fromTo_one (a : Int) : L2.fromTo a (a + 1) = [a] := by
  unfold L2.fromTo
  rw [show (a + 1 - a).toNat = 1 by omega]
  show [a + ((0 : Nat) : Int)] = [a]
  rw [Int.natCast_zero, Int.add_zero]
theorem fromTo_nil {a b : Int} (h : b ≤ a) : L2.fromTo a b = [] := by
  unfold L2.fromTo
  rw [show (b - a).toNat = 0 by omega]
  rfl
theorem mem_fromTo {a b x : Int} (h : x ∈ L2.fromTo a b) : a ≤ x ∧ x < b := by
  obtain ⟨k, hk⟩ := List.getElem?_of_mem h
  obtain ⟨y, ey, h1, h2⟩ := fromTo_get (i := a) (j := b) (k := k) (x := .int x) (by rw [List.getElem?_map, hk]; rfl)
  cases ey
  exact ⟨h1, h2⟩
open Classical in
theorem gone_step {sts : List StepD} {low e p hi : Int} (ok : ∀ st ∈ sts, st.Ok) (h : Low sts e p) (h0 : low ≤ e) (he : e ≤ hi) :
    goneI sts low (min (endI sts p + 1) hi) = goneI sts low e ++ L2.fromTo e (min (endI sts p) hi) := by
  have ge := h.ge
  have miss : ∀ x, e ≤ x → x < endI sts p → ¬ Hit sts x := fun x x0 x1 ⟨j, j0, ej⟩ => by
    by_cases hj : j < p
    · have := h.lt j j0 hj; omega
    · have := endI_mono sts ok p j (by omega); omega
  have f1 : (L2.fromTo e (min (endI sts p) hi)).filter (fun e => decide (¬ Hit sts e)) = L2.fromTo e (min (endI sts p) hi) := by
    refine List.filter_eq_self.mpr fun x hx => ?_
    obtain ⟨x0, x1⟩ := mem_fromTo hx
    exact decide_eq_true (miss x x0 (by omega))
  unfold goneI
  by_cases hh : hi ≤ endI sts p
  · rw [show min (endI sts p + 1) hi = min (endI sts p) hi by omega, fromTo_split (b := e) h0 (by omega), List.filter_append, f1]
  · rw [show min (endI sts p + 1) hi = endI sts p + 1 by omega, fromTo_split (b := e) h0 (by omega), fromTo_split (a := e) (b := endI sts p) ge (by omega), fromTo_one, List.filter_append, List.filter_append]
    rw [show min (endI sts p) hi = endI sts p by omega] at f1 ⊢
    rw [f1]
    have : ([endI sts p] : List Int).filter (fun e => decide (¬ Hit sts e)) = [] := by
      rw [List.filter_cons, if_neg, List.filter_nil]
      intro z
      exact of_decide_eq_true z ⟨p, h.m0, rfl⟩
    rw [this, List.append_nil]
theorem gone_len (sts : List StepD) (low hi : Int) : (goneI sts low hi).length ≤ (hi - low).toNat := by
  unfold goneI
  refine Nat.le_trans (List.length_filter_le _ _) ?_
  rw [fromTo_len]
  exact Nat.le_refl _
theorem gone_nil (sts : List StepD) {low hi : Int} (h : hi ≤ low) : goneI sts low hi = [] := by
  unfold goneI
  rw [fromTo_nil h]
  rfl
end L2
set_option Elab.async false
set_option linter.all false
set_option maxRecDepth 100000
set_option maxHeartbeats 4000000
namespace L2
open PySem PySem.Spec PyProof.Rows
noncomputable def Itv (K : PySem.W.Frag) (a : Addr) (n : Nat) : It :=
  ⟨fun i H => ∃ xs x, SqL K H a xs ∧ xs.length = n ∧ i < n ∧ xs[n - 1 - i]? = some x, fun i H x H' => H' = H ∧ ∀ xs, SqL K H a xs → xs[n - 1 - i]? = some x, fun i H => n ≤ i⟩
theorem turn_rev {P : Program} {w : World} {K : PySem.W.Frag} {tg : Expr} (a it : Addr) (n : Nat) : Turn P w K tg (Itv K a n) [it] it (fun i h => i ≤ n ∧ h.IsRevIter it a ((n : Int) - 1 - (i : Int))) where
  mem := by simp
  obj := fun i h st b hb => by
    have e : b = it := by simpa using hb
    subst e
    obtain ⟨_, o, e, c, d⟩ := st
    exact ⟨o, e, fun v z => by rw [d] at z; cases z⟩
  keep := fun i h h' st k => ⟨st.1, st.2.at fun o e => k it (by simp) o e⟩
  item := by
    intro X hP hw hK hc i pins s σ H E I hf st hg
    subst hP hw hK
    obtain ⟨xs, x, hq, hn, hi, hx⟩ := hg
    obtain ⟨its, rv, p, hz⟩ := I.list hq
    obtain ⟨u, hu, ru⟩ := rv.get hx
    obtain ⟨f0, f1, f2, f3, f4, f5⟩ := hf it (by simp)
    have st2 := st.2
    rw [show (n : Int) - 1 - (i : Int) = ((n - 1 - i : Nat) : Int) by omega] at st2
    refine wpAny_pyNext_rev_item st2 p.isList (x := u) (by simpa using hu) fun h' st' sb => ?_
    have I1 : Inv X pins σ H { s with heap := h' } := I.turned (t' := s.toks) (fun b o hb e => (sb.2 b hb).trans e) f0 f1 f3 f4 f5
    obtain ⟨o, e, c, d⟩ := id st'
    refine ⟨u, rfl, go_of (s := { s with heap := h' }) e c d (by decide) ⟨x, H, I1, ru, ⟨rfl, fun ys hy => by rw [I.list_inj hy hq]; exact hx⟩, ⟨by omega, ?_⟩, fun b hb => (hf b hb).1⟩⟩
    rw [show ((n - 1 - i : Nat) : Int) - 1 = (n : Int) - 1 - ((i + 1 : Nat) : Int) by omega] at st'
    exact st'
  done := by
    intro X hP hw hK hc i pins s σ H E I hf st hg
    subst hP hw hK
    obtain ⟨f0, f1, f2, f3, f4, f5⟩ := hf it (by simp)
    have hg' : n ≤ i := hg
    have st2 := st.2
    rw [show (n : Int) - 1 - (i : Int) = -1 by have := st.1; omega] at st2
    exact wpAny_pyNext_rev_end (I.ok.hd hc) st2 fun h' eb => ⟨rfl, I.turned (t' := s.toks) (fun b o hb e => eb b o hb e) f0 f1 f3 f4 f5⟩
  self := fun _ _ _ _ _ st h => wpAny_pyIter_revIter st.2 h
section
variable {X : Cx} {tg : Expr}
theorem boot_ty_reversed : bootBuiltins "reversed" = some (.type "reversed") := by decide +kernel
noncomputable def iRev (K : PySem.W.Frag) (ta : TA) : TI := fun σ H R => ta σ H fun vs H1 => ∃ a xs, vs = [.ref a] ∧ SqL K H1 a xs ∧ R (Itv K a xs.length) H1
theorem pi_rev {a : Expr} {ta : TA} {p pos : Pos} (hg : Gl X "reversed") (hm : X.mg "reversed" = none) (ha : PA X [a] ta) (hs : starEach [a] X.env = [(false, eval a X.env)] := by rfl) : PI X tg (.Call (.Name "reversed" p) [a] [] pos) (iRev X.K ta) := by
  intro pins s σ H R I h
  refine Call_ (ld_blt I hg hm boot_ty_reversed (PyProof.Rows.callWith_type1 (thn (ha pos pins s σ H _ I h) fun us s1 ⟨vs, H1, I1, r1, q1⟩ => ?_) hs rfl))
  obtain ⟨l, xs, e, hq, q⟩ := q1
  subst e
  cases r1 with
  | cons r rr =>
    cases rr
    cases r
    obtain ⟨its, rv, p, hz⟩ := I1.list hq
    have hl := rv.length
    have I2 : Inv X pins σ H1 { s1 with heap := s1.heap.push (revObj l ((its.toArray.size : Int) - 1)) } := I1.kept (t' := s1.toks) fun b o e => Heap.get?_push_of_some _ e
    have st0 : Heap.IsRevIter (s1.heap.push (revObj l ((its.toArray.size : Int) - 1))) s1.heap.objs.size l ((its.toArray.size : Int) - 1) := ⟨_, Heap.get?_push_size _ rfl, rfl, rfl⟩
    refine call_reversed_list p.isList (wpAny_pyIter_revIter st0 ⟨s1.heap.objs.size, [s1.heap.objs.size], _, _, H1, rfl, I2, turn_rev l _ xs.length, ⟨Nat.zero_le _, ?_⟩, fun b hb => ?_, q⟩)
    · rw [List.size_toArray, ← hl] at st0
      rw [show (xs.length : Int) - 1 - ((0 : Nat) : Int) = (xs.length : Int) - 1 by omega]
      rw [List.size_toArray, ← hl]
      exact st0
    · have e : b = s1.heap.objs.size := by simpa using hb
      subst e
      exact I1.fpOk (Nat.le_refl _) (I1.hok.fresh (Nat.le_refl _))
theorem wi_rev {a : Expr} {t : TA} {p pos : Pos} (hg : Gl X "reversed") (hm : X.mg "reversed" = none) (ha : WA X [a] t) (hs : starEach [a] X.env = [(false, eval a X.env)] := by rfl) : WI X tg (.Call (.Name "reversed" p) [a] [] pos) (iRev X.K t) := ⟨pi_rev hg hm ha.h hs⟩
end
theorem for_rev {K : PySem.W.Frag} {a : Addr} {xs : List V} {g : TG} {tb : TS} {D : Ends} {σ : St} {H : Hp} (Pv : Nat → St → Hp → Prop) (h0 : Pv 0 σ H) (hl : ∀ i σ H, i ≤ xs.length → Pv i σ H → SqL K H a xs)
    (hs : ∀ i x σ H, i < xs.length → xs[xs.length - 1 - i]? = some x → Pv i σ H → g x σ H fun σ2 H2 => tb { D with nx := Pv (i + 1), ct := Pv (i + 1), bk := D.nx } σ2 H2) (hd : ∀ σ H, Pv xs.length σ H → D.nx σ H) :
    ∃ W : Nat → Nat → St → Hp → Prop, (∃ m, W 0 m σ H) ∧ ∀ i m σ H, W i m σ H →
      ((Itv K a xs.length).stop i H ∧ D.nx σ H) ∨ ((Itv K a xs.length).go i H ∧ ∃ N : St → Hp → Prop, (∀ σ' H', N σ' H' → ∃ m', m' < m ∧ W (i + 1) m' σ' H') ∧ ∀ x H', (Itv K a xs.length).yld i H x H' → g x σ H' fun σ2 H2 => tb { D with nx := N, ct := N, bk := D.nx } σ2 H2) := by
  refine ⟨fun i m σ H => m = xs.length - i ∧ i ≤ xs.length ∧ Pv i σ H, ⟨xs.length, by simp, Nat.zero_le _, h0⟩, ?_⟩
  rintro i m σ H ⟨rfl, hi, p⟩
  have q := hl i σ H hi p
  by_cases hlt : i < xs.length
  · have e : xs[xs.length - 1 - i]? = some xs[xs.length - 1 - i] := List.getElem?_eq_getElem (by omega)
    refine .inr ⟨⟨xs, _, q, rfl, hlt, e⟩, Pv (i + 1), fun σ' H' p' => ⟨xs.length - (i + 1), by omega, rfl, hlt, p'⟩, fun x H' y => ?_⟩
    obtain ⟨e, y⟩ := y
    subst e
    exact hs i x σ _ hlt (y xs q) p
  · have e : i = xs.length := by omega
    subst e
    exact .inl ⟨Nat.le_refl _, hd σ H p⟩
noncomputable def Thr (sts : List StepD) (e m : Int) : Prop := 0 ≤ m ∧ ∀ q, 0 ≤ q → (e ≤ endI sts q ↔ m ≤ q)
theorem Thr.low {sts : List StepD} {e m : Int} (h : Thr sts e m) : Low sts e m :=
  ⟨h.1, (h.2 m h.1).mpr (Int.le_refl _), fun p p0 p1 => Int.not_le.mp fun z => by have := (h.2 p p0).mp z; omega⟩
theorem Thr.nil {e : Int} : Thr [] e (if 0 > e then 0 else e) := by
  refine ⟨by split <;> omega, fun q q0 => ?_⟩
  show e ≤ q ↔ _
  split <;> omega
theorem endI_cons (st : StepD) (t : List StepD) (m : Int) : endI (st :: t) m = endI t (st.many m * st.u) := rfl
theorem after_nn {st : StepD} (o : st.Ok) {m : Int} (h : 0 ≤ m) : 0 ≤ afterI st m := by
  rw [after_many o]
  have := endI_nn [st] (fun s hs => by rw [List.mem_singleton.mp hs]; exact o) m h
  exact this
theorem Thr.cons {st : StepD} {t : List StepD} {e m m' : Int} (o : st.Ok) (h : Thr t e m) (h0 : 0 ≤ m') (hs : ∀ q, 0 ≤ q → (m ≤ afterI st q ↔ m' ≤ q)) : Thr (st :: t) e m' := by
  refine ⟨h0, fun q q0 => ?_⟩
  rw [endI_cons, ← after_many o, h.2 _ (after_nn o q0)]
  exact hs q q0
theorem ceil_le {num den q : Int} (hd : 0 < den) : (num + den - 1) / den ≤ q ↔ num ≤ q * den := by
  have f := fl (x := num + den - 1) hd
  constructor
  · intro h
    have := Int.mul_le_mul_of_nonneg_left h (Int.le_of_lt hd)
    rw [Int.mul_comm q]
    omega
  · intro h
    refine Int.not_lt.mp fun z => ?_
    have := Int.mul_le_mul_of_nonneg_left (show q + 1 ≤ (num + den - 1) / den by omega) (Int.le_of_lt hd)
    rw [Int.mul_add, Int.mul_comm den q] at this
    omega
theorem floor_lt {num den q : Int} (hd : 0 < den) : num / den + 1 ≤ q ↔ num < q * den := by
  have f := fl (x := num) hd
  constructor
  · intro h
    have := Int.mul_le_mul_of_nonneg_left h (Int.le_of_lt hd)
    rw [Int.mul_comm q, ]
    rw [Int.mul_add] at this
    omega
  · intro h
    refine Int.not_lt.mp fun z => ?_
    have := Int.mul_le_mul_of_nonneg_left (show q ≤ num / den by omega) (Int.le_of_lt hd)
    rw [Int.mul_comm den q] at this
    omega
theorem goal_le {e u k : Int} (hu : 0 < u) : e ≤ k * u ↔ roundI e 1 u "up" ≤ k * u := by
  have r : roundI e 1 u "up" = (e + u - 1) / u * u := by
    unfold roundI; rw [if_neg (by decide), if_pos rfl, Int.one_mul]
  rw [r]
  have c := ceil_le (num := e) (den := u) (q := k) hu
  constructor
  · intro h
    exact Int.mul_le_mul_of_nonneg_right (c.mpr h) (Int.le_of_lt hu)
  · intro h
    have := Int.le_of_mul_le_mul_right h hu
    exact c.mp this
theorem goal_mul {e u : Int} : ∃ k, roundI e 1 u "up" = k * u := by
  refine ⟨(e + u - 1) / u, ?_⟩
  unfold roundI; rw [if_neg (by decide), if_pos rfl, Int.one_mul]
noncomputable def boundI (st : StepD) (e : Int) : Int := if st.y = "up" then 2 * roundI e 1 st.u "up" - 2 * st.u else if st.y = "near" then 2 * roundI e 1 st.u "up" - st.u else 2 * roundI e 1 st.u "up"
theorem after_mul {st : StepD} (o : st.Ok) (q : Int) : ∃ k, afterI st q = k * st.u := ⟨st.many q, after_many o q⟩
theorem step_reach {st : StepD} (o : st.Ok) {e q : Int} (hy : ¬ st.y = "up") : e ≤ afterI st q ↔ (boundI st e - 2 * st.p) * st.sd ≤ q * (2 * st.sn) := by
  have u0 := o.u0
  have d0 := o.sd0
  have sp := su_pos o
  obtain ⟨k, hk⟩ := after_mul o q
  obtain ⟨g, hg⟩ := goal_mul (e := e) (u := st.u)
  have e1 : e ≤ afterI st q ↔ g ≤ k := by
    rw [hk, goal_le (by omega), hg]
    exact ⟨fun h => Int.le_of_mul_le_mul_right h (by omega), fun h => Int.mul_le_mul_of_nonneg_right h (by omega)⟩
  rw [e1]
  unfold boundI
  rw [if_neg hy, hg]
  have E : q * (2 * st.sn) = 2 * (q * st.sn + st.p * st.sd) - 2 * (st.p * st.sd) := by
    rw [← Int.mul_assoc, Int.mul_comm q 2, Int.mul_assoc]; omega
  rw [E]
  generalize hX : q * st.sn + st.p * st.sd = X
  have hA : afterI st q = roundI X st.sd st.u st.y := by unfold afterI; rw [hX]
  have ms : ∀ z : Int, z * st.u * st.sd = z * (st.sd * st.u) := fun z => by rw [Int.mul_assoc, Int.mul_comm st.u]
  rcases o.y with y | y | y
  · have r := round_down (num := X) sp y
    rw [← hA, hk, ms] at r
    rw [if_neg (by rw [y]; decide), Int.sub_mul, Int.mul_assoc 2 (g * st.u), ms, Int.mul_assoc 2 st.p]
    constructor
    · intro h
      have := Int.mul_le_mul_of_nonneg_right h (Int.le_of_lt sp)
      omega
    · intro h
      refine Int.not_lt.mp fun z => ?_
      have := Int.mul_le_mul_of_nonneg_right (show k + 1 ≤ g by omega) (Int.le_of_lt sp)
      rw [Int.add_mul, Int.one_mul] at this
      omega
  · exact (hy y).elim
  · have r := round_near (num := X) sp (StepD.Ok.y_near y).1 (StepD.Ok.y_near y).2
    rw [← hA, hk, ms] at r
    rw [if_pos y, Int.sub_mul, Int.sub_mul, Int.mul_assoc 2 (g * st.u), ms, Int.mul_assoc 2 st.p, Int.mul_comm st.u]
    constructor
    · intro h
      have := Int.mul_le_mul_of_nonneg_right h (Int.le_of_lt sp)
      omega
    · intro h
      refine Int.not_lt.mp fun z => ?_
      have := Int.mul_le_mul_of_nonneg_right (show k + 1 ≤ g by omega) (Int.le_of_lt sp)
      rw [Int.add_mul, Int.one_mul] at this
      omega
theorem step_reach_up {st : StepD} (o : st.Ok) {e q : Int} (hy : st.y = "up") : e ≤ afterI st q ↔ (boundI st e - 2 * st.p) * st.sd < q * (2 * st.sn) := by
  have u0 := o.u0
  have d0 := o.sd0
  have sp := su_pos o
  obtain ⟨k, hk⟩ := after_mul o q
  obtain ⟨g, hg⟩ := goal_mul (e := e) (u := st.u)
  have e1 : e ≤ afterI st q ↔ g ≤ k := by
    rw [hk, goal_le (by omega), hg]
    exact ⟨fun h => Int.le_of_mul_le_mul_right h (by omega), fun h => Int.mul_le_mul_of_nonneg_right h (by omega)⟩
  rw [e1]
  unfold boundI
  rw [if_pos hy, hg]
  have E : q * (2 * st.sn) = 2 * (q * st.sn + st.p * st.sd) - 2 * (st.p * st.sd) := by
    rw [← Int.mul_assoc, Int.mul_comm q 2, Int.mul_assoc]; omega
  rw [E]
  generalize hX : q * st.sn + st.p * st.sd = X
  have hA : afterI st q = roundI X st.sd st.u st.y := by unfold afterI; rw [hX]
  have ms : ∀ z : Int, z * st.u * st.sd = z * (st.sd * st.u) := fun z => by rw [Int.mul_assoc, Int.mul_comm st.u]
  have r := round_up (num := X) sp (StepD.Ok.y_up hy).1 hy
  rw [← hA, hk, ms] at r
  rw [Int.sub_mul, Int.sub_mul, Int.mul_assoc 2 (g * st.u), ms, Int.mul_assoc 2 st.p, Int.mul_assoc 2 st.u, Int.mul_comm st.u]
  constructor
  · intro h
    have := Int.mul_le_mul_of_nonneg_right h (Int.le_of_lt sp)
    omega
  · intro h
    refine Int.not_lt.mp fun z => ?_
    have := Int.mul_le_mul_of_nonneg_right (show k + 1 ≤ g by omega) (Int.le_of_lt sp)
    rw [Int.add_mul, Int.one_mul] at this
    omega
structure LineT (sts : List StepD) (t mo d : Int) : Prop where
  t0 : 1 ≤ t
  t1 : t ≤ 200 ^ sts.length
  m0 : 0 ≤ mo
  d0 : 1 ≤ d
  d1 : d ≤ denI sts
  e : ∀ m, (m * t + mo) * (lineI sts m).2 = (lineI sts m).1 * d
theorem LineT.nil : LineT [] 1 0 1 := ⟨by decide, by decide, by decide, by decide, Int.le_refl _, fun m => by show (m * 1 + 0) * 1 = m * 1; omega⟩
theorem LineT.t6 {sts : List StepD} {t mo d : Int} (l : LineT sts t mo d) (h : sts.length ≤ 6) : t ≤ 10 ^ 14 := by
  have e : (200 : Int) ^ sts.length ≤ 200 ^ 6 := by
    have : (200 : Nat) ^ sts.length ≤ 200 ^ 6 := Nat.pow_le_pow_right (by decide) h
    exact_mod_cast this
  have := l.t1
  omega
theorem we_fldK {X : Cx} {K : PySem.W.Frag} {e : Expr} {ta : TE} {f : Str} {pos : Pos} (h : X.K = K) (he : WE X e ta) (hb : attributeBase e f X.env (eval e X.env) = eval e X.env) : WE X (.Attribute e f pos) (tFld K ta f) := by
  subst h; exact we_fld he hb
noncomputable def adjI (sts : List StepD) (t mo d p : Int) : Int := endI sts p * d - (p * t + mo)
theorem LineT.adj {sts : List StepD} {t mo d : Int} (l : LineT sts t mo d) (p : Int) : adjI sts t mo d p * denI sts = addI sts p * d := by
  have e := l.e p
  unfold adjI addI
  rw [line_den sts p] at e ⊢
  show (endI sts p * d - (p * t + mo)) * (lineI sts 0).2 = _
  rw [Int.sub_mul, Int.sub_mul, e, Int.mul_right_comm]
theorem LineT.le {sts : List StepD} {t mo d : Int} (l : LineT sts t mo d) (D0 : 1 ≤ denI sts) {p q : Int} : adjI sts t mo d p ≤ adjI sts t mo d q ↔ addI sts p ≤ addI sts q := by
  have a := l.adj p
  have b := l.adj q
  have d0 := l.d0
  constructor
  · intro h
    have := Int.mul_le_mul_of_nonneg_right h (show 0 ≤ denI sts by omega)
    rw [a, b] at this
    exact Int.le_of_mul_le_mul_right this (by omega)
  · intro h
    have := Int.mul_le_mul_of_nonneg_right h (show 0 ≤ d by omega)
    rw [← a, ← b] at this
    exact Int.le_of_mul_le_mul_right this (by omega)
end L2
set_option Elab.async false
set_option linter.all false
set_option maxRecDepth 100000
set_option maxHeartbeats 4000000
namespace L2
open PySem PySem.Spec PyProof.Rows
section
variable {sts : List StepD} {c r n : Int}
theorem shift_end (hY : IsCyc sts c r) (n0 : 0 ≤ n) {p : Int} (p0 : 0 ≤ p) : endI sts (p + n * c) = endI sts p + n * r := per_z (by have := hY.c0; omega) hY.per n0 p0
theorem nc_nn (hY : IsCyc sts c r) (n0 : 0 ≤ n) : 0 ≤ n * c := Int.mul_nonneg n0 (by have := hY.c0; omega)
theorem below_turn (ok : ∀ st ∈ sts, st.Ok) (hY : IsCyc sts c r) (n0 : 0 ≤ n) {p : Int} (h : p ≤ n * c) : endI sts p ≤ endI sts 0 + n * r := by
  have a := endI_mono sts ok p (n * c) h
  have b := shift_end hY n0 (Int.le_refl 0)
  rw [Int.zero_add] at b
  omega
theorem Low.shift (ok : ∀ st ∈ sts, st.Ok) (hY : IsCyc sts c r) (n0 : 0 ≤ n) {e m : Int} (h : Low sts e m) (he : endI sts 0 < e) : Low sts (e + n * r) (m + n * c) := by
  have m0 := h.m0
  have nc := nc_nn (n := n) hY n0
  refine ⟨by omega, by rw [shift_end hY n0 m0]; have := h.ge; omega, fun p p0 p1 => ?_⟩
  by_cases hp : n * c ≤ p
  · have a := shift_end hY n0 (show 0 ≤ p - n * c by omega)
    rw [show p - n * c + n * c = p by omega] at a
    have := h.lt (p - n * c) (by omega) (by omega)
    omega
  · have := below_turn ok hY n0 (show p ≤ n * c by omega)
    omega
theorem From.shift (ok : ∀ st ∈ sts, st.Ok) (hY : IsCyc sts c r) (n0 : 0 ≤ n) {e f l : Int} (h : From sts e f l) (he : endI sts 0 < e) : From sts (e + n * r) (f + n * c) (l + n * c) := by
  have b := Low.shift ok hY n0 h.b (by omega)
  refine ⟨Low.shift ok hY n0 h.a he, by rw [shift_end hY n0 h.a.m0, h.he], ?_⟩
  rw [show e + n * r + 1 = e + 1 + n * r by omega, show l + n * c + 1 = l + 1 + n * c by omega]
  exact b
theorem Hit.shift (ok : ∀ st ∈ sts, st.Ok) (hY : IsCyc sts c r) (n0 : 0 ≤ n) {x : Int} (hx : endI sts 0 < x) : Hit sts (x + n * r) ↔ Hit sts x := by
  have nc := nc_nn (n := n) hY n0
  constructor
  · rintro ⟨p, p0, e⟩
    by_cases hp : n * c ≤ p
    · refine ⟨p - n * c, by omega, ?_⟩
      have a := shift_end hY n0 (show 0 ≤ p - n * c by omega)
      rw [show p - n * c + n * c = p by omega] at a
      omega
    · have := below_turn ok hY n0 (show p ≤ n * c by omega)
      omega
  · rintro ⟨p, p0, e⟩
    exact ⟨p + n * c, by omega, by rw [shift_end hY n0 p0, e]⟩
theorem fromTo_shift (a b k : Int) : L2.fromTo (a + k) (b + k) = (L2.fromTo a b).map (· + k) := by
  unfold L2.fromTo
  rw [show b + k - (a + k) = b - a by omega, List.map_map]
  refine List.map_congr_left fun i _ => ?_
  show a + k + (i : Nat) = a + (i : Nat) + k
  omega
open Classical in
theorem gone_shift (ok : ∀ st ∈ sts, st.Ok) (hY : IsCyc sts c r) (n0 : 0 ≤ n) {a b : Int} (ha : endI sts 0 < a) : goneI sts (a + n * r) (b + n * r) = (goneI sts a b).map (· + n * r) := by
  unfold goneI
  rw [fromTo_shift, List.filter_map]
  congr 1
  refine List.filter_congr fun x hx => ?_
  have := (mem_fromTo hx).1
  show decide (¬ Hit sts (x + n * r)) = decide (¬ Hit sts x)
  have h := Hit.shift ok hY n0 (show endI sts 0 < x by omega)
  by_cases z : Hit sts x
  · rw [decide_eq_false (show ¬ ¬ Hit sts (x + n * r) from fun w => w (h.mpr z)), decide_eq_false (show ¬ ¬ Hit sts x from fun w => w z)]
  · rw [decide_eq_true (show ¬ Hit sts (x + n * r) from fun w => z (h.mp w)), decide_eq_true z]
end
end L2
set_option Elab.async false
set_option linter.all false
set_option maxRecDepth 100000
set_option maxHeartbeats 4000000
namespace My
open PySem L2
noncomputable def top (i : Nat) : Stmt := PySem.Challenge.pw_roundprice_k43_whole_backwards_goes_roun.main.body.getD i (.Pass ⟨0, 0, 0, 0⟩)
noncomputable abbrev s_common_divisor : Stmt := top 1
theorem sc_common_divisor : FnScope ["one", "other", "rest"] ["one", "other"] (defScope s_common_divisor) := ⟨rfl, rfl, rfl, by decide +kernel, rfl, by decide +kernel, by decide +kernel⟩
noncomputable abbrev s_lowest : Stmt := top 2
theorem sc_lowest : FnScope ["num", "den", "divisor"] ["num", "den"] (defScope s_lowest) := ⟨rfl, rfl, rfl, by decide +kernel, rfl, by decide +kernel, by decide +kernel⟩
noncomputable abbrev s_prime_factors : Stmt := top 3
theorem sc_prime_factors : FnScope ["number", "factors", "prime"] ["number"] (defScope s_prime_factors) := ⟨rfl, rfl, rfl, by decide +kernel, rfl, by decide +kernel, by decide +kernel⟩
noncomputable abbrev s_share : Stmt := top 5
theorem sc_share : FnScope ["step", "word", "n", "d"] ["step"] (defScope s_share) := ⟨rfl, rfl, rfl, by decide +kernel, rfl, by decide +kernel, by decide +kernel⟩
noncomputable abbrev s_rounded : Stmt := top 6
theorem sc_rounded : FnScope ["num", "den", "unit", "way", "block"] ["num", "den", "unit", "way"] (defScope s_rounded) := ⟨rfl, rfl, rfl, by decide +kernel, rfl, by decide +kernel, by decide +kernel⟩
noncomputable abbrev s_after : Stmt := top 7
theorem sc_after : FnScope ["step", "amount", "pennies", "way", "unit", "part", "num"] ["step", "amount"] (defScope s_after) := ⟨rfl, rfl, rfl, by decide +kernel, rfl, by decide +kernel, by decide +kernel⟩
noncomputable abbrev s_own_cycle : Stmt := top 8
theorem sc_own_cycle : FnScope ["step", "unit", "part", "block", "divisor"] ["step"] (defScope s_own_cycle) := ⟨rfl, rfl, rfl, by decide +kernel, rfl, by decide +kernel, by decide +kernel⟩
noncomputable abbrev s_run : Stmt := top 15
theorem sc_run : FnScope ["chain", "amount", "step"] ["chain", "amount"] (defScope s_run) := ⟨rfl, rfl, rfl, by decide +kernel, rfl, by decide +kernel, by decide +kernel⟩
noncomputable abbrev s_origin : Stmt := top 17
theorem sc_origin : FnScope ["chain", "end", "first", "reached", "below"] ["chain", "end"] (defScope s_origin) := ⟨rfl, rfl, rfl, by decide +kernel, rfl, by decide +kernel, by decide +kernel⟩
noncomputable abbrev s_missing : Stmt := top 18
theorem sc_missing : FnScope ["chain", "low", "high", "found", "number", "reached"] ["chain", "low", "high"] (defScope s_missing) := ⟨rfl, rfl, rfl, by decide +kernel, rfl, by decide +kernel, by decide +kernel⟩
noncomputable abbrev s_first_reaching : Stmt := top 19
theorem sc_first_reaching : FnScope ["chain", "end", "amount", "step"] ["chain", "end"] (defScope s_first_reaching) := ⟨rfl, rfl, rfl, by decide +kernel, rfl, by decide +kernel, by decide +kernel⟩
noncomputable abbrev s_least_ahead : Stmt := top 20
theorem sc_least_ahead : FnScope ["step", "amount", "pennies", "way", "unit", "part", "goal", "bound", "num", "den"] ["step", "amount"] (defScope s_least_ahead) := ⟨rfl, rfl, rfl, by decide +kernel, rfl, by decide +kernel, by decide +kernel⟩
noncomputable abbrev s_Flat___init__ : Stmt := inClass (top 22) 0
theorem sc_Flat___init__ : FnScope ["self", "cycle", "rise", "ends"] ["self", "cycle", "rise", "ends"] (defScope s_Flat___init__) := ⟨rfl, rfl, rfl, by decide +kernel, rfl, by decide +kernel, by decide +kernel⟩
noncomputable abbrev s_flatten : Stmt := top 23
theorem sc_flatten : FnScope ["chain", "found", "ends", "least"] ["chain"] (defScope s_flatten) := ⟨rfl, rfl, rfl, by decide +kernel, rfl, by decide +kernel, by decide +kernel⟩
noncomputable abbrev s_some_cycle : Stmt := top 24
theorem sc_some_cycle : FnScope ["chain", "cycle", "rise", "step", "own", "many"] ["chain"] (defScope s_some_cycle) := ⟨rfl, rfl, rfl, by decide +kernel, rfl, by decide +kernel, by decide +kernel⟩
noncomputable abbrev s_first_ends : Stmt := top 25
theorem sc_first_ends : FnScope ["chain", "many", "ends", "step"] ["chain", "many"] (defScope s_first_ends) := ⟨rfl, rfl, rfl, by decide +kernel, rfl, by decide +kernel, by decide +kernel⟩
noncomputable abbrev s_least_cycle : Stmt := top 26
theorem sc_least_cycle : FnScope ["ends", "rise", "cycle", "prime"] ["ends", "rise"] (defScope s_least_cycle) := ⟨rfl, rfl, rfl, by decide +kernel, rfl, by decide +kernel, by decide +kernel⟩
noncomputable abbrev s_repeats : Stmt := top 27
theorem sc_repeats : FnScope ["ends", "part", "rise", "price"] ["ends", "part", "rise"] (defScope s_repeats) := ⟨rfl, rfl, rfl, by decide +kernel, rfl, by decide +kernel, by decide +kernel⟩
noncomputable abbrev s_law_at : Stmt := top 29
theorem sc_law_at : FnScope ["_law_script", "_law_k"] ["_law_script", "_law_k"] (defScope s_law_at) := ⟨rfl, rfl, rfl, by decide +kernel, rfl, by decide +kernel, by decide +kernel⟩
noncomputable abbrev s_law_draw : Stmt := top 30
theorem sc_law_draw : FnScope ["_law_script", "_law_k", "_law_cell"] ["_law_script", "_law_k"] (defScope s_law_draw) := ⟨rfl, rfl, rfl, by decide +kernel, rfl, by decide +kernel, by decide +kernel⟩
noncomputable abbrev s_law_whole : Stmt := top 31
theorem sc_law_whole : FnScope ["_law_found"] ["_law_found"] (defScope s_law_whole) := ⟨rfl, rfl, rfl, by decide +kernel, rfl, by decide +kernel, by decide +kernel⟩
noncomputable abbrev s_law_gcd : Stmt := top 32
theorem sc_law_gcd : FnScope ["_law_one", "_law_other"] ["_law_one", "_law_other"] (defScope s_law_gcd) := ⟨rfl, rfl, rfl, by decide +kernel, rfl, by decide +kernel, by decide +kernel⟩
noncomputable abbrev s_law_step : Stmt := top 33
theorem sc_law_step : FnScope ["_law_cell", "_law_size", "_law_most", "_law_units", "_law_word", "_law_left", "_law_bottom", "_law_top", "_law_unit", "_law_way", "_law_pennies"] ["_law_cell", "_law_size"] (defScope s_law_step) := ⟨rfl, rfl, rfl, by decide +kernel, rfl, by decide +kernel, by decide +kernel⟩
noncomputable abbrev s_law_num : Stmt := top 34
theorem sc_law_num : FnScope ["_law_step_here"] ["_law_step_here"] (defScope s_law_num) := ⟨rfl, rfl, rfl, by decide +kernel, rfl, by decide +kernel, by decide +kernel⟩
noncomputable abbrev s_law_own : Stmt := top 35
theorem sc_law_own : FnScope ["_law_step_here", "_law_wide"] ["_law_step_here"] (defScope s_law_own) := ⟨rfl, rfl, rfl, by decide +kernel, rfl, by decide +kernel, by decide +kernel⟩
noncomputable abbrev s_law_product : Stmt := top 36
theorem sc_law_product : FnScope ["_law_steps", "_law_wide", "_law_step_here"] ["_law_steps"] (defScope s_law_product) := ⟨rfl, rfl, rfl, by decide +kernel, rfl, by decide +kernel, by decide +kernel⟩
noncomputable abbrev s_law_chain : Stmt := top 37
theorem sc_law_chain : FnScope ["_law_script", "_law_base", "_law_many", "_law_limit", "_law_size", "_law_steps", "_law_k", "_law_cell", "_law_step_here"] ["_law_script", "_law_base", "_law_many", "_law_limit"] (defScope s_law_chain) := ⟨rfl, rfl, rfl, by decide +kernel, rfl, by decide +kernel, by decide +kernel⟩
noncomputable abbrev s_law_after : Stmt := top 38
theorem sc_law_after : FnScope ["_law_step_here", "_law_amount", "_law_wide", "_law_exact", "_law_many", "_law_left"] ["_law_step_here", "_law_amount"] (defScope s_law_after) := ⟨rfl, rfl, rfl, by decide +kernel, rfl, by decide +kernel, by decide +kernel⟩
noncomputable abbrev s_law_end : Stmt := top 39
theorem sc_law_end : FnScope ["_law_steps", "_law_amount", "_law_step_here"] ["_law_steps", "_law_amount"] (defScope s_law_end) := ⟨rfl, rfl, rfl, by decide +kernel, rfl, by decide +kernel, by decide +kernel⟩
noncomputable abbrev s_law_same_row : Stmt := top 40
theorem sc_law_same_row : FnScope ["_law_found", "_law_due", "_law_k"] ["_law_found", "_law_due"] (defScope s_law_same_row) := ⟨rfl, rfl, rfl, by decide +kernel, rfl, by decide +kernel, by decide +kernel⟩
noncomputable abbrev s_law_least : Stmt := top 41
theorem sc_law_least : FnScope ["_law_steps", "_law_end_here", "_law_short", "_law_long_here", "_law_middle"] ["_law_steps", "_law_end_here"] (defScope s_law_least) := ⟨rfl, rfl, rfl, by decide +kernel, rfl, by decide +kernel, by decide +kernel⟩
noncomputable abbrev s_law_origin : Stmt := top 42
theorem sc_law_origin : FnScope ["_law_steps", "_law_end_here", "_law_first"] ["_law_steps", "_law_end_here"] (defScope s_law_origin) := ⟨rfl, rfl, rfl, by decide +kernel, rfl, by decide +kernel, by decide +kernel⟩
noncomputable abbrev s_law_same_origin : Stmt := top 43
theorem sc_law_same_origin : FnScope ["_law_found", "_law_due"] ["_law_found", "_law_due"] (defScope s_law_same_origin) := ⟨rfl, rfl, rfl, by decide +kernel, rfl, by decide +kernel, by decide +kernel⟩
noncomputable abbrev s_law_next : Stmt := top 44
theorem sc_law_next : FnScope ["_law_steps", "_law_price", "_law_here", "_law_wide", "_law_short", "_law_middle"] ["_law_steps", "_law_price"] (defScope s_law_next) := ⟨rfl, rfl, rfl, by decide +kernel, rfl, by decide +kernel, by decide +kernel⟩
noncomputable abbrev s_law_last : Stmt := top 45
theorem sc_law_last : FnScope ["_law_cell", "_law_way"] ["_law_cell"] (defScope s_law_last) := ⟨rfl, rfl, rfl, by decide +kernel, rfl, by decide +kernel, by decide +kernel⟩
noncomputable abbrev s_law_long : Stmt := top 46
theorem sc_law_long : FnScope ["_law_cell", "_law_way", "_law_left", "_law_steps", "_law_half"] ["_law_cell"] (defScope s_law_long) := ⟨rfl, rfl, rfl, by decide +kernel, rfl, by decide +kernel, by decide +kernel⟩
noncomputable abbrev s_law_gone : Stmt := top 47
theorem sc_law_gone : FnScope ["_law_steps", "_law_low", "_law_high", "_law_gone_here", "_law_end_here", "_law_price", "_law_found"] ["_law_steps", "_law_low", "_law_high"] (defScope s_law_gone) := ⟨rfl, rfl, rfl, by decide +kernel, rfl, by decide +kernel, by decide +kernel⟩
noncomputable abbrev s_law_moved : Stmt := top 48
theorem sc_law_moved : FnScope ["_law_due", "_law_many", "_law_made"] ["_law_due", "_law_many", "_law_made"] (defScope s_law_moved) := ⟨rfl, rfl, rfl, by decide +kernel, rfl, by decide +kernel, by decide +kernel⟩
noncomputable abbrev s_law : Stmt := top 49
theorem sc_law : FnScope ["_law_script", "_law_steps", "_law_last_here", "_law_made", "_law_cell", "_law_end_here", "_law_many", "_law_due", "_law_later", "_law_wide", "_law_gone_here"] ["_law_script"] (defScope s_law) := ⟨rfl, rfl, rfl, by decide +kernel, rfl, by decide +kernel, by decide +kernel⟩
structure Txt_Flat (K : PySem.W.Frag) (mg : Str → Option Value) : Prop where
  cl : Cls K (clsAt K "Flat")
  g : mg "Flat" = some (.ref (clsAt K "Flat"))
  ha : PySem.W.findIn K (.ref (clsAt K "Flat")) "__class__" = some (some (.builtin "object.__class__"))
  hn : PySem.W.specialIn K (.builtin "object.__class__") "__get__" = some (some (.builtin "getset_descriptor.__get__"))
  htk : PySem.W.takesIn K (.builtin "object.__class__") = some true
  hm : PySem.W.mroIn K (clsAt K "Flat") (.type "object") = some true
  n_cycle : NoAttr K (clsAt K "Flat") "cycle"
  n_rise : NoAttr K (clsAt K "Flat") "rise"
  n_ends : NoAttr K (clsAt K "Flat") "ends"
theorem gcd_turnZ {x y : Int} (hy : 0 < y) : Int.gcd y (x % y) = Int.gcd x y := by
  rw [Int.gcd_comm x y]
  have e : x % y = x - y * (x / y) := Int.emod_def x y
  refine Nat.dvd_antisymm ?_ ?_
  · have a := Int.gcd_dvd_left y (x % y)
    have b := Int.gcd_dvd_right y (x % y)
    have b' : ((Int.gcd y (x % y) : Nat) : Int) ∣ x % y + y * (x / y) := Int.dvd_add b (Int.dvd_mul_of_dvd_left a)
    rw [Int.emod_add_mul_ediv] at b'
    exact Int.dvd_gcd a b'
  · have a := Int.gcd_dvd_left y x
    have b := Int.gcd_dvd_right y x
    refine Int.dvd_gcd a ?_
    rw [e]
    exact Int.dvd_sub b (Int.dvd_mul_of_dvd_left a)
noncomputable def sp_common_divisor (K : PySem.W.Frag) : Sp := fun vs H Q _ => ∃ (x y : Int), vs = [.int x, .int y] ∧ (0 ≤ x ∨ 0 < y) ∧ 0 ≤ y ∧ Q (.int ((Int.gcd x y : Nat) : Int)) H
theorem cal_common_divisor {P : Program} {w : World} {K : PySem.W.Frag} {mg : Str → Option Value} {base : Heap} {f : Addr} {fd : FuncData} (F : Fun K "common_divisor" "common_divisor" s_common_divisor f fd) (b : Binds K fd ["one", "other"] []) (m : mg "common_divisor" = some (.ref f))  : Cal P w K mg base "common_divisor" 1 ["one", "other"] (sp_common_divisor K) := by
  refine ⟨f, fd, F.ok sc_common_divisor (fun vs H Q E h => ?_) (fun cdv A outer s H vs Q E hr h => ?_), b, F.kp, m⟩
  · first | (obtain ⟨_, rfl, _⟩ := h; rfl) | (obtain ⟨_, _, rfl, _⟩ := h; rfl) | (obtain ⟨_, _, _, rfl, _⟩ := h; rfl) | (obtain ⟨_, _, _, _, rfl, _⟩ := h; rfl) | (obtain ⟨_, _, _, _, _, rfl, _⟩ := h; rfl) | (obtain ⟨_, _, _, _, _, _, rfl, _⟩ := h; rfl) | (obtain ⟨_, _, _, _, _, _, _, rfl, _⟩ := h; rfl) | (obtain ⟨_, _, _, _, _, _, _, _, rfl, _⟩ := h; rfl) | (obtain ⟨_, _, _, _, _, _, _, _, _, rfl, _⟩ := h; rfl)
  · obtain ⟨x0, y0, rfl, h1, h2, q⟩ := h
    refine ⟨_, (pss_cons (ps_while PassesOwn.never (pt_cmpR op_gt (pv 1) pe_int (nomark _))
      (pss_cons (ps_set (i := 2) sc_common_divisor.nd rfl (Or.inl rfl) (pe_op op_mod (pv 0) (pv 1)))
      (pss_cons (ps_set (i := 0) sc_common_divisor.nd rfl (Or.inl rfl) (pv 1))
      (pss_one (ps_set (i := 1) sc_common_divisor.nd rfl (Or.inl rfl) (pv 2))))))
      (pss_one (ps_ret (pv 0)))), ?_⟩
    refine while_by (fun σ H' => ∃ x y r, σ = [some (.int x), some (.int y), r] ∧ H' = H ∧ (0 ≤ x ∨ 0 < y) ∧ 0 ≤ y ∧ Int.gcd x y = Int.gcd x0 y0)
      (fun σ _ => match σ with | (_ :: some (.int y) :: _) => y.toNat | _ => 0) ⟨x0, y0, _, rfl, rfl, h1, h2, rfl⟩ ?_ ?_
    · rintro σ H' ⟨x, y, _, rfl, rfl, hx, hy, hg⟩
      refine ⟨_, rfl, _, _, rfl, rfl, _, rfl, ?_⟩
      refine if2 (fun c => ?_) (fun c => ?_)
      · have hm0 := md0 (x := x) c
        have hm1 := md1 (x := x) c
        refine ⟨_, rfl, _, rfl, _, _, rfl, rfl, c, _, rfl, _, rfl, ?_⟩
        refine ⟨⟨y, x % y, _, rfl, rfl, .inl hy, hm0, by rw [gcd_turnZ c]; exact hg⟩, ?_⟩
        show (x % y).toNat < y.toNat
        omega
      · have e := gcd_end (x := x) (y := y) (by omega) (by omega)
        rw [← hg, ← e] at q
        exact ⟨_, rfl, q⟩
    · rintro σ H' R R' hq ⟨v, e, i, j, e1, e2, k, e3, h⟩
      exact ⟨v, e, i, j, e1, e2, k, e3, hq _ _ h⟩
theorem lk_prime_factors_0 : (defScope s_prime_factors).names.lookup ("number" : Str) = some .local := by decide +kernel
theorem pv_prime_factors_0 {X : Cx} (c : CxIs X ["number", "factors", "prime"] (defScope s_prime_factors)) {pos : Pos} : WE X (.Name "number" pos) (tVar 0) := wxv c rfl lk_prime_factors_0 (by decide) (by decide)
theorem ss_prime_factors_0 {X : Cx} (c : CxIs X ["number", "factors", "prime"] (defScope s_prime_factors)) {pos pos' : Pos} {e : Expr} {te : TE} (he : WE X e te) (hs : swapsWith e (some (.Name "number" pos')) pos.line X.env = pure false := by rfl) : WS X (.Assign [.Name "number" pos'] e pos) (tAsg te (gN 0)) := wxs c sc_prime_factors.nd rfl lk_prime_factors_0 he hs
theorem lk_prime_factors_1 : (defScope s_prime_factors).names.lookup ("factors" : Str) = some .local := by decide +kernel
theorem pv_prime_factors_1 {X : Cx} (c : CxIs X ["number", "factors", "prime"] (defScope s_prime_factors)) {pos : Pos} : WE X (.Name "factors" pos) (tVar 1) := wxv c rfl lk_prime_factors_1 (by decide) (by decide)
theorem ss_prime_factors_1 {X : Cx} (c : CxIs X ["number", "factors", "prime"] (defScope s_prime_factors)) {pos pos' : Pos} {e : Expr} {te : TE} (he : WE X e te) (hs : swapsWith e (some (.Name "factors" pos')) pos.line X.env = pure false := by rfl) : WS X (.Assign [.Name "factors" pos'] e pos) (tAsg te (gN 1)) := wxs c sc_prime_factors.nd rfl lk_prime_factors_1 he hs
theorem lk_prime_factors_2 : (defScope s_prime_factors).names.lookup ("prime" : Str) = some .local := by decide +kernel
theorem pv_prime_factors_2 {X : Cx} (c : CxIs X ["number", "factors", "prime"] (defScope s_prime_factors)) {pos : Pos} : WE X (.Name "prime" pos) (tVar 2) := wxv c rfl lk_prime_factors_2 (by decide) (by decide)
theorem ss_prime_factors_2 {X : Cx} (c : CxIs X ["number", "factors", "prime"] (defScope s_prime_factors)) {pos pos' : Pos} {e : Expr} {te : TE} (he : WE X e te) (hs : swapsWith e (some (.Name "prime" pos')) pos.line X.env = pure false := by rfl) : WS X (.Assign [.Name "prime" pos'] e pos) (tAsg te (gN 2)) := wxs c sc_prime_factors.nd rfl lk_prime_factors_2 he hs
theorem st_prime_factors (v0 : V) : L2.start ["number", "factors", "prime"] [v0] = [some v0, none, none] := rfl
noncomputable def sp_prime_factors (K : PySem.W.Frag) : Sp := fun vs H Q _ => ∃ n : Int, vs = [.int n] ∧ 1 ≤ n ∧ n ≤ 20000 ∧ ∀ p H' (fs : List Int), Same H H' → H p = none → H' p = some (.lst (fs.map V.int)) → (∀ z ∈ fs, Prm z) → prodL fs = n → Q (.ref p) H'
theorem body_prime_factors {X : Cx} (c : CxIs X ["number", "factors", "prime"] (defScope s_prime_factors)) (hr : Room 0 X.A) {E : XK}   {vs : List V} {H : Hp} {Q : VK} (h : sp_prime_factors X.K vs H Q E) : ∃ t, WSs X (defBody s_prime_factors) t ∧ t { nx := fun _ H' => Q .non H', rt := Q } (L2.start ["number", "factors", "prime"] vs) H := by
  · obtain ⟨n0, rfl, h1, h2, q⟩ := h
    refine ⟨_, (wss_cons (ss_prime_factors_1 c (we_lstO wa_nil))
      (wss_cons (ss_prime_factors_2 c we_int)
      (wss_cons (ws_while c.own (wt_cmpR op_le (we_op op_mulB (pv_prime_factors_2 c) (pv_prime_factors_2 c)) (pv_prime_factors_0 c) (nomark _))
      (wss_one (ws_if (wt_cmpR op_eq (we_op op_mod (pv_prime_factors_0 c) (pv_prime_factors_2 c)) we_int (nomark _))
      (wss_cons (ws_expr (we_bm PySem.F.plainAttrs_list PySem.F.slot_list_append PySem.F.type_list_append mt_append (pv_prime_factors_1 c) (wa_cons (pv_prime_factors_2 c) wa_nil star_Name)))
      (wss_one (ss_prime_factors_0 c (we_op op_fdivB (pv_prime_factors_0 c) (pv_prime_factors_2 c)))))
      (wss_one (ss_prime_factors_2 c (we_op op_add (pv_prime_factors_2 c) we_int))))))
      (wss_cons (ws_if (wt_cmpR op_gt (pv_prime_factors_0 c) we_int (nomark _))
      (wss_one (ws_expr (we_bm PySem.F.plainAttrs_list PySem.F.slot_list_append PySem.F.type_list_append mt_append (pv_prime_factors_1 c) (wa_cons (pv_prime_factors_0 c) wa_nil star_Name))))
      wss_nil)
      (wss_one (ws_ret (pv_prime_factors_1 c))))))), ?_⟩
    rw [st_prime_factors]
    refine ⟨(small' (by show 0 ≤ 1000; decide)), fun p1 H1 n1 s1 f1 σ e => ?_⟩
    dsimp only [List.set] at e
    subst e
    intro σ e
    dsimp only [List.set] at e
    subst e
    refine while_by (fun σ H' => ∃ n r fs, σ = [some (.int n), some (.ref p1), some (.int r)] ∧ Same H H' ∧ H' p1 = some (.lst (fs.map V.int)) ∧ Fac n0 n r fs ∧ r ≤ 20001)
      (fun σ _ => match σ with | [some (.int n), _, some (.int r)] => (n - r).toNat | _ => 0) ⟨n0, 2, [], rfl, s1, f1, Fac.start h1, by omega⟩ ?_ ?_
    · rintro σ H' ⟨n, r, fs, rfl, s0, f0, F, hr'⟩
      have r2 := F.q2
      have n1' := F.n1
      have fl := F.len
      have n2 : n ≤ n0 := by
        have := Int.natCast_nonneg fs.length
        omega
      refine ⟨_, rfl, _, rfl, _, _, rfl, rfl, mul_r (by omega) (by omega), _, rfl, _, _, rfl, rfl, _, rfl, ?_⟩
      refine if2 (fun c => ?_) (fun c => ?_)
      · have rlt : r < n := by
          have := Int.mul_le_mul_of_nonneg_right r2 (show 0 ≤ r by omega)
          omega
        refine ⟨_, rfl, _, rfl, _, _, rfl, rfl, (show 0 < r by omega), rfl, _, rfl, ?_⟩
        refine if2 (fun d => ?_) (fun d => ?_)
        · obtain ⟨F', lt, _⟩ := F.hit (Int.dvd_of_emod_eq_zero (of_int d))
          have ge : r ≤ n / r := (Int.le_ediv_iff_mul_le (by omega)).mpr c
          refine ⟨_, rfl, .inl ⟨rfl, _, SqL.of f0⟩, _, rfl, p1, _, _, rfl, rfl, f0, Nat.lt_of_le_of_lt (show _ ≤ 20000 by rw [List.length_map]; omega) (by decide), ?_⟩
          refine ⟨_, rfl, _, rfl, _, _, rfl, rfl, ⟨by omega, by omega⟩, fun σ e => ?_⟩
          dsimp only [List.set] at e
          subst e
          refine ⟨⟨_, _, fs ++ [r], rfl, s0.drop n1 rfl, by rw [upd_same, List.map_append]; rfl, F', hr'⟩, ?_⟩
          show (n / r - r).toNat < (n - r).toNat
          omega
        · refine ⟨_, rfl, _, _, rfl, rfl, fun σ e => ?_⟩
          dsimp only [List.set] at e
          subst e
          refine ⟨⟨_, _, fs, rfl, s0, f0, F.miss fun z => of_not_int d (Int.emod_eq_zero_of_dvd z), by omega⟩, ?_⟩
          show (n - (r + 1)).toNat < (n - r).toNat
          omega
      · refine ⟨_, rfl, _, _, rfl, rfl, _, rfl, ?_⟩
        refine if2 (fun d => ?_) (fun d => ?_)
        · obtain ⟨P, E⟩ := F.last (by omega) d
          refine ⟨_, rfl, .inl ⟨rfl, _, SqL.of f0⟩, _, rfl, p1, _, _, rfl, rfl, f0, Nat.lt_of_le_of_lt (show _ ≤ 20000 by rw [List.length_map]; omega) (by decide), ?_⟩
          refine ⟨_, rfl, q p1 _ (fs ++ [n]) (s0.drop n1 rfl) n1 (by rw [upd_same, List.map_append]; rfl) (fun z hz => ?_) E⟩
          rcases List.mem_append.mp hz with y | y
          · exact F.prm z y
          · rw [List.mem_singleton.mp y]; exact P
        · exact ⟨_, rfl, q p1 _ fs s0 n1 f0 F.prm (F.one d)⟩
    · rintro σ H' R R' hq ⟨v, e, v2, e2, i, j, e3, e4, m, v3, e5, i2, j2, e6, e7, k, e8, h⟩
      exact ⟨v, e, v2, e2, i, j, e3, e4, m, v3, e5, i2, j2, e6, e7, k, e8, hq _ _ h⟩
theorem cal_prime_factors {P : Program} {w : World} {K : PySem.W.Frag} {mg : Str → Option Value} {base : Heap} {f : Addr} {fd : FuncData} (F : Fun K "prime_factors" "prime_factors" s_prime_factors f fd) (b : Binds K fd ["number"] []) (m : mg "prime_factors" = some (.ref f))  : Cal P w K mg base "prime_factors" 1 ["number"] (sp_prime_factors K) :=
  ⟨f, fd, F.ok sc_prime_factors (fun vs H Q E h => by first | (obtain ⟨_, rfl, _⟩ := h; rfl) | (obtain ⟨_, _, rfl, _⟩ := h; rfl) | (obtain ⟨_, _, _, rfl, _⟩ := h; rfl) | (obtain ⟨_, _, _, _, rfl, _⟩ := h; rfl) | (obtain ⟨_, _, _, _, _, rfl, _⟩ := h; rfl) | (obtain ⟨_, _, _, _, _, _, rfl, _⟩ := h; rfl) | (obtain ⟨_, _, _, _, _, _, _, rfl, _⟩ := h; rfl) | (obtain ⟨_, _, _, _, _, _, _, _, rfl, _⟩ := h; rfl) | (obtain ⟨_, _, _, _, _, _, _, _, _, rfl, _⟩ := h; rfl)) (fun cdv A outer s H vs Q E hr h => unW (body_prime_factors (X := (cxOf CX0 P w K mg base ["number", "factors", "prime"] "prime_factors" (defScope s_prime_factors) f cdv A outer s H E).nox) ⟨rfl, rfl, rfl, PassesOwn.never⟩ hr  h)), b, F.kp, m⟩
noncomputable def sp_rounded (K : PySem.W.Frag) : Sp := fun vs H Q _ => ∃ (num den unit : Int) (way : Str), vs = [.int num, .int den, .int unit, .str way] ∧ 1 ≤ den ∧ den < 2 ^ 300 ∧ 1 ≤ unit ∧ unit ≤ 100 ∧ Q (.int (roundI num den unit way)) H
theorem cal_rounded {P : Program} {w : World} {K : PySem.W.Frag} {mg : Str → Option Value} {base : Heap} {f : Addr} {fd : FuncData} (F : Fun K "rounded" "rounded" s_rounded f fd) (b : Binds K fd ["num", "den", "unit", "way"] []) (m : mg "rounded" = some (.ref f))  : Cal P w K mg base "rounded" 1 ["num", "den", "unit", "way"] (sp_rounded K) := by
  refine ⟨f, fd, F.ok sc_rounded (fun vs H Q E h => ?_) (fun cdv A outer s H vs Q E hr h => ?_), b, F.kp, m⟩
  · first | (obtain ⟨_, rfl, _⟩ := h; rfl) | (obtain ⟨_, _, rfl, _⟩ := h; rfl) | (obtain ⟨_, _, _, rfl, _⟩ := h; rfl) | (obtain ⟨_, _, _, _, rfl, _⟩ := h; rfl) | (obtain ⟨_, _, _, _, _, rfl, _⟩ := h; rfl) | (obtain ⟨_, _, _, _, _, _, rfl, _⟩ := h; rfl) | (obtain ⟨_, _, _, _, _, _, _, rfl, _⟩ := h; rfl) | (obtain ⟨_, _, _, _, _, _, _, _, rfl, _⟩ := h; rfl) | (obtain ⟨_, _, _, _, _, _, _, _, _, rfl, _⟩ := h; rfl)
  · obtain ⟨num, den, unit, way, rfl, h1, h2, h3, h4, q⟩ := h
    have p0 : 0 < den * unit := Int.mul_pos (by omega) (by omega)
    have p1 : den * unit ≤ den * 100 := Int.mul_le_mul_of_nonneg_left h4 (by omega)
    have p2 : den * unit < 2 ^ 310 := by omega
    have u1 : ∀ z, CMulB z unit := fun z => mul_r (by omega) (by omega)
    refine ⟨_, (pss_cons (ps_set (i := 4) sc_rounded.nd rfl (Or.inl rfl) (pe_op op_mulB (pv 1) (pv 2)))
      (pss_cons (ps_if (pt_cmpR op_eq (pv 3) pe_str (nomark _))
      (pss_one (ps_ret (pe_op op_mulB (pe_op op_fdivB (pv 0) (pv 4)) (pv 2))))
      pss_nil)
      (pss_cons (ps_if (pt_cmpR op_eq (pv 3) pe_str (nomark _))
      (pss_one (ps_ret (pe_op op_mulB (pe_op op_fdivB (pe_op op_sub (pe_op op_add (pv 0) (pv 4)) pe_int) (pv 4)) (pv 2))))
      pss_nil)
      (pss_one (ps_ret (pe_op op_mulB (pe_op op_fdivB (pe_op op_add (pe_op op_mulB pe_int (pv 0)) (pv 4)) (pe_op op_mulB pe_int (pv 4))) (pv 2))))))), ?_⟩
    refine ⟨_, rfl, _, rfl, _, _, rfl, rfl, u1 _, _, rfl, rfl, _, rfl, ?_⟩
    refine if2 (fun c => ?_) (fun c => ?_)
    · have e : roundI num den unit way = num / (den * unit) * unit := if_pos (V.str.inj c)
      rw [e] at q
      exact ⟨_, rfl, _, rfl, _, _, rfl, rfl, ⟨p0, by omega⟩, _, rfl, _, _, rfl, rfl, u1 _, q⟩
    refine ⟨_, rfl, rfl, _, rfl, ?_⟩
    have c' : ¬ way = "down" := fun z => c (by rw [z])
    refine if2 (fun d => ?_) (fun d => ?_)
    · have e : roundI num den unit way = (num + den * unit - 1) / (den * unit) * unit := by unfold roundI; rw [if_neg c', if_pos (V.str.inj d)]
      rw [e] at q
      exact ⟨_, rfl, _, rfl, _, _, rfl, rfl, _, _, rfl, rfl, _, rfl, _, _, rfl, rfl, ⟨p0, by omega⟩, _, rfl, _, _, rfl, rfl, u1 _, q⟩
    · have d' : ¬ way = "up" := fun z => d (by rw [z])
      have e : roundI num den unit way = (2 * num + den * unit) / (2 * (den * unit)) * unit := by unfold roundI; rw [if_neg c', if_neg d']
      rw [e] at q
      exact ⟨_, rfl, _, _, rfl, rfl, mul_l (by decide) (by decide), _, rfl, _, _, rfl, rfl, _, rfl, _, _, rfl, rfl, mul_l (by decide) (by decide), _, _, rfl, rfl, ⟨by omega, by omega⟩, _, rfl, _, _, rfl, rfl, u1 _, q⟩
theorem lk_Flat___init___0 : (defScope s_Flat___init__).names.lookup ("self" : Str) = some .local := by decide +kernel
theorem pv_Flat___init___0 {X : Cx} (c : CxIs X ["self", "cycle", "rise", "ends"] (defScope s_Flat___init__)) {pos : Pos} : WE X (.Name "self" pos) (tVar 0) := wxv c rfl lk_Flat___init___0 (by decide) (by decide)
theorem lk_Flat___init___1 : (defScope s_Flat___init__).names.lookup ("cycle" : Str) = some .local := by decide +kernel
theorem pv_Flat___init___1 {X : Cx} (c : CxIs X ["self", "cycle", "rise", "ends"] (defScope s_Flat___init__)) {pos : Pos} : WE X (.Name "cycle" pos) (tVar 1) := wxv c rfl lk_Flat___init___1 (by decide) (by decide)
theorem lk_Flat___init___2 : (defScope s_Flat___init__).names.lookup ("rise" : Str) = some .local := by decide +kernel
theorem pv_Flat___init___2 {X : Cx} (c : CxIs X ["self", "cycle", "rise", "ends"] (defScope s_Flat___init__)) {pos : Pos} : WE X (.Name "rise" pos) (tVar 2) := wxv c rfl lk_Flat___init___2 (by decide) (by decide)
theorem lk_Flat___init___3 : (defScope s_Flat___init__).names.lookup ("ends" : Str) = some .local := by decide +kernel
theorem pv_Flat___init___3 {X : Cx} (c : CxIs X ["self", "cycle", "rise", "ends"] (defScope s_Flat___init__)) {pos : Pos} : WE X (.Name "ends" pos) (tVar 3) := wxv c rfl lk_Flat___init___3 (by decide) (by decide)
theorem st_Flat___init__ (v0 v1 v2 v3 : V) : L2.start ["self", "cycle", "rise", "ends"] [v0, v1, v2, v3] = [some v0, some v1, some v2, some v3] := rfl
noncomputable def sp_Flat___init__ (K : PySem.W.Frag) : Sp := fun vs H Q _ => ∃ (x dx p : Addr) (cc r : Int) (es : List Int), vs = [.ref x, .int cc, .int r, .ref p] ∧ H x = some (.ins (clsAt K "Flat") dx []) ∧ SqT K H p (es.map V.int) ∧ (∀ H', FlatAt K H' x cc r es → (∀ b o, H b = some o → b ≠ x → H' b = some o) → Q .non H')
theorem body_Flat___init__ {X : Cx} (c : CxIs X ["self", "cycle", "rise", "ends"] (defScope s_Flat___init__)) (hr : Room 0 X.A) {E : XK}  (T_Flat : Txt_Flat X.K X.mg) {vs : List V} {H : Hp} {Q : VK} (h : sp_Flat___init__ X.K vs H Q E) : ∃ t, WSs X (defBody s_Flat___init__) t ∧ t { nx := fun _ H' => Q .non H', rt := Q } (L2.start ["self", "cycle", "rise", "ends"] vs) H := by
  · obtain ⟨x, dx, p, cc, r, es, rfl, hx, hT, q⟩ := h
    refine ⟨_, (wss_cons (ws_fld (pv_Flat___init___0 c) (pv_Flat___init___1 c) rfl)
      (wss_cons (ws_fld (pv_Flat___init___0 c) (pv_Flat___init___2 c) rfl)
      (wss_one (ws_fld (pv_Flat___init___0 c) (pv_Flat___init___3 c) rfl)))), ?_⟩
    rw [st_Flat___init__]
    refine ⟨_, rfl, _, rfl, x, _, dx, _, rfl, hx, T_Flat.cl, T_Flat.n_cycle, (by show 0 < 1000; decide), ?_⟩
    refine ⟨_, rfl, _, rfl, x, _, dx, _, rfl, upd_same, T_Flat.cl, T_Flat.n_rise, Nat.lt_of_le_of_lt (length_putF _ _ _) (by decide), ?_⟩
    refine ⟨_, rfl, _, rfl, x, _, dx, _, rfl, upd_same, T_Flat.cl, T_Flat.n_ends, Nat.lt_of_le_of_lt (length_putF _ _ _) (by have := length_putF "cycle" (V.int cc) []; have e : ([] : List (Str × V)).length = 0 := rfl; omega), ?_⟩
    refine q _ ⟨dx, _, p, upd_same, ?_, ?_, ?_, ?_, ?_⟩ ?_
    · rw [lookup_putF, if_neg (by decide +kernel), lookup_putF, if_neg (by decide +kernel), lookup_putF, if_pos rfl]
    · rw [lookup_putF, if_neg (by decide +kernel), lookup_putF, if_pos rfl]
    · rw [lookup_putF, if_pos rfl]
    · rw [lookup_putF, if_neg (by decide +kernel), lookup_putF, if_neg (by decide +kernel), lookup_putF, if_neg (by decide +kernel)]; rfl
    · exact ((hT.updI hx).updI upd_same).updI upd_same
    · intro b o hb hn
      rw [upd_ne hn, upd_ne hn, upd_ne hn]; exact hb
theorem cal_Flat___init__ {P : Program} {w : World} {K : PySem.W.Frag} {mg : Str → Option Value} {base : Heap} {f : Addr} {fd : FuncData} (F : Fun K "__init__" "Flat.__init__" s_Flat___init__ f fd) (b : Binds K fd ["self", "cycle", "rise", "ends"] []) (m : Mk K (clsAt K "Flat") f) (T_Flat : Txt_Flat K mg) : CalI P w K mg base (clsAt K "Flat") 1 ["self", "cycle", "rise", "ends"] (sp_Flat___init__ K) :=
  ⟨f, fd, F.ok sc_Flat___init__ (fun vs H Q E h => by first | (obtain ⟨_, rfl, _⟩ := h; rfl) | (obtain ⟨_, _, rfl, _⟩ := h; rfl) | (obtain ⟨_, _, _, rfl, _⟩ := h; rfl) | (obtain ⟨_, _, _, _, rfl, _⟩ := h; rfl) | (obtain ⟨_, _, _, _, _, rfl, _⟩ := h; rfl) | (obtain ⟨_, _, _, _, _, _, rfl, _⟩ := h; rfl) | (obtain ⟨_, _, _, _, _, _, _, rfl, _⟩ := h; rfl) | (obtain ⟨_, _, _, _, _, _, _, _, rfl, _⟩ := h; rfl) | (obtain ⟨_, _, _, _, _, _, _, _, _, rfl, _⟩ := h; rfl)) (fun cdv A outer s H vs Q E hr h => unW (body_Flat___init__ (X := (cxOf CX0 P w K mg base ["self", "cycle", "rise", "ends"] "Flat.__init__" (defScope s_Flat___init__) f cdv A outer s H E).nox) ⟨rfl, rfl, rfl, PassesOwn.never⟩ hr T_Flat h)), b, m⟩
theorem lk_repeats_0 : (defScope s_repeats).names.lookup ("ends" : Str) = some .local := by decide +kernel
theorem pv_repeats_0 {X : Cx} (c : CxIs X ["ends", "part", "rise", "price"] (defScope s_repeats)) {pos : Pos} : WE X (.Name "ends" pos) (tVar 0) := wxv c rfl lk_repeats_0 (by decide) (by decide)
theorem lk_repeats_1 : (defScope s_repeats).names.lookup ("part" : Str) = some .local := by decide +kernel
theorem pv_repeats_1 {X : Cx} (c : CxIs X ["ends", "part", "rise", "price"] (defScope s_repeats)) {pos : Pos} : WE X (.Name "part" pos) (tVar 1) := wxv c rfl lk_repeats_1 (by decide) (by decide)
theorem lk_repeats_2 : (defScope s_repeats).names.lookup ("rise" : Str) = some .local := by decide +kernel
theorem pv_repeats_2 {X : Cx} (c : CxIs X ["ends", "part", "rise", "price"] (defScope s_repeats)) {pos : Pos} : WE X (.Name "rise" pos) (tVar 2) := wxv c rfl lk_repeats_2 (by decide) (by decide)
theorem lk_repeats_3 : (defScope s_repeats).names.lookup ("price" : Str) = some .local := by decide +kernel
theorem pv_repeats_3 {X : Cx} (c : CxIs X ["ends", "part", "rise", "price"] (defScope s_repeats)) {pos : Pos} : WE X (.Name "price" pos) (tVar 3) := wxv c rfl lk_repeats_3 (by decide) (by decide)
theorem sg_repeats_3 {X : Cx} (c : CxIs X ["ends", "part", "rise", "price"] (defScope s_repeats)) {pos : Pos} : WG X (.Name "price" pos) (gN 3) := wxt c sc_repeats.nd rfl lk_repeats_3
theorem gl_repeats_range {X : Cx} (c : CxIs X ["ends", "part", "rise", "price"] (defScope s_repeats)) : Gl X "range" := xg c (by decide +kernel)
theorem gl_repeats_len {X : Cx} (c : CxIs X ["ends", "part", "rise", "price"] (defScope s_repeats)) : Gl X "len" := xg c (by decide +kernel)
theorem st_repeats (v0 v1 v2 : V) : L2.start ["ends", "part", "rise", "price"] [v0, v1, v2] = [some v0, some v1, some v2, none] := rfl
noncomputable def sp_repeats (K : PySem.W.Frag) : Sp := fun vs H Q _ => ∃ (a : Addr) (sts : List StepD) (c part rise : Int), vs = [.ref a, .int part, .int rise] ∧ SqL K H a ((endsI sts c).map V.int) ∧ 0 ≤ c ∧ c ≤ 20000 ∧ 1 ≤ part ∧ part ≤ 20000 ∧
  ((∀ q, 0 ≤ q → q + part < c → endI sts (q + part) = endI sts q + rise) → Q (.bl true) H) ∧ ((¬ ∀ q, 0 ≤ q → q + part < c → endI sts (q + part) = endI sts q + rise) → Q (.bl false) H)
theorem body_repeats {X : Cx} (c : CxIs X ["ends", "part", "rise", "price"] (defScope s_repeats)) (hr : Room 0 X.A) {E : XK}  (z_range : X.mg "range" = none) (z_len : X.mg "len" = none) {vs : List V} {H : Hp} {Q : VK} (h : sp_repeats X.K vs H Q E) : ∃ t, WSs X (defBody s_repeats) t ∧ t { nx := fun _ H' => Q .non H', rt := Q } (L2.start ["ends", "part", "rise", "price"] vs) H := by
  · obtain ⟨a, sts, cc, part, rise, rfl, hL, c0, c1, p0, p1, qt, qf⟩ := h
    refine ⟨_, (wss_cons (ws_for c.own c.calm (wi_range2 (gl_repeats_range c) z_range (wa_cons (pv_repeats_1 c) (wa_cons (we_callB call_len_seq (gl_repeats_len c) z_len PySem.boot_len (wa_cons (pv_repeats_0 c) wa_nil star_Name)) wa_nil star_Call) star_Name)) (sg_repeats_3 c)
      (wss_one (ws_if (wt_cmpR op_ne (we_ix ix_list (pv_repeats_0 c) (pv_repeats_3 c) plain_Name) (we_op op_add (we_ix ix_list (pv_repeats_0 c) (we_op op_sub (pv_repeats_3 c) (pv_repeats_1 c)) plain_BinOp) (pv_repeats_2 c)) (nomark _))
      (wss_one (ws_ret we_bl))
      wss_nil)))
      (wss_one (ws_ret we_bl))), ?_⟩
    rw [st_repeats]
    have hl : ((endsI sts cc).map V.int).length = cc.toNat := endsI_size
    refine ⟨_, rfl, _, rfl, _, _, rfl, .inl hL, _, _, rfl, ⟨by omega, by omega, by rw [hl]; omega, by rw [hl]; omega⟩, for_range (fun i σ H' => H' = H ∧ (∀ q : Int, 0 ≤ q → q < (i : Int) → q + part < cc → endI sts (q + part) = endI sts q + rise) ∧ ∃ v, σ = [some (.ref a), some (.int part), some (.int rise), v])
      ⟨rfl, fun q _ _ => by omega, _, rfl⟩ ?_ ?_⟩
    · rintro i σ H' hi ⟨rfl, hq, v, rfl⟩ σ e
      dsimp only [List.set] at e
      subst e
      rw [hl] at hi
      have a1 := endsI_at (sts := sts) (c := cc) (i := part + (i : Int)) (by omega) (by omega)
      have a2 := endsI_at (sts := sts) (c := cc) (i := part + (i : Int) - part) (by omega) (by omega)
      refine ⟨_, rfl, _, rfl, a, _, _, _, rfl, rfl, hL, a1, _, rfl, _, rfl, _, rfl, _, _, rfl, rfl, a, _, _, _, rfl, rfl, hL, a2, _, rfl, _, _, rfl, rfl, rfl, _, rfl, ?_⟩
      refine ifn2 (fun d => ?_) (fun d => ?_)
      · refine qf fun z => ?_
        have := z (i : Int) (by omega) (by omega)
        rw [show part + (i : Int) - part = i by omega, Int.add_comm part] at d
        exact of_not_int d this
      · refine ⟨rfl, fun q q0 q1 q2 => ?_, _, rfl⟩
        by_cases hlt : q < (i : Int)
        · exact hq q q0 hlt q2
        · have : q = i := by omega
          subst this
          have d' := of_int d
          rw [show part + (i : Int) - part = i by omega, Int.add_comm part] at d'
          exact d'
    · rintro σ H' ⟨rfl, hq, v, rfl⟩
      rw [hl] at hq
      exact qt fun q q0 q2 => hq q q0 (by omega) q2
theorem cal_repeats {P : Program} {w : World} {K : PySem.W.Frag} {mg : Str → Option Value} {base : Heap} {f : Addr} {fd : FuncData} (F : Fun K "repeats" "repeats" s_repeats f fd) (b : Binds K fd ["ends", "part", "rise"] []) (m : mg "repeats" = some (.ref f)) (z_range : mg "range" = none) (z_len : mg "len" = none) : Cal P w K mg base "repeats" 1 ["ends", "part", "rise"] (sp_repeats K) :=
  ⟨f, fd, F.ok sc_repeats (fun vs H Q E h => by first | (obtain ⟨_, rfl, _⟩ := h; rfl) | (obtain ⟨_, _, rfl, _⟩ := h; rfl) | (obtain ⟨_, _, _, rfl, _⟩ := h; rfl) | (obtain ⟨_, _, _, _, rfl, _⟩ := h; rfl) | (obtain ⟨_, _, _, _, _, rfl, _⟩ := h; rfl) | (obtain ⟨_, _, _, _, _, _, rfl, _⟩ := h; rfl) | (obtain ⟨_, _, _, _, _, _, _, rfl, _⟩ := h; rfl) | (obtain ⟨_, _, _, _, _, _, _, _, rfl, _⟩ := h; rfl) | (obtain ⟨_, _, _, _, _, _, _, _, _, rfl, _⟩ := h; rfl)) (fun cdv A outer s H vs Q E hr h => unW (body_repeats (X := (cxOf CX0 P w K mg base ["ends", "part", "rise", "price"] "repeats" (defScope s_repeats) f cdv A outer s H E).nox) ⟨rfl, rfl, rfl, PassesOwn.never⟩ hr z_range z_len h)), b, F.kp, m⟩
noncomputable def cell (ns : List Int) (k : Int) : Int := ns.getD k.toNat 0
noncomputable def sp_law_at (K : PySem.W.Frag) : Sp := fun vs H Q _ => ∃ (a : Addr) (ns : List Int) (k : Int), vs = [.ref a, .int k] ∧ SqL K H a (ns.map V.int) ∧ 0 ≤ k ∧ Q (.int (cell ns k)) H
theorem cal_law_at {P : Program} {w : World} {K : PySem.W.Frag} {mg : Str → Option Value} {base : Heap} {f : Addr} {fd : FuncData} (F : Fun K "_law_at" "_law_at" s_law_at f fd) (b : Binds K fd ["_law_script", "_law_k"] []) (m : mg "_law_at" = some (.ref f)) (z_len : mg "len" = none) : Cal P w K mg base "_law_at" 1 ["_law_script", "_law_k"] (sp_law_at K) := by
  refine ⟨f, fd, F.ok sc_law_at (fun vs H Q E h => ?_) (fun cdv A outer s H vs Q E hr h => ?_), b, F.kp, m⟩
  · first | (obtain ⟨_, rfl, _⟩ := h; rfl) | (obtain ⟨_, _, rfl, _⟩ := h; rfl) | (obtain ⟨_, _, _, rfl, _⟩ := h; rfl) | (obtain ⟨_, _, _, _, rfl, _⟩ := h; rfl) | (obtain ⟨_, _, _, _, _, rfl, _⟩ := h; rfl) | (obtain ⟨_, _, _, _, _, _, rfl, _⟩ := h; rfl) | (obtain ⟨_, _, _, _, _, _, _, rfl, _⟩ := h; rfl) | (obtain ⟨_, _, _, _, _, _, _, _, rfl, _⟩ := h; rfl) | (obtain ⟨_, _, _, _, _, _, _, _, _, rfl, _⟩ := h; rfl)
  · obtain ⟨a, ns, k, rfl, hS, h0, q⟩ := h
    have hl : (ns.map V.int).length = ns.length := List.length_map _
    refine ⟨_, (pss_cons (ps_if (pt_cmpR op_lt (pv 1) (pe_callB call_len_seq rfl z_len PySem.boot_len (pa_cons (pv 0) pa_nil)) (nomark _))
      (pss_one (ps_ret (pe_ix ix_list (pv 0) (pv 1) (fun _ _ => rfl))))
      pss_nil)
      (pss_one (ps_ret pe_int))), ?_⟩
    refine ⟨_, rfl, _, rfl, a, _, rfl, .inl hS, _, _, rfl, rfl, _, rfl, ?_⟩
    refine if2 (fun c => ?_) (fun c => ?_)
    · rw [hl] at c
      have hk : k.toNat < ns.length := by omega
      have e : cell ns k = ns[k.toNat] := by unfold cell; simp [List.getD, hk]
      have hv : atI (ns.map V.int) k = some (.int (cell ns k)) := by
        have q := atI_nat (xs := ns.map V.int) (j := k.toNat) (v := .int ns[k.toNat]) (by rw [List.getElem?_map, List.getElem?_eq_getElem hk]; rfl)
        rw [show ((k.toNat : Nat) : Int) = k by omega] at q
        rw [e]; exact q
      exact ⟨_, rfl, _, rfl, a, _, _, _, rfl, rfl, hS, hv, q⟩
    · rw [hl] at c
      have e : cell ns k = 0 := by unfold cell; simp [List.getD, show ns.length ≤ k.toNat by omega]
      rw [e] at q
      exact q
noncomputable def sp_law_whole (K : PySem.W.Frag) : Sp := fun vs H Q _ => ∃ (i : Int), vs = [.int i] ∧ Q (.bl true) H
theorem cal_law_whole {P : Program} {w : World} {K : PySem.W.Frag} {mg : Str → Option Value} {base : Heap} {f : Addr} {fd : FuncData} (F : Fun K "_law_whole" "_law_whole" s_law_whole f fd) (b : Binds K fd ["_law_found"] []) (m : mg "_law_whole" = some (.ref f)) (z_isinstance : mg "isinstance" = none) (z_int : mg "int" = none) (z_bool : mg "bool" = none) : Cal P w K mg base "_law_whole" 1 ["_law_found"] (sp_law_whole K) := by
  refine ⟨f, fd, F.ok sc_law_whole (fun vs H Q E h => ?_) (fun cdv A outer s H vs Q E hr h => ?_), b, F.kp, m⟩
  · first | (obtain ⟨_, rfl, _⟩ := h; rfl) | (obtain ⟨_, _, rfl, _⟩ := h; rfl) | (obtain ⟨_, _, _, rfl, _⟩ := h; rfl) | (obtain ⟨_, _, _, _, rfl, _⟩ := h; rfl) | (obtain ⟨_, _, _, _, _, rfl, _⟩ := h; rfl) | (obtain ⟨_, _, _, _, _, _, rfl, _⟩ := h; rfl) | (obtain ⟨_, _, _, _, _, _, _, rfl, _⟩ := h; rfl) | (obtain ⟨_, _, _, _, _, _, _, _, rfl, _⟩ := h; rfl) | (obtain ⟨_, _, _, _, _, _, _, _, _, rfl, _⟩ := h; rfl)
  · obtain ⟨i, rfl, q⟩ := h
    refine ⟨_, (pss_one (ps_ret (pe_and (pe_callB call_isinst rfl z_isinstance boot_isinstance (pa_cons (pv 0) (pa_cons (pe_bltn (v := .ty "int") rfl z_int boot_ty_int rfl) pa_nil))) (pe_one (pe_not (pe_callB call_isinst rfl z_isinstance boot_isinstance (pa_cons (pv 0) (pa_cons (pe_bltn (v := .ty "bool") rfl z_bool boot_ty_bool rfl) pa_nil)))))))), ?_⟩
    refine ⟨_, rfl, _, _, _, _, rfl, TyS.int, kit_int_int, _, rfl, ?_⟩
    refine iteT ?_
    exact ⟨_, rfl, _, _, _, _, rfl, TyS.int, kit_int_bool, _, rfl, q⟩
noncomputable def sp_law_gcd (K : PySem.W.Frag) : Sp := fun vs H Q _ => ∃ (x y : Int), vs = [.int x, .int y] ∧ 0 ≤ x ∧ 0 ≤ y ∧ Q (.int ((Int.gcd x y : Nat) : Int)) H
theorem cal_law_gcd {P : Program} {w : World} {K : PySem.W.Frag} {mg : Str → Option Value} {base : Heap} {f : Addr} {fd : FuncData} (F : Fun K "_law_gcd" "_law_gcd" s_law_gcd f fd) (b : Binds K fd ["_law_one", "_law_other"] []) (m : mg "_law_gcd" = some (.ref f))  : Cal P w K mg base "_law_gcd" 1 ["_law_one", "_law_other"] (sp_law_gcd K) := by
  refine ⟨f, fd, F.ok sc_law_gcd (fun vs H Q E h => ?_) (fun cdv A outer s H vs Q E hr h => ?_), b, F.kp, m⟩
  · first | (obtain ⟨_, rfl, _⟩ := h; rfl) | (obtain ⟨_, _, rfl, _⟩ := h; rfl) | (obtain ⟨_, _, _, rfl, _⟩ := h; rfl) | (obtain ⟨_, _, _, _, rfl, _⟩ := h; rfl) | (obtain ⟨_, _, _, _, _, rfl, _⟩ := h; rfl) | (obtain ⟨_, _, _, _, _, _, rfl, _⟩ := h; rfl) | (obtain ⟨_, _, _, _, _, _, _, rfl, _⟩ := h; rfl) | (obtain ⟨_, _, _, _, _, _, _, _, rfl, _⟩ := h; rfl) | (obtain ⟨_, _, _, _, _, _, _, _, _, rfl, _⟩ := h; rfl)
  · obtain ⟨x0, y0, rfl, h1, h2, q⟩ := h
    refine ⟨_, (pss_cons (ps_while PassesOwn.never (pt_cmpR op_gt (pv 1) pe_int (nomark _))
      (pss_one (ps_par (i := 0) (j := 1) rfl sc_law_gcd.nd rfl rfl (by decide) rfl rfl (pa_cons (pv 1) (pa_cons (pe_op op_mod (pv 0) (pv 1)) pa_nil)) rfl)))
      (pss_one (ps_ret (pv 0)))), ?_⟩
    refine while_by (fun σ H' => ∃ x y , σ = [some (.int x), some (.int y)] ∧ H' = H ∧ 0 ≤ x ∧ 0 ≤ y ∧ Int.gcd x y = Int.gcd x0 y0)
      (fun σ _ => match σ with | (_ :: some (.int y) :: _) => y.toNat | _ => 0) ⟨x0, y0, rfl, rfl, h1, h2, rfl⟩ ?_ ?_
    · rintro σ H' ⟨x, y, rfl, rfl, hx, hy, hg⟩
      refine ⟨_, rfl, _, _, rfl, rfl, _, rfl, ?_⟩
      refine if2 (fun c => ?_) (fun c => ?_)
      · have hm0 := md0 (x := x) c
        have hm1 := md1 (x := x) c
        refine ⟨_, rfl, _, rfl, _, rfl, _, _, rfl, rfl, c, _, _, rfl, ?_⟩
        refine ⟨⟨y, x % y, rfl, rfl, hy, hm0, by rw [gcd_turn hx c]; exact hg⟩, ?_⟩
        show (x % y).toNat < y.toNat
        omega
      · have e := gcd_end (y := y) hx (by omega)
        rw [← hg, ← e] at q
        exact ⟨_, rfl, q⟩
    · rintro σ H' R R' hq ⟨v, e, i, j, e1, e2, k, e3, h⟩
      exact ⟨v, e, i, j, e1, e2, k, e3, hq _ _ h⟩
theorem lk_law_step_0 : (defScope s_law_step).names.lookup ("_law_cell" : Str) = some .local := by decide +kernel
theorem pv_law_step_0 {X : Cx} (c : CxIs X ["_law_cell", "_law_size", "_law_most", "_law_units", "_law_word", "_law_left", "_law_bottom", "_law_top", "_law_unit", "_law_way", "_law_pennies"] (defScope s_law_step)) {pos : Pos} : WE X (.Name "_law_cell" pos) (tVar 0) := wxv c rfl lk_law_step_0 (by decide) (by decide)
theorem lk_law_step_1 : (defScope s_law_step).names.lookup ("_law_size" : Str) = some .local := by decide +kernel
theorem pv_law_step_1 {X : Cx} (c : CxIs X ["_law_cell", "_law_size", "_law_most", "_law_units", "_law_word", "_law_left", "_law_bottom", "_law_top", "_law_unit", "_law_way", "_law_pennies"] (defScope s_law_step)) {pos : Pos} : WE X (.Name "_law_size" pos) (tVar 1) := wxv c rfl lk_law_step_1 (by decide) (by decide)
theorem lk_law_step_2 : (defScope s_law_step).names.lookup ("_law_most" : Str) = some .local := by decide +kernel
theorem pv_law_step_2 {X : Cx} (c : CxIs X ["_law_cell", "_law_size", "_law_most", "_law_units", "_law_word", "_law_left", "_law_bottom", "_law_top", "_law_unit", "_law_way", "_law_pennies"] (defScope s_law_step)) {pos : Pos} : WE X (.Name "_law_most" pos) (tVar 2) := wxv c rfl lk_law_step_2 (by decide) (by decide)
theorem ss_law_step_2 {X : Cx} (c : CxIs X ["_law_cell", "_law_size", "_law_most", "_law_units", "_law_word", "_law_left", "_law_bottom", "_law_top", "_law_unit", "_law_way", "_law_pennies"] (defScope s_law_step)) {pos pos' : Pos} {e : Expr} {te : TE} (he : WE X e te) (hs : swapsWith e (some (.Name "_law_most" pos')) pos.line X.env = pure false := by rfl) : WS X (.Assign [.Name "_law_most" pos'] e pos) (tAsg te (gN 2)) := wxs c sc_law_step.nd rfl lk_law_step_2 he hs
theorem lk_law_step_3 : (defScope s_law_step).names.lookup ("_law_units" : Str) = some .local := by decide +kernel
theorem pv_law_step_3 {X : Cx} (c : CxIs X ["_law_cell", "_law_size", "_law_most", "_law_units", "_law_word", "_law_left", "_law_bottom", "_law_top", "_law_unit", "_law_way", "_law_pennies"] (defScope s_law_step)) {pos : Pos} : WE X (.Name "_law_units" pos) (tVar 3) := wxv c rfl lk_law_step_3 (by decide) (by decide)
theorem ss_law_step_3 {X : Cx} (c : CxIs X ["_law_cell", "_law_size", "_law_most", "_law_units", "_law_word", "_law_left", "_law_bottom", "_law_top", "_law_unit", "_law_way", "_law_pennies"] (defScope s_law_step)) {pos pos' : Pos} {e : Expr} {te : TE} (he : WE X e te) (hs : swapsWith e (some (.Name "_law_units" pos')) pos.line X.env = pure false := by rfl) : WS X (.Assign [.Name "_law_units" pos'] e pos) (tAsg te (gN 3)) := wxs c sc_law_step.nd rfl lk_law_step_3 he hs
theorem lk_law_step_4 : (defScope s_law_step).names.lookup ("_law_word" : Str) = some .local := by decide +kernel
theorem pv_law_step_4 {X : Cx} (c : CxIs X ["_law_cell", "_law_size", "_law_most", "_law_units", "_law_word", "_law_left", "_law_bottom", "_law_top", "_law_unit", "_law_way", "_law_pennies"] (defScope s_law_step)) {pos : Pos} : WE X (.Name "_law_word" pos) (tVar 4) := wxv c rfl lk_law_step_4 (by decide) (by decide)
theorem ss_law_step_4 {X : Cx} (c : CxIs X ["_law_cell", "_law_size", "_law_most", "_law_units", "_law_word", "_law_left", "_law_bottom", "_law_top", "_law_unit", "_law_way", "_law_pennies"] (defScope s_law_step)) {pos pos' : Pos} {e : Expr} {te : TE} (he : WE X e te) (hs : swapsWith e (some (.Name "_law_word" pos')) pos.line X.env = pure false := by rfl) : WS X (.Assign [.Name "_law_word" pos'] e pos) (tAsg te (gN 4)) := wxs c sc_law_step.nd rfl lk_law_step_4 he hs
theorem lk_law_step_5 : (defScope s_law_step).names.lookup ("_law_left" : Str) = some .local := by decide +kernel
theorem pv_law_step_5 {X : Cx} (c : CxIs X ["_law_cell", "_law_size", "_law_most", "_law_units", "_law_word", "_law_left", "_law_bottom", "_law_top", "_law_unit", "_law_way", "_law_pennies"] (defScope s_law_step)) {pos : Pos} : WE X (.Name "_law_left" pos) (tVar 5) := wxv c rfl lk_law_step_5 (by decide) (by decide)
theorem ss_law_step_5 {X : Cx} (c : CxIs X ["_law_cell", "_law_size", "_law_most", "_law_units", "_law_word", "_law_left", "_law_bottom", "_law_top", "_law_unit", "_law_way", "_law_pennies"] (defScope s_law_step)) {pos pos' : Pos} {e : Expr} {te : TE} (he : WE X e te) (hs : swapsWith e (some (.Name "_law_left" pos')) pos.line X.env = pure false := by rfl) : WS X (.Assign [.Name "_law_left" pos'] e pos) (tAsg te (gN 5)) := wxs c sc_law_step.nd rfl lk_law_step_5 he hs
theorem lk_law_step_6 : (defScope s_law_step).names.lookup ("_law_bottom" : Str) = some .local := by decide +kernel
theorem pv_law_step_6 {X : Cx} (c : CxIs X ["_law_cell", "_law_size", "_law_most", "_law_units", "_law_word", "_law_left", "_law_bottom", "_law_top", "_law_unit", "_law_way", "_law_pennies"] (defScope s_law_step)) {pos : Pos} : WE X (.Name "_law_bottom" pos) (tVar 6) := wxv c rfl lk_law_step_6 (by decide) (by decide)
theorem ss_law_step_6 {X : Cx} (c : CxIs X ["_law_cell", "_law_size", "_law_most", "_law_units", "_law_word", "_law_left", "_law_bottom", "_law_top", "_law_unit", "_law_way", "_law_pennies"] (defScope s_law_step)) {pos pos' : Pos} {e : Expr} {te : TE} (he : WE X e te) (hs : swapsWith e (some (.Name "_law_bottom" pos')) pos.line X.env = pure false := by rfl) : WS X (.Assign [.Name "_law_bottom" pos'] e pos) (tAsg te (gN 6)) := wxs c sc_law_step.nd rfl lk_law_step_6 he hs
theorem lk_law_step_7 : (defScope s_law_step).names.lookup ("_law_top" : Str) = some .local := by decide +kernel
theorem pv_law_step_7 {X : Cx} (c : CxIs X ["_law_cell", "_law_size", "_law_most", "_law_units", "_law_word", "_law_left", "_law_bottom", "_law_top", "_law_unit", "_law_way", "_law_pennies"] (defScope s_law_step)) {pos : Pos} : WE X (.Name "_law_top" pos) (tVar 7) := wxv c rfl lk_law_step_7 (by decide) (by decide)
theorem ss_law_step_7 {X : Cx} (c : CxIs X ["_law_cell", "_law_size", "_law_most", "_law_units", "_law_word", "_law_left", "_law_bottom", "_law_top", "_law_unit", "_law_way", "_law_pennies"] (defScope s_law_step)) {pos pos' : Pos} {e : Expr} {te : TE} (he : WE X e te) (hs : swapsWith e (some (.Name "_law_top" pos')) pos.line X.env = pure false := by rfl) : WS X (.Assign [.Name "_law_top" pos'] e pos) (tAsg te (gN 7)) := wxs c sc_law_step.nd rfl lk_law_step_7 he hs
theorem lk_law_step_8 : (defScope s_law_step).names.lookup ("_law_unit" : Str) = some .local := by decide +kernel
theorem pv_law_step_8 {X : Cx} (c : CxIs X ["_law_cell", "_law_size", "_law_most", "_law_units", "_law_word", "_law_left", "_law_bottom", "_law_top", "_law_unit", "_law_way", "_law_pennies"] (defScope s_law_step)) {pos : Pos} : WE X (.Name "_law_unit" pos) (tVar 8) := wxv c rfl lk_law_step_8 (by decide) (by decide)
theorem ss_law_step_8 {X : Cx} (c : CxIs X ["_law_cell", "_law_size", "_law_most", "_law_units", "_law_word", "_law_left", "_law_bottom", "_law_top", "_law_unit", "_law_way", "_law_pennies"] (defScope s_law_step)) {pos pos' : Pos} {e : Expr} {te : TE} (he : WE X e te) (hs : swapsWith e (some (.Name "_law_unit" pos')) pos.line X.env = pure false := by rfl) : WS X (.Assign [.Name "_law_unit" pos'] e pos) (tAsg te (gN 8)) := wxs c sc_law_step.nd rfl lk_law_step_8 he hs
theorem lk_law_step_9 : (defScope s_law_step).names.lookup ("_law_way" : Str) = some .local := by decide +kernel
theorem pv_law_step_9 {X : Cx} (c : CxIs X ["_law_cell", "_law_size", "_law_most", "_law_units", "_law_word", "_law_left", "_law_bottom", "_law_top", "_law_unit", "_law_way", "_law_pennies"] (defScope s_law_step)) {pos : Pos} : WE X (.Name "_law_way" pos) (tVar 9) := wxv c rfl lk_law_step_9 (by decide) (by decide)
theorem ss_law_step_9 {X : Cx} (c : CxIs X ["_law_cell", "_law_size", "_law_most", "_law_units", "_law_word", "_law_left", "_law_bottom", "_law_top", "_law_unit", "_law_way", "_law_pennies"] (defScope s_law_step)) {pos pos' : Pos} {e : Expr} {te : TE} (he : WE X e te) (hs : swapsWith e (some (.Name "_law_way" pos')) pos.line X.env = pure false := by rfl) : WS X (.Assign [.Name "_law_way" pos'] e pos) (tAsg te (gN 9)) := wxs c sc_law_step.nd rfl lk_law_step_9 he hs
theorem lk_law_step_10 : (defScope s_law_step).names.lookup ("_law_pennies" : Str) = some .local := by decide +kernel
theorem pv_law_step_10 {X : Cx} (c : CxIs X ["_law_cell", "_law_size", "_law_most", "_law_units", "_law_word", "_law_left", "_law_bottom", "_law_top", "_law_unit", "_law_way", "_law_pennies"] (defScope s_law_step)) {pos : Pos} : WE X (.Name "_law_pennies" pos) (tVar 10) := wxv c rfl lk_law_step_10 (by decide) (by decide)
theorem ss_law_step_10 {X : Cx} (c : CxIs X ["_law_cell", "_law_size", "_law_most", "_law_units", "_law_word", "_law_left", "_law_bottom", "_law_top", "_law_unit", "_law_way", "_law_pennies"] (defScope s_law_step)) {pos pos' : Pos} {e : Expr} {te : TE} (he : WE X e te) (hs : swapsWith e (some (.Name "_law_pennies" pos')) pos.line X.env = pure false := by rfl) : WS X (.Assign [.Name "_law_pennies" pos'] e pos) (tAsg te (gN 10)) := wxs c sc_law_step.nd rfl lk_law_step_10 he hs
theorem st_law_step (v0 v1 : V) : L2.start ["_law_cell", "_law_size", "_law_most", "_law_units", "_law_word", "_law_left", "_law_bottom", "_law_top", "_law_unit", "_law_way", "_law_pennies"] [v0, v1] = [some v0, some v1, none, none, none, none, none, none, none, none, none] := rfl
noncomputable def sp_law_step (K : PySem.W.Frag) : Sp := fun vs H Q _ => ∃ (cell size : Int), vs = [.int cell, .int size] ∧ 0 ≤ size ∧ size < 4 ∧ ∀ p (st : StepD) H', Same H H' → SqT K H' p st.vals → st.Ok → Q (.ref p) H'
theorem body_law_step {X : Cx} (c : CxIs X ["_law_cell", "_law_size", "_law_most", "_law_units", "_law_word", "_law_left", "_law_bottom", "_law_top", "_law_unit", "_law_way", "_law_pennies"] (defScope s_law_step)) (hr : Room 0 X.A) {E : XK}   {vs : List V} {H : Hp} {Q : VK} (h : sp_law_step X.K vs H Q E) : ∃ t, WSs X (defBody s_law_step) t ∧ t { nx := fun _ H' => Q .non H', rt := Q } (L2.start ["_law_cell", "_law_size", "_law_most", "_law_units", "_law_word", "_law_left", "_law_bottom", "_law_top", "_law_unit", "_law_way", "_law_pennies"] vs) H := by
  · obtain ⟨cell, size, rfl, h0, h1, q⟩ := h
    refine ⟨_, (wss_cons (ss_law_step_2 c (we_ix ix_list (we_lstO (wa_cons we_int (wa_cons we_int (wa_cons we_int (wa_cons we_int wa_nil star_Constant) star_Constant) star_Constant) star_Constant)) (pv_law_step_1 c) plain_Name))
      (wss_cons (ss_law_step_3 c (we_ix ix_list (we_lstO (wa_cons we_int (wa_cons we_int (wa_cons we_int (wa_cons we_int wa_nil star_Constant) star_Constant) star_Constant) star_Constant)) (pv_law_step_1 c) plain_Name))
      (wss_cons (ss_law_step_4 c (we_ix ix_list (we_lstO (wa_cons we_str (wa_cons we_str (wa_cons we_str wa_nil star_Constant) star_Constant) star_Constant)) (we_op op_mod (pv_law_step_0 c) we_int) plain_BinOp))
      (wss_cons (ss_law_step_5 c (we_op op_fdivB (pv_law_step_0 c) we_int))
      (wss_cons (ss_law_step_6 c (we_op op_add we_int (we_op op_mod (pv_law_step_5 c) (pv_law_step_2 c))))
      (wss_cons (ss_law_step_5 c (we_op op_fdivB (pv_law_step_5 c) (pv_law_step_2 c)))
      (wss_cons (ss_law_step_7 c (we_op op_add we_int (we_op op_mod (pv_law_step_5 c) (pv_law_step_2 c))))
      (wss_cons (ss_law_step_5 c (we_op op_fdivB (pv_law_step_5 c) (pv_law_step_2 c)))
      (wss_cons (ss_law_step_8 c (we_op op_add we_int (we_op op_mod (pv_law_step_5 c) (pv_law_step_3 c))))
      (wss_cons (ss_law_step_5 c (we_op op_fdivB (pv_law_step_5 c) (pv_law_step_3 c)))
      (wss_cons (ss_law_step_9 c (we_ix ix_list (we_lstO (wa_cons we_str (wa_cons we_str (wa_cons we_str wa_nil star_Constant) star_Constant) star_Constant)) (we_op op_mod (pv_law_step_5 c) we_int) plain_BinOp))
      (wss_cons (ss_law_step_5 c (we_op op_fdivB (pv_law_step_5 c) we_int))
      (wss_cons (ss_law_step_10 c (we_ix ix_list (we_lstO (wa_cons we_int (wa_cons (we_op op_mod (we_op op_fdivB (pv_law_step_5 c) we_int) (we_ix ix_list (we_lstO (wa_cons we_int (wa_cons we_int (wa_cons we_int (wa_cons (we_op op_add (we_op op_pow we_int we_int) we_int) wa_nil star_BinOp) star_Constant) star_Constant) star_Constant)) (pv_law_step_1 c) plain_Name)) wa_nil star_BinOp) star_Constant)) (we_op op_mod (pv_law_step_5 c) we_int) plain_BinOp))
      (wss_cons (ws_if (WW.pt (ww_and (wt_cmpR op_eq (pv_law_step_4 c) we_str (nomark _)) (ww_and1 (wt_cmpR op_eq (pv_law_step_6 c) we_int (nomark _)))))
      (wss_one (ss_law_step_4 c we_str))
      wss_nil)
      (wss_cons (ws_if (wt_cmpR op_eq (pv_law_step_4 c) we_str (nomark _))
      (wss_one (ss_law_step_7 c (we_op op_add we_int (we_op op_mod (we_op op_sub (pv_law_step_7 c) we_int) (we_op op_sub (pv_law_step_6 c) we_int)))))
      wss_nil)
      (wss_one (ws_ret (we_tupO (wa_cons (pv_law_step_4 c) (wa_cons (pv_law_step_7 c) (wa_cons (pv_law_step_6 c) (wa_cons (pv_law_step_10 c) (wa_cons (pv_law_step_9 c) (wa_cons (pv_law_step_8 c) wa_nil star_Name) star_Name) star_Name) star_Name) star_Name) star_Name))))))))))))))))))), ?_⟩
    rw [st_law_step]
    have dv3 : ∀ z : Int, CDivB z 3 := fun _ => ⟨by decide, by decide +kernel⟩
    refine ⟨(small' (by decide)), fun p1 H1 _ s1 f1 => ?_⟩
    refine ⟨_, rfl, p1, _, _, _, rfl, rfl, SqL.of f1, at4i h0 h1, fun σ e => ?_⟩
    have hm := pick4_of (P := fun z : Int => 1 ≤ z ∧ z ≤ 100) (i := size) (a := 4) (b := 12) (c := 100) (d := 100) (by decide) (by decide) (by decide) (by decide)
    dsimp only [List.set] at e
    generalize pick4 size (4 : Int) 12 100 100 = most at hm e
    subst e
    refine ⟨(small' (by decide)), fun p2 H2 _ t2 f2 => ?_⟩
    have s2 := s1.trans t2
    refine ⟨_, rfl, p2, _, _, _, rfl, rfl, SqL.of f2, at4i h0 h1, fun σ e => ?_⟩
    have hu := pick4_of (P := fun z : Int => 1 ≤ z ∧ z ≤ 100) (i := size) (a := 3) (b := 10) (c := 100) (d := 100) (by decide) (by decide) (by decide) (by decide)
    dsimp only [List.set] at e
    generalize pick4 size (3 : Int) 10 100 100 = units at hu e
    subst e
    refine ⟨(small' (by decide)), fun p3 H3 _ t3 f3 => ?_⟩
    have s3 := s2.trans t3
    refine ⟨_, rfl, _, _, rfl, rfl, (by decide : (0 : Int) < 3), p3, _, _, _, rfl, rfl, SqL.of f3, at3s (md0 (by decide)) (md1 (by decide)), fun σ e => ?_⟩
    have hw := pick3_of (P := fun z => z = Str.ofString "times" ∨ z = Str.ofString "add" ∨ z = Str.ofString "off") (i := cell % 3) (.inl rfl) (.inr (.inl rfl)) (.inr (.inr rfl))
    dsimp only [List.set] at e
    generalize pick3 (cell % 3) (Str.ofString "times") (Str.ofString "add") (Str.ofString "off") = word at hw e
    subst e
    refine ⟨_, rfl, _, _, rfl, rfl, dv3 _, fun σ e => ?_⟩
    dsimp only [List.set] at e
    generalize cell / 3 = l1 at e
    subst e
    refine ⟨_, rfl, _, rfl, _, _, rfl, rfl, (show 0 < most by omega), _, _, rfl, rfl, fun σ e => ?_⟩
    have b0 := md0 (x := l1) (n := most) (by omega)
    have b1 := md1 (x := l1) (n := most) (by omega)
    dsimp only [List.set] at e
    generalize l1 % most = bot at b0 b1 e
    subst e
    refine ⟨_, rfl, _, rfl, _, _, rfl, rfl, ⟨by omega, by omega⟩, fun σ e => ?_⟩
    dsimp only [List.set] at e
    generalize l1 / most = l2 at e
    subst e
    refine ⟨_, rfl, _, rfl, _, _, rfl, rfl, (show 0 < most by omega), _, _, rfl, rfl, fun σ e => ?_⟩
    have t0 := md0 (x := l2) (n := most) (by omega)
    have t1 := md1 (x := l2) (n := most) (by omega)
    dsimp only [List.set] at e
    generalize l2 % most = top' at t0 t1 e
    subst e
    refine ⟨_, rfl, _, rfl, _, _, rfl, rfl, ⟨by omega, by omega⟩, fun σ e => ?_⟩
    dsimp only [List.set] at e
    generalize l2 / most = l3 at e
    subst e
    refine ⟨_, rfl, _, rfl, _, _, rfl, rfl, (show 0 < units by omega), _, _, rfl, rfl, fun σ e => ?_⟩
    have u0 := md0 (x := l3) (n := units) (by omega)
    have u1 := md1 (x := l3) (n := units) (by omega)
    dsimp only [List.set] at e
    generalize l3 % units = un at u0 u1 e
    subst e
    refine ⟨_, rfl, _, rfl, _, _, rfl, rfl, ⟨by omega, by omega⟩, fun σ e => ?_⟩
    dsimp only [List.set] at e
    generalize l3 / units = l4 at e
    subst e
    refine ⟨(small' (by decide)), fun p4 H4 _ t4 f4 => ?_⟩
    have s4 := s3.trans t4
    refine ⟨_, rfl, _, _, rfl, rfl, (by decide : (0 : Int) < 3), p4, _, _, _, rfl, rfl, SqL.of f4, at3s (md0 (by decide)) (md1 (by decide)), fun σ e => ?_⟩
    have hy := pick3_of (P := fun z => z = Str.ofString "down" ∨ z = Str.ofString "up" ∨ z = Str.ofString "near") (i := l4 % 3) (.inl rfl) (.inr (.inl rfl)) (.inr (.inr rfl))
    dsimp only [List.set] at e
    generalize pick3 (l4 % 3) (Str.ofString "down") (Str.ofString "up") (Str.ofString "near") = way at hy e
    subst e
    refine ⟨_, rfl, _, _, rfl, rfl, dv3 _, fun σ e => ?_⟩
    dsimp only [List.set] at e
    generalize l4 / 3 = l5 at e
    subst e
    refine ⟨_, rfl, _, _, rfl, rfl, ⟨by decide, by decide +kernel⟩, _, _, rfl, rfl, ⟨by decide, by decide, by decide⟩, _, _, rfl, rfl, (small' (by decide)), fun p5 H5 _ t5 f5 => ?_⟩
    have s5 := s4.trans t5
    have hp := pick4_of (P := fun z : Int => 1 ≤ z ∧ z ≤ 10 ^ 30 + 1) (i := size) (a := 6) (b := 60) (c := 1000) (d := 10 ^ Int.toNat 30 + 1) (by decide) (by decide) (by decide) (by decide)
    refine ⟨_, rfl, p5, _, _, _, rfl, rfl, SqL.of f5, at4i h0 h1, _, _, rfl, rfl, Int.lt_of_lt_of_le (by decide) hp.1, (small' (by show 2 ≤ 1000; decide)), fun p6 H6 _ t6 f6 => ?_⟩
    have g0 := md0 (x := l5 / 2) (n := pick4 size (6 : Int) 60 1000 (10 ^ Int.toNat 30 + 1)) (by omega)
    have g1 := md1 (x := l5 / 2) (n := pick4 size (6 : Int) 60 1000 (10 ^ Int.toNat 30 + 1)) (by omega)
    have s6 := s5.trans t6
    refine ⟨_, rfl, _, _, rfl, rfl, (by decide : (0 : Int) < 2), p6, _, _, _, rfl, rfl, SqL.of f6, at2i (md0 (by decide)) (md1 (by decide)), fun σ e => ?_⟩
    have hpen := pick2_of (P := fun z : Int => 0 ≤ z ∧ z ≤ 10 ^ 30) (i := l5 % 2) (a := 0) (b := l5 / 2 % pick4 size (6 : Int) 60 1000 (10 ^ Int.toNat 30 + 1)) (by decide) ⟨g0, by omega⟩
    dsimp only [List.set] at e
    generalize pick2 (l5 % 2) (0 : Int) (l5 / 2 % pick4 size (6 : Int) 60 1000 (10 ^ Int.toNat 30 + 1)) = pen at hpen e
    subst e
    have key : ∀ (x : Str) (n : Int), (x = "times" ∨ x = "add" ∨ x = "off") → 1 ≤ n → n ≤ 100 → (x = "off" → n < 1 + bot) → StepD.Ok ⟨x, n, 1 + bot, pen, way, 1 + un⟩ := fun x n h1 h2 h3 h4 => ⟨h1, h2, h3, by dsimp only; omega, by dsimp only; omega, h4, hpen.1, hpen.2, hy, by dsimp only; omega, by dsimp only; omega⟩
    refine ⟨_, rfl, rfl, _, rfl, ?_⟩
    refine if2 (fun c => ?_) (fun c => ?_)
    · have c' : word = "off" := V.str.inj c
      refine ⟨_, rfl, rfl, _, rfl, ?_⟩
      refine if2 (fun d => ?_) (fun d => ?_)
      · intro σ e
        dsimp only [List.set] at e
        subst e
        refine ⟨_, rfl, rfl, _, rfl, ?_⟩
        refine ifF (by decide) ?_
        refine ⟨_, rfl, _, rfl, _, rfl, _, rfl, _, rfl, _, rfl, (small' (by show 6 ≤ 1000; decide)), fun p7 H7 _ t7 f7 => ?_⟩
        exact q p7 ⟨_, _, _, _, _, _⟩ _ (s6.trans t7) (SqT.of f7) (key _ _ (.inl rfl) (by omega) (by omega) (fun z => absurd z (by decide)))
      · have d' := of_not_int d
        refine ⟨_, rfl, rfl, _, rfl, ?_⟩
        refine ifT c ?_
        have w0 := md0 (x := 1 + top' - 1) (n := 1 + bot - 1) (by omega)
        have w1 := md1 (x := 1 + top' - 1) (n := 1 + bot - 1) (by omega)
        refine ⟨_, rfl, _, _, rfl, rfl, _, rfl, _, _, rfl, rfl, _, _, rfl, rfl, (show 0 < 1 + bot - 1 by omega), _, _, rfl, rfl, fun σ e => ?_⟩
        dsimp only [List.set] at e
        subst e
        refine ⟨_, rfl, _, rfl, _, rfl, _, rfl, _, rfl, _, rfl, (small' (by show 6 ≤ 1000; decide)), fun p7 H7 _ t7 f7 => ?_⟩
        exact q p7 ⟨_, _, _, _, _, _⟩ _ (s6.trans t7) (SqT.of f7) (key _ _ hw (by omega) (by omega) (fun _ => by omega))
    · refine ⟨_, rfl, rfl, _, rfl, ?_⟩
      refine ifF c ?_
      refine ⟨_, rfl, _, rfl, _, rfl, _, rfl, _, rfl, _, rfl, (small' (by show 6 ≤ 1000; decide)), fun p7 H7 _ t7 f7 => ?_⟩
      exact q p7 ⟨_, _, _, _, _, _⟩ _ (s6.trans t7) (SqT.of f7) (key _ _ hw (by omega) (by omega) (fun z => absurd (by rw [z]) c))
theorem cal_law_step {P : Program} {w : World} {K : PySem.W.Frag} {mg : Str → Option Value} {base : Heap} {f : Addr} {fd : FuncData} (F : Fun K "_law_step" "_law_step" s_law_step f fd) (b : Binds K fd ["_law_cell", "_law_size"] []) (m : mg "_law_step" = some (.ref f))  : Cal P w K mg base "_law_step" 1 ["_law_cell", "_law_size"] (sp_law_step K) :=
  ⟨f, fd, F.ok sc_law_step (fun vs H Q E h => by first | (obtain ⟨_, rfl, _⟩ := h; rfl) | (obtain ⟨_, _, rfl, _⟩ := h; rfl) | (obtain ⟨_, _, _, rfl, _⟩ := h; rfl) | (obtain ⟨_, _, _, _, rfl, _⟩ := h; rfl) | (obtain ⟨_, _, _, _, _, rfl, _⟩ := h; rfl) | (obtain ⟨_, _, _, _, _, _, rfl, _⟩ := h; rfl) | (obtain ⟨_, _, _, _, _, _, _, rfl, _⟩ := h; rfl) | (obtain ⟨_, _, _, _, _, _, _, _, rfl, _⟩ := h; rfl) | (obtain ⟨_, _, _, _, _, _, _, _, _, rfl, _⟩ := h; rfl)) (fun cdv A outer s H vs Q E hr h => unW (body_law_step (X := (cxOf CX0 P w K mg base ["_law_cell", "_law_size", "_law_most", "_law_units", "_law_word", "_law_left", "_law_bottom", "_law_top", "_law_unit", "_law_way", "_law_pennies"] "_law_step" (defScope s_law_step) f cdv A outer s H E).nox) ⟨rfl, rfl, rfl, PassesOwn.never⟩ hr  h)), b, F.kp, m⟩
noncomputable def sp_law_num (K : PySem.W.Frag) : Sp := fun vs H Q _ => ∃ (a : Addr) (st : StepD), vs = [.ref a] ∧ SqT K H a st.vals ∧ Q (.int st.num) H
theorem cal_law_num {P : Program} {w : World} {K : PySem.W.Frag} {mg : Str → Option Value} {base : Heap} {f : Addr} {fd : FuncData} (F : Fun K "_law_num" "_law_num" s_law_num f fd) (b : Binds K fd ["_law_step_here"] []) (m : mg "_law_num" = some (.ref f))  : Cal P w K mg base "_law_num" 1 ["_law_step_here"] (sp_law_num K) := by
  refine ⟨f, fd, F.ok sc_law_num (fun vs H Q E h => ?_) (fun cdv A outer s H vs Q E hr h => ?_), b, F.kp, m⟩
  · first | (obtain ⟨_, rfl, _⟩ := h; rfl) | (obtain ⟨_, _, rfl, _⟩ := h; rfl) | (obtain ⟨_, _, _, rfl, _⟩ := h; rfl) | (obtain ⟨_, _, _, _, rfl, _⟩ := h; rfl) | (obtain ⟨_, _, _, _, _, rfl, _⟩ := h; rfl) | (obtain ⟨_, _, _, _, _, _, rfl, _⟩ := h; rfl) | (obtain ⟨_, _, _, _, _, _, _, rfl, _⟩ := h; rfl) | (obtain ⟨_, _, _, _, _, _, _, _, rfl, _⟩ := h; rfl) | (obtain ⟨_, _, _, _, _, _, _, _, _, rfl, _⟩ := h; rfl)
  · obtain ⟨a, st, rfl, hT, q⟩ := h
    refine ⟨_, (pss_cons (ps_if (pt_cmpR op_eq (pe_ix ix_tup (pv 0) pe_int (fun _ _ => rfl)) pe_str (nomark _))
      (pss_one (ps_ret (pe_op op_add (pe_ix ix_tup (pv 0) pe_int (fun _ _ => rfl)) (pe_ix ix_tup (pv 0) pe_int (fun _ _ => rfl)))))
      pss_nil)
      (pss_cons (ps_if (pt_cmpR op_eq (pe_ix ix_tup (pv 0) pe_int (fun _ _ => rfl)) pe_str (nomark _))
      (pss_one (ps_ret (pe_op op_sub (pe_ix ix_tup (pv 0) pe_int (fun _ _ => rfl)) (pe_ix ix_tup (pv 0) pe_int (fun _ _ => rfl)))))
      pss_nil)
      (pss_one (ps_ret (pe_ix ix_tup (pv 0) pe_int (fun _ _ => rfl)))))), ?_⟩
    refine ⟨_, rfl, a, _, _, _, rfl, rfl, hT, rfl, rfl, _, rfl, ?_⟩
    refine if2 (fun c => ?_) (fun c => ?_)
    · have e : st.num = st.d + st.n := if_pos (V.str.inj c)
      rw [e] at q
      exact ⟨_, rfl, a, _, _, _, rfl, rfl, hT, rfl, _, rfl, a, _, _, _, rfl, rfl, hT, rfl, _, _, rfl, rfl, q⟩
    have c' : ¬ st.w = "add" := fun z => c (by rw [z])
    refine ⟨_, rfl, a, _, _, _, rfl, rfl, hT, rfl, rfl, _, rfl, ?_⟩
    refine if2 (fun c2 => ?_) (fun c2 => ?_)
    · have e : st.num = st.d - st.n := by unfold StepD.num; rw [if_neg c', if_pos (V.str.inj c2)]
      rw [e] at q
      exact ⟨_, rfl, a, _, _, _, rfl, rfl, hT, rfl, _, rfl, a, _, _, _, rfl, rfl, hT, rfl, _, _, rfl, rfl, q⟩
    · have c2' : ¬ st.w = "off" := fun z => c2 (by rw [z])
      have e : st.num = st.n := by unfold StepD.num; rw [if_neg c', if_neg c2']
      rw [e] at q
      exact ⟨_, rfl, a, _, _, _, rfl, rfl, hT, rfl, q⟩
theorem lk_law_last_0 : (defScope s_law_last).names.lookup ("_law_cell" : Str) = some .local := by decide +kernel
theorem pv_law_last_0 {X : Cx} (c : CxIs X ["_law_cell", "_law_way"] (defScope s_law_last)) {pos : Pos} : WE X (.Name "_law_cell" pos) (tVar 0) := wxv c rfl lk_law_last_0 (by decide) (by decide)
theorem lk_law_last_1 : (defScope s_law_last).names.lookup ("_law_way" : Str) = some .local := by decide +kernel
theorem pv_law_last_1 {X : Cx} (c : CxIs X ["_law_cell", "_law_way"] (defScope s_law_last)) {pos : Pos} : WE X (.Name "_law_way" pos) (tVar 1) := wxv c rfl lk_law_last_1 (by decide) (by decide)
theorem ss_law_last_1 {X : Cx} (c : CxIs X ["_law_cell", "_law_way"] (defScope s_law_last)) {pos pos' : Pos} {e : Expr} {te : TE} (he : WE X e te) (hs : swapsWith e (some (.Name "_law_way" pos')) pos.line X.env = pure false := by rfl) : WS X (.Assign [.Name "_law_way" pos'] e pos) (tAsg te (gN 1)) := wxs c sc_law_last.nd rfl lk_law_last_1 he hs
theorem st_law_last (v0 : V) : L2.start ["_law_cell", "_law_way"] [v0] = [some v0, none] := rfl
noncomputable def sp_law_last (K : PySem.W.Frag) : Sp := fun vs H Q _ => ∃ (cell : Int), vs = [.int cell] ∧ ∀ p st H', Same H H' → SqT K H' p (StepD.vals st) → st.Ok → Q (.ref p) H'
theorem body_law_last {X : Cx} (c : CxIs X ["_law_cell", "_law_way"] (defScope s_law_last)) (hr : Room 0 X.A) {E : XK}   {vs : List V} {H : Hp} {Q : VK} (h : sp_law_last X.K vs H Q E) : ∃ t, WSs X (defBody s_law_last) t ∧ t { nx := fun _ H' => Q .non H', rt := Q } (L2.start ["_law_cell", "_law_way"] vs) H := by
  · obtain ⟨cell, rfl, q⟩ := h
    refine ⟨_, (wss_cons (ss_law_last_1 c (we_ix ix_list (we_lstO (wa_cons we_str (wa_cons we_str (wa_cons we_str wa_nil star_Constant) star_Constant) star_Constant)) (we_op op_mod (we_op op_fdivB (pv_law_last_0 c) we_int) we_int) plain_BinOp))
      (wss_one (ws_ret (we_tupO (wa_cons we_str (wa_cons (we_op op_add we_int (we_op op_mod (pv_law_last_0 c) we_int)) (wa_cons we_int (wa_cons (we_op op_mod (we_op op_fdivB (pv_law_last_0 c) we_int) we_int) (wa_cons (pv_law_last_1 c) (wa_cons (we_op op_add we_int (we_op op_mod (we_op op_fdivB (pv_law_last_0 c) we_int) we_int)) wa_nil star_BinOp) star_Name) star_BinOp) star_Constant) star_BinOp) star_Constant))))), ?_⟩
    rw [st_law_last]
    refine ⟨(small' (by decide)), fun p1 H1 _ s1 f1 => ?_⟩
    refine ⟨_, rfl, _, _, rfl, rfl, ⟨by decide, by decide⟩, _, _, rfl, rfl, (by decide : (0 : Int) < 3), p1, _, _, _, rfl, rfl, SqL.of f1, at3s (md0 (by decide)) (md1 (by decide)), fun σ e => ?_⟩
    dsimp only [List.set] at e
    have hy := pick3_of (P := fun z : Str => z = "down" ∨ z = "up" ∨ z = "near") (i := cell / 120 % 3) (a := "down") (b := "up") (c := "near") (.inl rfl) (.inr (.inl rfl)) (.inr (.inr rfl))
    generalize pick3 (cell / 120 % 3) ("down" : Str) "up" "near" = y at e hy
    subst e
    have a0 := md0 (x := cell) (n := 3) (by decide)
    have a1 := md1 (x := cell) (n := 3) (by decide)
    have b0 := md0 (x := cell / 3) (n := 40) (by decide)
    have b1 := md1 (x := cell / 3) (n := 40) (by decide)
    have c0 := md0 (x := cell / 360) (n := 40) (by decide)
    have c1 := md1 (x := cell / 360) (n := 40) (by decide)
    refine ⟨_, rfl, _, _, rfl, rfl, (by decide : (0 : Int) < 3), _, _, rfl, rfl, _, rfl, _, _, rfl, rfl, ⟨by decide, by decide⟩, _, _, rfl, rfl, (by decide : (0 : Int) < 40), _, rfl, _, rfl, _, _, rfl, rfl, ⟨by decide, by decide⟩, _, _, rfl, rfl, (by decide : (0 : Int) < 40), _, _, rfl, rfl, (small' (by show 6 ≤ 1000; decide)), fun p2 H2 _ s2 f2 => ?_⟩
    exact q p2 ⟨"times", 1 + cell % 3, 1, cell / 3 % 40, y, 1 + cell / 360 % 40⟩ H2 (s1.trans s2) (SqT.of f2) ⟨.inl rfl, by dsimp only; omega, by dsimp only; omega, by dsimp only; omega, by dsimp only; omega, fun z => absurd z (by dsimp only; decide), by dsimp only; omega, by dsimp only; omega, hy, by dsimp only; omega, by dsimp only; omega⟩
theorem cal_law_last {P : Program} {w : World} {K : PySem.W.Frag} {mg : Str → Option Value} {base : Heap} {f : Addr} {fd : FuncData} (F : Fun K "_law_last" "_law_last" s_law_last f fd) (b : Binds K fd ["_law_cell"] []) (m : mg "_law_last" = some (.ref f))  : Cal P w K mg base "_law_last" 1 ["_law_cell"] (sp_law_last K) :=
  ⟨f, fd, F.ok sc_law_last (fun vs H Q E h => by first | (obtain ⟨_, rfl, _⟩ := h; rfl) | (obtain ⟨_, _, rfl, _⟩ := h; rfl) | (obtain ⟨_, _, _, rfl, _⟩ := h; rfl) | (obtain ⟨_, _, _, _, rfl, _⟩ := h; rfl) | (obtain ⟨_, _, _, _, _, rfl, _⟩ := h; rfl) | (obtain ⟨_, _, _, _, _, _, rfl, _⟩ := h; rfl) | (obtain ⟨_, _, _, _, _, _, _, rfl, _⟩ := h; rfl) | (obtain ⟨_, _, _, _, _, _, _, _, rfl, _⟩ := h; rfl) | (obtain ⟨_, _, _, _, _, _, _, _, _, rfl, _⟩ := h; rfl)) (fun cdv A outer s H vs Q E hr h => unW (body_law_last (X := (cxOf CX0 P w K mg base ["_law_cell", "_law_way"] "_law_last" (defScope s_law_last) f cdv A outer s H E).nox) ⟨rfl, rfl, rfl, PassesOwn.never⟩ hr  h)), b, F.kp, m⟩
theorem lk_law_moved_0 : (defScope s_law_moved).names.lookup ("_law_due" : Str) = some .local := by decide +kernel
theorem pv_law_moved_0 {X : Cx} (c : CxIs X ["_law_due", "_law_many", "_law_made"] (defScope s_law_moved)) {pos : Pos} : WE X (.Name "_law_due" pos) (tVar 0) := wxv c rfl lk_law_moved_0 (by decide) (by decide)
theorem lk_law_moved_1 : (defScope s_law_moved).names.lookup ("_law_many" : Str) = some .local := by decide +kernel
theorem pv_law_moved_1 {X : Cx} (c : CxIs X ["_law_due", "_law_many", "_law_made"] (defScope s_law_moved)) {pos : Pos} : WE X (.Name "_law_many" pos) (tVar 1) := wxv c rfl lk_law_moved_1 (by decide) (by decide)
theorem lk_law_moved_2 : (defScope s_law_moved).names.lookup ("_law_made" : Str) = some .local := by decide +kernel
theorem pv_law_moved_2 {X : Cx} (c : CxIs X ["_law_due", "_law_many", "_law_made"] (defScope s_law_moved)) {pos : Pos} : WE X (.Name "_law_made" pos) (tVar 2) := wxv c rfl lk_law_moved_2 (by decide) (by decide)
theorem st_law_moved (v0 v1 v2 : V) : L2.start ["_law_due", "_law_many", "_law_made"] [v0, v1, v2] = [some v0, some v1, some v2] := rfl
noncomputable def sp_law_moved (K : PySem.W.Frag) : Sp := fun vs H Q _ => ∃ (p x : Addr) (w : Str) (f z n cc r : Int) (es : List Int), vs = [.ref p, .int n, .ref x] ∧ SqT K H p [.str w, .int f, .int z] ∧ FlatAt K H x cc r es ∧ 0 ≤ n ∧ n ≤ 2 ^ 60 ∧
  (w = "from" → ∀ p' H', Same H H' → SqT K H' p' [.str "from", .int (f + n * cc), .int (z + n * cc)] → Q (.ref p') H') ∧ (¬ w = "from" → ∀ p' H', Same H H' → SqT K H' p' [.str "none", .int (f + n * r), .int (z + n * r)] → Q (.ref p') H')
theorem body_law_moved {X : Cx} (c : CxIs X ["_law_due", "_law_many", "_law_made"] (defScope s_law_moved)) (hr : Room 0 X.A) {E : XK}  (T_Flat : Txt_Flat X.K X.mg) {vs : List V} {H : Hp} {Q : VK} (h : sp_law_moved X.K vs H Q E) : ∃ t, WSs X (defBody s_law_moved) t ∧ t { nx := fun _ H' => Q .non H', rt := Q } (L2.start ["_law_due", "_law_many", "_law_made"] vs) H := by
  · obtain ⟨p, x, w, f, z, n, cc, r, es, rfl, hT, hF, n0, n1, q1, q2⟩ := h
    refine ⟨_, (wss_cons (ws_if (wt_cmpR op_eq (we_ix ix_tup (pv_law_moved_0 c) we_int plain_Constant) we_str (nomark _))
      (wss_one (ws_ret (we_tupO (wa_cons we_str (wa_cons (we_op op_add (we_ix ix_tup (pv_law_moved_0 c) we_int plain_Constant) (we_op op_mulB (pv_law_moved_1 c) (we_fld (pv_law_moved_2 c) rfl))) (wa_cons (we_op op_add (we_ix ix_tup (pv_law_moved_0 c) we_int plain_Constant) (we_op op_mulB (pv_law_moved_1 c) (we_fld (pv_law_moved_2 c) rfl))) wa_nil star_BinOp) star_BinOp) star_Constant))))
      wss_nil)
      (wss_one (ws_ret (we_tupO (wa_cons we_str (wa_cons (we_op op_add (we_ix ix_tup (pv_law_moved_0 c) we_int plain_Constant) (we_op op_mulB (pv_law_moved_1 c) (we_fld (pv_law_moved_2 c) rfl))) (wa_cons (we_op op_add (we_ix ix_tup (pv_law_moved_0 c) we_int plain_Constant) (we_op op_mulB (pv_law_moved_1 c) (we_fld (pv_law_moved_2 c) rfl))) wa_nil star_BinOp) star_BinOp) star_Constant))))), ?_⟩
    rw [st_law_moved]
    obtain ⟨dx, fs, pe, f1, f2, f3, f4, f5, f6⟩ := hF
    refine ⟨_, rfl, p, _, _, _, rfl, rfl, hT, rfl, rfl, _, rfl, ?_⟩
    refine if2 (fun d => ?_) (fun d => ?_)
    · refine ⟨_, rfl, p, _, _, _, rfl, rfl, hT, rfl, _, rfl, _, rfl, x, _, dx, fs, _, rfl, f1, T_Flat.cl, T_Flat.n_cycle, f2, _, _, rfl, rfl, mul_l (by omega) (by omega), _, _, rfl, rfl, _, rfl, p, _, _, _, rfl, rfl, hT, rfl, _, rfl, _, rfl, x, _, dx, fs, _, rfl, f1, T_Flat.cl, T_Flat.n_cycle, f2, _, _, rfl, rfl, mul_l (by omega) (by omega), _, _, rfl, rfl, (small' (by show 3 ≤ 1000; decide)), fun p' H' _ s' f' => ?_⟩
      exact q1 (V.str.inj d) p' H' s' (SqT.of f')
    · refine ⟨_, rfl, p, _, _, _, rfl, rfl, hT, rfl, _, rfl, _, rfl, x, _, dx, fs, _, rfl, f1, T_Flat.cl, T_Flat.n_rise, f3, _, _, rfl, rfl, mul_l (by omega) (by omega), _, _, rfl, rfl, _, rfl, p, _, _, _, rfl, rfl, hT, rfl, _, rfl, _, rfl, x, _, dx, fs, _, rfl, f1, T_Flat.cl, T_Flat.n_rise, f3, _, _, rfl, rfl, mul_l (by omega) (by omega), _, _, rfl, rfl, (small' (by show 3 ≤ 1000; decide)), fun p' H' _ s' f' => ?_⟩
      exact q2 (fun e => d (by rw [e])) p' H' s' (SqT.of f')
theorem cal_law_moved {P : Program} {w : World} {K : PySem.W.Frag} {mg : Str → Option Value} {base : Heap} {f : Addr} {fd : FuncData} (F : Fun K "_law_moved" "_law_moved" s_law_moved f fd) (b : Binds K fd ["_law_due", "_law_many", "_law_made"] []) (m : mg "_law_moved" = some (.ref f)) (T_Flat : Txt_Flat K mg) : Cal P w K mg base "_law_moved" 1 ["_law_due", "_law_many", "_law_made"] (sp_law_moved K) :=
  ⟨f, fd, F.ok sc_law_moved (fun vs H Q E h => by first | (obtain ⟨_, rfl, _⟩ := h; rfl) | (obtain ⟨_, _, rfl, _⟩ := h; rfl) | (obtain ⟨_, _, _, rfl, _⟩ := h; rfl) | (obtain ⟨_, _, _, _, rfl, _⟩ := h; rfl) | (obtain ⟨_, _, _, _, _, rfl, _⟩ := h; rfl) | (obtain ⟨_, _, _, _, _, _, rfl, _⟩ := h; rfl) | (obtain ⟨_, _, _, _, _, _, _, rfl, _⟩ := h; rfl) | (obtain ⟨_, _, _, _, _, _, _, _, rfl, _⟩ := h; rfl) | (obtain ⟨_, _, _, _, _, _, _, _, _, rfl, _⟩ := h; rfl)) (fun cdv A outer s H vs Q E hr h => unW (body_law_moved (X := (cxOf CX0 P w K mg base ["_law_due", "_law_many", "_law_made"] "_law_moved" (defScope s_law_moved) f cdv A outer s H E).nox) ⟨rfl, rfl, rfl, PassesOwn.never⟩ hr T_Flat h)), b, F.kp, m⟩
noncomputable def sp_lowest (K : PySem.W.Frag) : Sp := fun vs H Q _ => ∃ (x y : Int), vs = [.int x, .int y] ∧ (0 ≤ x ∨ x < 0) ∧ 1 ≤ y ∧ y < 2 ^ 350 ∧ ∀ p H', Same H H' → SqT K H' p [.int (x / ((Int.gcd x y : Nat) : Int)), .int (y / ((Int.gcd x y : Nat) : Int))] → Q (.ref p) H'
theorem cal_lowest {P : Program} {w : World} {K : PySem.W.Frag} {mg : Str → Option Value} {base : Heap} {f : Addr} {fd : FuncData} (F : Fun K "lowest" "lowest" s_lowest f fd) (b : Binds K fd ["num", "den"] []) (m : mg "lowest" = some (.ref f)) (C_common_divisor : Cal P w K mg base "common_divisor" 1 ["one", "other"] (sp_common_divisor K)) : Cal P w K mg base "lowest" 2 ["num", "den"] (sp_lowest K) := by
  obtain ⟨f_common_divisor, d_common_divisor, G_common_divisor, b_common_divisor, k_common_divisor, m_common_divisor⟩ := C_common_divisor
  refine ⟨f, fd, F.ok sc_lowest (fun vs H Q E h => ?_) (fun cdv A outer s H vs Q E hr h => ?_), b, F.kp, m⟩
  · first | (obtain ⟨_, rfl, _⟩ := h; rfl) | (obtain ⟨_, _, rfl, _⟩ := h; rfl) | (obtain ⟨_, _, _, rfl, _⟩ := h; rfl) | (obtain ⟨_, _, _, _, rfl, _⟩ := h; rfl) | (obtain ⟨_, _, _, _, _, rfl, _⟩ := h; rfl) | (obtain ⟨_, _, _, _, _, _, rfl, _⟩ := h; rfl) | (obtain ⟨_, _, _, _, _, _, _, rfl, _⟩ := h; rfl) | (obtain ⟨_, _, _, _, _, _, _, _, rfl, _⟩ := h; rfl) | (obtain ⟨_, _, _, _, _, _, _, _, _, rfl, _⟩ := h; rfl)
  · obtain ⟨x, y, rfl, h1, h2, h3, q⟩ := h
    refine ⟨_, (pss_cons (ps_set (i := 2) sc_lowest.nd rfl (Or.inl rfl) (pe_call (G_common_divisor.mono (by decide)) hr rfl m_common_divisor k_common_divisor b_common_divisor .nil pass0 (pa_cons (pv 0) (pa_cons (pv 1) pa_nil))))
      (pss_one (ps_ret (pe_tup (pa_cons (pe_op op_fdivB (pv 0) (pv 2)) (pa_cons (pe_op op_fdivB (pv 1) (pv 2)) pa_nil)))))), ?_⟩
    have g0 := gcd_pos (x := x) (y := y) (by omega)
    have g1 := gcd_le (x := x) (y := y) (by omega)
    have hd : CDivB 0 ((Int.gcd x y : Nat) : Int) := ⟨g0, by omega⟩
    refine ⟨_, rfl, _, rfl, _, _, rfl, (by omega), (by omega), ?_⟩
    refine ⟨_, rfl, _, rfl, _, _, rfl, rfl, hd, _, rfl, _, rfl, _, _, rfl, rfl, hd, (small' (by show 2 ≤ 1000; decide)), fun p hp => ?_⟩
    exact q p _ (same_new hp _) (SqT.of upd_same)
theorem lk_least_cycle_0 : (defScope s_least_cycle).names.lookup ("ends" : Str) = some .local := by decide +kernel
theorem pv_least_cycle_0 {X : Cx} (c : CxIs X ["ends", "rise", "cycle", "prime"] (defScope s_least_cycle)) {pos : Pos} : WE X (.Name "ends" pos) (tVar 0) := wxv c rfl lk_least_cycle_0 (by decide) (by decide)
theorem lk_least_cycle_1 : (defScope s_least_cycle).names.lookup ("rise" : Str) = some .local := by decide +kernel
theorem pv_least_cycle_1 {X : Cx} (c : CxIs X ["ends", "rise", "cycle", "prime"] (defScope s_least_cycle)) {pos : Pos} : WE X (.Name "rise" pos) (tVar 1) := wxv c rfl lk_least_cycle_1 (by decide) (by decide)
theorem ss_least_cycle_1 {X : Cx} (c : CxIs X ["ends", "rise", "cycle", "prime"] (defScope s_least_cycle)) {pos pos' : Pos} {e : Expr} {te : TE} (he : WE X e te) (hs : swapsWith e (some (.Name "rise" pos')) pos.line X.env = pure false := by rfl) : WS X (.Assign [.Name "rise" pos'] e pos) (tAsg te (gN 1)) := wxs c sc_least_cycle.nd rfl lk_least_cycle_1 he hs
theorem lk_least_cycle_2 : (defScope s_least_cycle).names.lookup ("cycle" : Str) = some .local := by decide +kernel
theorem pv_least_cycle_2 {X : Cx} (c : CxIs X ["ends", "rise", "cycle", "prime"] (defScope s_least_cycle)) {pos : Pos} : WE X (.Name "cycle" pos) (tVar 2) := wxv c rfl lk_least_cycle_2 (by decide) (by decide)
theorem ss_least_cycle_2 {X : Cx} (c : CxIs X ["ends", "rise", "cycle", "prime"] (defScope s_least_cycle)) {pos pos' : Pos} {e : Expr} {te : TE} (he : WE X e te) (hs : swapsWith e (some (.Name "cycle" pos')) pos.line X.env = pure false := by rfl) : WS X (.Assign [.Name "cycle" pos'] e pos) (tAsg te (gN 2)) := wxs c sc_least_cycle.nd rfl lk_least_cycle_2 he hs
theorem lk_least_cycle_3 : (defScope s_least_cycle).names.lookup ("prime" : Str) = some .local := by decide +kernel
theorem pv_least_cycle_3 {X : Cx} (c : CxIs X ["ends", "rise", "cycle", "prime"] (defScope s_least_cycle)) {pos : Pos} : WE X (.Name "prime" pos) (tVar 3) := wxv c rfl lk_least_cycle_3 (by decide) (by decide)
theorem sg_least_cycle_3 {X : Cx} (c : CxIs X ["ends", "rise", "cycle", "prime"] (defScope s_least_cycle)) {pos : Pos} : WG X (.Name "prime" pos) (gN 3) := wxt c sc_least_cycle.nd rfl lk_least_cycle_3
theorem gl_least_cycle_prime_factors {X : Cx} (c : CxIs X ["ends", "rise", "cycle", "prime"] (defScope s_least_cycle)) : Gl X "prime_factors" := xg c (by decide +kernel)
theorem gl_least_cycle_repeats {X : Cx} (c : CxIs X ["ends", "rise", "cycle", "prime"] (defScope s_least_cycle)) : Gl X "repeats" := xg c (by decide +kernel)
theorem gl_least_cycle_len {X : Cx} (c : CxIs X ["ends", "rise", "cycle", "prime"] (defScope s_least_cycle)) : Gl X "len" := xg c (by decide +kernel)
theorem st_least_cycle (v0 v1 : V) : L2.start ["ends", "rise", "cycle", "prime"] [v0, v1] = [some v0, some v1, none, none] := rfl
noncomputable def sp_least_cycle (K : PySem.W.Frag) : Sp := fun vs H Q _ => ∃ (a : Addr) (sts : List StepD) (cc r : Int), vs = [.ref a, .int r] ∧ SqL K H a ((endsI sts cc).map V.int) ∧ 1 ≤ cc ∧ cc ≤ 20000 ∧ (∀ st ∈ sts, st.Ok) ∧ Per sts cc r ∧
  ∀ p c' r' H', Same H H' → SqT K H' p [.int c', .int r'] → IsCyc sts c' r' → c' ≤ cc → Q (.ref p) H'
theorem drop_at {l : List Int} {i : Nat} {x : Int} (h : l[i]? = some x) : l.drop i = x :: l.drop (i + 1) := by
  obtain ⟨hi, e⟩ := List.getElem?_eq_some_iff.mp h
  rw [← e]; exact List.drop_eq_getElem_cons hi
theorem body_least_cycle {X : Cx} (c : CxIs X ["ends", "rise", "cycle", "prime"] (defScope s_least_cycle)) (hr : Room 1 X.A) {E : XK}  (z_len : X.mg "len" = none) (C_prime_factors : Cal X.prog X.w X.K X.mg X.base "prime_factors" 1 ["number"] (sp_prime_factors X.K)) (C_repeats : Cal X.prog X.w X.K X.mg X.base "repeats" 1 ["ends", "part", "rise"] (sp_repeats X.K)) {vs : List V} {H : Hp} {Q : VK} (h : sp_least_cycle X.K vs H Q E) : ∃ t, WSs X (defBody s_least_cycle) t ∧ t { nx := fun _ H' => Q .non H', rt := Q } (L2.start ["ends", "rise", "cycle", "prime"] vs) H := by
  obtain ⟨f_prime_factors, d_prime_factors, G_prime_factors, b_prime_factors, k_prime_factors, m_prime_factors⟩ := C_prime_factors
  obtain ⟨f_repeats, d_repeats, G_repeats, b_repeats, k_repeats, m_repeats⟩ := C_repeats
  · obtain ⟨a, sts, cc, r, rfl, hL, c0, c1, ok, per, q⟩ := h
    refine ⟨_, (wss_cons (ss_least_cycle_2 c (we_callB call_len_seq (gl_least_cycle_len c) z_len PySem.boot_len (wa_cons (pv_least_cycle_0 c) wa_nil star_Name)))
      (wss_cons (ws_for c.own c.calm (wi_list (we_call (G_prime_factors.mono (by decide)) hr (gl_least_cycle_prime_factors c) m_prime_factors k_prime_factors b_prime_factors .nil pass0 (wa_cons (pv_least_cycle_2 c) wa_nil star_Name))) (sg_least_cycle_3 c)
      (wss_one (ws_if (WW.pt (ww_and (wt_cmpR op_eq (we_op op_mod (pv_least_cycle_1 c) (pv_least_cycle_3 c)) we_int (nomark _)) (ww_and1 (wt_val (we_call (G_repeats.mono (by decide)) hr (gl_least_cycle_repeats c) m_repeats k_repeats b_repeats .nil pass0 (wa_cons (we_slice sl_listO (pv_least_cycle_0 c) wo_none (wo_some (pv_least_cycle_2 c))) (wa_cons (we_op op_fdivB (pv_least_cycle_2 c) (pv_least_cycle_3 c)) (wa_cons (we_op op_fdivB (pv_least_cycle_1 c) (pv_least_cycle_3 c)) wa_nil star_BinOp) star_BinOp) star_Subscript))))))
      (wss_cons (ss_least_cycle_2 c (we_op op_fdivB (pv_least_cycle_2 c) (pv_least_cycle_3 c)))
      (wss_one (ss_least_cycle_1 c (we_op op_fdivB (pv_least_cycle_1 c) (pv_least_cycle_3 c)))))
      wss_nil)))
      (wss_one (ws_ret (we_tupO (wa_cons (pv_least_cycle_2 c) (wa_cons (pv_least_cycle_1 c) wa_nil star_Name) star_Name)))))), ?_⟩
    rw [st_least_cycle]
    refine ⟨_, rfl, _, _, rfl, .inl hL, fun σ e => ?_⟩
    rw [endsI_size, show ((cc.toNat : Nat) : Int) = cc by omega] at e
    dsimp only [List.set] at e
    subst e
    refine ⟨_, rfl, cc, rfl, c0, c1, fun p1 H1 fs s1 n1 f1 hp he => ?_⟩
    refine ⟨p1, rfl, ⟨_, SqL.of f1⟩, for_list (K := X.K) (a := p1) (xs := fs.map V.int) (fun i σ H' => Same H1 H' ∧ ∃ c' r', Down sts c' r' (fs.drop i) ∧ c' ≤ cc ∧ ∃ v, σ = [some (.ref a), some (.int r'), some (.int c'), v])
      ⟨Same.refl _, cc, r, Down.start ok c0 per he, Int.le_refl _, _, rfl⟩ (fun i σ H' _ ⟨e, _⟩ => SqL.of (e _ _ f1)) ?_ ?_⟩
    · rintro i z σ H' hi ⟨s0, c', r', D, hc, v, rfl⟩ σ e
      dsimp only [List.set] at e
      subst e
      rw [List.getElem?_map] at hi
      cases hz : fs[i]? with
      | none => rw [hz] at hi; cases hi
      | some p =>
        rw [hz] at hi
        cases hi
        rw [drop_at hz] at D
        have P := hp p (List.mem_of_getElem? hz)
        have p2 := P.1
        have d0 := D.c0
        have pd : p ∣ c' := Int.dvd_trans ⟨_, rfl⟩ D.left
        have ec : p * (c' / p) = c' := Int.mul_ediv_cancel' pd
        have part0 : 1 ≤ c' / p := by
          refine Int.not_lt.mp fun w => ?_
          have := Int.mul_le_mul_of_nonneg_left (show c' / p ≤ 0 by omega) (show 0 ≤ p by omega)
          omega
        have part1 : c' / p ≤ c' := div_le' (by omega) (by omega)
        have ple : p ≤ c' := Int.le_of_dvd (by omega) pd
        refine ⟨_, rfl, _, rfl, _, _, rfl, rfl, (show 0 < p by omega), rfl, _, rfl, ?_⟩
        refine if2 (fun d => ?_) (fun d => ?_)
        · have er : p * (r' / p) = r' := Int.mul_ediv_cancel' (Int.dvd_of_emod_eq_zero (of_int d))
          refine ⟨_, rfl, _, rfl, _, rfl, a, _, rfl, (s1.trans s0).seq hL, fun p3 H3 n3 s3 f3 => ?_⟩
          rw [endsI_take (by omega) hc] at f3
          refine ⟨_, rfl, _, rfl, _, _, rfl, rfl, ⟨by omega, by omega⟩, _, rfl, _, rfl, _, _, rfl, rfl, ⟨by omega, by omega⟩, p3, sts, c', c' / p, r' / p, rfl, SqL.of f3, by omega, by omega, part0, by omega, fun y => ?_, fun y => ?_⟩
          · refine ⟨_, rfl, ?_⟩
            refine iteT ?_
            refine ⟨_, rfl, _, rfl, _, _, rfl, rfl, ⟨by omega, by omega⟩, fun σ e => ?_⟩
            dsimp only [List.set] at e
            subst e
            refine ⟨_, rfl, _, rfl, _, _, rfl, rfl, ⟨by omega, by omega⟩, fun σ e => ?_⟩
            dsimp only [List.set] at e
            subst e
            refine ⟨s0.trans s3, _, _, D.yes P ec.symm (part_per (n := p) (by omega) part0 (by rw [ec, er]; exact D.per) fun q q0 q1 => y q q0 (by omega)), by omega, _, rfl⟩
          · refine ⟨_, rfl, ?_⟩
            refine iteF ?_
            refine ⟨s0.trans s3, _, _, D.no P (fun c2 r2 e1 e2 hper => y fun q q0 _ => ?_), hc, _, rfl⟩
            have e3 : c' / p = c2 := by rw [e1]; exact Int.mul_ediv_cancel_left _ (by omega)
            have e4 : r' / p = r2 := by rw [e2]; exact Int.mul_ediv_cancel_left _ (by omega)
            rw [e3, e4]
            exact hper q q0
        · refine iteF ?_
          refine ⟨s0, _, _, D.no P (fun c2 r2 e1 e2 _ => of_not_int d ?_), hc, _, rfl⟩
          rw [e2]; exact Int.mul_emod_right _ _
    · rintro σ H' ⟨s0, c', r', D, hc, v, rfl⟩
      rw [List.length_map, List.drop_length] at D
      refine ⟨_, rfl, _, rfl, (small' (by show 2 ≤ 1000; decide)), fun p3 H3 _ s3 f3 => ?_⟩
      exact q p3 c' r' H3 ((s1.trans s0).trans s3) (SqT.of f3) D.fin hc
theorem cal_least_cycle {P : Program} {w : World} {K : PySem.W.Frag} {mg : Str → Option Value} {base : Heap} {f : Addr} {fd : FuncData} (F : Fun K "least_cycle" "least_cycle" s_least_cycle f fd) (b : Binds K fd ["ends", "rise"] []) (m : mg "least_cycle" = some (.ref f)) (z_len : mg "len" = none) (C_prime_factors : Cal P w K mg base "prime_factors" 1 ["number"] (sp_prime_factors K)) (C_repeats : Cal P w K mg base "repeats" 1 ["ends", "part", "rise"] (sp_repeats K)) : Cal P w K mg base "least_cycle" 2 ["ends", "rise"] (sp_least_cycle K) :=
  ⟨f, fd, F.ok sc_least_cycle (fun vs H Q E h => by first | (obtain ⟨_, rfl, _⟩ := h; rfl) | (obtain ⟨_, _, rfl, _⟩ := h; rfl) | (obtain ⟨_, _, _, rfl, _⟩ := h; rfl) | (obtain ⟨_, _, _, _, rfl, _⟩ := h; rfl) | (obtain ⟨_, _, _, _, _, rfl, _⟩ := h; rfl) | (obtain ⟨_, _, _, _, _, _, rfl, _⟩ := h; rfl) | (obtain ⟨_, _, _, _, _, _, _, rfl, _⟩ := h; rfl) | (obtain ⟨_, _, _, _, _, _, _, _, rfl, _⟩ := h; rfl) | (obtain ⟨_, _, _, _, _, _, _, _, _, rfl, _⟩ := h; rfl)) (fun cdv A outer s H vs Q E hr h => unW (body_least_cycle (X := (cxOf CX0 P w K mg base ["ends", "rise", "cycle", "prime"] "least_cycle" (defScope s_least_cycle) f cdv A outer s H E).nox) ⟨rfl, rfl, rfl, PassesOwn.never⟩ hr z_len C_prime_factors C_repeats h)), b, F.kp, m⟩
noncomputable def mixI (c k : Int) : Int := ((c + 7 * k + 1) * 48271 % 2147483647 + k) * 69621 % 2147483647
noncomputable def drawAt (ns : List Int) (k : Int) : Int := if cell ns 0 % 2 = 1 then mixI (cell ns k) k else cell ns k
noncomputable def BitsOk (ns : List Int) : Prop := ∀ z ∈ ns, Builtin.Int.intBits z ≤ 1048576
noncomputable def sp_law_draw (K : PySem.W.Frag) : Sp := fun vs H Q _ => ∃ (a : Addr) (ns : List Int) (k : Int), vs = [.ref a, .int k] ∧ SqL K H a (ns.map V.int) ∧ 0 ≤ k ∧ k ≤ 1000 ∧ Q (.int (drawAt ns k)) H
theorem cal_law_draw {P : Program} {w : World} {K : PySem.W.Frag} {mg : Str → Option Value} {base : Heap} {f : Addr} {fd : FuncData} (F : Fun K "_law_draw" "_law_draw" s_law_draw f fd) (b : Binds K fd ["_law_script", "_law_k"] []) (m : mg "_law_draw" = some (.ref f)) (C_law_at : Cal P w K mg base "_law_at" 1 ["_law_script", "_law_k"] (sp_law_at K)) : Cal P w K mg base "_law_draw" 2 ["_law_script", "_law_k"] (sp_law_draw K) := by
  obtain ⟨f_law_at, d_law_at, G_law_at, b_law_at, k_law_at, m_law_at⟩ := C_law_at
  refine ⟨f, fd, F.ok sc_law_draw (fun vs H Q E h => ?_) (fun cdv A outer s H vs Q E hr h => ?_), b, F.kp, m⟩
  · first | (obtain ⟨_, rfl, _⟩ := h; rfl) | (obtain ⟨_, _, rfl, _⟩ := h; rfl) | (obtain ⟨_, _, _, rfl, _⟩ := h; rfl) | (obtain ⟨_, _, _, _, rfl, _⟩ := h; rfl) | (obtain ⟨_, _, _, _, _, rfl, _⟩ := h; rfl) | (obtain ⟨_, _, _, _, _, _, rfl, _⟩ := h; rfl) | (obtain ⟨_, _, _, _, _, _, _, rfl, _⟩ := h; rfl) | (obtain ⟨_, _, _, _, _, _, _, _, rfl, _⟩ := h; rfl) | (obtain ⟨_, _, _, _, _, _, _, _, _, rfl, _⟩ := h; rfl)
  · obtain ⟨a, ns, k, rfl, hS, h0, h1, q⟩ := h
    refine ⟨_, (pss_cons (ps_set (i := 2) sc_law_draw.nd rfl (Or.inl rfl) (pe_call (G_law_at.mono (by decide)) hr rfl m_law_at k_law_at b_law_at .nil pass0 (pa_cons (pv 0) (pa_cons (pv 1) pa_nil))))
      (pss_cons (ps_if (pt_cmpR op_eq (pe_op op_mod (pe_call (G_law_at.mono (by decide)) hr rfl m_law_at k_law_at b_law_at .nil pass0 (pa_cons (pv 0) (pa_cons pe_int pa_nil))) pe_int) pe_int (nomark _))
      (pss_one (ps_set (i := 2) sc_law_draw.nd rfl (Or.inl rfl) (pe_op op_mod (pe_op op_mulB (pe_op op_add (pe_op op_mod (pe_op op_mulB (pe_op op_add (pe_op op_add (pv 2) (pe_op op_mulB pe_int (pv 1))) pe_int) pe_int) pe_int) (pv 1)) pe_int) pe_int)))
      pss_nil)
      (pss_one (ps_ret (pv 2))))), ?_⟩
    refine ⟨_, rfl, _, rfl, a, ns, _, rfl, hS, h0, ?_⟩
    refine ⟨_, rfl, a, ns, _, rfl, hS, by decide, _, _, rfl, rfl, (by decide : (0 : Int) < 2), rfl, _, rfl, ?_⟩
    refine if2 (fun c => ?_) (fun c => ?_)
    · have e : drawAt ns k = mixI (cell ns k) k := if_pos (of_int c)
      rw [e] at q
      exact ⟨_, rfl, _, rfl, _, _, rfl, rfl, mul_l (by decide) (by decide), _, _, rfl, rfl, _, _, rfl, rfl, _, _, rfl, rfl, mul_r (by decide) (by decide), _, _, rfl, rfl, (by decide : (0 : Int) < 2147483647), _, rfl, _, _, rfl, rfl, _, _, rfl, rfl, mul_r (by decide) (by decide), _, _, rfl, rfl, (by decide : (0 : Int) < 2147483647), _, rfl, q⟩
    · have e : drawAt ns k = cell ns k := if_neg fun z => c (inj_int z)
      rw [e] at q
      exact ⟨_, rfl, q⟩
theorem lk_law_own_0 : (defScope s_law_own).names.lookup ("_law_step_here" : Str) = some .local := by decide +kernel
theorem pv_law_own_0 {X : Cx} (c : CxIs X ["_law_step_here", "_law_wide"] (defScope s_law_own)) {pos : Pos} : WE X (.Name "_law_step_here" pos) (tVar 0) := wxv c rfl lk_law_own_0 (by decide) (by decide)
theorem lk_law_own_1 : (defScope s_law_own).names.lookup ("_law_wide" : Str) = some .local := by decide +kernel
theorem pv_law_own_1 {X : Cx} (c : CxIs X ["_law_step_here", "_law_wide"] (defScope s_law_own)) {pos : Pos} : WE X (.Name "_law_wide" pos) (tVar 1) := wxv c rfl lk_law_own_1 (by decide) (by decide)
theorem ss_law_own_1 {X : Cx} (c : CxIs X ["_law_step_here", "_law_wide"] (defScope s_law_own)) {pos pos' : Pos} {e : Expr} {te : TE} (he : WE X e te) (hs : swapsWith e (some (.Name "_law_wide" pos')) pos.line X.env = pure false := by rfl) : WS X (.Assign [.Name "_law_wide" pos'] e pos) (tAsg te (gN 1)) := wxs c sc_law_own.nd rfl lk_law_own_1 he hs
theorem gl_law_own_law_gcd {X : Cx} (c : CxIs X ["_law_step_here", "_law_wide"] (defScope s_law_own)) : Gl X "_law_gcd" := xg c (by decide +kernel)
theorem gl_law_own_law_num {X : Cx} (c : CxIs X ["_law_step_here", "_law_wide"] (defScope s_law_own)) : Gl X "_law_num" := xg c (by decide +kernel)
theorem st_law_own (v0 : V) : L2.start ["_law_step_here", "_law_wide"] [v0] = [some v0, none] := rfl
noncomputable def sp_law_own (K : PySem.W.Frag) : Sp := fun vs H Q _ => ∃ (a : Addr) (st : StepD), vs = [.ref a] ∧ SqT K H a st.vals ∧ st.Ok ∧ Q (.int st.cyc) H
theorem body_law_own {X : Cx} (c : CxIs X ["_law_step_here", "_law_wide"] (defScope s_law_own)) (hr : Room 1 X.A) {E : XK}  (C_law_gcd : Cal X.prog X.w X.K X.mg X.base "_law_gcd" 1 ["_law_one", "_law_other"] (sp_law_gcd X.K)) (C_law_num : Cal X.prog X.w X.K X.mg X.base "_law_num" 1 ["_law_step_here"] (sp_law_num X.K)) {vs : List V} {H : Hp} {Q : VK} (h : sp_law_own X.K vs H Q E) : ∃ t, WSs X (defBody s_law_own) t ∧ t { nx := fun _ H' => Q .non H', rt := Q } (L2.start ["_law_step_here", "_law_wide"] vs) H := by
  obtain ⟨f_law_gcd, d_law_gcd, G_law_gcd, b_law_gcd, k_law_gcd, m_law_gcd⟩ := C_law_gcd
  obtain ⟨f_law_num, d_law_num, G_law_num, b_law_num, k_law_num, m_law_num⟩ := C_law_num
  · obtain ⟨a, st, rfl, hT, hO, q⟩ := h
    refine ⟨_, (wss_cons (ss_law_own_1 c (we_op op_mulB (we_ix ix_tup (pv_law_own_0 c) we_int plain_Constant) (we_ix ix_tup (pv_law_own_0 c) we_int plain_Constant)))
      (wss_one (ws_ret (we_op op_fdivB (pv_law_own_1 c) (we_call (G_law_gcd.mono (by decide)) hr (gl_law_own_law_gcd c) m_law_gcd k_law_gcd b_law_gcd .nil pass0 (wa_cons (we_call (G_law_num.mono (by decide)) hr (gl_law_own_law_num c) m_law_num k_law_num b_law_num .nil pass0 (wa_cons (pv_law_own_0 c) wa_nil star_Name)) (wa_cons (pv_law_own_1 c) wa_nil star_Name) star_Call)))))), ?_⟩
    rw [st_law_own]
    have u0 := hO.u0
    have u1 := hO.u1
    have w0 := hO.wide0
    have w1 := hO.wide1
    have n0 := hO.num0
    have g0 := hO.cg0
    have g1 : st.cg ≤ st.wide := gcd_le w0
    refine ⟨_, rfl, a, _, _, _, rfl, rfl, hT, rfl, _, rfl, a, _, _, _, rfl, rfl, hT, rfl, _, _, rfl, rfl, mul_r (by omega) (by omega), fun σ e => ?_⟩
    dsimp only [List.set] at e
    subst e
    exact ⟨_, rfl, _, rfl, a, st, rfl, hT, _, rfl, _, _, rfl, (by omega), Int.le_of_lt w0, _, _, rfl, rfl, ⟨g0, Int.lt_of_le_of_lt g1 (Int.lt_of_le_of_lt w1 (by decide +kernel))⟩, q⟩
theorem cal_law_own {P : Program} {w : World} {K : PySem.W.Frag} {mg : Str → Option Value} {base : Heap} {f : Addr} {fd : FuncData} (F : Fun K "_law_own" "_law_own" s_law_own f fd) (b : Binds K fd ["_law_step_here"] []) (m : mg "_law_own" = some (.ref f)) (C_law_gcd : Cal P w K mg base "_law_gcd" 1 ["_law_one", "_law_other"] (sp_law_gcd K)) (C_law_num : Cal P w K mg base "_law_num" 1 ["_law_step_here"] (sp_law_num K)) : Cal P w K mg base "_law_own" 2 ["_law_step_here"] (sp_law_own K) :=
  ⟨f, fd, F.ok sc_law_own (fun vs H Q E h => by first | (obtain ⟨_, rfl, _⟩ := h; rfl) | (obtain ⟨_, _, rfl, _⟩ := h; rfl) | (obtain ⟨_, _, _, rfl, _⟩ := h; rfl) | (obtain ⟨_, _, _, _, rfl, _⟩ := h; rfl) | (obtain ⟨_, _, _, _, _, rfl, _⟩ := h; rfl) | (obtain ⟨_, _, _, _, _, _, rfl, _⟩ := h; rfl) | (obtain ⟨_, _, _, _, _, _, _, rfl, _⟩ := h; rfl) | (obtain ⟨_, _, _, _, _, _, _, _, rfl, _⟩ := h; rfl) | (obtain ⟨_, _, _, _, _, _, _, _, _, rfl, _⟩ := h; rfl)) (fun cdv A outer s H vs Q E hr h => unW (body_law_own (X := (cxOf CX0 P w K mg base ["_law_step_here", "_law_wide"] "_law_own" (defScope s_law_own) f cdv A outer s H E).nox) ⟨rfl, rfl, rfl, PassesOwn.never⟩ hr C_law_gcd C_law_num h)), b, F.kp, m⟩
theorem lk_law_after_0 : (defScope s_law_after).names.lookup ("_law_step_here" : Str) = some .local := by decide +kernel
theorem pv_law_after_0 {X : Cx} (c : CxIs X ["_law_step_here", "_law_amount", "_law_wide", "_law_exact", "_law_many", "_law_left"] (defScope s_law_after)) {pos : Pos} : WE X (.Name "_law_step_here" pos) (tVar 0) := wxv c rfl lk_law_after_0 (by decide) (by decide)
theorem lk_law_after_1 : (defScope s_law_after).names.lookup ("_law_amount" : Str) = some .local := by decide +kernel
theorem pv_law_after_1 {X : Cx} (c : CxIs X ["_law_step_here", "_law_amount", "_law_wide", "_law_exact", "_law_many", "_law_left"] (defScope s_law_after)) {pos : Pos} : WE X (.Name "_law_amount" pos) (tVar 1) := wxv c rfl lk_law_after_1 (by decide) (by decide)
theorem lk_law_after_2 : (defScope s_law_after).names.lookup ("_law_wide" : Str) = some .local := by decide +kernel
theorem pv_law_after_2 {X : Cx} (c : CxIs X ["_law_step_here", "_law_amount", "_law_wide", "_law_exact", "_law_many", "_law_left"] (defScope s_law_after)) {pos : Pos} : WE X (.Name "_law_wide" pos) (tVar 2) := wxv c rfl lk_law_after_2 (by decide) (by decide)
theorem ss_law_after_2 {X : Cx} (c : CxIs X ["_law_step_here", "_law_amount", "_law_wide", "_law_exact", "_law_many", "_law_left"] (defScope s_law_after)) {pos pos' : Pos} {e : Expr} {te : TE} (he : WE X e te) (hs : swapsWith e (some (.Name "_law_wide" pos')) pos.line X.env = pure false := by rfl) : WS X (.Assign [.Name "_law_wide" pos'] e pos) (tAsg te (gN 2)) := wxs c sc_law_after.nd rfl lk_law_after_2 he hs
theorem lk_law_after_3 : (defScope s_law_after).names.lookup ("_law_exact" : Str) = some .local := by decide +kernel
theorem pv_law_after_3 {X : Cx} (c : CxIs X ["_law_step_here", "_law_amount", "_law_wide", "_law_exact", "_law_many", "_law_left"] (defScope s_law_after)) {pos : Pos} : WE X (.Name "_law_exact" pos) (tVar 3) := wxv c rfl lk_law_after_3 (by decide) (by decide)
theorem ss_law_after_3 {X : Cx} (c : CxIs X ["_law_step_here", "_law_amount", "_law_wide", "_law_exact", "_law_many", "_law_left"] (defScope s_law_after)) {pos pos' : Pos} {e : Expr} {te : TE} (he : WE X e te) (hs : swapsWith e (some (.Name "_law_exact" pos')) pos.line X.env = pure false := by rfl) : WS X (.Assign [.Name "_law_exact" pos'] e pos) (tAsg te (gN 3)) := wxs c sc_law_after.nd rfl lk_law_after_3 he hs
theorem lk_law_after_4 : (defScope s_law_after).names.lookup ("_law_many" : Str) = some .local := by decide +kernel
theorem pv_law_after_4 {X : Cx} (c : CxIs X ["_law_step_here", "_law_amount", "_law_wide", "_law_exact", "_law_many", "_law_left"] (defScope s_law_after)) {pos : Pos} : WE X (.Name "_law_many" pos) (tVar 4) := wxv c rfl lk_law_after_4 (by decide) (by decide)
theorem ss_law_after_4 {X : Cx} (c : CxIs X ["_law_step_here", "_law_amount", "_law_wide", "_law_exact", "_law_many", "_law_left"] (defScope s_law_after)) {pos pos' : Pos} {e : Expr} {te : TE} (he : WE X e te) (hs : swapsWith e (some (.Name "_law_many" pos')) pos.line X.env = pure false := by rfl) : WS X (.Assign [.Name "_law_many" pos'] e pos) (tAsg te (gN 4)) := wxs c sc_law_after.nd rfl lk_law_after_4 he hs
theorem lk_law_after_5 : (defScope s_law_after).names.lookup ("_law_left" : Str) = some .local := by decide +kernel
theorem pv_law_after_5 {X : Cx} (c : CxIs X ["_law_step_here", "_law_amount", "_law_wide", "_law_exact", "_law_many", "_law_left"] (defScope s_law_after)) {pos : Pos} : WE X (.Name "_law_left" pos) (tVar 5) := wxv c rfl lk_law_after_5 (by decide) (by decide)
theorem ss_law_after_5 {X : Cx} (c : CxIs X ["_law_step_here", "_law_amount", "_law_wide", "_law_exact", "_law_many", "_law_left"] (defScope s_law_after)) {pos pos' : Pos} {e : Expr} {te : TE} (he : WE X e te) (hs : swapsWith e (some (.Name "_law_left" pos')) pos.line X.env = pure false := by rfl) : WS X (.Assign [.Name "_law_left" pos'] e pos) (tAsg te (gN 5)) := wxs c sc_law_after.nd rfl lk_law_after_5 he hs
theorem gl_law_after_law_num {X : Cx} (c : CxIs X ["_law_step_here", "_law_amount", "_law_wide", "_law_exact", "_law_many", "_law_left"] (defScope s_law_after)) : Gl X "_law_num" := xg c (by decide +kernel)
theorem st_law_after (v0 v1 : V) : L2.start ["_law_step_here", "_law_amount", "_law_wide", "_law_exact", "_law_many", "_law_left"] [v0, v1] = [some v0, some v1, none, none, none, none] := rfl
noncomputable def sp_law_after (K : PySem.W.Frag) : Sp := fun vs H Q _ => ∃ (a : Addr) (st : StepD) (m : Int), vs = [.ref a, .int m] ∧ SqT K H a st.vals ∧ st.Ok ∧ Q (.int (st.many m * st.u)) H
theorem body_law_after {X : Cx} (c : CxIs X ["_law_step_here", "_law_amount", "_law_wide", "_law_exact", "_law_many", "_law_left"] (defScope s_law_after)) (hr : Room 1 X.A) {E : XK}  (C_law_num : Cal X.prog X.w X.K X.mg X.base "_law_num" 1 ["_law_step_here"] (sp_law_num X.K)) {vs : List V} {H : Hp} {Q : VK} (h : sp_law_after X.K vs H Q E) : ∃ t, WSs X (defBody s_law_after) t ∧ t { nx := fun _ H' => Q .non H', rt := Q } (L2.start ["_law_step_here", "_law_amount", "_law_wide", "_law_exact", "_law_many", "_law_left"] vs) H := by
  obtain ⟨f_law_num, d_law_num, G_law_num, b_law_num, k_law_num, m_law_num⟩ := C_law_num
  · obtain ⟨a, st, m, rfl, hT, hO, q⟩ := h
    refine ⟨_, (wss_cons (ss_law_after_2 c (we_op op_mulB (we_ix ix_tup (pv_law_after_0 c) we_int plain_Constant) (we_ix ix_tup (pv_law_after_0 c) we_int plain_Constant)))
      (wss_cons (ss_law_after_3 c (we_op op_add (we_op op_mulB (pv_law_after_1 c) (we_call (G_law_num.mono (by decide)) hr (gl_law_after_law_num c) m_law_num k_law_num b_law_num .nil pass0 (wa_cons (pv_law_after_0 c) wa_nil star_Name))) (we_op op_mulB (we_ix ix_tup (pv_law_after_0 c) we_int plain_Constant) (we_ix ix_tup (pv_law_after_0 c) we_int plain_Constant))))
      (wss_cons (ss_law_after_4 c (we_op op_fdivB (pv_law_after_3 c) (pv_law_after_2 c)))
      (wss_cons (ss_law_after_5 c (we_op op_sub (pv_law_after_3 c) (we_op op_mulB (pv_law_after_4 c) (pv_law_after_2 c))))
      (wss_cons (ws_if (WW.pt (ww_and (wt_cmpR op_eq (we_ix ix_tup (pv_law_after_0 c) we_int plain_Constant) we_str (nomark _)) (ww_and1 (wt_cmpR op_gt (pv_law_after_5 c) we_int (nomark _)))))
      (wss_one (ss_law_after_4 c (we_op op_add (pv_law_after_4 c) we_int)))
      wss_nil)
      (wss_cons (ws_if (WW.pt (ww_and (wt_cmpR op_eq (we_ix ix_tup (pv_law_after_0 c) we_int plain_Constant) we_str (nomark _)) (ww_and1 (wt_cmpR op_ge (we_op op_mulB we_int (pv_law_after_5 c)) (pv_law_after_2 c) (nomark _)))))
      (wss_one (ss_law_after_4 c (we_op op_add (pv_law_after_4 c) we_int)))
      wss_nil)
      (wss_one (ws_ret (we_op op_mulB (pv_law_after_4 c) (we_ix ix_tup (pv_law_after_0 c) we_int plain_Constant)))))))))), ?_⟩
    rw [st_law_after]
    have u0 := hO.u0
    have u1 := hO.u1
    have d0 := hO.d0
    have d1 := hO.d1
    have w0 := hO.wide0
    have w1 := hO.wide1
    have n0 := hO.num0
    have n1 := hO.num1
    have mu : ∀ x, CMulB x st.u := fun x => mul_r (by omega) (by omega)
    have mw : ∀ x, CMulB x st.wide := fun x => mul_r (by omega) (by omega)
    have dw : CDivB 0 st.wide := ⟨w0, Int.lt_of_le_of_lt w1 (by decide +kernel)⟩
    refine ⟨_, rfl, a, _, _, _, rfl, rfl, hT, rfl, _, rfl, a, _, _, _, rfl, rfl, hT, rfl, _, _, rfl, rfl, mu _, fun σ e => ?_⟩
    dsimp only [List.set] at e
    rw [show st.d * st.u = st.wide from rfl] at e
    subst e
    refine ⟨_, rfl, _, rfl, a, st, rfl, hT, _, _, rfl, rfl, mul_r (by omega) (by omega), _, rfl, a, _, _, _, rfl, rfl, hT, rfl, _, rfl, a, _, _, _, rfl, rfl, hT, rfl, _, _, rfl, rfl, mul_r (by omega) (by omega), _, _, rfl, rfl, fun σ e => ?_⟩
    dsimp only [List.set] at e
    rw [show m * st.num + st.p * st.d = st.exact m from rfl] at e
    subst e
    refine ⟨_, rfl, _, rfl, _, _, rfl, rfl, dw, fun σ e => ?_⟩
    dsimp only [List.set] at e
    subst e
    refine ⟨_, rfl, _, rfl, _, rfl, _, _, rfl, rfl, mw _, _, _, rfl, rfl, fun σ e => ?_⟩
    dsimp only [List.set] at e
    subst e
    refine ⟨_, rfl, a, _, _, _, rfl, rfl, hT, rfl, rfl, _, rfl, ?_⟩
    have fin : ∀ {z : Int}, st.many m = z → Q (.int (z * st.u)) H := fun hz => by rw [← hz]; exact q
    refine if2 (fun c => ?_) (fun c => ?_)
    · have y : st.y = "up" := V.str.inj c
      obtain ⟨n1, n2⟩ := StepD.Ok.y_up y
      refine ⟨_, rfl, _, _, rfl, rfl, _, rfl, ?_⟩
      refine if2 (fun d => ?_) (fun d => ?_)
      · refine ⟨_, rfl, _, _, rfl, rfl, fun σ e => ?_⟩
        dsimp only [List.set] at e
        subst e
        refine ⟨_, rfl, a, _, _, _, rfl, rfl, hT, rfl, rfl, _, rfl, ?_⟩
        refine ifF (fun z => n2 (V.str.inj z)) ?_
        refine ⟨_, rfl, _, rfl, a, _, _, _, rfl, rfl, hT, rfl, _, _, rfl, rfl, mu _, fin ?_⟩
        exact if_pos ⟨y, d⟩
      · refine ⟨_, rfl, a, _, _, _, rfl, rfl, hT, rfl, rfl, _, rfl, ?_⟩
        refine ifF (fun z => n2 (V.str.inj z)) ?_
        refine ⟨_, rfl, _, rfl, a, _, _, _, rfl, rfl, hT, rfl, _, _, rfl, rfl, mu _, fin ?_⟩
        unfold StepD.many
        rw [if_neg (fun z => d z.2), if_neg (fun z => n2 z.1)]
    · have y : ¬ st.y = "up" := fun z => c (by rw [z])
      refine ⟨_, rfl, a, _, _, _, rfl, rfl, hT, rfl, rfl, _, rfl, ?_⟩
      refine if2 (fun d => ?_) (fun d => ?_)
      · have y2 : st.y = "near" := V.str.inj d
        refine ⟨_, rfl, _, _, rfl, rfl, mul_l (by decide) (by decide), _, rfl, _, _, rfl, rfl, _, rfl, ?_⟩
        refine if2 (fun e => ?_) (fun e => ?_)
        · refine ⟨_, rfl, _, _, rfl, rfl, fun σ e' => ?_⟩
          dsimp only [List.set] at e'
          subst e'
          refine ⟨_, rfl, _, rfl, a, _, _, _, rfl, rfl, hT, rfl, _, _, rfl, rfl, mu _, fin ?_⟩
          unfold StepD.many
          rw [if_neg (fun z => y z.1), if_pos ⟨y2, e⟩]
        · refine ⟨_, rfl, _, rfl, a, _, _, _, rfl, rfl, hT, rfl, _, _, rfl, rfl, mu _, fin ?_⟩
          unfold StepD.many
          rw [if_neg (fun z => y z.1), if_neg (fun z => e z.2)]
      · refine ⟨_, rfl, _, rfl, a, _, _, _, rfl, rfl, hT, rfl, _, _, rfl, rfl, mu _, fin ?_⟩
        unfold StepD.many
        rw [if_neg (fun z => y z.1), if_neg (fun z => d (by rw [z.1]))]
theorem cal_law_after {P : Program} {w : World} {K : PySem.W.Frag} {mg : Str → Option Value} {base : Heap} {f : Addr} {fd : FuncData} (F : Fun K "_law_after" "_law_after" s_law_after f fd) (b : Binds K fd ["_law_step_here", "_law_amount"] []) (m : mg "_law_after" = some (.ref f)) (C_law_num : Cal P w K mg base "_law_num" 1 ["_law_step_here"] (sp_law_num K)) : Cal P w K mg base "_law_after" 2 ["_law_step_here", "_law_amount"] (sp_law_after K) :=
  ⟨f, fd, F.ok sc_law_after (fun vs H Q E h => by first | (obtain ⟨_, rfl, _⟩ := h; rfl) | (obtain ⟨_, _, rfl, _⟩ := h; rfl) | (obtain ⟨_, _, _, rfl, _⟩ := h; rfl) | (obtain ⟨_, _, _, _, rfl, _⟩ := h; rfl) | (obtain ⟨_, _, _, _, _, rfl, _⟩ := h; rfl) | (obtain ⟨_, _, _, _, _, _, rfl, _⟩ := h; rfl) | (obtain ⟨_, _, _, _, _, _, _, rfl, _⟩ := h; rfl) | (obtain ⟨_, _, _, _, _, _, _, _, rfl, _⟩ := h; rfl) | (obtain ⟨_, _, _, _, _, _, _, _, _, rfl, _⟩ := h; rfl)) (fun cdv A outer s H vs Q E hr h => unW (body_law_after (X := (cxOf CX0 P w K mg base ["_law_step_here", "_law_amount", "_law_wide", "_law_exact", "_law_many", "_law_left"] "_law_after" (defScope s_law_after) f cdv A outer s H E).nox) ⟨rfl, rfl, rfl, PassesOwn.never⟩ hr C_law_num h)), b, F.kp, m⟩
theorem lk_law_same_row_0 : (defScope s_law_same_row).names.lookup ("_law_found" : Str) = some .local := by decide +kernel
theorem pv_law_same_row_0 {X : Cx} (c : CxIs X ["_law_found", "_law_due", "_law_k"] (defScope s_law_same_row)) {pos : Pos} : WE X (.Name "_law_found" pos) (tVar 0) := wxv c rfl lk_law_same_row_0 (by decide) (by decide)
theorem lk_law_same_row_1 : (defScope s_law_same_row).names.lookup ("_law_due" : Str) = some .local := by decide +kernel
theorem pv_law_same_row_1 {X : Cx} (c : CxIs X ["_law_found", "_law_due", "_law_k"] (defScope s_law_same_row)) {pos : Pos} : WE X (.Name "_law_due" pos) (tVar 1) := wxv c rfl lk_law_same_row_1 (by decide) (by decide)
theorem lk_law_same_row_2 : (defScope s_law_same_row).names.lookup ("_law_k" : Str) = some .local := by decide +kernel
theorem pv_law_same_row_2 {X : Cx} (c : CxIs X ["_law_found", "_law_due", "_law_k"] (defScope s_law_same_row)) {pos : Pos} : WE X (.Name "_law_k" pos) (tVar 2) := wxv c rfl lk_law_same_row_2 (by decide) (by decide)
theorem sg_law_same_row_2 {X : Cx} (c : CxIs X ["_law_found", "_law_due", "_law_k"] (defScope s_law_same_row)) {pos : Pos} : WG X (.Name "_law_k" pos) (gN 2) := wxt c sc_law_same_row.nd rfl lk_law_same_row_2
theorem gl_law_same_row_law_whole {X : Cx} (c : CxIs X ["_law_found", "_law_due", "_law_k"] (defScope s_law_same_row)) : Gl X "_law_whole" := xg c (by decide +kernel)
theorem gl_law_same_row_range {X : Cx} (c : CxIs X ["_law_found", "_law_due", "_law_k"] (defScope s_law_same_row)) : Gl X "range" := xg c (by decide +kernel)
theorem gl_law_same_row_len {X : Cx} (c : CxIs X ["_law_found", "_law_due", "_law_k"] (defScope s_law_same_row)) : Gl X "len" := xg c (by decide +kernel)
theorem gl_law_same_row_isinstance {X : Cx} (c : CxIs X ["_law_found", "_law_due", "_law_k"] (defScope s_law_same_row)) : Gl X "isinstance" := xg c (by decide +kernel)
theorem gl_law_same_row_list {X : Cx} (c : CxIs X ["_law_found", "_law_due", "_law_k"] (defScope s_law_same_row)) : Gl X "list" := xg c (by decide +kernel)
theorem st_law_same_row (v0 v1 : V) : L2.start ["_law_found", "_law_due", "_law_k"] [v0, v1] = [some v0, some v1, none] := rfl
noncomputable def sp_law_same_row (K : PySem.W.Frag) : Sp := fun vs H Q _ => ∃ (p l : Addr) (zs : List Int), vs = [.ref p, .ref l] ∧ SqL K H p (zs.map V.int) ∧ SqL K H l (zs.map V.int) ∧ zs.length ≤ 2 ^ 60 ∧ Q (.bl true) H
theorem body_law_same_row {X : Cx} (c : CxIs X ["_law_found", "_law_due", "_law_k"] (defScope s_law_same_row)) (hr : Room 1 X.A) {E : XK}  (z_range : X.mg "range" = none) (z_len : X.mg "len" = none) (z_isinstance : X.mg "isinstance" = none) (z_list : X.mg "list" = none) (C_law_whole : Cal X.prog X.w X.K X.mg X.base "_law_whole" 1 ["_law_found"] (sp_law_whole X.K)) {vs : List V} {H : Hp} {Q : VK} (h : sp_law_same_row X.K vs H Q E) : ∃ t, WSs X (defBody s_law_same_row) t ∧ t { nx := fun _ H' => Q .non H', rt := Q } (L2.start ["_law_found", "_law_due", "_law_k"] vs) H := by
  obtain ⟨f_law_whole, d_law_whole, G_law_whole, b_law_whole, k_law_whole, m_law_whole⟩ := C_law_whole
  · obtain ⟨p, l, zs, rfl, hP, hL, h3, q⟩ := h
    refine ⟨_, (wss_cons (ws_if (WW.pt (ww_or (wt_not (wt_val (we_callB call_isinst (gl_law_same_row_isinstance c) z_isinstance boot_isinstance (wa_cons (pv_law_same_row_0 c) (wa_cons (we_bltn (v := .ty "list") (gl_law_same_row_list c) z_list boot_ty_list rfl) wa_nil star_Name) star_Name)))) (ww_or1 (wt_cmpR op_ne (we_callB call_len_seq (gl_law_same_row_len c) z_len PySem.boot_len (wa_cons (pv_law_same_row_0 c) wa_nil star_Name)) (we_callB call_len_seq (gl_law_same_row_len c) z_len PySem.boot_len (wa_cons (pv_law_same_row_1 c) wa_nil star_Name)) (nomark _)))))
      (wss_one (ws_ret we_bl))
      wss_nil)
      (wss_cons (ws_for c.own c.calm (wi_range1 (gl_law_same_row_range c) z_range (wa_cons (we_callB call_len_seq (gl_law_same_row_len c) z_len PySem.boot_len (wa_cons (pv_law_same_row_1 c) wa_nil star_Name)) wa_nil star_Call)) (sg_law_same_row_2 c)
      (wss_one (ws_if (WW.pt (ww_or (wt_not (wt_val (we_call (G_law_whole.mono (by decide)) hr (gl_law_same_row_law_whole c) m_law_whole k_law_whole b_law_whole .nil pass0 (wa_cons (we_ix ix_list (pv_law_same_row_0 c) (pv_law_same_row_2 c) plain_Name) wa_nil star_Subscript)))) (ww_or1 (wt_cmpR op_ne (we_ix ix_list (pv_law_same_row_0 c) (pv_law_same_row_2 c) plain_Name) (we_ix ix_list (pv_law_same_row_1 c) (pv_law_same_row_2 c) plain_Name) (nomark _)))))
      (wss_one (ws_ret we_bl))
      wss_nil)))
      (wss_one (ws_ret we_bl)))), ?_⟩
    rw [st_law_same_row]
    have hl : (zs.map V.int).length = zs.length := List.length_map _
    refine ⟨_, rfl, _, _, _, _, rfl, TyS.lst hP, kit_lst_lst, _, rfl, ?_⟩
    refine iteF ?_
    refine ⟨_, rfl, _, _, rfl, .inl hP, _, rfl, _, _, rfl, .inl hL, rfl, _, rfl, ?_⟩
    refine ifnF (inj_int rfl) ?_
    refine ⟨_, rfl, _, _, rfl, .inl hL, _, rfl, (by rw [hl]; omega), (by rw [hl]; omega), for_range (fun i σ H' => ∃ v, σ = [some (.ref p), some (.ref l), v] ∧ H' = H) ⟨_, rfl, rfl⟩ ?_ ?_⟩
    · rintro i σ H' hi ⟨v, rfl, rfl⟩ σ e
      dsimp only [List.set] at e
      subst e
      rw [hl] at hi
      have hi' : i < zs.length := by omega
      have hv : atI (zs.map V.int) (0 + (i : Int)) = some (.int zs[i]) := by
        rw [Int.zero_add]
        exact atI_nat (by rw [List.getElem?_map, List.getElem?_eq_getElem hi']; rfl)
      refine ⟨_, rfl, _, rfl, p, _, _, _, rfl, rfl, hP, hv, _, rfl, _, rfl, ?_⟩
      refine iteF ?_
      refine ⟨_, rfl, _, rfl, p, _, _, _, rfl, rfl, hP, hv, _, rfl, _, rfl, l, _, _, _, rfl, rfl, hL, hv, rfl, _, rfl, ?_⟩
      refine ifnF rfl ?_
      exact ⟨_, rfl, rfl⟩
    · rintro σ H' ⟨v, rfl, rfl⟩
      exact q
theorem cal_law_same_row {P : Program} {w : World} {K : PySem.W.Frag} {mg : Str → Option Value} {base : Heap} {f : Addr} {fd : FuncData} (F : Fun K "_law_same_row" "_law_same_row" s_law_same_row f fd) (b : Binds K fd ["_law_found", "_law_due"] []) (m : mg "_law_same_row" = some (.ref f)) (z_range : mg "range" = none) (z_len : mg "len" = none) (z_isinstance : mg "isinstance" = none) (z_list : mg "list" = none) (C_law_whole : Cal P w K mg base "_law_whole" 1 ["_law_found"] (sp_law_whole K)) : Cal P w K mg base "_law_same_row" 2 ["_law_found", "_law_due"] (sp_law_same_row K) :=
  ⟨f, fd, F.ok sc_law_same_row (fun vs H Q E h => by first | (obtain ⟨_, rfl, _⟩ := h; rfl) | (obtain ⟨_, _, rfl, _⟩ := h; rfl) | (obtain ⟨_, _, _, rfl, _⟩ := h; rfl) | (obtain ⟨_, _, _, _, rfl, _⟩ := h; rfl) | (obtain ⟨_, _, _, _, _, rfl, _⟩ := h; rfl) | (obtain ⟨_, _, _, _, _, _, rfl, _⟩ := h; rfl) | (obtain ⟨_, _, _, _, _, _, _, rfl, _⟩ := h; rfl) | (obtain ⟨_, _, _, _, _, _, _, _, rfl, _⟩ := h; rfl) | (obtain ⟨_, _, _, _, _, _, _, _, _, rfl, _⟩ := h; rfl)) (fun cdv A outer s H vs Q E hr h => unW (body_law_same_row (X := (cxOf CX0 P w K mg base ["_law_found", "_law_due", "_law_k"] "_law_same_row" (defScope s_law_same_row) f cdv A outer s H E).nox) ⟨rfl, rfl, rfl, PassesOwn.never⟩ hr z_range z_len z_isinstance z_list C_law_whole h)), b, F.kp, m⟩
theorem lk_law_same_origin_0 : (defScope s_law_same_origin).names.lookup ("_law_found" : Str) = some .local := by decide +kernel
theorem pv_law_same_origin_0 {X : Cx} (c : CxIs X ["_law_found", "_law_due"] (defScope s_law_same_origin)) {pos : Pos} : WE X (.Name "_law_found" pos) (tVar 0) := wxv c rfl lk_law_same_origin_0 (by decide) (by decide)
theorem lk_law_same_origin_1 : (defScope s_law_same_origin).names.lookup ("_law_due" : Str) = some .local := by decide +kernel
theorem pv_law_same_origin_1 {X : Cx} (c : CxIs X ["_law_found", "_law_due"] (defScope s_law_same_origin)) {pos : Pos} : WE X (.Name "_law_due" pos) (tVar 1) := wxv c rfl lk_law_same_origin_1 (by decide) (by decide)
theorem gl_law_same_origin_law_whole {X : Cx} (c : CxIs X ["_law_found", "_law_due"] (defScope s_law_same_origin)) : Gl X "_law_whole" := xg c (by decide +kernel)
theorem gl_law_same_origin_isinstance {X : Cx} (c : CxIs X ["_law_found", "_law_due"] (defScope s_law_same_origin)) : Gl X "isinstance" := xg c (by decide +kernel)
theorem gl_law_same_origin_tuple {X : Cx} (c : CxIs X ["_law_found", "_law_due"] (defScope s_law_same_origin)) : Gl X "tuple" := xg c (by decide +kernel)
theorem gl_law_same_origin_len {X : Cx} (c : CxIs X ["_law_found", "_law_due"] (defScope s_law_same_origin)) : Gl X "len" := xg c (by decide +kernel)
theorem gl_law_same_origin_str {X : Cx} (c : CxIs X ["_law_found", "_law_due"] (defScope s_law_same_origin)) : Gl X "str" := xg c (by decide +kernel)
theorem st_law_same_origin (v0 v1 : V) : L2.start ["_law_found", "_law_due"] [v0, v1] = [some v0, some v1] := rfl
noncomputable def sp_law_same_origin (K : PySem.W.Frag) : Sp := fun vs H Q _ => ∃ (p p2 : Addr) (x : Str) (y : V) (z : Int), vs = [.ref p, .ref p2] ∧ SqT K H p [.str x, y, .int z] ∧ SqT K H p2 [.str x, y, .int z] ∧ (y = .non ∨ ∃ i, y = .int i) ∧ Q (.bl true) H
theorem body_law_same_origin {X : Cx} (c : CxIs X ["_law_found", "_law_due"] (defScope s_law_same_origin)) (hr : Room 1 X.A) {E : XK}  (z_isinstance : X.mg "isinstance" = none) (z_tuple : X.mg "tuple" = none) (z_len : X.mg "len" = none) (z_str : X.mg "str" = none) (C_law_whole : Cal X.prog X.w X.K X.mg X.base "_law_whole" 1 ["_law_found"] (sp_law_whole X.K)) {vs : List V} {H : Hp} {Q : VK} (h : sp_law_same_origin X.K vs H Q E) : ∃ t, WSs X (defBody s_law_same_origin) t ∧ t { nx := fun _ H' => Q .non H', rt := Q } (L2.start ["_law_found", "_law_due"] vs) H := by
  obtain ⟨f_law_whole, d_law_whole, G_law_whole, b_law_whole, k_law_whole, m_law_whole⟩ := C_law_whole
  · obtain ⟨p, p2, x, y, z, rfl, hT, hU, hy, q⟩ := h
    refine ⟨_, (wss_cons (ws_if (WW.pt (ww_or (wt_not (wt_val (we_callB call_isinst (gl_law_same_origin_isinstance c) z_isinstance boot_isinstance (wa_cons (pv_law_same_origin_0 c) (wa_cons (we_bltn (v := .ty "tuple") (gl_law_same_origin_tuple c) z_tuple boot_ty_tuple rfl) wa_nil star_Name) star_Name)))) (ww_or (wt_cmpR op_ne (we_callB call_len_seq (gl_law_same_origin_len c) z_len PySem.boot_len (wa_cons (pv_law_same_origin_0 c) wa_nil star_Name)) we_int (nomark _)) (ww_or1 (wt_not (wt_val (we_callB call_isinst (gl_law_same_origin_isinstance c) z_isinstance boot_isinstance (wa_cons (we_ix ix_tup (pv_law_same_origin_0 c) we_int plain_Constant) (wa_cons (we_bltn (v := .ty "str") (gl_law_same_origin_str c) z_str boot_ty_str rfl) wa_nil star_Name) star_Subscript))))))))
      (wss_one (ws_ret we_bl))
      wss_nil)
      (wss_cons (ws_if (WW.pt (ww_or (wt_cmpR op_ne (we_ix ix_tup (pv_law_same_origin_0 c) we_int plain_Constant) (we_ix ix_tup (pv_law_same_origin_1 c) we_int plain_Constant) (nomark _)) (ww_or (wt_not (wt_val (we_call (G_law_whole.mono (by decide)) hr (gl_law_same_origin_law_whole c) m_law_whole k_law_whole b_law_whole .nil pass0 (wa_cons (we_ix ix_tup (pv_law_same_origin_0 c) we_int plain_Constant) wa_nil star_Subscript)))) (ww_or1 (wt_cmpR op_ne (we_ix ix_tup (pv_law_same_origin_0 c) we_int plain_Constant) (we_ix ix_tup (pv_law_same_origin_1 c) we_int plain_Constant) (nomark _))))))
      (wss_one (ws_ret we_bl))
      wss_nil)
      (wss_cons (ws_if (wt_cmpR op_isN (we_ix ix_tup (pv_law_same_origin_1 c) we_int plain_Constant) we_non (nomark _))
      (wss_one (ws_ret (we_cmpR op_isN (we_ix ix_tup (pv_law_same_origin_0 c) we_int plain_Constant) we_non (nomark _))))
      wss_nil)
      (wss_one (ws_ret (we_and (we_call (G_law_whole.mono (by decide)) hr (gl_law_same_origin_law_whole c) m_law_whole k_law_whole b_law_whole .nil pass0 (wa_cons (we_ix ix_tup (pv_law_same_origin_0 c) we_int plain_Constant) wa_nil star_Subscript)) (we_one (we_cmpR op_eq (we_ix ix_tup (pv_law_same_origin_0 c) we_int plain_Constant) (we_ix ix_tup (pv_law_same_origin_1 c) we_int plain_Constant) (nomark _))))))))), ?_⟩
    rw [st_law_same_origin]
    refine ⟨_, rfl, _, _, _, _, rfl, TyS.tup hT, kit_tup_tup, _, rfl, ?_⟩
    refine iteF ?_
    refine ⟨_, rfl, _, _, rfl, .inr hT, rfl, _, rfl, ?_⟩
    refine ifnF rfl ?_
    refine ⟨_, rfl, p, _, _, _, rfl, rfl, hT, rfl, _, _, _, _, rfl, TyS.str, kit_str_str, _, rfl, ?_⟩
    refine iteF ?_
    refine ⟨_, rfl, p, _, _, _, rfl, rfl, hT, rfl, _, rfl, p2, _, _, _, rfl, rfl, hU, rfl, (by simp [scal]), _, rfl, ?_⟩
    refine ifnF rfl ?_
    refine ⟨_, rfl, p, _, _, _, rfl, rfl, hT, rfl, _, rfl, _, rfl, ?_⟩
    refine iteF ?_
    refine ⟨_, rfl, p, _, _, _, rfl, rfl, hT, rfl, _, rfl, p2, _, _, _, rfl, rfl, hU, rfl, rfl, _, rfl, ?_⟩
    refine ifnF rfl ?_
    refine ⟨_, rfl, p2, _, _, _, rfl, rfl, hU, rfl, rfl, _, rfl, ?_⟩
    rcases hy with rfl | ⟨i, rfl⟩
    · refine ifT rfl ?_
      exact ⟨_, rfl, p, _, _, _, rfl, rfl, hT, rfl, rfl, q⟩
    · refine iteF ?_
      refine ⟨_, rfl, p, _, _, _, rfl, rfl, hT, rfl, _, rfl, _, rfl, ?_⟩
      refine iteT ?_
      exact ⟨_, rfl, p, _, _, _, rfl, rfl, hT, rfl, _, rfl, p2, _, _, _, rfl, rfl, hU, rfl, rfl, qT q rfl⟩
theorem cal_law_same_origin {P : Program} {w : World} {K : PySem.W.Frag} {mg : Str → Option Value} {base : Heap} {f : Addr} {fd : FuncData} (F : Fun K "_law_same_origin" "_law_same_origin" s_law_same_origin f fd) (b : Binds K fd ["_law_found", "_law_due"] []) (m : mg "_law_same_origin" = some (.ref f)) (z_isinstance : mg "isinstance" = none) (z_tuple : mg "tuple" = none) (z_len : mg "len" = none) (z_str : mg "str" = none) (C_law_whole : Cal P w K mg base "_law_whole" 1 ["_law_found"] (sp_law_whole K)) : Cal P w K mg base "_law_same_origin" 2 ["_law_found", "_law_due"] (sp_law_same_origin K) :=
  ⟨f, fd, F.ok sc_law_same_origin (fun vs H Q E h => by first | (obtain ⟨_, rfl, _⟩ := h; rfl) | (obtain ⟨_, _, rfl, _⟩ := h; rfl) | (obtain ⟨_, _, _, rfl, _⟩ := h; rfl) | (obtain ⟨_, _, _, _, rfl, _⟩ := h; rfl) | (obtain ⟨_, _, _, _, _, rfl, _⟩ := h; rfl) | (obtain ⟨_, _, _, _, _, _, rfl, _⟩ := h; rfl) | (obtain ⟨_, _, _, _, _, _, _, rfl, _⟩ := h; rfl) | (obtain ⟨_, _, _, _, _, _, _, _, rfl, _⟩ := h; rfl) | (obtain ⟨_, _, _, _, _, _, _, _, _, rfl, _⟩ := h; rfl)) (fun cdv A outer s H vs Q E hr h => unW (body_law_same_origin (X := (cxOf CX0 P w K mg base ["_law_found", "_law_due"] "_law_same_origin" (defScope s_law_same_origin) f cdv A outer s H E).nox) ⟨rfl, rfl, rfl, PassesOwn.never⟩ hr z_isinstance z_tuple z_len z_str C_law_whole h)), b, F.kp, m⟩
noncomputable def sp_share (K : PySem.W.Frag) : Sp := fun vs H Q _ => ∃ (a : Addr) (st : StepD), vs = [.ref a] ∧ SqT K H a st.vals ∧ st.Ok ∧ ∀ p H', Same H H' → SqT K H' p [.int st.sn, .int st.sd] → st.Ok → Q (.ref p) H'
theorem cal_share {P : Program} {w : World} {K : PySem.W.Frag} {mg : Str → Option Value} {base : Heap} {f : Addr} {fd : FuncData} (F : Fun K "share" "share" s_share f fd) (b : Binds K fd ["step"] []) (m : mg "share" = some (.ref f)) (C_lowest : Cal P w K mg base "lowest" 2 ["num", "den"] (sp_lowest K)) : Cal P w K mg base "share" 3 ["step"] (sp_share K) := by
  obtain ⟨f_lowest, d_lowest, G_lowest, b_lowest, k_lowest, m_lowest⟩ := C_lowest
  refine ⟨f, fd, F.ok sc_share (fun vs H Q E h => ?_) (fun cdv A outer s H vs Q E hr h => ?_), b, F.kp, m⟩
  · first | (obtain ⟨_, rfl, _⟩ := h; rfl) | (obtain ⟨_, _, rfl, _⟩ := h; rfl) | (obtain ⟨_, _, _, rfl, _⟩ := h; rfl) | (obtain ⟨_, _, _, _, rfl, _⟩ := h; rfl) | (obtain ⟨_, _, _, _, _, rfl, _⟩ := h; rfl) | (obtain ⟨_, _, _, _, _, _, rfl, _⟩ := h; rfl) | (obtain ⟨_, _, _, _, _, _, _, rfl, _⟩ := h; rfl) | (obtain ⟨_, _, _, _, _, _, _, _, rfl, _⟩ := h; rfl) | (obtain ⟨_, _, _, _, _, _, _, _, _, rfl, _⟩ := h; rfl)
  · obtain ⟨a, st, rfl, hT, hO, q⟩ := h
    refine ⟨_, (pss_cons (ps_set (i := 1) sc_share.nd rfl (Or.inl rfl) (pe_ix ix_tup (pv 0) pe_int (fun _ _ => rfl)))
      (pss_cons (ps_set (i := 2) sc_share.nd rfl (Or.inl rfl) (pe_ix ix_tup (pv 0) pe_int (fun _ _ => rfl)))
      (pss_cons (ps_set (i := 3) sc_share.nd rfl (Or.inl rfl) (pe_ix ix_tup (pv 0) pe_int (fun _ _ => rfl)))
      (pss_cons (ps_if (pt_cmpR op_eq (pv 1) pe_str (nomark _))
      (pss_one (ps_ret (pe_call (G_lowest.mono (by decide)) hr rfl m_lowest k_lowest b_lowest .nil pass0 (pa_cons (pe_op op_add (pv 3) (pv 2)) (pa_cons (pv 3) pa_nil)))))
      pss_nil)
      (pss_cons (ps_if (pt_cmpR op_eq (pv 1) pe_str (nomark _))
      (pss_one (ps_ret (pe_call (G_lowest.mono (by decide)) hr rfl m_lowest k_lowest b_lowest .nil pass0 (pa_cons (pe_op op_sub (pv 3) (pv 2)) (pa_cons (pv 3) pa_nil)))))
      pss_nil)
      (pss_one (ps_ret (pe_call (G_lowest.mono (by decide)) hr rfl m_lowest k_lowest b_lowest .nil pass0 (pa_cons (pv 2) (pa_cons (pv 3) pa_nil)))))))))), ?_⟩
    have n0 := hO.num0
    have d0 := hO.d0
    have d1 := hO.d1
    have dd : st.d < 2 ^ 350 := by omega
    refine ⟨_, rfl, a, _, _, _, rfl, rfl, hT, rfl, ?_⟩
    refine ⟨_, rfl, a, _, _, _, rfl, rfl, hT, rfl, ?_⟩
    refine ⟨_, rfl, a, _, _, _, rfl, rfl, hT, rfl, ?_⟩
    refine ⟨_, rfl, rfl, _, rfl, ?_⟩
    refine if2 (fun c => ?_) (fun c => ?_)
    · have e : st.num = st.d + st.n := if_pos (V.str.inj c)
      refine ⟨_, rfl, _, rfl, _, _, rfl, rfl, _, rfl, _, _, rfl, by omega, d0, dd, fun p H' sH hP => q p H' sH ?_ hO⟩
      unfold StepD.sn StepD.sd StepD.g; rw [e]; exact hP
    have c' : ¬ st.w = "add" := fun z => c (by rw [z])
    refine ⟨_, rfl, rfl, _, rfl, ?_⟩
    refine if2 (fun c2 => ?_) (fun c2 => ?_)
    · have e : st.num = st.d - st.n := by unfold StepD.num; rw [if_neg c', if_pos (V.str.inj c2)]
      refine ⟨_, rfl, _, rfl, _, _, rfl, rfl, _, rfl, _, _, rfl, by omega, d0, dd, fun p H' sH hP => q p H' sH ?_ hO⟩
      unfold StepD.sn StepD.sd StepD.g; rw [e]; exact hP
    · have c2' : ¬ st.w = "off" := fun z => c2 (by rw [z])
      have e : st.num = st.n := by unfold StepD.num; rw [if_neg c', if_neg c2']
      refine ⟨_, rfl, _, rfl, _, _, rfl, by omega, d0, dd, fun p H' sH hP => q p H' sH ?_ hO⟩
      unfold StepD.sn StepD.sd StepD.g; rw [e]; exact hP
theorem lk_law_product_0 : (defScope s_law_product).names.lookup ("_law_steps" : Str) = some .local := by decide +kernel
theorem pv_law_product_0 {X : Cx} (c : CxIs X ["_law_steps", "_law_wide", "_law_step_here"] (defScope s_law_product)) {pos : Pos} : WE X (.Name "_law_steps" pos) (tVar 0) := wxv c rfl lk_law_product_0 (by decide) (by decide)
theorem lk_law_product_1 : (defScope s_law_product).names.lookup ("_law_wide" : Str) = some .local := by decide +kernel
theorem pv_law_product_1 {X : Cx} (c : CxIs X ["_law_steps", "_law_wide", "_law_step_here"] (defScope s_law_product)) {pos : Pos} : WE X (.Name "_law_wide" pos) (tVar 1) := wxv c rfl lk_law_product_1 (by decide) (by decide)
theorem ss_law_product_1 {X : Cx} (c : CxIs X ["_law_steps", "_law_wide", "_law_step_here"] (defScope s_law_product)) {pos pos' : Pos} {e : Expr} {te : TE} (he : WE X e te) (hs : swapsWith e (some (.Name "_law_wide" pos')) pos.line X.env = pure false := by rfl) : WS X (.Assign [.Name "_law_wide" pos'] e pos) (tAsg te (gN 1)) := wxs c sc_law_product.nd rfl lk_law_product_1 he hs
theorem lk_law_product_2 : (defScope s_law_product).names.lookup ("_law_step_here" : Str) = some .local := by decide +kernel
theorem pv_law_product_2 {X : Cx} (c : CxIs X ["_law_steps", "_law_wide", "_law_step_here"] (defScope s_law_product)) {pos : Pos} : WE X (.Name "_law_step_here" pos) (tVar 2) := wxv c rfl lk_law_product_2 (by decide) (by decide)
theorem sg_law_product_2 {X : Cx} (c : CxIs X ["_law_steps", "_law_wide", "_law_step_here"] (defScope s_law_product)) {pos : Pos} : WG X (.Name "_law_step_here" pos) (gN 2) := wxt c sc_law_product.nd rfl lk_law_product_2
theorem gl_law_product_law_own {X : Cx} (c : CxIs X ["_law_steps", "_law_wide", "_law_step_here"] (defScope s_law_product)) : Gl X "_law_own" := xg c (by decide +kernel)
theorem st_law_product (v0 : V) : L2.start ["_law_steps", "_law_wide", "_law_step_here"] [v0] = [some v0, none, none] := rfl
noncomputable def sp_law_product (K : PySem.W.Frag) : Sp := fun vs H Q _ => ∃ (l : Addr) (as : List Addr) (sts : List StepD), vs = [.ref l] ∧ Chn K H l as sts ∧ Q (.int (prodI sts)) H
theorem body_law_product {X : Cx} (c : CxIs X ["_law_steps", "_law_wide", "_law_step_here"] (defScope s_law_product)) (hr : Room 2 X.A) {E : XK}  (C_law_own : Cal X.prog X.w X.K X.mg X.base "_law_own" 2 ["_law_step_here"] (sp_law_own X.K)) {vs : List V} {H : Hp} {Q : VK} (h : sp_law_product X.K vs H Q E) : ∃ t, WSs X (defBody s_law_product) t ∧ t { nx := fun _ H' => Q .non H', rt := Q } (L2.start ["_law_steps", "_law_wide", "_law_step_here"] vs) H := by
  obtain ⟨f_law_own, d_law_own, G_law_own, b_law_own, k_law_own, m_law_own⟩ := C_law_own
  · obtain ⟨l, as, sts, rfl, hC, q⟩ := h
    refine ⟨_, (wss_cons (ss_law_product_1 c we_int)
      (wss_cons (ws_for c.own c.calm (wi_list (pv_law_product_0 c)) (sg_law_product_2 c)
      (wss_one (ss_law_product_1 c (we_op op_mulB (pv_law_product_1 c) (we_call (G_law_own.mono (by decide)) hr (gl_law_product_law_own c) m_law_own k_law_own b_law_own .nil pass0 (wa_cons (pv_law_product_2 c) wa_nil star_Name))))))
      (wss_one (ws_ret (pv_law_product_1 c))))), ?_⟩
    rw [st_law_product]
    intro σ e
    dsimp only [List.set] at e
    subst e
    refine ⟨_, rfl, l, rfl, ⟨_, hC.lst⟩, for_list (K := X.K) (a := l) (xs := as.map V.ref) (fun i σ H' => H' = H ∧ ∃ v, σ = [some (.ref l), some (.int (prodI (sts.take i))), v])
      ⟨rfl, _, rfl⟩ (fun i σ H' _ ⟨e, _⟩ => by rw [e]; exact hC.lst) ?_ ?_⟩
    · rintro i x σ H' hi ⟨rfl, v, rfl⟩ σ e
      obtain ⟨a, st, rfl, h1, h2, hT, hO⟩ := hC.get hi
      dsimp only [List.set] at e
      subst e
      have c0 := hO.cyc0
      have c1 := hO.cyc1
      refine ⟨_, rfl, _, rfl, a, st, rfl, hT, hO, _, _, rfl, rfl, mul_r (by omega) (by omega), fun σ e => ?_⟩
      dsimp only [List.set] at e
      subst e
      exact ⟨rfl, _, by rw [take_snoc h2, prodI_snoc]⟩
    · rintro σ H' ⟨rfl, v, rfl⟩
      refine ⟨_, rfl, ?_⟩
      have e : sts.take (as.map V.ref).length = sts := by rw [List.length_map, hC.len, List.take_length]
      rw [e]
      exact q
theorem cal_law_product {P : Program} {w : World} {K : PySem.W.Frag} {mg : Str → Option Value} {base : Heap} {f : Addr} {fd : FuncData} (F : Fun K "_law_product" "_law_product" s_law_product f fd) (b : Binds K fd ["_law_steps"] []) (m : mg "_law_product" = some (.ref f)) (C_law_own : Cal P w K mg base "_law_own" 2 ["_law_step_here"] (sp_law_own K)) : Cal P w K mg base "_law_product" 3 ["_law_steps"] (sp_law_product K) :=
  ⟨f, fd, F.ok sc_law_product (fun vs H Q E h => by first | (obtain ⟨_, rfl, _⟩ := h; rfl) | (obtain ⟨_, _, rfl, _⟩ := h; rfl) | (obtain ⟨_, _, _, rfl, _⟩ := h; rfl) | (obtain ⟨_, _, _, _, rfl, _⟩ := h; rfl) | (obtain ⟨_, _, _, _, _, rfl, _⟩ := h; rfl) | (obtain ⟨_, _, _, _, _, _, rfl, _⟩ := h; rfl) | (obtain ⟨_, _, _, _, _, _, _, rfl, _⟩ := h; rfl) | (obtain ⟨_, _, _, _, _, _, _, _, rfl, _⟩ := h; rfl) | (obtain ⟨_, _, _, _, _, _, _, _, _, rfl, _⟩ := h; rfl)) (fun cdv A outer s H vs Q E hr h => unW (body_law_product (X := (cxOf CX0 P w K mg base ["_law_steps", "_law_wide", "_law_step_here"] "_law_product" (defScope s_law_product) f cdv A outer s H E).nox) ⟨rfl, rfl, rfl, PassesOwn.never⟩ hr C_law_own h)), b, F.kp, m⟩
theorem lk_law_end_0 : (defScope s_law_end).names.lookup ("_law_steps" : Str) = some .local := by decide +kernel
theorem pv_law_end_0 {X : Cx} (c : CxIs X ["_law_steps", "_law_amount", "_law_step_here"] (defScope s_law_end)) {pos : Pos} : WE X (.Name "_law_steps" pos) (tVar 0) := wxv c rfl lk_law_end_0 (by decide) (by decide)
theorem lk_law_end_1 : (defScope s_law_end).names.lookup ("_law_amount" : Str) = some .local := by decide +kernel
theorem pv_law_end_1 {X : Cx} (c : CxIs X ["_law_steps", "_law_amount", "_law_step_here"] (defScope s_law_end)) {pos : Pos} : WE X (.Name "_law_amount" pos) (tVar 1) := wxv c rfl lk_law_end_1 (by decide) (by decide)
theorem ss_law_end_1 {X : Cx} (c : CxIs X ["_law_steps", "_law_amount", "_law_step_here"] (defScope s_law_end)) {pos pos' : Pos} {e : Expr} {te : TE} (he : WE X e te) (hs : swapsWith e (some (.Name "_law_amount" pos')) pos.line X.env = pure false := by rfl) : WS X (.Assign [.Name "_law_amount" pos'] e pos) (tAsg te (gN 1)) := wxs c sc_law_end.nd rfl lk_law_end_1 he hs
theorem lk_law_end_2 : (defScope s_law_end).names.lookup ("_law_step_here" : Str) = some .local := by decide +kernel
theorem pv_law_end_2 {X : Cx} (c : CxIs X ["_law_steps", "_law_amount", "_law_step_here"] (defScope s_law_end)) {pos : Pos} : WE X (.Name "_law_step_here" pos) (tVar 2) := wxv c rfl lk_law_end_2 (by decide) (by decide)
theorem sg_law_end_2 {X : Cx} (c : CxIs X ["_law_steps", "_law_amount", "_law_step_here"] (defScope s_law_end)) {pos : Pos} : WG X (.Name "_law_step_here" pos) (gN 2) := wxt c sc_law_end.nd rfl lk_law_end_2
theorem gl_law_end_law_after {X : Cx} (c : CxIs X ["_law_steps", "_law_amount", "_law_step_here"] (defScope s_law_end)) : Gl X "_law_after" := xg c (by decide +kernel)
theorem st_law_end (v0 v1 : V) : L2.start ["_law_steps", "_law_amount", "_law_step_here"] [v0, v1] = [some v0, some v1, none] := rfl
noncomputable def sp_law_end (K : PySem.W.Frag) : Sp := fun vs H Q _ => ∃ (l : Addr) (as : List Addr) (sts : List StepD) (m : Int), vs = [.ref l, .int m] ∧ Chn K H l as sts ∧ Q (.int (endI sts m)) H
theorem body_law_end {X : Cx} (c : CxIs X ["_law_steps", "_law_amount", "_law_step_here"] (defScope s_law_end)) (hr : Room 2 X.A) {E : XK}  (C_law_after : Cal X.prog X.w X.K X.mg X.base "_law_after" 2 ["_law_step_here", "_law_amount"] (sp_law_after X.K)) {vs : List V} {H : Hp} {Q : VK} (h : sp_law_end X.K vs H Q E) : ∃ t, WSs X (defBody s_law_end) t ∧ t { nx := fun _ H' => Q .non H', rt := Q } (L2.start ["_law_steps", "_law_amount", "_law_step_here"] vs) H := by
  obtain ⟨f_law_after, d_law_after, G_law_after, b_law_after, k_law_after, m_law_after⟩ := C_law_after
  · obtain ⟨l, as, sts, m, rfl, hC, q⟩ := h
    refine ⟨_, (wss_cons (ws_for c.own c.calm (wi_list (pv_law_end_0 c)) (sg_law_end_2 c)
      (wss_one (ss_law_end_1 c (we_call (G_law_after.mono (by decide)) hr (gl_law_end_law_after c) m_law_after k_law_after b_law_after .nil pass0 (wa_cons (pv_law_end_2 c) (wa_cons (pv_law_end_1 c) wa_nil star_Name) star_Name)))))
      (wss_one (ws_ret (pv_law_end_1 c)))), ?_⟩
    rw [st_law_end]
    refine ⟨_, rfl, l, rfl, ⟨_, hC.lst⟩, for_list (K := X.K) (a := l) (xs := as.map V.ref) (fun i σ H' => H' = H ∧ ∃ v, σ = [some (.ref l), some (.int (endI (sts.take i) m)), v])
      ⟨rfl, _, rfl⟩ (fun i σ H' _ ⟨e, _⟩ => by rw [e]; exact hC.lst) ?_ ?_⟩
    · rintro i x σ H' hi ⟨rfl, v, rfl⟩ σ e
      obtain ⟨a, st, rfl, h1, h2, hT, hO⟩ := hC.get hi
      dsimp only [List.set] at e
      subst e
      refine ⟨_, rfl, _, rfl, a, st, _, rfl, hT, hO, fun σ e => ?_⟩
      dsimp only [List.set] at e
      subst e
      exact ⟨rfl, _, by rw [take_snoc h2, endI_snoc]⟩
    · rintro σ H' ⟨rfl, v, rfl⟩
      refine ⟨_, rfl, ?_⟩
      have e : sts.take (as.map V.ref).length = sts := by rw [List.length_map, hC.len, List.take_length]
      rw [e]
      exact q
theorem cal_law_end {P : Program} {w : World} {K : PySem.W.Frag} {mg : Str → Option Value} {base : Heap} {f : Addr} {fd : FuncData} (F : Fun K "_law_end" "_law_end" s_law_end f fd) (b : Binds K fd ["_law_steps", "_law_amount"] []) (m : mg "_law_end" = some (.ref f)) (C_law_after : Cal P w K mg base "_law_after" 2 ["_law_step_here", "_law_amount"] (sp_law_after K)) : Cal P w K mg base "_law_end" 3 ["_law_steps", "_law_amount"] (sp_law_end K) :=
  ⟨f, fd, F.ok sc_law_end (fun vs H Q E h => by first | (obtain ⟨_, rfl, _⟩ := h; rfl) | (obtain ⟨_, _, rfl, _⟩ := h; rfl) | (obtain ⟨_, _, _, rfl, _⟩ := h; rfl) | (obtain ⟨_, _, _, _, rfl, _⟩ := h; rfl) | (obtain ⟨_, _, _, _, _, rfl, _⟩ := h; rfl) | (obtain ⟨_, _, _, _, _, _, rfl, _⟩ := h; rfl) | (obtain ⟨_, _, _, _, _, _, _, rfl, _⟩ := h; rfl) | (obtain ⟨_, _, _, _, _, _, _, _, rfl, _⟩ := h; rfl) | (obtain ⟨_, _, _, _, _, _, _, _, _, rfl, _⟩ := h; rfl)) (fun cdv A outer s H vs Q E hr h => unW (body_law_end (X := (cxOf CX0 P w K mg base ["_law_steps", "_law_amount", "_law_step_here"] "_law_end" (defScope s_law_end) f cdv A outer s H E).nox) ⟨rfl, rfl, rfl, PassesOwn.never⟩ hr C_law_after h)), b, F.kp, m⟩
noncomputable def sp_after (K : PySem.W.Frag) : Sp := fun vs H Q _ => ∃ (a : Addr) (st : StepD) (m : Int), vs = [.ref a, .int m] ∧ SqT K H a st.vals ∧ st.Ok ∧ ∀ H', Same H H' → Q (.int (afterI st m)) H'
theorem cal_after {P : Program} {w : World} {K : PySem.W.Frag} {mg : Str → Option Value} {base : Heap} {f : Addr} {fd : FuncData} (F : Fun K "after" "after" s_after f fd) (b : Binds K fd ["step", "amount"] []) (m : mg "after" = some (.ref f)) (C_share : Cal P w K mg base "share" 3 ["step"] (sp_share K)) (C_rounded : Cal P w K mg base "rounded" 1 ["num", "den", "unit", "way"] (sp_rounded K)) : Cal P w K mg base "after" 4 ["step", "amount"] (sp_after K) := by
  obtain ⟨f_share, d_share, G_share, b_share, k_share, m_share⟩ := C_share
  obtain ⟨f_rounded, d_rounded, G_rounded, b_rounded, k_rounded, m_rounded⟩ := C_rounded
  refine ⟨f, fd, F.ok sc_after (fun vs H Q E h => ?_) (fun cdv A outer s H vs Q E hr h => ?_), b, F.kp, m⟩
  · first | (obtain ⟨_, rfl, _⟩ := h; rfl) | (obtain ⟨_, _, rfl, _⟩ := h; rfl) | (obtain ⟨_, _, _, rfl, _⟩ := h; rfl) | (obtain ⟨_, _, _, _, rfl, _⟩ := h; rfl) | (obtain ⟨_, _, _, _, _, rfl, _⟩ := h; rfl) | (obtain ⟨_, _, _, _, _, _, rfl, _⟩ := h; rfl) | (obtain ⟨_, _, _, _, _, _, _, rfl, _⟩ := h; rfl) | (obtain ⟨_, _, _, _, _, _, _, _, rfl, _⟩ := h; rfl) | (obtain ⟨_, _, _, _, _, _, _, _, _, rfl, _⟩ := h; rfl)
  · obtain ⟨a, st, m, rfl, hT, hO, q⟩ := h
    refine ⟨_, (pss_cons (ps_set (i := 2) sc_after.nd rfl (Or.inl rfl) (pe_ix ix_tup (pv 0) pe_int (fun _ _ => rfl)))
      (pss_cons (ps_set (i := 3) sc_after.nd rfl (Or.inl rfl) (pe_ix ix_tup (pv 0) pe_int (fun _ _ => rfl)))
      (pss_cons (ps_set (i := 4) sc_after.nd rfl (Or.inl rfl) (pe_ix ix_tup (pv 0) pe_int (fun _ _ => rfl)))
      (pss_cons (ps_set (i := 5) sc_after.nd rfl (Or.inl rfl) (pe_call (G_share.mono (by decide)) hr rfl m_share k_share b_share .nil pass0 (pa_cons (pv 0) pa_nil)))
      (pss_cons (ps_set (i := 6) sc_after.nd rfl (Or.inl rfl) (pe_op op_add (pe_op op_mulB (pv 1) (pe_ix ix_tup (pv 5) pe_int (fun _ _ => rfl))) (pe_op op_mulB (pv 2) (pe_ix ix_tup (pv 5) pe_int (fun _ _ => rfl)))))
      (pss_one (ps_ret (pe_call (G_rounded.mono (by decide)) hr rfl m_rounded k_rounded b_rounded .nil pass0 (pa_cons (pv 6) (pa_cons (pe_ix ix_tup (pv 5) pe_int (fun _ _ => rfl)) (pa_cons (pv 4) (pa_cons (pv 3) pa_nil)))))))))))), ?_⟩
    have n0 := hO.sn0
    have n1 := hO.sn1
    have d0 := hO.sd0
    have d1 := hO.sd1
    refine ⟨_, rfl, a, _, _, _, rfl, rfl, hT, rfl, ?_⟩
    refine ⟨_, rfl, a, _, _, _, rfl, rfl, hT, rfl, ?_⟩
    refine ⟨_, rfl, a, _, _, _, rfl, rfl, hT, rfl, ?_⟩
    refine ⟨_, rfl, _, st, rfl, hT, hO, fun p H' sH hP _ => ?_⟩
    refine ⟨_, rfl, _, rfl, p, _, _, _, rfl, rfl, hP, rfl, _, _, rfl, rfl, mul_r (by omega) (by omega), _, rfl, _, rfl, p, _, _, _, rfl, rfl, hP, rfl, _, _, rfl, rfl, mul_r (by omega) (by omega), _, _, rfl, rfl, ?_⟩
    exact ⟨_, rfl, _, rfl, p, _, _, _, rfl, rfl, hP, rfl, _, rfl, _, rfl, _, _, _, _, rfl, d0, by omega, hO.u0, hO.u1, q H' sH⟩
theorem lk_own_cycle_0 : (defScope s_own_cycle).names.lookup ("step" : Str) = some .local := by decide +kernel
theorem pv_own_cycle_0 {X : Cx} (c : CxIs X ["step", "unit", "part", "block", "divisor"] (defScope s_own_cycle)) {pos : Pos} : WE X (.Name "step" pos) (tVar 0) := wxv c rfl lk_own_cycle_0 (by decide) (by decide)
theorem lk_own_cycle_1 : (defScope s_own_cycle).names.lookup ("unit" : Str) = some .local := by decide +kernel
theorem pv_own_cycle_1 {X : Cx} (c : CxIs X ["step", "unit", "part", "block", "divisor"] (defScope s_own_cycle)) {pos : Pos} : WE X (.Name "unit" pos) (tVar 1) := wxv c rfl lk_own_cycle_1 (by decide) (by decide)
theorem ss_own_cycle_1 {X : Cx} (c : CxIs X ["step", "unit", "part", "block", "divisor"] (defScope s_own_cycle)) {pos pos' : Pos} {e : Expr} {te : TE} (he : WE X e te) (hs : swapsWith e (some (.Name "unit" pos')) pos.line X.env = pure false := by rfl) : WS X (.Assign [.Name "unit" pos'] e pos) (tAsg te (gN 1)) := wxs c sc_own_cycle.nd rfl lk_own_cycle_1 he hs
theorem lk_own_cycle_2 : (defScope s_own_cycle).names.lookup ("part" : Str) = some .local := by decide +kernel
theorem pv_own_cycle_2 {X : Cx} (c : CxIs X ["step", "unit", "part", "block", "divisor"] (defScope s_own_cycle)) {pos : Pos} : WE X (.Name "part" pos) (tVar 2) := wxv c rfl lk_own_cycle_2 (by decide) (by decide)
theorem ss_own_cycle_2 {X : Cx} (c : CxIs X ["step", "unit", "part", "block", "divisor"] (defScope s_own_cycle)) {pos pos' : Pos} {e : Expr} {te : TE} (he : WE X e te) (hs : swapsWith e (some (.Name "part" pos')) pos.line X.env = pure false := by rfl) : WS X (.Assign [.Name "part" pos'] e pos) (tAsg te (gN 2)) := wxs c sc_own_cycle.nd rfl lk_own_cycle_2 he hs
theorem lk_own_cycle_3 : (defScope s_own_cycle).names.lookup ("block" : Str) = some .local := by decide +kernel
theorem pv_own_cycle_3 {X : Cx} (c : CxIs X ["step", "unit", "part", "block", "divisor"] (defScope s_own_cycle)) {pos : Pos} : WE X (.Name "block" pos) (tVar 3) := wxv c rfl lk_own_cycle_3 (by decide) (by decide)
theorem ss_own_cycle_3 {X : Cx} (c : CxIs X ["step", "unit", "part", "block", "divisor"] (defScope s_own_cycle)) {pos pos' : Pos} {e : Expr} {te : TE} (he : WE X e te) (hs : swapsWith e (some (.Name "block" pos')) pos.line X.env = pure false := by rfl) : WS X (.Assign [.Name "block" pos'] e pos) (tAsg te (gN 3)) := wxs c sc_own_cycle.nd rfl lk_own_cycle_3 he hs
theorem lk_own_cycle_4 : (defScope s_own_cycle).names.lookup ("divisor" : Str) = some .local := by decide +kernel
theorem pv_own_cycle_4 {X : Cx} (c : CxIs X ["step", "unit", "part", "block", "divisor"] (defScope s_own_cycle)) {pos : Pos} : WE X (.Name "divisor" pos) (tVar 4) := wxv c rfl lk_own_cycle_4 (by decide) (by decide)
theorem ss_own_cycle_4 {X : Cx} (c : CxIs X ["step", "unit", "part", "block", "divisor"] (defScope s_own_cycle)) {pos pos' : Pos} {e : Expr} {te : TE} (he : WE X e te) (hs : swapsWith e (some (.Name "divisor" pos')) pos.line X.env = pure false := by rfl) : WS X (.Assign [.Name "divisor" pos'] e pos) (tAsg te (gN 4)) := wxs c sc_own_cycle.nd rfl lk_own_cycle_4 he hs
theorem gl_own_cycle_share {X : Cx} (c : CxIs X ["step", "unit", "part", "block", "divisor"] (defScope s_own_cycle)) : Gl X "share" := xg c (by decide +kernel)
theorem gl_own_cycle_common_divisor {X : Cx} (c : CxIs X ["step", "unit", "part", "block", "divisor"] (defScope s_own_cycle)) : Gl X "common_divisor" := xg c (by decide +kernel)
theorem st_own_cycle (v0 : V) : L2.start ["step", "unit", "part", "block", "divisor"] [v0] = [some v0, none, none, none, none] := rfl
theorem gcd_scale {x y g : Int} (hg : 0 < g) : ((Int.gcd (x * g) (y * g) : Nat) : Int) = ((Int.gcd x y : Nat) : Int) * g := by
  rw [Int.gcd_mul_right, Int.natCast_mul, Int.natAbs_of_nonneg (Int.le_of_lt hg)]
theorem own_block {st : StepD} (h : st.Ok) : st.sd * st.u / ((Int.gcd st.sn (st.sd * st.u) : Nat) : Int) = st.cyc := by
  have hg := h.g0
  have e : st.cg = ((Int.gcd st.sn (st.sd * st.u) : Nat) : Int) * st.g := by
    rw [← gcd_scale hg, st.gn, wide_g]; rfl
  show _ = st.wide / st.cg
  rw [e, show st.wide = st.sd * st.u * st.g from (wide_g st).symm]
  exact (Int.mul_ediv_mul_of_pos_left _ _ hg).symm
theorem own_rise {st : StepD} (h : st.Ok) : st.sn * st.u / ((Int.gcd st.sn (st.sd * st.u) : Nat) : Int) = st.kk * st.u := by
  have hg := h.g0
  have e : st.cg = ((Int.gcd st.sn (st.sd * st.u) : Nat) : Int) * st.g := by
    rw [← gcd_scale hg, st.gn, wide_g]; rfl
  have e2 : st.kk = st.sn / ((Int.gcd st.sn (st.sd * st.u) : Nat) : Int) := by
    show st.num / st.cg = _
    rw [e, show st.num = st.sn * st.g from st.gn.symm]
    exact Int.mul_ediv_mul_of_pos_left _ _ hg
  have d : ((Int.gcd st.sn (st.sd * st.u) : Nat) : Int) ∣ st.sn := Int.gcd_dvd_left _ _
  rw [e2, Int.mul_comm st.sn, Int.mul_ediv_assoc _ d, Int.mul_comm]
noncomputable def sp_own_cycle (K : PySem.W.Frag) : Sp := fun vs H Q _ => ∃ (a : Addr) (st : StepD), vs = [.ref a] ∧ SqT K H a st.vals ∧ st.Ok ∧ ∀ p H', Same H H' → SqT K H' p [.int st.cyc, .int (st.kk * st.u)] → Q (.ref p) H'
theorem body_own_cycle {X : Cx} (c : CxIs X ["step", "unit", "part", "block", "divisor"] (defScope s_own_cycle)) (hr : Room 3 X.A) {E : XK}  (C_share : Cal X.prog X.w X.K X.mg X.base "share" 3 ["step"] (sp_share X.K)) (C_common_divisor : Cal X.prog X.w X.K X.mg X.base "common_divisor" 1 ["one", "other"] (sp_common_divisor X.K)) {vs : List V} {H : Hp} {Q : VK} (h : sp_own_cycle X.K vs H Q E) : ∃ t, WSs X (defBody s_own_cycle) t ∧ t { nx := fun _ H' => Q .non H', rt := Q } (L2.start ["step", "unit", "part", "block", "divisor"] vs) H := by
  obtain ⟨f_share, d_share, G_share, b_share, k_share, m_share⟩ := C_share
  obtain ⟨f_common_divisor, d_common_divisor, G_common_divisor, b_common_divisor, k_common_divisor, m_common_divisor⟩ := C_common_divisor
  · obtain ⟨a, st, rfl, hT, hO, q⟩ := h
    refine ⟨_, (wss_cons (ss_own_cycle_1 c (we_ix ix_tup (pv_own_cycle_0 c) we_int plain_Constant))
      (wss_cons (ss_own_cycle_2 c (we_call (G_share.mono (by decide)) hr (gl_own_cycle_share c) m_share k_share b_share .nil pass0 (wa_cons (pv_own_cycle_0 c) wa_nil star_Name)))
      (wss_cons (ss_own_cycle_3 c (we_op op_mulB (we_ix ix_tup (pv_own_cycle_2 c) we_int plain_Constant) (pv_own_cycle_1 c)))
      (wss_cons (ss_own_cycle_4 c (we_call (G_common_divisor.mono (by decide)) hr (gl_own_cycle_common_divisor c) m_common_divisor k_common_divisor b_common_divisor .nil pass0 (wa_cons (we_ix ix_tup (pv_own_cycle_2 c) we_int plain_Constant) (wa_cons (pv_own_cycle_3 c) wa_nil star_Name) star_Subscript)))
      (wss_one (ws_ret (we_tupO (wa_cons (we_op op_fdivB (pv_own_cycle_3 c) (pv_own_cycle_4 c)) (wa_cons (we_op op_fdivB (we_op op_mulB (we_ix ix_tup (pv_own_cycle_2 c) we_int plain_Constant) (pv_own_cycle_1 c)) (pv_own_cycle_4 c)) wa_nil star_BinOp) star_BinOp)))))))), ?_⟩
    rw [st_own_cycle]
    have n0 := hO.sn0
    have n1 := hO.sn1
    have d0 := hO.sd0
    have d1 := hO.sd1
    have u0 := hO.u0
    have u1 := hO.u1
    have hB := su_pos hO
    have hB2 : st.sd * st.u ≤ st.sd * 100 := Int.mul_le_mul_of_nonneg_left u1 (by omega)
    have g0 := gcd_pos (x := st.sn) hB
    have g1 := gcd_le (x := st.sn) hB
    have mu : ∀ x, CMulB x st.u := fun x => mul_r (by omega) (by omega)
    have hd : CDivB 0 ((Int.gcd st.sn (st.sd * st.u) : Nat) : Int) := ⟨g0, by omega⟩
    refine ⟨_, rfl, a, _, _, _, rfl, rfl, hT, rfl, fun σ e => ?_⟩
    dsimp only [List.set] at e
    subst e
    refine ⟨_, rfl, a, st, rfl, hT, hO, fun p H' sH hP _ σ e => ?_⟩
    dsimp only [List.set] at e
    subst e
    refine ⟨_, rfl, p, _, _, _, rfl, rfl, hP, rfl, _, rfl, _, _, rfl, rfl, mu _, fun σ e => ?_⟩
    dsimp only [List.set] at e
    subst e
    refine ⟨_, rfl, p, _, _, _, rfl, rfl, hP, rfl, _, rfl, _, _, rfl, (by omega), (by omega), fun σ e => ?_⟩
    dsimp only [List.set] at e
    subst e
    refine ⟨_, rfl, _, rfl, _, _, rfl, rfl, hd, _, rfl, p, _, _, _, rfl, rfl, hP, rfl, _, rfl, _, _, rfl, rfl, mu _, _, rfl, _, _, rfl, rfl, hd, (small' (by show 2 ≤ 1000; decide)), fun p1 H1 _ s1 f1 => ?_⟩
    refine q p1 H1 (sH.trans s1) (SqT.of ?_)
    rw [f1, ← own_block hO, ← own_rise hO]
theorem cal_own_cycle {P : Program} {w : World} {K : PySem.W.Frag} {mg : Str → Option Value} {base : Heap} {f : Addr} {fd : FuncData} (F : Fun K "own_cycle" "own_cycle" s_own_cycle f fd) (b : Binds K fd ["step"] []) (m : mg "own_cycle" = some (.ref f)) (C_share : Cal P w K mg base "share" 3 ["step"] (sp_share K)) (C_common_divisor : Cal P w K mg base "common_divisor" 1 ["one", "other"] (sp_common_divisor K)) : Cal P w K mg base "own_cycle" 4 ["step"] (sp_own_cycle K) :=
  ⟨f, fd, F.ok sc_own_cycle (fun vs H Q E h => by first | (obtain ⟨_, rfl, _⟩ := h; rfl) | (obtain ⟨_, _, rfl, _⟩ := h; rfl) | (obtain ⟨_, _, _, rfl, _⟩ := h; rfl) | (obtain ⟨_, _, _, _, rfl, _⟩ := h; rfl) | (obtain ⟨_, _, _, _, _, rfl, _⟩ := h; rfl) | (obtain ⟨_, _, _, _, _, _, rfl, _⟩ := h; rfl) | (obtain ⟨_, _, _, _, _, _, _, rfl, _⟩ := h; rfl) | (obtain ⟨_, _, _, _, _, _, _, _, rfl, _⟩ := h; rfl) | (obtain ⟨_, _, _, _, _, _, _, _, _, rfl, _⟩ := h; rfl)) (fun cdv A outer s H vs Q E hr h => unW (body_own_cycle (X := (cxOf CX0 P w K mg base ["step", "unit", "part", "block", "divisor"] "own_cycle" (defScope s_own_cycle) f cdv A outer s H E).nox) ⟨rfl, rfl, rfl, PassesOwn.never⟩ hr C_share C_common_divisor h)), b, F.kp, m⟩
theorem lk_least_ahead_0 : (defScope s_least_ahead).names.lookup ("step" : Str) = some .local := by decide +kernel
theorem pv_least_ahead_0 {X : Cx} (c : CxIs X ["step", "amount", "pennies", "way", "unit", "part", "goal", "bound", "num", "den"] (defScope s_least_ahead)) {pos : Pos} : WE X (.Name "step" pos) (tVar 0) := wxv c rfl lk_least_ahead_0 (by decide) (by decide)
theorem lk_least_ahead_1 : (defScope s_least_ahead).names.lookup ("amount" : Str) = some .local := by decide +kernel
theorem pv_least_ahead_1 {X : Cx} (c : CxIs X ["step", "amount", "pennies", "way", "unit", "part", "goal", "bound", "num", "den"] (defScope s_least_ahead)) {pos : Pos} : WE X (.Name "amount" pos) (tVar 1) := wxv c rfl lk_least_ahead_1 (by decide) (by decide)
theorem lk_least_ahead_2 : (defScope s_least_ahead).names.lookup ("pennies" : Str) = some .local := by decide +kernel
theorem pv_least_ahead_2 {X : Cx} (c : CxIs X ["step", "amount", "pennies", "way", "unit", "part", "goal", "bound", "num", "den"] (defScope s_least_ahead)) {pos : Pos} : WE X (.Name "pennies" pos) (tVar 2) := wxv c rfl lk_least_ahead_2 (by decide) (by decide)
theorem ss_least_ahead_2 {X : Cx} (c : CxIs X ["step", "amount", "pennies", "way", "unit", "part", "goal", "bound", "num", "den"] (defScope s_least_ahead)) {pos pos' : Pos} {e : Expr} {te : TE} (he : WE X e te) (hs : swapsWith e (some (.Name "pennies" pos')) pos.line X.env = pure false := by rfl) : WS X (.Assign [.Name "pennies" pos'] e pos) (tAsg te (gN 2)) := wxs c sc_least_ahead.nd rfl lk_least_ahead_2 he hs
theorem lk_least_ahead_3 : (defScope s_least_ahead).names.lookup ("way" : Str) = some .local := by decide +kernel
theorem pv_least_ahead_3 {X : Cx} (c : CxIs X ["step", "amount", "pennies", "way", "unit", "part", "goal", "bound", "num", "den"] (defScope s_least_ahead)) {pos : Pos} : WE X (.Name "way" pos) (tVar 3) := wxv c rfl lk_least_ahead_3 (by decide) (by decide)
theorem ss_least_ahead_3 {X : Cx} (c : CxIs X ["step", "amount", "pennies", "way", "unit", "part", "goal", "bound", "num", "den"] (defScope s_least_ahead)) {pos pos' : Pos} {e : Expr} {te : TE} (he : WE X e te) (hs : swapsWith e (some (.Name "way" pos')) pos.line X.env = pure false := by rfl) : WS X (.Assign [.Name "way" pos'] e pos) (tAsg te (gN 3)) := wxs c sc_least_ahead.nd rfl lk_least_ahead_3 he hs
theorem lk_least_ahead_4 : (defScope s_least_ahead).names.lookup ("unit" : Str) = some .local := by decide +kernel
theorem pv_least_ahead_4 {X : Cx} (c : CxIs X ["step", "amount", "pennies", "way", "unit", "part", "goal", "bound", "num", "den"] (defScope s_least_ahead)) {pos : Pos} : WE X (.Name "unit" pos) (tVar 4) := wxv c rfl lk_least_ahead_4 (by decide) (by decide)
theorem ss_least_ahead_4 {X : Cx} (c : CxIs X ["step", "amount", "pennies", "way", "unit", "part", "goal", "bound", "num", "den"] (defScope s_least_ahead)) {pos pos' : Pos} {e : Expr} {te : TE} (he : WE X e te) (hs : swapsWith e (some (.Name "unit" pos')) pos.line X.env = pure false := by rfl) : WS X (.Assign [.Name "unit" pos'] e pos) (tAsg te (gN 4)) := wxs c sc_least_ahead.nd rfl lk_least_ahead_4 he hs
theorem lk_least_ahead_5 : (defScope s_least_ahead).names.lookup ("part" : Str) = some .local := by decide +kernel
theorem pv_least_ahead_5 {X : Cx} (c : CxIs X ["step", "amount", "pennies", "way", "unit", "part", "goal", "bound", "num", "den"] (defScope s_least_ahead)) {pos : Pos} : WE X (.Name "part" pos) (tVar 5) := wxv c rfl lk_least_ahead_5 (by decide) (by decide)
theorem ss_least_ahead_5 {X : Cx} (c : CxIs X ["step", "amount", "pennies", "way", "unit", "part", "goal", "bound", "num", "den"] (defScope s_least_ahead)) {pos pos' : Pos} {e : Expr} {te : TE} (he : WE X e te) (hs : swapsWith e (some (.Name "part" pos')) pos.line X.env = pure false := by rfl) : WS X (.Assign [.Name "part" pos'] e pos) (tAsg te (gN 5)) := wxs c sc_least_ahead.nd rfl lk_least_ahead_5 he hs
theorem lk_least_ahead_6 : (defScope s_least_ahead).names.lookup ("goal" : Str) = some .local := by decide +kernel
theorem pv_least_ahead_6 {X : Cx} (c : CxIs X ["step", "amount", "pennies", "way", "unit", "part", "goal", "bound", "num", "den"] (defScope s_least_ahead)) {pos : Pos} : WE X (.Name "goal" pos) (tVar 6) := wxv c rfl lk_least_ahead_6 (by decide) (by decide)
theorem ss_least_ahead_6 {X : Cx} (c : CxIs X ["step", "amount", "pennies", "way", "unit", "part", "goal", "bound", "num", "den"] (defScope s_least_ahead)) {pos pos' : Pos} {e : Expr} {te : TE} (he : WE X e te) (hs : swapsWith e (some (.Name "goal" pos')) pos.line X.env = pure false := by rfl) : WS X (.Assign [.Name "goal" pos'] e pos) (tAsg te (gN 6)) := wxs c sc_least_ahead.nd rfl lk_least_ahead_6 he hs
theorem lk_least_ahead_7 : (defScope s_least_ahead).names.lookup ("bound" : Str) = some .local := by decide +kernel
theorem pv_least_ahead_7 {X : Cx} (c : CxIs X ["step", "amount", "pennies", "way", "unit", "part", "goal", "bound", "num", "den"] (defScope s_least_ahead)) {pos : Pos} : WE X (.Name "bound" pos) (tVar 7) := wxv c rfl lk_least_ahead_7 (by decide) (by decide)
theorem ss_least_ahead_7 {X : Cx} (c : CxIs X ["step", "amount", "pennies", "way", "unit", "part", "goal", "bound", "num", "den"] (defScope s_least_ahead)) {pos pos' : Pos} {e : Expr} {te : TE} (he : WE X e te) (hs : swapsWith e (some (.Name "bound" pos')) pos.line X.env = pure false := by rfl) : WS X (.Assign [.Name "bound" pos'] e pos) (tAsg te (gN 7)) := wxs c sc_least_ahead.nd rfl lk_least_ahead_7 he hs
theorem lk_least_ahead_8 : (defScope s_least_ahead).names.lookup ("num" : Str) = some .local := by decide +kernel
theorem pv_least_ahead_8 {X : Cx} (c : CxIs X ["step", "amount", "pennies", "way", "unit", "part", "goal", "bound", "num", "den"] (defScope s_least_ahead)) {pos : Pos} : WE X (.Name "num" pos) (tVar 8) := wxv c rfl lk_least_ahead_8 (by decide) (by decide)
theorem ss_least_ahead_8 {X : Cx} (c : CxIs X ["step", "amount", "pennies", "way", "unit", "part", "goal", "bound", "num", "den"] (defScope s_least_ahead)) {pos pos' : Pos} {e : Expr} {te : TE} (he : WE X e te) (hs : swapsWith e (some (.Name "num" pos')) pos.line X.env = pure false := by rfl) : WS X (.Assign [.Name "num" pos'] e pos) (tAsg te (gN 8)) := wxs c sc_least_ahead.nd rfl lk_least_ahead_8 he hs
theorem lk_least_ahead_9 : (defScope s_least_ahead).names.lookup ("den" : Str) = some .local := by decide +kernel
theorem pv_least_ahead_9 {X : Cx} (c : CxIs X ["step", "amount", "pennies", "way", "unit", "part", "goal", "bound", "num", "den"] (defScope s_least_ahead)) {pos : Pos} : WE X (.Name "den" pos) (tVar 9) := wxv c rfl lk_least_ahead_9 (by decide) (by decide)
theorem ss_least_ahead_9 {X : Cx} (c : CxIs X ["step", "amount", "pennies", "way", "unit", "part", "goal", "bound", "num", "den"] (defScope s_least_ahead)) {pos pos' : Pos} {e : Expr} {te : TE} (he : WE X e te) (hs : swapsWith e (some (.Name "den" pos')) pos.line X.env = pure false := by rfl) : WS X (.Assign [.Name "den" pos'] e pos) (tAsg te (gN 9)) := wxs c sc_least_ahead.nd rfl lk_least_ahead_9 he hs
theorem gl_least_ahead_share {X : Cx} (c : CxIs X ["step", "amount", "pennies", "way", "unit", "part", "goal", "bound", "num", "den"] (defScope s_least_ahead)) : Gl X "share" := xg c (by decide +kernel)
theorem gl_least_ahead_rounded {X : Cx} (c : CxIs X ["step", "amount", "pennies", "way", "unit", "part", "goal", "bound", "num", "den"] (defScope s_least_ahead)) : Gl X "rounded" := xg c (by decide +kernel)
theorem gl_least_ahead_max {X : Cx} (c : CxIs X ["step", "amount", "pennies", "way", "unit", "part", "goal", "bound", "num", "den"] (defScope s_least_ahead)) : Gl X "max" := xg c (by decide +kernel)
theorem st_least_ahead (v0 v1 : V) : L2.start ["step", "amount", "pennies", "way", "unit", "part", "goal", "bound", "num", "den"] [v0, v1] = [some v0, some v1, none, none, none, none, none, none, none, none] := rfl
noncomputable def sp_least_ahead (K : PySem.W.Frag) : Sp := fun vs H Q _ => ∃ (a : Addr) (st : StepD) (en : Int), vs = [.ref a, .int en] ∧ SqT K H a st.vals ∧ st.Ok ∧ ∀ m H', Same H H' → 0 ≤ m → (∀ q, 0 ≤ q → (en ≤ afterI st q ↔ m ≤ q)) → Q (.int m) H'
theorem body_least_ahead {X : Cx} (c : CxIs X ["step", "amount", "pennies", "way", "unit", "part", "goal", "bound", "num", "den"] (defScope s_least_ahead)) (hr : Room 3 X.A) {E : XK}  (z_max : X.mg "max" = none) (C_share : Cal X.prog X.w X.K X.mg X.base "share" 3 ["step"] (sp_share X.K)) (C_rounded : Cal X.prog X.w X.K X.mg X.base "rounded" 1 ["num", "den", "unit", "way"] (sp_rounded X.K)) {vs : List V} {H : Hp} {Q : VK} (h : sp_least_ahead X.K vs H Q E) : ∃ t, WSs X (defBody s_least_ahead) t ∧ t { nx := fun _ H' => Q .non H', rt := Q } (L2.start ["step", "amount", "pennies", "way", "unit", "part", "goal", "bound", "num", "den"] vs) H := by
  obtain ⟨f_share, d_share, G_share, b_share, k_share, m_share⟩ := C_share
  obtain ⟨f_rounded, d_rounded, G_rounded, b_rounded, k_rounded, m_rounded⟩ := C_rounded
  · obtain ⟨a, st, en, rfl, hT, hO, q⟩ := h
    refine ⟨_, (wss_cons (ss_least_ahead_2 c (we_ix ix_tup (pv_least_ahead_0 c) we_int plain_Constant))
      (wss_cons (ss_least_ahead_3 c (we_ix ix_tup (pv_least_ahead_0 c) we_int plain_Constant))
      (wss_cons (ss_least_ahead_4 c (we_ix ix_tup (pv_least_ahead_0 c) we_int plain_Constant))
      (wss_cons (ss_least_ahead_5 c (we_call (G_share.mono (by decide)) hr (gl_least_ahead_share c) m_share k_share b_share .nil pass0 (wa_cons (pv_least_ahead_0 c) wa_nil star_Name)))
      (wss_cons (ss_least_ahead_6 c (we_call (G_rounded.mono (by decide)) hr (gl_least_ahead_rounded c) m_rounded k_rounded b_rounded .nil pass0 (wa_cons (pv_least_ahead_1 c) (wa_cons we_int (wa_cons (pv_least_ahead_4 c) (wa_cons we_str wa_nil star_Constant) star_Name) star_Constant) star_Name)))
      (wss_cons (ss_least_ahead_7 c (we_op op_mulB we_int (pv_least_ahead_6 c)))
      (wss_cons (ws_if (wt_cmpR op_eq (pv_least_ahead_3 c) we_str (nomark _))
      (wss_one (ss_least_ahead_7 c (we_op op_sub (we_op op_mulB we_int (pv_least_ahead_6 c)) (pv_least_ahead_4 c))))
      wss_nil)
      (wss_cons (ws_if (wt_cmpR op_eq (pv_least_ahead_3 c) we_str (nomark _))
      (wss_one (ss_least_ahead_7 c (we_op op_sub (we_op op_mulB we_int (pv_least_ahead_6 c)) (we_op op_mulB we_int (pv_least_ahead_4 c)))))
      wss_nil)
      (wss_cons (ss_least_ahead_8 c (we_op op_mulB (we_op op_sub (pv_least_ahead_7 c) (we_op op_mulB we_int (pv_least_ahead_2 c))) (we_ix ix_tup (pv_least_ahead_5 c) we_int plain_Constant)))
      (wss_cons (ss_least_ahead_9 c (we_op op_mulB we_int (we_ix ix_tup (pv_least_ahead_5 c) we_int plain_Constant)))
      (wss_cons (ws_if (wt_cmpR op_eq (pv_least_ahead_3 c) we_str (nomark _))
      (wss_one (ws_ret (we_callB (call_max2 c.calm) (gl_least_ahead_max c) z_max boot_max (wa_cons (we_op op_add (we_op op_fdivB (pv_least_ahead_8 c) (pv_least_ahead_9 c)) we_int) (wa_cons we_int wa_nil star_Constant) star_BinOp))))
      wss_nil)
      (wss_one (ws_ret (we_callB (call_max2 c.calm) (gl_least_ahead_max c) z_max boot_max (wa_cons (we_op op_fdivB (we_op op_sub (we_op op_add (pv_least_ahead_8 c) (pv_least_ahead_9 c)) we_int) (pv_least_ahead_9 c)) (wa_cons we_int wa_nil star_Constant) star_BinOp))))))))))))))), ?_⟩
    rw [st_least_ahead]
    have n0 := hO.sn0
    have n1 := hO.sn1
    have d0 := hO.sd0
    have d1 := hO.sd1
    have u0 := hO.u0
    have u1 := hO.u1
    refine ⟨_, rfl, a, _, _, _, rfl, rfl, hT, rfl, fun σ e => ?_⟩
    dsimp only [List.set] at e
    subst e
    refine ⟨_, rfl, a, _, _, _, rfl, rfl, hT, rfl, fun σ e => ?_⟩
    dsimp only [List.set] at e
    subst e
    refine ⟨_, rfl, a, _, _, _, rfl, rfl, hT, rfl, fun σ e => ?_⟩
    dsimp only [List.set] at e
    subst e
    refine ⟨_, rfl, a, st, rfl, hT, hO, fun p H1 s1 hP _ σ e => ?_⟩
    dsimp only [List.set] at e
    subst e
    refine ⟨_, rfl, _, rfl, _, _, _, _, rfl, by omega, by omega, u0, u1, fun σ e => ?_⟩
    dsimp only [List.set] at e
    subst e
    refine ⟨_, rfl, _, _, rfl, rfl, mul_l (by decide) (by decide), fun σ e => ?_⟩
    dsimp only [List.set] at e
    subst e
    try dsimp only
    refine seq_gen (fun σ H' => H' = H1 ∧ ∃ bd, (st.y = "near" → bd = 2 * roundI en 1 st.u "up" - st.u) ∧ (st.y = "down" → bd = 2 * roundI en 1 st.u "up") ∧ σ = [some (.ref a), some (.int en), some (.int st.p), some (.str st.y), some (.int st.u), some (.ref p), some (.int (roundI en 1 st.u "up")), some (.int bd), none, none]) ?rest1 ?st1
    case st1 =>
      intro R hR
      refine ⟨_, rfl, rfl, _, rfl, ?_⟩
      refine if2 (fun c => ?_) (fun c => ?_)
      · have y := V.str.inj c
        refine ⟨_, rfl, _, _, rfl, rfl, mul_l (by decide) (by decide), _, rfl, _, _, rfl, rfl, fun σ e => ?_⟩
        dsimp only [List.set] at e
        subst e
        exact hR _ _ ⟨rfl, _, fun _ => rfl, fun z => by rw [y] at z; exact absurd z (by decide), rfl⟩
      · exact hR _ _ ⟨rfl, _, fun z => (c (by rw [z])).elim, fun _ => rfl, rfl⟩
    rintro σ H2 ⟨rfl, bd, b1, b2, rfl⟩
    try dsimp only
    refine seq_gen (fun σ H' => H' = H2 ∧ σ = [some (.ref a), some (.int en), some (.int st.p), some (.str st.y), some (.int st.u), some (.ref p), some (.int (roundI en 1 st.u "up")), some (.int (boundI st en)), none, none]) ?rest2 ?st2
    case st2 =>
      intro R hR
      refine ⟨_, rfl, rfl, _, rfl, ?_⟩
      refine if2 (fun c => ?_) (fun c => ?_)
      · have y := V.str.inj c
        refine ⟨_, rfl, _, _, rfl, rfl, mul_l (by decide) (by decide), _, rfl, _, _, rfl, rfl, mul_l (by decide) (by decide), _, _, rfl, rfl, fun σ e => ?_⟩
        dsimp only [List.set] at e
        subst e
        exact hR _ _ ⟨rfl, by unfold boundI; rw [if_pos y]⟩
      · have y : ¬ st.y = "up" := fun z => c (by rw [z])
        refine hR _ _ ⟨rfl, ?_⟩
        have eb : bd = boundI st en := by
          unfold boundI
          rw [if_neg y]
          split
          · rename_i h; exact b1 h
          · rename_i h
            rcases hO.y with z | z | z
            · exact b2 z
            · exact (y z).elim
            · exact (h z).elim
        rw [eb]
    rintro σ H2 ⟨rfl, rfl⟩
    refine ⟨_, rfl, _, rfl, _, _, rfl, rfl, mul_l (by decide) (by decide), _, _, rfl, rfl, _, rfl, p, _, _, _, rfl, rfl, hP, rfl, _, _, rfl, rfl, mul_r (by omega) (by omega), fun σ e => ?_⟩
    dsimp only [List.set] at e
    subst e
    refine ⟨_, rfl, p, _, _, _, rfl, rfl, hP, rfl, _, _, rfl, rfl, mul_l (by decide) (by decide), fun σ e => ?_⟩
    dsimp only [List.set] at e
    subst e
    have den0 : 0 < 2 * st.sn := by omega
    refine ⟨_, rfl, rfl, _, rfl, ?_⟩
    refine if2 (fun c => ?_) (fun c => ?_)
    · have y := V.str.inj c
      refine ⟨_, rfl, _, rfl, _, _, rfl, rfl, ⟨by omega, by omega⟩, _, _, rfl, rfl, _, _, rfl, ?_⟩
      dsimp only
      refine gen_max (R := fun z => Q (.int z) H2) fun z z0 z1 z2 => q z H2 s1 z1 fun q' q0 => ?_
      rw [step_reach_up hO y, ← floor_lt den0]
      omega
    · have y : ¬ st.y = "up" := fun z => c (by rw [z])
      refine ⟨_, rfl, _, rfl, _, _, rfl, rfl, _, _, rfl, rfl, _, rfl, _, _, rfl, rfl, ⟨by omega, by omega⟩, _, _, rfl, ?_⟩
      dsimp only
      refine gen_max (R := fun z => Q (.int z) H2) fun z z0 z1 z2 => q z H2 s1 z1 fun q' q0 => ?_
      rw [step_reach hO y, ← ceil_le den0]
      omega
theorem cal_least_ahead {P : Program} {w : World} {K : PySem.W.Frag} {mg : Str → Option Value} {base : Heap} {f : Addr} {fd : FuncData} (F : Fun K "least_ahead" "least_ahead" s_least_ahead f fd) (b : Binds K fd ["step", "amount"] []) (m : mg "least_ahead" = some (.ref f)) (z_max : mg "max" = none) (C_share : Cal P w K mg base "share" 3 ["step"] (sp_share K)) (C_rounded : Cal P w K mg base "rounded" 1 ["num", "den", "unit", "way"] (sp_rounded K)) : Cal P w K mg base "least_ahead" 4 ["step", "amount"] (sp_least_ahead K) :=
  ⟨f, fd, F.ok sc_least_ahead (fun vs H Q E h => by first | (obtain ⟨_, rfl, _⟩ := h; rfl) | (obtain ⟨_, _, rfl, _⟩ := h; rfl) | (obtain ⟨_, _, _, rfl, _⟩ := h; rfl) | (obtain ⟨_, _, _, _, rfl, _⟩ := h; rfl) | (obtain ⟨_, _, _, _, _, rfl, _⟩ := h; rfl) | (obtain ⟨_, _, _, _, _, _, rfl, _⟩ := h; rfl) | (obtain ⟨_, _, _, _, _, _, _, rfl, _⟩ := h; rfl) | (obtain ⟨_, _, _, _, _, _, _, _, rfl, _⟩ := h; rfl) | (obtain ⟨_, _, _, _, _, _, _, _, _, rfl, _⟩ := h; rfl)) (fun cdv A outer s H vs Q E hr h => unW (body_least_ahead (X := (cxOf CX0 P w K mg base ["step", "amount", "pennies", "way", "unit", "part", "goal", "bound", "num", "den"] "least_ahead" (defScope s_least_ahead) f cdv A outer s H E).nox) ⟨rfl, rfl, rfl, PassesOwn.never⟩ hr z_max C_share C_rounded h)), b, F.kp, m⟩
theorem lk_law_chain_0 : (defScope s_law_chain).names.lookup ("_law_script" : Str) = some .local := by decide +kernel
theorem pv_law_chain_0 {X : Cx} (c : CxIs X ["_law_script", "_law_base", "_law_many", "_law_limit", "_law_size", "_law_steps", "_law_k", "_law_cell", "_law_step_here"] (defScope s_law_chain)) {pos : Pos} : WE X (.Name "_law_script" pos) (tVar 0) := wxv c rfl lk_law_chain_0 (by decide) (by decide)
theorem lk_law_chain_1 : (defScope s_law_chain).names.lookup ("_law_base" : Str) = some .local := by decide +kernel
theorem pv_law_chain_1 {X : Cx} (c : CxIs X ["_law_script", "_law_base", "_law_many", "_law_limit", "_law_size", "_law_steps", "_law_k", "_law_cell", "_law_step_here"] (defScope s_law_chain)) {pos : Pos} : WE X (.Name "_law_base" pos) (tVar 1) := wxv c rfl lk_law_chain_1 (by decide) (by decide)
theorem lk_law_chain_2 : (defScope s_law_chain).names.lookup ("_law_many" : Str) = some .local := by decide +kernel
theorem pv_law_chain_2 {X : Cx} (c : CxIs X ["_law_script", "_law_base", "_law_many", "_law_limit", "_law_size", "_law_steps", "_law_k", "_law_cell", "_law_step_here"] (defScope s_law_chain)) {pos : Pos} : WE X (.Name "_law_many" pos) (tVar 2) := wxv c rfl lk_law_chain_2 (by decide) (by decide)
theorem lk_law_chain_3 : (defScope s_law_chain).names.lookup ("_law_limit" : Str) = some .local := by decide +kernel
theorem pv_law_chain_3 {X : Cx} (c : CxIs X ["_law_script", "_law_base", "_law_many", "_law_limit", "_law_size", "_law_steps", "_law_k", "_law_cell", "_law_step_here"] (defScope s_law_chain)) {pos : Pos} : WE X (.Name "_law_limit" pos) (tVar 3) := wxv c rfl lk_law_chain_3 (by decide) (by decide)
theorem lk_law_chain_4 : (defScope s_law_chain).names.lookup ("_law_size" : Str) = some .local := by decide +kernel
theorem pv_law_chain_4 {X : Cx} (c : CxIs X ["_law_script", "_law_base", "_law_many", "_law_limit", "_law_size", "_law_steps", "_law_k", "_law_cell", "_law_step_here"] (defScope s_law_chain)) {pos : Pos} : WE X (.Name "_law_size" pos) (tVar 4) := wxv c rfl lk_law_chain_4 (by decide) (by decide)
theorem ss_law_chain_4 {X : Cx} (c : CxIs X ["_law_script", "_law_base", "_law_many", "_law_limit", "_law_size", "_law_steps", "_law_k", "_law_cell", "_law_step_here"] (defScope s_law_chain)) {pos pos' : Pos} {e : Expr} {te : TE} (he : WE X e te) (hs : swapsWith e (some (.Name "_law_size" pos')) pos.line X.env = pure false := by rfl) : WS X (.Assign [.Name "_law_size" pos'] e pos) (tAsg te (gN 4)) := wxs c sc_law_chain.nd rfl lk_law_chain_4 he hs
theorem lk_law_chain_5 : (defScope s_law_chain).names.lookup ("_law_steps" : Str) = some .local := by decide +kernel
theorem pv_law_chain_5 {X : Cx} (c : CxIs X ["_law_script", "_law_base", "_law_many", "_law_limit", "_law_size", "_law_steps", "_law_k", "_law_cell", "_law_step_here"] (defScope s_law_chain)) {pos : Pos} : WE X (.Name "_law_steps" pos) (tVar 5) := wxv c rfl lk_law_chain_5 (by decide) (by decide)
theorem ss_law_chain_5 {X : Cx} (c : CxIs X ["_law_script", "_law_base", "_law_many", "_law_limit", "_law_size", "_law_steps", "_law_k", "_law_cell", "_law_step_here"] (defScope s_law_chain)) {pos pos' : Pos} {e : Expr} {te : TE} (he : WE X e te) (hs : swapsWith e (some (.Name "_law_steps" pos')) pos.line X.env = pure false := by rfl) : WS X (.Assign [.Name "_law_steps" pos'] e pos) (tAsg te (gN 5)) := wxs c sc_law_chain.nd rfl lk_law_chain_5 he hs
theorem lk_law_chain_6 : (defScope s_law_chain).names.lookup ("_law_k" : Str) = some .local := by decide +kernel
theorem pv_law_chain_6 {X : Cx} (c : CxIs X ["_law_script", "_law_base", "_law_many", "_law_limit", "_law_size", "_law_steps", "_law_k", "_law_cell", "_law_step_here"] (defScope s_law_chain)) {pos : Pos} : WE X (.Name "_law_k" pos) (tVar 6) := wxv c rfl lk_law_chain_6 (by decide) (by decide)
theorem sg_law_chain_6 {X : Cx} (c : CxIs X ["_law_script", "_law_base", "_law_many", "_law_limit", "_law_size", "_law_steps", "_law_k", "_law_cell", "_law_step_here"] (defScope s_law_chain)) {pos : Pos} : WG X (.Name "_law_k" pos) (gN 6) := wxt c sc_law_chain.nd rfl lk_law_chain_6
theorem lk_law_chain_7 : (defScope s_law_chain).names.lookup ("_law_cell" : Str) = some .local := by decide +kernel
theorem pv_law_chain_7 {X : Cx} (c : CxIs X ["_law_script", "_law_base", "_law_many", "_law_limit", "_law_size", "_law_steps", "_law_k", "_law_cell", "_law_step_here"] (defScope s_law_chain)) {pos : Pos} : WE X (.Name "_law_cell" pos) (tVar 7) := wxv c rfl lk_law_chain_7 (by decide) (by decide)
theorem ss_law_chain_7 {X : Cx} (c : CxIs X ["_law_script", "_law_base", "_law_many", "_law_limit", "_law_size", "_law_steps", "_law_k", "_law_cell", "_law_step_here"] (defScope s_law_chain)) {pos pos' : Pos} {e : Expr} {te : TE} (he : WE X e te) (hs : swapsWith e (some (.Name "_law_cell" pos')) pos.line X.env = pure false := by rfl) : WS X (.Assign [.Name "_law_cell" pos'] e pos) (tAsg te (gN 7)) := wxs c sc_law_chain.nd rfl lk_law_chain_7 he hs
theorem lk_law_chain_8 : (defScope s_law_chain).names.lookup ("_law_step_here" : Str) = some .local := by decide +kernel
theorem pv_law_chain_8 {X : Cx} (c : CxIs X ["_law_script", "_law_base", "_law_many", "_law_limit", "_law_size", "_law_steps", "_law_k", "_law_cell", "_law_step_here"] (defScope s_law_chain)) {pos : Pos} : WE X (.Name "_law_step_here" pos) (tVar 8) := wxv c rfl lk_law_chain_8 (by decide) (by decide)
theorem ss_law_chain_8 {X : Cx} (c : CxIs X ["_law_script", "_law_base", "_law_many", "_law_limit", "_law_size", "_law_steps", "_law_k", "_law_cell", "_law_step_here"] (defScope s_law_chain)) {pos pos' : Pos} {e : Expr} {te : TE} (he : WE X e te) (hs : swapsWith e (some (.Name "_law_step_here" pos')) pos.line X.env = pure false := by rfl) : WS X (.Assign [.Name "_law_step_here" pos'] e pos) (tAsg te (gN 8)) := wxs c sc_law_chain.nd rfl lk_law_chain_8 he hs
theorem gl_law_chain_law_draw {X : Cx} (c : CxIs X ["_law_script", "_law_base", "_law_many", "_law_limit", "_law_size", "_law_steps", "_law_k", "_law_cell", "_law_step_here"] (defScope s_law_chain)) : Gl X "_law_draw" := xg c (by decide +kernel)
theorem gl_law_chain_law_step {X : Cx} (c : CxIs X ["_law_script", "_law_base", "_law_many", "_law_limit", "_law_size", "_law_steps", "_law_k", "_law_cell", "_law_step_here"] (defScope s_law_chain)) : Gl X "_law_step" := xg c (by decide +kernel)
theorem gl_law_chain_law_at {X : Cx} (c : CxIs X ["_law_script", "_law_base", "_law_many", "_law_limit", "_law_size", "_law_steps", "_law_k", "_law_cell", "_law_step_here"] (defScope s_law_chain)) : Gl X "_law_at" := xg c (by decide +kernel)
theorem gl_law_chain_law_product {X : Cx} (c : CxIs X ["_law_script", "_law_base", "_law_many", "_law_limit", "_law_size", "_law_steps", "_law_k", "_law_cell", "_law_step_here"] (defScope s_law_chain)) : Gl X "_law_product" := xg c (by decide +kernel)
theorem gl_law_chain_range {X : Cx} (c : CxIs X ["_law_script", "_law_base", "_law_many", "_law_limit", "_law_size", "_law_steps", "_law_k", "_law_cell", "_law_step_here"] (defScope s_law_chain)) : Gl X "range" := xg c (by decide +kernel)
theorem gl_law_chain_min {X : Cx} (c : CxIs X ["_law_script", "_law_base", "_law_many", "_law_limit", "_law_size", "_law_steps", "_law_k", "_law_cell", "_law_step_here"] (defScope s_law_chain)) : Gl X "min" := xg c (by decide +kernel)
theorem st_law_chain (v0 v1 v2 v3 : V) : L2.start ["_law_script", "_law_base", "_law_many", "_law_limit", "_law_size", "_law_steps", "_law_k", "_law_cell", "_law_step_here"] [v0, v1, v2, v3] = [some v0, some v1, some v2, some v3, none, none, none, none, none] := rfl
noncomputable def sp_law_chain (K : PySem.W.Frag) : Sp := fun vs H Q _ => ∃ (a : Addr) (ns : List Int) (bs many lim : Int), vs = [.ref a, .int bs, .int many, .int lim] ∧ SqL K H a (ns.map V.int) ∧ 0 ≤ bs ∧ bs ≤ 500 ∧ 0 ≤ many ∧ many ≤ 60 ∧ 1 ≤ lim ∧
  ∀ (l : Addr) (as : List Addr) (sts : List StepD) (H' : Hp), Same H H' → H l = none → H' l = some (.lst (as.map V.ref)) → Chn K H' l as sts → (sts.length : Int) ≤ many → prodI sts ≤ lim → Q (.ref l) H'
theorem body_law_chain {X : Cx} (c : CxIs X ["_law_script", "_law_base", "_law_many", "_law_limit", "_law_size", "_law_steps", "_law_k", "_law_cell", "_law_step_here"] (defScope s_law_chain)) (hr : Room 3 X.A) {E : XK}  (z_range : X.mg "range" = none) (z_min : X.mg "min" = none) (C_law_draw : Cal X.prog X.w X.K X.mg X.base "_law_draw" 2 ["_law_script", "_law_k"] (sp_law_draw X.K)) (C_law_step : Cal X.prog X.w X.K X.mg X.base "_law_step" 1 ["_law_cell", "_law_size"] (sp_law_step X.K)) (C_law_at : Cal X.prog X.w X.K X.mg X.base "_law_at" 1 ["_law_script", "_law_k"] (sp_law_at X.K)) (C_law_product : Cal X.prog X.w X.K X.mg X.base "_law_product" 3 ["_law_steps"] (sp_law_product X.K)) {vs : List V} {H : Hp} {Q : VK} (h : sp_law_chain X.K vs H Q E) : ∃ t, WSs X (defBody s_law_chain) t ∧ t { nx := fun _ H' => Q .non H', rt := Q } (L2.start ["_law_script", "_law_base", "_law_many", "_law_limit", "_law_size", "_law_steps", "_law_k", "_law_cell", "_law_step_here"] vs) H := by
  obtain ⟨f_law_draw, d_law_draw, G_law_draw, b_law_draw, k_law_draw, m_law_draw⟩ := C_law_draw
  obtain ⟨f_law_step, d_law_step, G_law_step, b_law_step, k_law_step, m_law_step⟩ := C_law_step
  obtain ⟨f_law_at, d_law_at, G_law_at, b_law_at, k_law_at, m_law_at⟩ := C_law_at
  obtain ⟨f_law_product, d_law_product, G_law_product, b_law_product, k_law_product, m_law_product⟩ := C_law_product
  · obtain ⟨a, ns, bs, many, lim, rfl, hS, b0, b1, m0, m1, l0, q⟩ := h
    refine ⟨_, (wss_cons (ss_law_chain_4 c (we_op op_mod (we_op op_fdivB (we_call (G_law_at.mono (by decide)) hr (gl_law_chain_law_at c) m_law_at k_law_at b_law_at .nil pass0 (wa_cons (pv_law_chain_0 c) (wa_cons we_int wa_nil star_Constant) star_Name)) we_int) we_int))
      (wss_cons (ss_law_chain_5 c (we_lstO wa_nil))
      (wss_cons (ws_for c.own c.calm (wi_range1 (gl_law_chain_range c) z_range (wa_cons (pv_law_chain_2 c) wa_nil star_Name)) (sg_law_chain_6 c)
      (wss_cons (ss_law_chain_7 c (we_call (G_law_draw.mono (by decide)) hr (gl_law_chain_law_draw c) m_law_draw k_law_draw b_law_draw .nil pass0 (wa_cons (pv_law_chain_0 c) (wa_cons (we_op op_add (pv_law_chain_1 c) (pv_law_chain_6 c)) wa_nil star_BinOp) star_Name)))
      (wss_cons (ss_law_chain_8 c (we_call (G_law_step.mono (by decide)) hr (gl_law_chain_law_step c) m_law_step k_law_step b_law_step .nil pass0 (wa_cons (we_op op_fdivB (pv_law_chain_7 c) we_int) (wa_cons (we_callB (call_min2 c.calm) (gl_law_chain_min c) z_min boot_min (wa_cons (pv_law_chain_4 c) (wa_cons (we_op op_mod (pv_law_chain_7 c) we_int) wa_nil star_BinOp) star_Name)) wa_nil star_Call) star_BinOp)))
      (wss_one (ws_if (wt_cmpR op_le (we_call (G_law_product.mono (by decide)) hr (gl_law_chain_law_product c) m_law_product k_law_product b_law_product .nil pass0 (wa_cons (we_op op_cat (pv_law_chain_5 c) (we_lstO (wa_cons (pv_law_chain_8 c) wa_nil star_Name))) wa_nil star_BinOp)) (pv_law_chain_3 c) (nomark _))
      (wss_one (ws_expr (we_bm PySem.F.plainAttrs_list PySem.F.slot_list_append PySem.F.type_list_append mt_append (pv_law_chain_5 c) (wa_cons (pv_law_chain_8 c) wa_nil star_Name))))
      wss_nil)))))
      (wss_one (ws_ret (pv_law_chain_5 c)))))), ?_⟩
    rw [st_law_chain]
    refine ⟨_, rfl, a, ns, _, rfl, hS, by decide, _, _, rfl, rfl, ⟨by decide, by decide +kernel⟩, _, _, rfl, rfl, (by decide : (0 : Int) < 4), fun σ e => ?_⟩
    dsimp only [List.set] at e
    have z0 := md0 (x := cell ns 0 / 2) (n := 4) (by decide)
    have z1 := md1 (x := cell ns 0 / 2) (n := 4) (by decide)
    generalize cell ns 0 / 2 % 4 = size at e z0 z1
    subst e
    refine ⟨(small' (by decide)), fun p1 H1 n1 s1 f1 σ e => ?_⟩
    dsimp only [List.set] at e
    subst e
    refine ⟨_, rfl, _, rfl, (by omega), (by omega), for_range (fun i σ H' => ∃ (as : List Addr) (sts : List StepD) (v1 v2 v3 : Option V), σ = [some (.ref a), some (.int bs), some (.int many), some (.int lim), some (.int size), some (.ref p1), v1, v2, v3] ∧
        Same H H' ∧ H' p1 = some (.lst (as.map V.ref)) ∧ Chn X.K H' p1 as sts ∧ sts.length ≤ i ∧ prodI sts ≤ lim)
      ⟨[], [], _, _, _, rfl, s1, f1, ⟨SqL.of f1, rfl, fun i a st h => by simp at h, fun st h => by simp at h⟩, Nat.le_refl _, l0⟩ ?_ ?_⟩
    · rintro i σ H0 hi ⟨as, sts, v1, v2, v3, rfl, s0, f0, hC, hn, hp⟩ σ e
      dsimp only [List.set] at e
      subst e
      have hi' : (i : Int) < many := by omega
      refine ⟨_, rfl, _, rfl, _, rfl, _, _, rfl, rfl, a, ns, _, rfl, s0.seq hS, (by omega), (by omega), fun σ e => ?_⟩
      dsimp only [List.set] at e
      generalize drawAt ns (bs + (0 + (i : Int))) = cl at e
      subst e
      refine ⟨_, rfl, _, _, rfl, rfl, ⟨by decide, by decide +kernel⟩, _, rfl, _, rfl, _, _, rfl, rfl, (by decide : (0 : Int) < 4), _, _, rfl, _, _, rfl, ?_, ?_, fun p st H2 s2 hT hO σ e => ?_⟩
      · have := md0 (x := cl) (n := 4) (by decide)
        split <;> omega
      · have := md1 (x := cl) (n := 4) (by decide)
        split <;> omega
      dsimp only [List.set] at e
      subst e
      refine ⟨_, rfl, _, rfl, (small' (by show 1 ≤ 1000; decide)), fun p3 H3 n3 s3 f3 => ?_⟩
      have hC3 := hC.same (s2.trans s3)
      have f3' := (s2.trans s3) _ _ f0
      have hlen : (as.map V.ref).length = sts.length := by rw [List.length_map, hC.len]
      refine ⟨p1, p3, _, _, rfl, rfl, f3', f3, ?_, fun p4 n4 => ?_⟩
      · refine small' ?_
        rw [hlen]; show sts.length + 1 ≤ 1000; omega
      have s4 : ∀ o, Same H3 (upd H3 p4 o) := fun o => same_new n4 o
      have hC4 : Chn X.K (upd H3 p4 (.lst ((as ++ [p]).map V.ref))) p4 (as ++ [p]) (sts ++ [st]) := by
        refine ⟨SqL.of upd_same, by rw [List.length_append, List.length_append, hC.len]; rfl, fun j b t h1 h2 => ?_, fun t ht => ?_⟩
        · by_cases hj : j < as.length
          · rw [List.getElem?_append_left hj] at h1
            rw [List.getElem?_append_left (by rw [← hC.len]; exact hj)] at h2
            exact (s4 _).seqT (hC3.item j b t h1 h2)
          · have hj' : j = as.length := by
              have := (List.getElem?_eq_some_iff.mp h1).1
              rw [List.length_append] at this
              have : ([p] : List Addr).length = 1 := rfl
              omega
            subst hj'
            rw [List.getElem?_append_right (Nat.le_refl _)] at h1
            rw [hC.len, List.getElem?_append_right (Nat.le_refl _)] at h2
            simp at h1 h2
            subst h1 h2
            exact (s4 _).seqT (s3.seqT hT)
        · rcases List.mem_append.mp ht with h | h
          · exact hC.ok t h
          · rw [List.mem_singleton.mp h]; exact hO
      have em : as.map V.ref ++ [V.ref p] = (as ++ [p]).map V.ref := by rw [List.map_append]; rfl
      refine ⟨p4, as ++ [p], sts ++ [st], rfl, ?_, _, rfl, _, _, rfl, rfl, _, rfl, ?_⟩
      · rw [em]; exact hC4
      refine if2 (fun d => ?_) (fun d => ?_)
      · have hC5 := hC4
        rw [← em] at hC5
        have f4 := (s4 (.lst (as.map V.ref ++ [V.ref p]))) _ _ f3'
        refine ⟨_, rfl, .inl ⟨rfl, _, SqL.of f4⟩, _, rfl, p1, _, _, rfl, rfl, f4, small1000 (by rw [hlen]; omega), ?_⟩
        refine ⟨as ++ [p], sts ++ [st], _, _, _, rfl, (s0.trans (s2.trans (s3.trans (s4 _)))).drop n1 rfl, by rw [upd_same, em], ⟨SqL.of (by rw [upd_same, em]), hC4.len, fun j b t h1 h2 => (hC5.item j b t h1 h2).updL f4, hC4.ok⟩, ?_, d⟩
        rw [List.length_append]
        show sts.length + 1 ≤ i + 1
        omega
      · exact ⟨as, sts, _, _, _, rfl, s0.trans (s2.trans (s3.trans (s4 _))), (s4 _) _ _ f3', hC3.same (s4 _), by omega, hp⟩
    · rintro σ H' ⟨as, sts, v1, v2, v3, rfl, s0, f0, hC, hn, hp⟩
      refine ⟨_, rfl, q p1 as sts H' s0 n1 f0 hC (by omega) hp⟩
theorem cal_law_chain {P : Program} {w : World} {K : PySem.W.Frag} {mg : Str → Option Value} {base : Heap} {f : Addr} {fd : FuncData} (F : Fun K "_law_chain" "_law_chain" s_law_chain f fd) (b : Binds K fd ["_law_script", "_law_base", "_law_many", "_law_limit"] []) (m : mg "_law_chain" = some (.ref f)) (z_range : mg "range" = none) (z_min : mg "min" = none) (C_law_draw : Cal P w K mg base "_law_draw" 2 ["_law_script", "_law_k"] (sp_law_draw K)) (C_law_step : Cal P w K mg base "_law_step" 1 ["_law_cell", "_law_size"] (sp_law_step K)) (C_law_at : Cal P w K mg base "_law_at" 1 ["_law_script", "_law_k"] (sp_law_at K)) (C_law_product : Cal P w K mg base "_law_product" 3 ["_law_steps"] (sp_law_product K)) : Cal P w K mg base "_law_chain" 4 ["_law_script", "_law_base", "_law_many", "_law_limit"] (sp_law_chain K) :=
  ⟨f, fd, F.ok sc_law_chain (fun vs H Q E h => by first | (obtain ⟨_, rfl, _⟩ := h; rfl) | (obtain ⟨_, _, rfl, _⟩ := h; rfl) | (obtain ⟨_, _, _, rfl, _⟩ := h; rfl) | (obtain ⟨_, _, _, _, rfl, _⟩ := h; rfl) | (obtain ⟨_, _, _, _, _, rfl, _⟩ := h; rfl) | (obtain ⟨_, _, _, _, _, _, rfl, _⟩ := h; rfl) | (obtain ⟨_, _, _, _, _, _, _, rfl, _⟩ := h; rfl) | (obtain ⟨_, _, _, _, _, _, _, _, rfl, _⟩ := h; rfl) | (obtain ⟨_, _, _, _, _, _, _, _, _, rfl, _⟩ := h; rfl)) (fun cdv A outer s H vs Q E hr h => unW (body_law_chain (X := (cxOf CX0 P w K mg base ["_law_script", "_law_base", "_law_many", "_law_limit", "_law_size", "_law_steps", "_law_k", "_law_cell", "_law_step_here"] "_law_chain" (defScope s_law_chain) f cdv A outer s H E).nox) ⟨rfl, rfl, rfl, PassesOwn.never⟩ hr z_range z_min C_law_draw C_law_step C_law_at C_law_product h)), b, F.kp, m⟩
theorem lk_law_least_0 : (defScope s_law_least).names.lookup ("_law_steps" : Str) = some .local := by decide +kernel
theorem pv_law_least_0 {X : Cx} (c : CxIs X ["_law_steps", "_law_end_here", "_law_short", "_law_long_here", "_law_middle"] (defScope s_law_least)) {pos : Pos} : WE X (.Name "_law_steps" pos) (tVar 0) := wxv c rfl lk_law_least_0 (by decide) (by decide)
theorem lk_law_least_1 : (defScope s_law_least).names.lookup ("_law_end_here" : Str) = some .local := by decide +kernel
theorem pv_law_least_1 {X : Cx} (c : CxIs X ["_law_steps", "_law_end_here", "_law_short", "_law_long_here", "_law_middle"] (defScope s_law_least)) {pos : Pos} : WE X (.Name "_law_end_here" pos) (tVar 1) := wxv c rfl lk_law_least_1 (by decide) (by decide)
theorem lk_law_least_2 : (defScope s_law_least).names.lookup ("_law_short" : Str) = some .local := by decide +kernel
theorem pv_law_least_2 {X : Cx} (c : CxIs X ["_law_steps", "_law_end_here", "_law_short", "_law_long_here", "_law_middle"] (defScope s_law_least)) {pos : Pos} : WE X (.Name "_law_short" pos) (tVar 2) := wxv c rfl lk_law_least_2 (by decide) (by decide)
theorem ss_law_least_2 {X : Cx} (c : CxIs X ["_law_steps", "_law_end_here", "_law_short", "_law_long_here", "_law_middle"] (defScope s_law_least)) {pos pos' : Pos} {e : Expr} {te : TE} (he : WE X e te) (hs : swapsWith e (some (.Name "_law_short" pos')) pos.line X.env = pure false := by rfl) : WS X (.Assign [.Name "_law_short" pos'] e pos) (tAsg te (gN 2)) := wxs c sc_law_least.nd rfl lk_law_least_2 he hs
theorem lk_law_least_3 : (defScope s_law_least).names.lookup ("_law_long_here" : Str) = some .local := by decide +kernel
theorem pv_law_least_3 {X : Cx} (c : CxIs X ["_law_steps", "_law_end_here", "_law_short", "_law_long_here", "_law_middle"] (defScope s_law_least)) {pos : Pos} : WE X (.Name "_law_long_here" pos) (tVar 3) := wxv c rfl lk_law_least_3 (by decide) (by decide)
theorem ss_law_least_3 {X : Cx} (c : CxIs X ["_law_steps", "_law_end_here", "_law_short", "_law_long_here", "_law_middle"] (defScope s_law_least)) {pos pos' : Pos} {e : Expr} {te : TE} (he : WE X e te) (hs : swapsWith e (some (.Name "_law_long_here" pos')) pos.line X.env = pure false := by rfl) : WS X (.Assign [.Name "_law_long_here" pos'] e pos) (tAsg te (gN 3)) := wxs c sc_law_least.nd rfl lk_law_least_3 he hs
theorem lk_law_least_4 : (defScope s_law_least).names.lookup ("_law_middle" : Str) = some .local := by decide +kernel
theorem pv_law_least_4 {X : Cx} (c : CxIs X ["_law_steps", "_law_end_here", "_law_short", "_law_long_here", "_law_middle"] (defScope s_law_least)) {pos : Pos} : WE X (.Name "_law_middle" pos) (tVar 4) := wxv c rfl lk_law_least_4 (by decide) (by decide)
theorem ss_law_least_4 {X : Cx} (c : CxIs X ["_law_steps", "_law_end_here", "_law_short", "_law_long_here", "_law_middle"] (defScope s_law_least)) {pos pos' : Pos} {e : Expr} {te : TE} (he : WE X e te) (hs : swapsWith e (some (.Name "_law_middle" pos')) pos.line X.env = pure false := by rfl) : WS X (.Assign [.Name "_law_middle" pos'] e pos) (tAsg te (gN 4)) := wxs c sc_law_least.nd rfl lk_law_least_4 he hs
theorem gl_law_least_law_end {X : Cx} (c : CxIs X ["_law_steps", "_law_end_here", "_law_short", "_law_long_here", "_law_middle"] (defScope s_law_least)) : Gl X "_law_end" := xg c (by decide +kernel)
theorem st_law_least (v0 v1 : V) : L2.start ["_law_steps", "_law_end_here", "_law_short", "_law_long_here", "_law_middle"] [v0, v1] = [some v0, some v1, none, none, none] := rfl
noncomputable def sp_law_least (K : PySem.W.Frag) : Sp := fun vs H Q _ => ∃ (l : Addr) (as : List Addr) (sts : List StepD) (en : Int), vs = [.ref l, .int en] ∧ Chn K H l as sts ∧ 0 ≤ en ∧ ∀ m, Low sts en m → Q (.int m) H
theorem body_law_least {X : Cx} (c : CxIs X ["_law_steps", "_law_end_here", "_law_short", "_law_long_here", "_law_middle"] (defScope s_law_least)) (hr : Room 3 X.A) {E : XK}  (C_law_end : Cal X.prog X.w X.K X.mg X.base "_law_end" 3 ["_law_steps", "_law_amount"] (sp_law_end X.K)) {vs : List V} {H : Hp} {Q : VK} (h : sp_law_least X.K vs H Q E) : ∃ t, WSs X (defBody s_law_least) t ∧ t { nx := fun _ H' => Q .non H', rt := Q } (L2.start ["_law_steps", "_law_end_here", "_law_short", "_law_long_here", "_law_middle"] vs) H := by
  obtain ⟨f_law_end, d_law_end, G_law_end, b_law_end, k_law_end, m_law_end⟩ := C_law_end
  · obtain ⟨l, as, sts, en, rfl, hC, e0, q⟩ := h
    refine ⟨_, (wss_cons (ss_law_least_2 c (we_un un_neg we_int))
      (wss_cons (ss_law_least_3 c we_int)
      (wss_cons (ws_while c.own (wt_cmpR op_lt (we_call (G_law_end.mono (by decide)) hr (gl_law_least_law_end c) m_law_end k_law_end b_law_end .nil pass0 (wa_cons (pv_law_least_0 c) (wa_cons (pv_law_least_3 c) wa_nil star_Name) star_Name)) (pv_law_least_1 c) (nomark _))
      (wss_cons (ss_law_least_2 c (pv_law_least_3 c))
      (wss_one (ss_law_least_3 c (we_op op_mulB we_int (pv_law_least_3 c))))))
      (wss_cons (ws_if (wt_cmpR op_ge (we_call (G_law_end.mono (by decide)) hr (gl_law_least_law_end c) m_law_end k_law_end b_law_end .nil pass0 (wa_cons (pv_law_least_0 c) (wa_cons we_int wa_nil star_Constant) star_Name)) (pv_law_least_1 c) (nomark _))
      (wss_one (ws_ret we_int))
      wss_nil)
      (wss_cons (ws_while c.own (wt_cmpR op_gt (we_op op_sub (pv_law_least_3 c) (pv_law_least_2 c)) we_int (nomark _))
      (wss_cons (ss_law_least_4 c (we_op op_fdivB (we_op op_add (pv_law_least_2 c) (pv_law_least_3 c)) we_int))
      (wss_one (ws_if (wt_cmpR op_lt (we_call (G_law_end.mono (by decide)) hr (gl_law_least_law_end c) m_law_end k_law_end b_law_end .nil pass0 (wa_cons (pv_law_least_0 c) (wa_cons (pv_law_least_4 c) wa_nil star_Name) star_Name)) (pv_law_least_1 c) (nomark _))
      (wss_one (ss_law_least_2 c (pv_law_least_4 c)))
      (wss_one (ss_law_least_3 c (pv_law_least_4 c)))))))
      (wss_one (ws_ret (pv_law_least_3 c)))))))), ?_⟩
    rw [st_law_least]
    refine ⟨_, rfl, fun σ e => ?_⟩
    dsimp only [List.set] at e
    subst e
    intro σ e
    dsimp only [List.set] at e
    subst e
    have pp := prodI_pos hC.ok
    refine while_by (fun σ H' => H' = H ∧ ∃ s lo, 1 ≤ lo ∧ s < lo ∧ -1 ≤ s ∧ (s = -1 ∨ endI sts s < en) ∧ ∃ v, σ = [some (.ref l), some (.int en), some (.int s), some (.int lo), v])
      (fun σ _ => match σ with | [_, _, _, some (.int lo), _] => (prodI sts * en + 1 - lo).toNat | _ => 0) ⟨rfl, -1, 1, by omega, by omega, by omega, .inl rfl, _, rfl⟩ ?_ ?_
    · rintro σ H' ⟨rfl, s, lo, l1, sl, s1, hs, v, rfl⟩
      refine ⟨_, rfl, _, rfl, l, as, sts, lo, rfl, hC, _, rfl, _, _, rfl, rfl, _, rfl, ?_⟩
      refine if2 (fun c => ?_) (fun c => ?_)
      · have g := grow_lt hC.ok e0 c
        refine ⟨_, rfl, fun σ e => ?_⟩
        dsimp only [List.set] at e
        subst e
        refine ⟨_, rfl, _, _, rfl, rfl, mul_l (by omega) (by omega), fun σ e => ?_⟩
        dsimp only [List.set] at e
        subst e
        refine ⟨⟨rfl, lo, 2 * lo, by omega, by omega, by omega, .inr c, _, rfl⟩, ?_⟩
        show (prodI sts * en + 1 - 2 * lo).toNat < (prodI sts * en + 1 - lo).toNat
        omega
      · refine ⟨_, rfl, l, as, sts, 0, rfl, hC, _, rfl, _, _, rfl, rfl, _, rfl, ?_⟩
        refine if2 (fun d => ?_) (fun d => ?_)
        · exact q 0 ⟨Int.le_refl 0, d, fun p _ _ => by omega⟩
        · refine while_by (fun σ H'' => H'' = H' ∧ ∃ s lo, 0 ≤ lo ∧ s < lo ∧ -1 ≤ s ∧ (s = -1 ∨ endI sts s < en) ∧ en ≤ endI sts lo ∧ ∃ v, σ = [some (.ref l), some (.int en), some (.int s), some (.int lo), v])
            (fun σ _ => match σ with | [_, _, some (.int s), some (.int lo), _] => (lo - s).toNat | _ => 0) ⟨rfl, s, lo, by omega, sl, s1, hs, by omega, _, rfl⟩ ?_ ?_
          · rintro σ H' ⟨rfl, s, lo, l1, sl, s1, hs, hl, v, rfl⟩
            refine ⟨_, rfl, _, rfl, _, _, rfl, rfl, _, _, rfl, rfl, _, rfl, ?_⟩
            refine if2 (fun c => ?_) (fun c => ?_)
            · refine ⟨_, rfl, _, rfl, _, _, rfl, rfl, _, _, rfl, rfl, ⟨by decide, by decide⟩, fun σ e => ?_⟩
              dsimp only [List.set] at e
              subst e
              refine ⟨_, rfl, _, rfl, l, as, sts, _, rfl, hC, _, rfl, _, _, rfl, rfl, _, rfl, ?_⟩
              refine if2 (fun d => ?_) (fun d => ?_)
              · refine ⟨_, rfl, fun σ e => ?_⟩
                dsimp only [List.set] at e
                subst e
                refine ⟨⟨rfl, _, lo, l1, by omega, by omega, .inr d, hl, _, rfl⟩, ?_⟩
                show (lo - (s + lo) / 2).toNat < (lo - s).toNat
                omega
              · refine ⟨_, rfl, fun σ e => ?_⟩
                dsimp only [List.set] at e
                subst e
                refine ⟨⟨rfl, s, _, by omega, by omega, s1, hs, by omega, _, rfl⟩, ?_⟩
                show ((s + lo) / 2 - s).toNat < (lo - s).toNat
                omega
            · exact ⟨_, rfl, q lo (low_of hC.ok hs hl (by omega) l1)⟩
          · rintro σ H' R R' hq ⟨v, e, v2, e2, i, j, e3, e4, i2, j2, e5, e6, k, e7, h⟩
            exact ⟨v, e, v2, e2, i, j, e3, e4, i2, j2, e5, e6, k, e7, hq _ _ h⟩
    · rintro σ H' R R' hq ⟨v, e, v2, e2, l', as', sts', m', e3, c', v3, e5, i2, j2, e6, e7, k, e8, h⟩
      exact ⟨v, e, v2, e2, l', as', sts', m', e3, c', v3, e5, i2, j2, e6, e7, k, e8, hq _ _ h⟩
theorem cal_law_least {P : Program} {w : World} {K : PySem.W.Frag} {mg : Str → Option Value} {base : Heap} {f : Addr} {fd : FuncData} (F : Fun K "_law_least" "_law_least" s_law_least f fd) (b : Binds K fd ["_law_steps", "_law_end_here"] []) (m : mg "_law_least" = some (.ref f)) (C_law_end : Cal P w K mg base "_law_end" 3 ["_law_steps", "_law_amount"] (sp_law_end K)) : Cal P w K mg base "_law_least" 4 ["_law_steps", "_law_end_here"] (sp_law_least K) :=
  ⟨f, fd, F.ok sc_law_least (fun vs H Q E h => by first | (obtain ⟨_, rfl, _⟩ := h; rfl) | (obtain ⟨_, _, rfl, _⟩ := h; rfl) | (obtain ⟨_, _, _, rfl, _⟩ := h; rfl) | (obtain ⟨_, _, _, _, rfl, _⟩ := h; rfl) | (obtain ⟨_, _, _, _, _, rfl, _⟩ := h; rfl) | (obtain ⟨_, _, _, _, _, _, rfl, _⟩ := h; rfl) | (obtain ⟨_, _, _, _, _, _, _, rfl, _⟩ := h; rfl) | (obtain ⟨_, _, _, _, _, _, _, _, rfl, _⟩ := h; rfl) | (obtain ⟨_, _, _, _, _, _, _, _, _, rfl, _⟩ := h; rfl)) (fun cdv A outer s H vs Q E hr h => unW (body_law_least (X := (cxOf CX0 P w K mg base ["_law_steps", "_law_end_here", "_law_short", "_law_long_here", "_law_middle"] "_law_least" (defScope s_law_least) f cdv A outer s H E).nox) ⟨rfl, rfl, rfl, PassesOwn.never⟩ hr C_law_end h)), b, F.kp, m⟩
theorem lk_law_next_0 : (defScope s_law_next).names.lookup ("_law_steps" : Str) = some .local := by decide +kernel
theorem pv_law_next_0 {X : Cx} (c : CxIs X ["_law_steps", "_law_price", "_law_here", "_law_wide", "_law_short", "_law_middle"] (defScope s_law_next)) {pos : Pos} : WE X (.Name "_law_steps" pos) (tVar 0) := wxv c rfl lk_law_next_0 (by decide) (by decide)
theorem lk_law_next_1 : (defScope s_law_next).names.lookup ("_law_price" : Str) = some .local := by decide +kernel
theorem pv_law_next_1 {X : Cx} (c : CxIs X ["_law_steps", "_law_price", "_law_here", "_law_wide", "_law_short", "_law_middle"] (defScope s_law_next)) {pos : Pos} : WE X (.Name "_law_price" pos) (tVar 1) := wxv c rfl lk_law_next_1 (by decide) (by decide)
theorem lk_law_next_2 : (defScope s_law_next).names.lookup ("_law_here" : Str) = some .local := by decide +kernel
theorem pv_law_next_2 {X : Cx} (c : CxIs X ["_law_steps", "_law_price", "_law_here", "_law_wide", "_law_short", "_law_middle"] (defScope s_law_next)) {pos : Pos} : WE X (.Name "_law_here" pos) (tVar 2) := wxv c rfl lk_law_next_2 (by decide) (by decide)
theorem ss_law_next_2 {X : Cx} (c : CxIs X ["_law_steps", "_law_price", "_law_here", "_law_wide", "_law_short", "_law_middle"] (defScope s_law_next)) {pos pos' : Pos} {e : Expr} {te : TE} (he : WE X e te) (hs : swapsWith e (some (.Name "_law_here" pos')) pos.line X.env = pure false := by rfl) : WS X (.Assign [.Name "_law_here" pos'] e pos) (tAsg te (gN 2)) := wxs c sc_law_next.nd rfl lk_law_next_2 he hs
theorem lk_law_next_3 : (defScope s_law_next).names.lookup ("_law_wide" : Str) = some .local := by decide +kernel
theorem pv_law_next_3 {X : Cx} (c : CxIs X ["_law_steps", "_law_price", "_law_here", "_law_wide", "_law_short", "_law_middle"] (defScope s_law_next)) {pos : Pos} : WE X (.Name "_law_wide" pos) (tVar 3) := wxv c rfl lk_law_next_3 (by decide) (by decide)
theorem ss_law_next_3 {X : Cx} (c : CxIs X ["_law_steps", "_law_price", "_law_here", "_law_wide", "_law_short", "_law_middle"] (defScope s_law_next)) {pos pos' : Pos} {e : Expr} {te : TE} (he : WE X e te) (hs : swapsWith e (some (.Name "_law_wide" pos')) pos.line X.env = pure false := by rfl) : WS X (.Assign [.Name "_law_wide" pos'] e pos) (tAsg te (gN 3)) := wxs c sc_law_next.nd rfl lk_law_next_3 he hs
theorem lk_law_next_4 : (defScope s_law_next).names.lookup ("_law_short" : Str) = some .local := by decide +kernel
theorem pv_law_next_4 {X : Cx} (c : CxIs X ["_law_steps", "_law_price", "_law_here", "_law_wide", "_law_short", "_law_middle"] (defScope s_law_next)) {pos : Pos} : WE X (.Name "_law_short" pos) (tVar 4) := wxv c rfl lk_law_next_4 (by decide) (by decide)
theorem ss_law_next_4 {X : Cx} (c : CxIs X ["_law_steps", "_law_price", "_law_here", "_law_wide", "_law_short", "_law_middle"] (defScope s_law_next)) {pos pos' : Pos} {e : Expr} {te : TE} (he : WE X e te) (hs : swapsWith e (some (.Name "_law_short" pos')) pos.line X.env = pure false := by rfl) : WS X (.Assign [.Name "_law_short" pos'] e pos) (tAsg te (gN 4)) := wxs c sc_law_next.nd rfl lk_law_next_4 he hs
theorem lk_law_next_5 : (defScope s_law_next).names.lookup ("_law_middle" : Str) = some .local := by decide +kernel
theorem pv_law_next_5 {X : Cx} (c : CxIs X ["_law_steps", "_law_price", "_law_here", "_law_wide", "_law_short", "_law_middle"] (defScope s_law_next)) {pos : Pos} : WE X (.Name "_law_middle" pos) (tVar 5) := wxv c rfl lk_law_next_5 (by decide) (by decide)
theorem ss_law_next_5 {X : Cx} (c : CxIs X ["_law_steps", "_law_price", "_law_here", "_law_wide", "_law_short", "_law_middle"] (defScope s_law_next)) {pos pos' : Pos} {e : Expr} {te : TE} (he : WE X e te) (hs : swapsWith e (some (.Name "_law_middle" pos')) pos.line X.env = pure false := by rfl) : WS X (.Assign [.Name "_law_middle" pos'] e pos) (tAsg te (gN 5)) := wxs c sc_law_next.nd rfl lk_law_next_5 he hs
theorem gl_law_next_law_end {X : Cx} (c : CxIs X ["_law_steps", "_law_price", "_law_here", "_law_wide", "_law_short", "_law_middle"] (defScope s_law_next)) : Gl X "_law_end" := xg c (by decide +kernel)
theorem st_law_next (v0 v1 : V) : L2.start ["_law_steps", "_law_price", "_law_here", "_law_wide", "_law_short", "_law_middle"] [v0, v1] = [some v0, some v1, none, none, none, none] := rfl
noncomputable def sp_law_next (K : PySem.W.Frag) : Sp := fun vs H Q _ => ∃ (l : Addr) (as : List Addr) (sts : List StepD) (p : Int), vs = [.ref l, .int p] ∧ Chn K H l as sts ∧ 0 ≤ p ∧ ∀ m, Next sts p m → Q (.int m) H
theorem body_law_next {X : Cx} (c : CxIs X ["_law_steps", "_law_price", "_law_here", "_law_wide", "_law_short", "_law_middle"] (defScope s_law_next)) (hr : Room 3 X.A) {E : XK}  (C_law_end : Cal X.prog X.w X.K X.mg X.base "_law_end" 3 ["_law_steps", "_law_amount"] (sp_law_end X.K)) {vs : List V} {H : Hp} {Q : VK} (h : sp_law_next X.K vs H Q E) : ∃ t, WSs X (defBody s_law_next) t ∧ t { nx := fun _ H' => Q .non H', rt := Q } (L2.start ["_law_steps", "_law_price", "_law_here", "_law_wide", "_law_short", "_law_middle"] vs) H := by
  obtain ⟨f_law_end, d_law_end, G_law_end, b_law_end, k_law_end, m_law_end⟩ := C_law_end
  · obtain ⟨l, as, sts, p, rfl, hC, p0, q⟩ := h
    refine ⟨_, (wss_cons (ss_law_next_2 c (we_call (G_law_end.mono (by decide)) hr (gl_law_next_law_end c) m_law_end k_law_end b_law_end .nil pass0 (wa_cons (pv_law_next_0 c) (wa_cons (pv_law_next_1 c) wa_nil star_Name) star_Name)))
      (wss_cons (ss_law_next_3 c we_int)
      (wss_cons (ws_while c.own (wt_cmpR op_eq (we_call (G_law_end.mono (by decide)) hr (gl_law_next_law_end c) m_law_end k_law_end b_law_end .nil pass0 (wa_cons (pv_law_next_0 c) (wa_cons (we_op op_add (pv_law_next_1 c) (pv_law_next_3 c)) wa_nil star_BinOp) star_Name)) (pv_law_next_2 c) (nomark _))
      (wss_one (ss_law_next_3 c (we_op op_mulB we_int (pv_law_next_3 c)))))
      (wss_cons (ss_law_next_4 c (we_op op_fdivB (pv_law_next_3 c) we_int))
      (wss_cons (ws_while c.own (wt_cmpR op_gt (we_op op_sub (pv_law_next_3 c) (pv_law_next_4 c)) we_int (nomark _))
      (wss_cons (ss_law_next_5 c (we_op op_fdivB (we_op op_add (pv_law_next_4 c) (pv_law_next_3 c)) we_int))
      (wss_one (ws_if (wt_cmpR op_eq (we_call (G_law_end.mono (by decide)) hr (gl_law_next_law_end c) m_law_end k_law_end b_law_end .nil pass0 (wa_cons (pv_law_next_0 c) (wa_cons (we_op op_add (pv_law_next_1 c) (pv_law_next_5 c)) wa_nil star_BinOp) star_Name)) (pv_law_next_2 c) (nomark _))
      (wss_one (ss_law_next_4 c (pv_law_next_5 c)))
      (wss_one (ss_law_next_3 c (pv_law_next_5 c)))))))
      (wss_one (ws_ret (we_op op_add (pv_law_next_1 c) (pv_law_next_3 c))))))))), ?_⟩
    rw [st_law_next]
    have hE := endI_nn sts hC.ok p p0
    refine ⟨_, rfl, _, rfl, l, as, sts, p, rfl, hC, fun σ e => ?_⟩
    dsimp only [List.set] at e
    subst e
    intro σ e
    dsimp only [List.set] at e
    subst e
    refine while_by (fun σ H' => H' = H ∧ ∃ w, 1 ≤ w ∧ (w = 1 ∨ ∃ h, w = 2 * h ∧ 1 ≤ h ∧ endI sts (p + h) = endI sts p) ∧ ∃ v1 v2, σ = [some (.ref l), some (.int p), some (.int (endI sts p)), some (.int w), v1, v2])
      (fun σ _ => match σ with | [_, _, _, some (.int w), _, _] => (prodI sts * (endI sts p + 1) + 1 - w).toNat | _ => 0) ⟨rfl, 1, by omega, .inl rfl, _, _, rfl⟩ ?_ ?_
    · rintro σ H' ⟨rfl, w, w1, hw, v1, v2, rfl⟩
      refine ⟨_, rfl, _, rfl, _, rfl, _, _, rfl, rfl, l, as, sts, _, rfl, hC, _, rfl, rfl, _, rfl, ?_⟩
      refine if2 (fun c => ?_) (fun c => ?_)
      · have c' := of_int c
        have g := grow_lt (e := endI sts p + 1) hC.ok (by omega) (show endI sts (p + w) < endI sts p + 1 by omega)
        refine ⟨_, rfl, _, _, rfl, rfl, mul_l (by omega) (by omega), fun σ e => ?_⟩
        dsimp only [List.set] at e
        subst e
        refine ⟨⟨rfl, 2 * w, by omega, .inr ⟨w, rfl, w1, c'⟩, _, _, rfl⟩, ?_⟩
        show (prodI sts * (endI sts p + 1) + 1 - 2 * w).toNat < (prodI sts * (endI sts p + 1) + 1 - w).toNat
        omega
      · have c' := of_not_int c
        refine ⟨_, rfl, _, _, rfl, rfl, ⟨by decide, by decide⟩, fun σ e => ?_⟩
        dsimp only [List.set] at e
        subst e
        have hs : endI sts (p + w / 2) = endI sts p ∧ 0 ≤ w / 2 ∧ w / 2 < w := by
          rcases hw with rfl | ⟨h, rfl, h1, h2⟩
          · exact ⟨by rw [show (1 : Int) / 2 = 0 from rfl, Int.add_zero], by decide, by decide⟩
          · rw [show 2 * h / 2 = h by omega]
            exact ⟨h2, by omega, by omega⟩
        refine while_by (fun σ H'' => H'' = H' ∧ ∃ w s, 0 ≤ s ∧ s < w ∧ endI sts (p + s) = endI sts p ∧ ¬ endI sts (p + w) = endI sts p ∧ ∃ v2, σ = [some (.ref l), some (.int p), some (.int (endI sts p)), some (.int w), some (.int s), v2])
          (fun σ _ => match σ with | [_, _, _, some (.int w), some (.int s), _] => (w - s).toNat | _ => 0) ⟨rfl, w, w / 2, hs.2.1, hs.2.2, hs.1, c', _, rfl⟩ ?_ ?_
        · rintro σ H'' ⟨rfl, w, s, s0, sw, hs, hw, v2, rfl⟩
          refine ⟨_, rfl, _, rfl, _, _, rfl, rfl, _, _, rfl, rfl, _, rfl, ?_⟩
          refine if2 (fun d => ?_) (fun d => ?_)
          · refine ⟨_, rfl, _, rfl, _, _, rfl, rfl, _, _, rfl, rfl, ⟨by decide, by decide⟩, fun σ e => ?_⟩
            dsimp only [List.set] at e
            subst e
            refine ⟨_, rfl, _, rfl, _, rfl, _, _, rfl, rfl, l, as, sts, _, rfl, hC, _, rfl, rfl, _, rfl, ?_⟩
            refine if2 (fun d2 => ?_) (fun d2 => ?_)
            · refine ⟨_, rfl, fun σ e => ?_⟩
              dsimp only [List.set] at e
              subst e
              refine ⟨⟨rfl, w, _, by omega, by omega, of_int d2, hw, _, rfl⟩, ?_⟩
              show (w - (s + w) / 2).toNat < (w - s).toNat
              omega
            · refine ⟨_, rfl, fun σ e => ?_⟩
              dsimp only [List.set] at e
              subst e
              refine ⟨⟨rfl, _, s, s0, by omega, hs, of_not_int d2, _, rfl⟩, ?_⟩
              show ((s + w) / 2 - s).toNat < (w - s).toNat
              omega
          · refine ⟨_, rfl, _, rfl, _, _, rfl, rfl, q (p + w) ⟨by omega, hw, fun j j0 j1 => ?_⟩⟩
            have a := endI_mono sts hC.ok p j j0
            have b := endI_mono sts hC.ok j (p + s) (by omega)
            omega
        · rintro σ H'' R R' hq ⟨v, e, v2, e2, i, j, e3, e4, i2, j2, e5, e6, k, e7, h⟩
          exact ⟨v, e, v2, e2, i, j, e3, e4, i2, j2, e5, e6, k, e7, hq _ _ h⟩
    · rintro σ H' R R' hq ⟨v, e, v2, e2, v3, e3, i, j, e4, e5, l', as', sts', m', e6, c', v4, e7, e8, k, e9, h⟩
      exact ⟨v, e, v2, e2, v3, e3, i, j, e4, e5, l', as', sts', m', e6, c', v4, e7, e8, k, e9, hq _ _ h⟩
theorem cal_law_next {P : Program} {w : World} {K : PySem.W.Frag} {mg : Str → Option Value} {base : Heap} {f : Addr} {fd : FuncData} (F : Fun K "_law_next" "_law_next" s_law_next f fd) (b : Binds K fd ["_law_steps", "_law_price"] []) (m : mg "_law_next" = some (.ref f)) (C_law_end : Cal P w K mg base "_law_end" 3 ["_law_steps", "_law_amount"] (sp_law_end K)) : Cal P w K mg base "_law_next" 4 ["_law_steps", "_law_price"] (sp_law_next K) :=
  ⟨f, fd, F.ok sc_law_next (fun vs H Q E h => by first | (obtain ⟨_, rfl, _⟩ := h; rfl) | (obtain ⟨_, _, rfl, _⟩ := h; rfl) | (obtain ⟨_, _, _, rfl, _⟩ := h; rfl) | (obtain ⟨_, _, _, _, rfl, _⟩ := h; rfl) | (obtain ⟨_, _, _, _, _, rfl, _⟩ := h; rfl) | (obtain ⟨_, _, _, _, _, _, rfl, _⟩ := h; rfl) | (obtain ⟨_, _, _, _, _, _, _, rfl, _⟩ := h; rfl) | (obtain ⟨_, _, _, _, _, _, _, _, rfl, _⟩ := h; rfl) | (obtain ⟨_, _, _, _, _, _, _, _, _, rfl, _⟩ := h; rfl)) (fun cdv A outer s H vs Q E hr h => unW (body_law_next (X := (cxOf CX0 P w K mg base ["_law_steps", "_law_price", "_law_here", "_law_wide", "_law_short", "_law_middle"] "_law_next" (defScope s_law_next) f cdv A outer s H E).nox) ⟨rfl, rfl, rfl, PassesOwn.never⟩ hr C_law_end h)), b, F.kp, m⟩
theorem lk_law_long_0 : (defScope s_law_long).names.lookup ("_law_cell" : Str) = some .local := by decide +kernel
theorem pv_law_long_0 {X : Cx} (c : CxIs X ["_law_cell", "_law_way", "_law_left", "_law_steps", "_law_half"] (defScope s_law_long)) {pos : Pos} : WE X (.Name "_law_cell" pos) (tVar 0) := wxv c rfl lk_law_long_0 (by decide) (by decide)
theorem lk_law_long_1 : (defScope s_law_long).names.lookup ("_law_way" : Str) = some .local := by decide +kernel
theorem pv_law_long_1 {X : Cx} (c : CxIs X ["_law_cell", "_law_way", "_law_left", "_law_steps", "_law_half"] (defScope s_law_long)) {pos : Pos} : WE X (.Name "_law_way" pos) (tVar 1) := wxv c rfl lk_law_long_1 (by decide) (by decide)
theorem ss_law_long_1 {X : Cx} (c : CxIs X ["_law_cell", "_law_way", "_law_left", "_law_steps", "_law_half"] (defScope s_law_long)) {pos pos' : Pos} {e : Expr} {te : TE} (he : WE X e te) (hs : swapsWith e (some (.Name "_law_way" pos')) pos.line X.env = pure false := by rfl) : WS X (.Assign [.Name "_law_way" pos'] e pos) (tAsg te (gN 1)) := wxs c sc_law_long.nd rfl lk_law_long_1 he hs
theorem lk_law_long_2 : (defScope s_law_long).names.lookup ("_law_left" : Str) = some .local := by decide +kernel
theorem pv_law_long_2 {X : Cx} (c : CxIs X ["_law_cell", "_law_way", "_law_left", "_law_steps", "_law_half"] (defScope s_law_long)) {pos : Pos} : WE X (.Name "_law_left" pos) (tVar 2) := wxv c rfl lk_law_long_2 (by decide) (by decide)
theorem ss_law_long_2 {X : Cx} (c : CxIs X ["_law_cell", "_law_way", "_law_left", "_law_steps", "_law_half"] (defScope s_law_long)) {pos pos' : Pos} {e : Expr} {te : TE} (he : WE X e te) (hs : swapsWith e (some (.Name "_law_left" pos')) pos.line X.env = pure false := by rfl) : WS X (.Assign [.Name "_law_left" pos'] e pos) (tAsg te (gN 2)) := wxs c sc_law_long.nd rfl lk_law_long_2 he hs
theorem lk_law_long_3 : (defScope s_law_long).names.lookup ("_law_steps" : Str) = some .local := by decide +kernel
theorem pv_law_long_3 {X : Cx} (c : CxIs X ["_law_cell", "_law_way", "_law_left", "_law_steps", "_law_half"] (defScope s_law_long)) {pos : Pos} : WE X (.Name "_law_steps" pos) (tVar 3) := wxv c rfl lk_law_long_3 (by decide) (by decide)
theorem ss_law_long_3 {X : Cx} (c : CxIs X ["_law_cell", "_law_way", "_law_left", "_law_steps", "_law_half"] (defScope s_law_long)) {pos pos' : Pos} {e : Expr} {te : TE} (he : WE X e te) (hs : swapsWith e (some (.Name "_law_steps" pos')) pos.line X.env = pure false := by rfl) : WS X (.Assign [.Name "_law_steps" pos'] e pos) (tAsg te (gN 3)) := wxs c sc_law_long.nd rfl lk_law_long_3 he hs
theorem lk_law_long_4 : (defScope s_law_long).names.lookup ("_law_half" : Str) = some .local := by decide +kernel
theorem pv_law_long_4 {X : Cx} (c : CxIs X ["_law_cell", "_law_way", "_law_left", "_law_steps", "_law_half"] (defScope s_law_long)) {pos : Pos} : WE X (.Name "_law_half" pos) (tVar 4) := wxv c rfl lk_law_long_4 (by decide) (by decide)
theorem ss_law_long_4 {X : Cx} (c : CxIs X ["_law_cell", "_law_way", "_law_left", "_law_steps", "_law_half"] (defScope s_law_long)) {pos pos' : Pos} {e : Expr} {te : TE} (he : WE X e te) (hs : swapsWith e (some (.Name "_law_half" pos')) pos.line X.env = pure false := by rfl) : WS X (.Assign [.Name "_law_half" pos'] e pos) (tAsg te (gN 4)) := wxs c sc_law_long.nd rfl lk_law_long_4 he hs
theorem gl_law_long_law_product {X : Cx} (c : CxIs X ["_law_cell", "_law_way", "_law_left", "_law_steps", "_law_half"] (defScope s_law_long)) : Gl X "_law_product" := xg c (by decide +kernel)
theorem st_law_long (v0 : V) : L2.start ["_law_cell", "_law_way", "_law_left", "_law_steps", "_law_half"] [v0] = [some v0, none, none, none, none] := rfl
noncomputable def sp_law_long (K : PySem.W.Frag) : Sp := fun vs H Q _ => ∃ (cl : Int), vs = [.int cl] ∧ ∀ (l : Addr) (as : List Addr) (sts : List StepD) (H' : Hp), Same H H' → H l = none → H' l = some (.lst (as.map V.ref)) → Chn K H' l as sts → sts.length ≤ 2 → prodI sts ≤ 20000 → Q (.ref l) H'
theorem body_law_long {X : Cx} (c : CxIs X ["_law_cell", "_law_way", "_law_left", "_law_steps", "_law_half"] (defScope s_law_long)) (hr : Room 3 X.A) {E : XK}  (C_law_product : Cal X.prog X.w X.K X.mg X.base "_law_product" 3 ["_law_steps"] (sp_law_product X.K)) {vs : List V} {H : Hp} {Q : VK} (h : sp_law_long X.K vs H Q E) : ∃ t, WSs X (defBody s_law_long) t ∧ t { nx := fun _ H' => Q .non H', rt := Q } (L2.start ["_law_cell", "_law_way", "_law_left", "_law_steps", "_law_half"] vs) H := by
  obtain ⟨f_law_product, d_law_product, G_law_product, b_law_product, k_law_product, m_law_product⟩ := C_law_product
  · obtain ⟨cl, rfl, q⟩ := h
    refine ⟨_, (wss_cons (ss_law_long_1 c (we_ix ix_list (we_lstO (wa_cons we_str (wa_cons we_str (wa_cons we_str wa_nil star_Constant) star_Constant) star_Constant)) (we_op op_mod (pv_law_long_0 c) we_int) plain_BinOp))
      (wss_cons (ss_law_long_2 c (we_op op_fdivB (pv_law_long_0 c) we_int))
      (wss_cons (ss_law_long_3 c (we_lstO (wa_cons (we_tupO (wa_cons we_str (wa_cons (we_op op_add we_int (we_op op_mod (we_op op_fdivB (pv_law_long_2 c) we_int) we_int)) (wa_cons (we_op op_add we_int (we_op op_mod (pv_law_long_2 c) we_int)) (wa_cons (we_op op_mod (we_op op_fdivB (pv_law_long_2 c) we_int) we_int) (wa_cons (pv_law_long_1 c) (wa_cons (we_op op_add we_int (we_op op_mod (we_op op_fdivB (pv_law_long_2 c) we_int) we_int)) wa_nil star_BinOp) star_Name) star_BinOp) star_BinOp) star_BinOp) star_Constant)) wa_nil star_Tuple)))
      (wss_cons (ss_law_long_4 c (we_tupO (wa_cons we_str (wa_cons we_int (wa_cons we_int (wa_cons (we_op op_mod (we_op op_fdivB (pv_law_long_2 c) we_int) we_int) (wa_cons (pv_law_long_1 c) (wa_cons we_int wa_nil star_Constant) star_Name) star_BinOp) star_Constant) star_Constant) star_Constant)))
      (wss_cons (ws_if (wt_cmpR op_le (we_call (G_law_product.mono (by decide)) hr (gl_law_long_law_product c) m_law_product k_law_product b_law_product .nil pass0 (wa_cons (we_op op_cat (pv_law_long_3 c) (we_lstO (wa_cons (pv_law_long_4 c) wa_nil star_Name))) wa_nil star_BinOp)) we_int (nomark _))
      (wss_one (ss_law_long_3 c (we_ix ix_list (we_lstO (wa_cons (we_op op_cat (we_lstO (wa_cons (pv_law_long_4 c) wa_nil star_Name)) (pv_law_long_3 c)) (wa_cons (we_op op_cat (pv_law_long_3 c) (we_lstO (wa_cons (pv_law_long_4 c) wa_nil star_Name))) wa_nil star_BinOp) star_BinOp)) (we_op op_mod (we_op op_fdivB (pv_law_long_2 c) we_int) we_int) plain_BinOp)))
      wss_nil)
      (wss_one (ws_ret (pv_law_long_3 c)))))))), ?_⟩
    rw [st_law_long]
    refine ⟨(small' (by decide)), fun p1 H1 n1 s1 f1 => ?_⟩
    refine ⟨_, rfl, _, _, rfl, rfl, (by decide : (0 : Int) < 3), p1, _, _, _, rfl, rfl, SqL.of f1, at3s (md0 (by decide)) (md1 (by decide)), fun σ e => ?_⟩
    have hy := pick3_of (P := fun z => z = Str.ofString "down" ∨ z = Str.ofString "up" ∨ z = Str.ofString "near") (i := cl % 3) (.inl rfl) (.inr (.inl rfl)) (.inr (.inr rfl))
    dsimp only [List.set] at e
    generalize pick3 (cl % 3) (Str.ofString "down") (Str.ofString "up") (Str.ofString "near") = way at hy e
    subst e
    have dv : ∀ c z : Int, 0 < c → c < 10 ^ 12 → CDivB z c := fun c z h1 h2 => ⟨h1, Int.lt_trans h2 (by decide +kernel)⟩
    refine ⟨_, rfl, _, _, rfl, rfl, dv _ _ (by decide) (by decide), fun σ e => ?_⟩
    dsimp only [List.set] at e
    generalize cl / 3 = lf at e
    subst e
    refine ⟨_, rfl, _, _, rfl, rfl, dv _ _ (by decide) (by decide), _, _, rfl, rfl, (by decide : (0 : Int) < 100), _, _, rfl, rfl, _, rfl, _, _, rfl, rfl, (by decide : (0 : Int) < 10), _, _, rfl, rfl, _, rfl, _, _, rfl, rfl, dv _ _ (by decide) (by decide), _, _, rfl, rfl, (by decide : (0 : Int) < 60), _, rfl, _, rfl, _, _, rfl, rfl, dv _ _ (by decide) (by decide), _, _, rfl, rfl, (by decide : (0 : Int) < 10), _, _, rfl, rfl, (small' (by show 6 ≤ 1000; decide)), fun p2 H2 n2 s2 f2 => ?_⟩
    refine ⟨(small' (by show 1 ≤ 1000; decide)), fun p3 H3 n3 s3 f3 σ e => ?_⟩
    dsimp only [List.set] at e
    subst e
    have a0 := md0 (x := lf / 100) (n := 100) (by decide)
    have a1 := md1 (x := lf / 100) (n := 100) (by decide)
    have b0 := md0 (x := lf) (n := 10) (by decide)
    have b1 := md1 (x := lf) (n := 10) (by decide)
    have g0 := md0 (x := lf / 10000) (n := 60) (by decide)
    have g1 := md1 (x := lf / 10000) (n := 60) (by decide)
    have u0 := md0 (x := lf / 10) (n := 10) (by decide)
    have u1 := md1 (x := lf / 10) (n := 10) (by decide)
    have o1 : StepD.Ok ⟨"times", 1 + lf / 100 % 100, 91 + lf % 10, lf / 10000 % 60, way, 91 + lf / 10 % 10⟩ := ⟨.inl rfl, by dsimp only; omega, by dsimp only; omega, by dsimp only; omega, by dsimp only; omega, fun z => absurd z (by dsimp only; decide), g0, by dsimp only; omega, hy, by dsimp only; omega, by dsimp only; omega⟩
    have t1 : SqT X.K H3 p2 (StepD.vals ⟨"times", 1 + lf / 100 % 100, 91 + lf % 10, lf / 10000 % 60, way, 91 + lf / 10 % 10⟩) := s3.seqT (SqT.of f2)
    generalize hs1 : (⟨"times", 1 + lf / 100 % 100, 91 + lf % 10, lf / 10000 % 60, way, 91 + lf / 10 % 10⟩ : StepD) = st1 at o1 t1
    have c3 : Chn X.K H3 p3 [p2] [st1] := Chn.one f3 t1 o1
    refine ⟨_, rfl, _, _, rfl, rfl, dv _ _ (by decide) (by decide), _, _, rfl, rfl, (by decide : (0 : Int) < 5), _, rfl, (small' (by show 6 ≤ 1000; decide)), fun p4 H4 n4 s4 f4 σ e => ?_⟩
    dsimp only [List.set] at e
    subst e
    have h0 := md0 (x := lf / 600000) (n := 5) (by decide)
    have h1 := md1 (x := lf / 600000) (n := 5) (by decide)
    have o2 : StepD.Ok ⟨"off", 1, 2, lf / 600000 % 5, way, 1⟩ := ⟨.inr (.inr rfl), by dsimp only; omega, by dsimp only; omega, by dsimp only; omega, by dsimp only; omega, fun _ => by dsimp only; omega, h0, by dsimp only; omega, hy, by dsimp only; omega, by dsimp only; omega⟩
    have t2 : SqT X.K H4 p4 (StepD.vals ⟨"off", 1, 2, lf / 600000 % 5, way, 1⟩) := SqT.of f4
    generalize hs2 : (⟨"off", 1, 2, lf / 600000 % 5, way, 1⟩ : StepD) = st2 at o2 t2
    have c4 := c3.same s4
    have f3' := s4 _ _ f3
    have n30 : H p3 = none := s1.free (s2.free n3)
    have q1 := o1.cyc1
    refine ⟨_, rfl, _, rfl, (small' (by show 1 ≤ 1000; decide)), fun p5 H5 n5 s5 f5 => ?_⟩
    have s05 := s1.trans (s2.trans (s3.trans (s4.trans s5)))
    have c5 : Chn X.K H5 p5 [p4] [st2] := Chn.one f5 (s5.seqT t2) o2
    refine ⟨p3, p5, _, _, rfl, rfl, s5 _ _ f3', f5, (small' (by show 2 ≤ 1000; decide)), fun p6 n6 => ?_⟩
    have s6 := same_new n6 (.lst [V.ref p2, V.ref p4])
    have c6 := (c4.same s5).cat c5 s6 (l := p6) upd_same
    refine ⟨p6, [p2, p4], [st1, st2], rfl, c6, _, _, rfl, rfl, _, rfl, ?_⟩
    have s06 := s05.trans s6
    have cc5 := (c4.same s5).same s6
    have cc6 := c5.same s6
    have ff3 := s6 _ _ (s5 _ _ f3')
    have ff5 := s6 _ _ f5
    have nn4 : H3 p4 = none := n4
    refine if2 (fun d => ?_) (fun d => ?_)
    · refine ⟨_, rfl, (small' (by show 1 ≤ 1000; decide)), fun p7 H7 n7 s7 f7 => ?_⟩
      have t27 : SqT X.K H7 p4 st2.vals := s7.seqT (s6.seqT (s5.seqT t2))
      have c7 : Chn X.K H7 p7 [p4] [st2] := Chn.one f7 t27 o2
      refine ⟨_, rfl, p7, p3, _, _, rfl, rfl, f7, s7 _ _ ff3, (small' (by show 2 ≤ 1000; decide)), fun p8 n8 => ?_⟩
      have s8 := same_new n8 (.lst [V.ref p4, V.ref p2])
      have c8 := c7.cat (cc5.same s7) s8 (l := p8) upd_same
      refine ⟨_, rfl, _, rfl, (small' (by show 1 ≤ 1000; decide)), fun p9 H9 n9 s9 f9 => ?_⟩
      have c9 : Chn X.K H9 p9 [p4] [st2] := Chn.one f9 (s9.seqT (s8.seqT t27)) o2
      have ff39 := s9 _ _ (s8 _ _ (s7 _ _ ff3))
      refine ⟨p3, p9, _, _, rfl, rfl, ff39, f9, (small' (by show 2 ≤ 1000; decide)), fun p10 n10 => ?_⟩
      have s10 := same_new n10 (.lst [V.ref p2, V.ref p4])
      have c10 := ((((cc5.same s7).same s8).same s9)).cat c9 s10 (l := p10) upd_same
      refine ⟨(small' (by show 2 ≤ 1000; decide)), fun p11 H11 n11 s11 f11 => ?_⟩
      have sA := s06.trans (s7.trans (s8.trans (s9.trans (s10.trans s11))))
      have n8' : H p8 = none := s06.free (s7.free n8)
      have n10' : H p10 = none := s06.free (s7.free (s8.free (s9.free n10)))
      refine ⟨_, rfl, _, _, rfl, rfl, dv _ _ (by decide) (by decide), _, _, rfl, rfl, (by decide : (0 : Int) < 2), p11, _, _, _, rfl, rfl, SqL.of f11, at2 (md0 (by decide)) (md1 (by decide)), fun σ e => ?_⟩
      have e2 : prodI [st2, st1] = prodI [st1, st2] := by rw [prodI_two, prodI_two, Int.mul_comm]
      rcases (show lf / 3000000 % 2 = 0 ∨ lf / 3000000 % 2 = 1 by omega) with z | z
      · rw [show pick2 (lf / 3000000 % 2) (V.ref p8) (V.ref p10) = V.ref p8 by rw [z]; rfl] at e
        dsimp only [List.set] at e
        subst e
        exact ⟨_, rfl, q p8 [p4, p2] [st2, st1] H11 sA n8' (s11 _ _ (s10 _ _ (s9 _ _ upd_same))) (((c8.same s9).same s10).same s11) (Nat.le_refl 2) (by rw [e2]; exact d)⟩
      · rw [show pick2 (lf / 3000000 % 2) (V.ref p8) (V.ref p10) = V.ref p10 by rw [z]; rfl] at e
        dsimp only [List.set] at e
        subst e
        exact ⟨_, rfl, q p10 [p2, p4] [st1, st2] H11 sA n10' (s11 _ _ upd_same) (c10.same s11) (Nat.le_refl 2) d⟩
    · exact ⟨_, rfl, q p3 [p2] [st1] _ s06 n30 ff3 cc5 (Nat.le_succ 1) (by rw [prodI_one]; omega)⟩
theorem cal_law_long {P : Program} {w : World} {K : PySem.W.Frag} {mg : Str → Option Value} {base : Heap} {f : Addr} {fd : FuncData} (F : Fun K "_law_long" "_law_long" s_law_long f fd) (b : Binds K fd ["_law_cell"] []) (m : mg "_law_long" = some (.ref f)) (C_law_product : Cal P w K mg base "_law_product" 3 ["_law_steps"] (sp_law_product K)) : Cal P w K mg base "_law_long" 4 ["_law_cell"] (sp_law_long K) :=
  ⟨f, fd, F.ok sc_law_long (fun vs H Q E h => by first | (obtain ⟨_, rfl, _⟩ := h; rfl) | (obtain ⟨_, _, rfl, _⟩ := h; rfl) | (obtain ⟨_, _, _, rfl, _⟩ := h; rfl) | (obtain ⟨_, _, _, _, rfl, _⟩ := h; rfl) | (obtain ⟨_, _, _, _, _, rfl, _⟩ := h; rfl) | (obtain ⟨_, _, _, _, _, _, rfl, _⟩ := h; rfl) | (obtain ⟨_, _, _, _, _, _, _, rfl, _⟩ := h; rfl) | (obtain ⟨_, _, _, _, _, _, _, _, rfl, _⟩ := h; rfl) | (obtain ⟨_, _, _, _, _, _, _, _, _, rfl, _⟩ := h; rfl)) (fun cdv A outer s H vs Q E hr h => unW (body_law_long (X := (cxOf CX0 P w K mg base ["_law_cell", "_law_way", "_law_left", "_law_steps", "_law_half"] "_law_long" (defScope s_law_long) f cdv A outer s H E).nox) ⟨rfl, rfl, rfl, PassesOwn.never⟩ hr C_law_product h)), b, F.kp, m⟩
theorem lk_run_0 : (defScope s_run).names.lookup ("chain" : Str) = some .local := by decide +kernel
theorem pv_run_0 {X : Cx} (c : CxIs X ["chain", "amount", "step"] (defScope s_run)) {pos : Pos} : WE X (.Name "chain" pos) (tVar 0) := wxv c rfl lk_run_0 (by decide) (by decide)
theorem lk_run_1 : (defScope s_run).names.lookup ("amount" : Str) = some .local := by decide +kernel
theorem pv_run_1 {X : Cx} (c : CxIs X ["chain", "amount", "step"] (defScope s_run)) {pos : Pos} : WE X (.Name "amount" pos) (tVar 1) := wxv c rfl lk_run_1 (by decide) (by decide)
theorem ss_run_1 {X : Cx} (c : CxIs X ["chain", "amount", "step"] (defScope s_run)) {pos pos' : Pos} {e : Expr} {te : TE} (he : WE X e te) (hs : swapsWith e (some (.Name "amount" pos')) pos.line X.env = pure false := by rfl) : WS X (.Assign [.Name "amount" pos'] e pos) (tAsg te (gN 1)) := wxs c sc_run.nd rfl lk_run_1 he hs
theorem lk_run_2 : (defScope s_run).names.lookup ("step" : Str) = some .local := by decide +kernel
theorem pv_run_2 {X : Cx} (c : CxIs X ["chain", "amount", "step"] (defScope s_run)) {pos : Pos} : WE X (.Name "step" pos) (tVar 2) := wxv c rfl lk_run_2 (by decide) (by decide)
theorem sg_run_2 {X : Cx} (c : CxIs X ["chain", "amount", "step"] (defScope s_run)) {pos : Pos} : WG X (.Name "step" pos) (gN 2) := wxt c sc_run.nd rfl lk_run_2
theorem gl_run_after {X : Cx} (c : CxIs X ["chain", "amount", "step"] (defScope s_run)) : Gl X "after" := xg c (by decide +kernel)
theorem st_run (v0 v1 : V) : L2.start ["chain", "amount", "step"] [v0, v1] = [some v0, some v1, none] := rfl
noncomputable def sp_run (K : PySem.W.Frag) : Sp := fun vs H Q _ => ∃ (l : Addr) (as : List Addr) (sts : List StepD) (m : Int), vs = [.ref l, .int m] ∧ Chn K H l as sts ∧ ∀ H', Same H H' → Q (.int (endI sts m)) H'
theorem body_run {X : Cx} (c : CxIs X ["chain", "amount", "step"] (defScope s_run)) (hr : Room 4 X.A) {E : XK}  (C_after : Cal X.prog X.w X.K X.mg X.base "after" 4 ["step", "amount"] (sp_after X.K)) {vs : List V} {H : Hp} {Q : VK} (h : sp_run X.K vs H Q E) : ∃ t, WSs X (defBody s_run) t ∧ t { nx := fun _ H' => Q .non H', rt := Q } (L2.start ["chain", "amount", "step"] vs) H := by
  obtain ⟨f_after, d_after, G_after, b_after, k_after, m_after⟩ := C_after
  · obtain ⟨l, as, sts, m, rfl, hC, q⟩ := h
    refine ⟨_, (wss_cons (ws_for c.own c.calm (wi_list (pv_run_0 c)) (sg_run_2 c)
      (wss_one (ss_run_1 c (we_call (G_after.mono (by decide)) hr (gl_run_after c) m_after k_after b_after .nil pass0 (wa_cons (pv_run_2 c) (wa_cons (pv_run_1 c) wa_nil star_Name) star_Name)))))
      (wss_one (ws_ret (pv_run_1 c)))), ?_⟩
    rw [st_run]
    refine ⟨_, rfl, l, rfl, ⟨_, hC.lst⟩, for_list (K := X.K) (a := l) (xs := as.map V.ref) (fun i σ H' => Same H H' ∧ ∃ v, σ = [some (.ref l), some (.int (endI (sts.take i) m)), v])
      ⟨Same.refl _, _, rfl⟩ (fun i σ H' _ ⟨e, _⟩ => e.seq hC.lst) ?_ ?_⟩
    · rintro i x σ H' hi ⟨s0, v, rfl⟩ σ e
      obtain ⟨a, st, rfl, h1, h2, hT, hO⟩ := hC.get hi
      dsimp only [List.set] at e
      subst e
      refine ⟨_, rfl, _, rfl, a, st, _, rfl, s0.seqT hT, hO, fun H1 s1 σ e => ?_⟩
      dsimp only [List.set] at e
      subst e
      exact ⟨s0.trans s1, _, by rw [take_snoc h2, endI_snoc, after_many hO]⟩
    · rintro σ H' ⟨s0, v, rfl⟩
      refine ⟨_, rfl, ?_⟩
      have e : sts.take (as.map V.ref).length = sts := by rw [List.length_map, hC.len, List.take_length]
      rw [e]
      exact q H' s0
theorem cal_run {P : Program} {w : World} {K : PySem.W.Frag} {mg : Str → Option Value} {base : Heap} {f : Addr} {fd : FuncData} (F : Fun K "run" "run" s_run f fd) (b : Binds K fd ["chain", "amount"] []) (m : mg "run" = some (.ref f)) (C_after : Cal P w K mg base "after" 4 ["step", "amount"] (sp_after K)) : Cal P w K mg base "run" 5 ["chain", "amount"] (sp_run K) :=
  ⟨f, fd, F.ok sc_run (fun vs H Q E h => by first | (obtain ⟨_, rfl, _⟩ := h; rfl) | (obtain ⟨_, _, rfl, _⟩ := h; rfl) | (obtain ⟨_, _, _, rfl, _⟩ := h; rfl) | (obtain ⟨_, _, _, _, rfl, _⟩ := h; rfl) | (obtain ⟨_, _, _, _, _, rfl, _⟩ := h; rfl) | (obtain ⟨_, _, _, _, _, _, rfl, _⟩ := h; rfl) | (obtain ⟨_, _, _, _, _, _, _, rfl, _⟩ := h; rfl) | (obtain ⟨_, _, _, _, _, _, _, _, rfl, _⟩ := h; rfl) | (obtain ⟨_, _, _, _, _, _, _, _, _, rfl, _⟩ := h; rfl)) (fun cdv A outer s H vs Q E hr h => unW (body_run (X := (cxOf CX0 P w K mg base ["chain", "amount", "step"] "run" (defScope s_run) f cdv A outer s H E).nox) ⟨rfl, rfl, rfl, PassesOwn.never⟩ hr C_after h)), b, F.kp, m⟩
theorem lk_first_reaching_0 : (defScope s_first_reaching).names.lookup ("chain" : Str) = some .local := by decide +kernel
theorem pv_first_reaching_0 {X : Cx} (c : CxIs X ["chain", "end", "amount", "step"] (defScope s_first_reaching)) {pos : Pos} : WE X (.Name "chain" pos) (tVar 0) := wxv c rfl lk_first_reaching_0 (by decide) (by decide)
theorem lk_first_reaching_1 : (defScope s_first_reaching).names.lookup ("end" : Str) = some .local := by decide +kernel
theorem pv_first_reaching_1 {X : Cx} (c : CxIs X ["chain", "end", "amount", "step"] (defScope s_first_reaching)) {pos : Pos} : WE X (.Name "end" pos) (tVar 1) := wxv c rfl lk_first_reaching_1 (by decide) (by decide)
theorem lk_first_reaching_2 : (defScope s_first_reaching).names.lookup ("amount" : Str) = some .local := by decide +kernel
theorem pv_first_reaching_2 {X : Cx} (c : CxIs X ["chain", "end", "amount", "step"] (defScope s_first_reaching)) {pos : Pos} : WE X (.Name "amount" pos) (tVar 2) := wxv c rfl lk_first_reaching_2 (by decide) (by decide)
theorem ss_first_reaching_2 {X : Cx} (c : CxIs X ["chain", "end", "amount", "step"] (defScope s_first_reaching)) {pos pos' : Pos} {e : Expr} {te : TE} (he : WE X e te) (hs : swapsWith e (some (.Name "amount" pos')) pos.line X.env = pure false := by rfl) : WS X (.Assign [.Name "amount" pos'] e pos) (tAsg te (gN 2)) := wxs c sc_first_reaching.nd rfl lk_first_reaching_2 he hs
theorem lk_first_reaching_3 : (defScope s_first_reaching).names.lookup ("step" : Str) = some .local := by decide +kernel
theorem pv_first_reaching_3 {X : Cx} (c : CxIs X ["chain", "end", "amount", "step"] (defScope s_first_reaching)) {pos : Pos} : WE X (.Name "step" pos) (tVar 3) := wxv c rfl lk_first_reaching_3 (by decide) (by decide)
theorem sg_first_reaching_3 {X : Cx} (c : CxIs X ["chain", "end", "amount", "step"] (defScope s_first_reaching)) {pos : Pos} : WG X (.Name "step" pos) (gN 3) := wxt c sc_first_reaching.nd rfl lk_first_reaching_3
theorem gl_first_reaching_least_ahead {X : Cx} (c : CxIs X ["chain", "end", "amount", "step"] (defScope s_first_reaching)) : Gl X "least_ahead" := xg c (by decide +kernel)
theorem gl_first_reaching_max {X : Cx} (c : CxIs X ["chain", "end", "amount", "step"] (defScope s_first_reaching)) : Gl X "max" := xg c (by decide +kernel)
theorem gl_first_reaching_reversed {X : Cx} (c : CxIs X ["chain", "end", "amount", "step"] (defScope s_first_reaching)) : Gl X "reversed" := xg c (by decide +kernel)
theorem st_first_reaching (v0 v1 : V) : L2.start ["chain", "end", "amount", "step"] [v0, v1] = [some v0, some v1, none, none] := rfl
noncomputable def sp_first_reaching (K : PySem.W.Frag) : Sp := fun vs H Q _ => ∃ (l : Addr) (as : List Addr) (sts : List StepD) (en : Int), vs = [.ref l, .int en] ∧ Chn K H l as sts ∧ ∀ m H', Same H H' → Low sts en m → Q (.int m) H'
theorem drop_cons_at {α : Type} {l : List α} {i : Nat} {x : α} (h : l[i]? = some x) : l.drop i = x :: l.drop (i + 1) := by
  obtain ⟨hi, e⟩ := List.getElem?_eq_some_iff.mp h
  rw [← e]; exact List.drop_eq_getElem_cons hi
theorem body_first_reaching {X : Cx} (c : CxIs X ["chain", "end", "amount", "step"] (defScope s_first_reaching)) (hr : Room 4 X.A) {E : XK}  (z_max : X.mg "max" = none) (z_reversed : X.mg "reversed" = none) (C_least_ahead : Cal X.prog X.w X.K X.mg X.base "least_ahead" 4 ["step", "amount"] (sp_least_ahead X.K)) {vs : List V} {H : Hp} {Q : VK} (h : sp_first_reaching X.K vs H Q E) : ∃ t, WSs X (defBody s_first_reaching) t ∧ t { nx := fun _ H' => Q .non H', rt := Q } (L2.start ["chain", "end", "amount", "step"] vs) H := by
  obtain ⟨f_least_ahead, d_least_ahead, G_least_ahead, b_least_ahead, k_least_ahead, m_least_ahead⟩ := C_least_ahead
  · obtain ⟨l, as, sts, en, rfl, hC, q⟩ := h
    refine ⟨_, (wss_cons (ss_first_reaching_2 c (we_callB (call_max2 c.calm) (gl_first_reaching_max c) z_max boot_max (wa_cons (pv_first_reaching_1 c) (wa_cons we_int wa_nil star_Constant) star_Name)))
      (wss_cons (ws_for c.own c.calm (wi_rev (gl_first_reaching_reversed c) z_reversed (wa_cons (pv_first_reaching_0 c) wa_nil star_Name)) (sg_first_reaching_3 c)
      (wss_one (ss_first_reaching_2 c (we_call (G_least_ahead.mono (by decide)) hr (gl_first_reaching_least_ahead c) m_least_ahead k_least_ahead b_least_ahead .nil pass0 (wa_cons (pv_first_reaching_3 c) (wa_cons (pv_first_reaching_2 c) wa_nil star_Name) star_Name)))))
      (wss_one (ws_ret (pv_first_reaching_2 c))))), ?_⟩
    rw [st_first_reaching]
    refine ⟨_, rfl, _, _, rfl, fun σ e => ?_⟩
    dsimp only [List.set] at e
    subst e
    have hlen : (as.map V.ref).length = sts.length := by rw [List.length_map, hC.len]
    refine ⟨_, rfl, l, _, rfl, hC.lst, for_rev (K := X.K) (a := l) (xs := as.map V.ref) (fun i σ H' => Same H H' ∧ ∃ m v, Thr (sts.drop (sts.length - i)) en m ∧ σ = [some (.ref l), some (.int en), some (.int m), v])
      ⟨Same.refl _, _, _, ?_, rfl⟩ (fun i σ H' _ ⟨e, _⟩ => e.seq hC.lst) ?_ ?_⟩
    · rw [Nat.sub_zero, List.drop_length]
      exact Thr.nil
    · rintro i x σ H' hi hx ⟨s0, m, v, T, rfl⟩ σ e
      obtain ⟨a, st, rfl, h1, h2, hT, hO⟩ := hC.get hx
      dsimp only [List.set] at e
      subst e
      rw [hlen] at hi h2
      refine ⟨_, rfl, _, rfl, a, st, m, rfl, s0.seqT hT, hO, fun m' H1 s1 m0 hm σ e => ?_⟩
      dsimp only [List.set] at e
      subst e
      refine ⟨s0.trans s1, m', _, ?_, rfl⟩
      rw [show sts.length - (i + 1) = sts.length - 1 - i by omega, drop_cons_at h2, show sts.length - 1 - i + 1 = sts.length - i by omega]
      exact T.cons hO m0 hm
    · rintro σ H' ⟨s0, m, v, T, rfl⟩
      rw [hlen, Nat.sub_self, List.drop_zero] at T
      exact ⟨_, rfl, q m H' s0 T.low⟩
theorem cal_first_reaching {P : Program} {w : World} {K : PySem.W.Frag} {mg : Str → Option Value} {base : Heap} {f : Addr} {fd : FuncData} (F : Fun K "first_reaching" "first_reaching" s_first_reaching f fd) (b : Binds K fd ["chain", "end"] []) (m : mg "first_reaching" = some (.ref f)) (z_max : mg "max" = none) (z_reversed : mg "reversed" = none) (C_least_ahead : Cal P w K mg base "least_ahead" 4 ["step", "amount"] (sp_least_ahead K)) : Cal P w K mg base "first_reaching" 5 ["chain", "end"] (sp_first_reaching K) :=
  ⟨f, fd, F.ok sc_first_reaching (fun vs H Q E h => by first | (obtain ⟨_, rfl, _⟩ := h; rfl) | (obtain ⟨_, _, rfl, _⟩ := h; rfl) | (obtain ⟨_, _, _, rfl, _⟩ := h; rfl) | (obtain ⟨_, _, _, _, rfl, _⟩ := h; rfl) | (obtain ⟨_, _, _, _, _, rfl, _⟩ := h; rfl) | (obtain ⟨_, _, _, _, _, _, rfl, _⟩ := h; rfl) | (obtain ⟨_, _, _, _, _, _, _, rfl, _⟩ := h; rfl) | (obtain ⟨_, _, _, _, _, _, _, _, rfl, _⟩ := h; rfl) | (obtain ⟨_, _, _, _, _, _, _, _, _, rfl, _⟩ := h; rfl)) (fun cdv A outer s H vs Q E hr h => unW (body_first_reaching (X := (cxOf CX0 P w K mg base ["chain", "end", "amount", "step"] "first_reaching" (defScope s_first_reaching) f cdv A outer s H E).nox) ⟨rfl, rfl, rfl, PassesOwn.never⟩ hr z_max z_reversed C_least_ahead h)), b, F.kp, m⟩
theorem lk_some_cycle_0 : (defScope s_some_cycle).names.lookup ("chain" : Str) = some .local := by decide +kernel
theorem pv_some_cycle_0 {X : Cx} (c : CxIs X ["chain", "cycle", "rise", "step", "own", "many"] (defScope s_some_cycle)) {pos : Pos} : WE X (.Name "chain" pos) (tVar 0) := wxv c rfl lk_some_cycle_0 (by decide) (by decide)
theorem lk_some_cycle_1 : (defScope s_some_cycle).names.lookup ("cycle" : Str) = some .local := by decide +kernel
theorem pv_some_cycle_1 {X : Cx} (c : CxIs X ["chain", "cycle", "rise", "step", "own", "many"] (defScope s_some_cycle)) {pos : Pos} : WE X (.Name "cycle" pos) (tVar 1) := wxv c rfl lk_some_cycle_1 (by decide) (by decide)
theorem ss_some_cycle_1 {X : Cx} (c : CxIs X ["chain", "cycle", "rise", "step", "own", "many"] (defScope s_some_cycle)) {pos pos' : Pos} {e : Expr} {te : TE} (he : WE X e te) (hs : swapsWith e (some (.Name "cycle" pos')) pos.line X.env = pure false := by rfl) : WS X (.Assign [.Name "cycle" pos'] e pos) (tAsg te (gN 1)) := wxs c sc_some_cycle.nd rfl lk_some_cycle_1 he hs
theorem lk_some_cycle_2 : (defScope s_some_cycle).names.lookup ("rise" : Str) = some .local := by decide +kernel
theorem pv_some_cycle_2 {X : Cx} (c : CxIs X ["chain", "cycle", "rise", "step", "own", "many"] (defScope s_some_cycle)) {pos : Pos} : WE X (.Name "rise" pos) (tVar 2) := wxv c rfl lk_some_cycle_2 (by decide) (by decide)
theorem ss_some_cycle_2 {X : Cx} (c : CxIs X ["chain", "cycle", "rise", "step", "own", "many"] (defScope s_some_cycle)) {pos pos' : Pos} {e : Expr} {te : TE} (he : WE X e te) (hs : swapsWith e (some (.Name "rise" pos')) pos.line X.env = pure false := by rfl) : WS X (.Assign [.Name "rise" pos'] e pos) (tAsg te (gN 2)) := wxs c sc_some_cycle.nd rfl lk_some_cycle_2 he hs
theorem lk_some_cycle_3 : (defScope s_some_cycle).names.lookup ("step" : Str) = some .local := by decide +kernel
theorem pv_some_cycle_3 {X : Cx} (c : CxIs X ["chain", "cycle", "rise", "step", "own", "many"] (defScope s_some_cycle)) {pos : Pos} : WE X (.Name "step" pos) (tVar 3) := wxv c rfl lk_some_cycle_3 (by decide) (by decide)
theorem sg_some_cycle_3 {X : Cx} (c : CxIs X ["chain", "cycle", "rise", "step", "own", "many"] (defScope s_some_cycle)) {pos : Pos} : WG X (.Name "step" pos) (gN 3) := wxt c sc_some_cycle.nd rfl lk_some_cycle_3
theorem lk_some_cycle_4 : (defScope s_some_cycle).names.lookup ("own" : Str) = some .local := by decide +kernel
theorem pv_some_cycle_4 {X : Cx} (c : CxIs X ["chain", "cycle", "rise", "step", "own", "many"] (defScope s_some_cycle)) {pos : Pos} : WE X (.Name "own" pos) (tVar 4) := wxv c rfl lk_some_cycle_4 (by decide) (by decide)
theorem ss_some_cycle_4 {X : Cx} (c : CxIs X ["chain", "cycle", "rise", "step", "own", "many"] (defScope s_some_cycle)) {pos pos' : Pos} {e : Expr} {te : TE} (he : WE X e te) (hs : swapsWith e (some (.Name "own" pos')) pos.line X.env = pure false := by rfl) : WS X (.Assign [.Name "own" pos'] e pos) (tAsg te (gN 4)) := wxs c sc_some_cycle.nd rfl lk_some_cycle_4 he hs
theorem lk_some_cycle_5 : (defScope s_some_cycle).names.lookup ("many" : Str) = some .local := by decide +kernel
theorem pv_some_cycle_5 {X : Cx} (c : CxIs X ["chain", "cycle", "rise", "step", "own", "many"] (defScope s_some_cycle)) {pos : Pos} : WE X (.Name "many" pos) (tVar 5) := wxv c rfl lk_some_cycle_5 (by decide) (by decide)
theorem ss_some_cycle_5 {X : Cx} (c : CxIs X ["chain", "cycle", "rise", "step", "own", "many"] (defScope s_some_cycle)) {pos pos' : Pos} {e : Expr} {te : TE} (he : WE X e te) (hs : swapsWith e (some (.Name "many" pos')) pos.line X.env = pure false := by rfl) : WS X (.Assign [.Name "many" pos'] e pos) (tAsg te (gN 5)) := wxs c sc_some_cycle.nd rfl lk_some_cycle_5 he hs
theorem gl_some_cycle_own_cycle {X : Cx} (c : CxIs X ["chain", "cycle", "rise", "step", "own", "many"] (defScope s_some_cycle)) : Gl X "own_cycle" := xg c (by decide +kernel)
theorem gl_some_cycle_common_divisor {X : Cx} (c : CxIs X ["chain", "cycle", "rise", "step", "own", "many"] (defScope s_some_cycle)) : Gl X "common_divisor" := xg c (by decide +kernel)
theorem st_some_cycle (v0 : V) : L2.start ["chain", "cycle", "rise", "step", "own", "many"] [v0] = [some v0, none, none, none, none, none] := rfl
noncomputable def sp_some_cycle (K : PySem.W.Frag) : Sp := fun vs H Q _ => ∃ (l : Addr) (as : List Addr) (sts : List StepD), vs = [.ref l] ∧ Chn K H l as sts ∧
  ∀ p (cc r : Int) H', Same H H' → SqT K H' p [.int cc, .int r] → 1 ≤ cc → 1 ≤ r → Per sts cc r → cc ∣ prodI sts → Q (.ref p) H'
theorem body_some_cycle {X : Cx} (c : CxIs X ["chain", "cycle", "rise", "step", "own", "many"] (defScope s_some_cycle)) (hr : Room 4 X.A) {E : XK}  (C_own_cycle : Cal X.prog X.w X.K X.mg X.base "own_cycle" 4 ["step"] (sp_own_cycle X.K)) (C_common_divisor : Cal X.prog X.w X.K X.mg X.base "common_divisor" 1 ["one", "other"] (sp_common_divisor X.K)) {vs : List V} {H : Hp} {Q : VK} (h : sp_some_cycle X.K vs H Q E) : ∃ t, WSs X (defBody s_some_cycle) t ∧ t { nx := fun _ H' => Q .non H', rt := Q } (L2.start ["chain", "cycle", "rise", "step", "own", "many"] vs) H := by
  obtain ⟨f_own_cycle, d_own_cycle, G_own_cycle, b_own_cycle, k_own_cycle, m_own_cycle⟩ := C_own_cycle
  obtain ⟨f_common_divisor, d_common_divisor, G_common_divisor, b_common_divisor, k_common_divisor, m_common_divisor⟩ := C_common_divisor
  · obtain ⟨l, as, sts, rfl, hC, q⟩ := h
    refine ⟨_, (wss_cons (ss_some_cycle_1 c we_int)
      (wss_cons (ss_some_cycle_2 c we_int)
      (wss_cons (ws_for c.own c.calm (wi_list (pv_some_cycle_0 c)) (sg_some_cycle_3 c)
      (wss_cons (ss_some_cycle_4 c (we_call (G_own_cycle.mono (by decide)) hr (gl_some_cycle_own_cycle c) m_own_cycle k_own_cycle b_own_cycle .nil pass0 (wa_cons (pv_some_cycle_3 c) wa_nil star_Name)))
      (wss_cons (ss_some_cycle_5 c (we_op op_fdivB (we_ix ix_tup (pv_some_cycle_4 c) we_int plain_Constant) (we_call (G_common_divisor.mono (by decide)) hr (gl_some_cycle_common_divisor c) m_common_divisor k_common_divisor b_common_divisor .nil pass0 (wa_cons (pv_some_cycle_2 c) (wa_cons (we_ix ix_tup (pv_some_cycle_4 c) we_int plain_Constant) wa_nil star_Subscript) star_Name))))
      (wss_cons (ss_some_cycle_1 c (we_op op_mulB (pv_some_cycle_1 c) (pv_some_cycle_5 c)))
      (wss_one (ss_some_cycle_2 c (we_op op_mulB (we_op op_fdivB (we_op op_mulB (pv_some_cycle_2 c) (pv_some_cycle_5 c)) (we_ix ix_tup (pv_some_cycle_4 c) we_int plain_Constant)) (we_ix ix_tup (pv_some_cycle_4 c) we_int plain_Constant))))))))
      (wss_one (ws_ret (we_tupO (wa_cons (pv_some_cycle_1 c) (wa_cons (pv_some_cycle_2 c) wa_nil star_Name) star_Name))))))), ?_⟩
    rw [st_some_cycle]
    intro σ e
    dsimp only [List.set] at e
    subst e
    intro σ e
    dsimp only [List.set] at e
    subst e
    refine ⟨_, rfl, l, rfl, ⟨_, hC.lst⟩, for_list (K := X.K) (a := l) (xs := as.map V.ref) (fun i σ H' => Same H H' ∧ ∃ x y, 1 ≤ x ∧ 1 ≤ y ∧ Per (sts.take i) x y ∧ x ∣ prodI (sts.take i) ∧ ∃ v1 v2 v3, σ = [some (.ref l), some (.int x), some (.int y), v1, v2, v3])
      ⟨Same.refl _, 1, 1, by omega, by omega, fun p _ => rfl, Int.dvd_refl _, _, _, _, rfl⟩ (fun i σ H' _ ⟨e, _⟩ => e.seq hC.lst) ?_ ?_⟩
    · rintro i z σ H' hi ⟨s0, x, y, x0, y0, per, dv, v1, v2, v3, rfl⟩ σ e
      obtain ⟨a, st, rfl, h1, h2', hT, hO⟩ := hC.get hi
      dsimp only [List.set] at e
      subst e
      refine ⟨_, rfl, a, st, rfl, s0.seqT hT, hO, fun p H1 s1 hP σ e => ?_⟩
      dsimp only [List.set] at e
      subst e
      have y0' := hO.cyc0
      have y1' := hO.cyc1
      have k0 := hO.kk0
      have k1 := hO.kk1
      have u0 := hO.u0
      have u1 := hO.u1
      obtain ⟨per', m0, md, rr⟩ := per_step (sts := sts.take i) hO x0 y0 per (endI_nn _ (ok_take hC.ok)) rfl rfl
      have mle : st.cyc / ((Int.gcd y st.cyc : Nat) : Int) ≤ st.cyc := div_le' (by omega) (gcd_pos (by omega))
      have gle : ((Int.gcd y st.cyc : Nat) : Int) ≤ st.cyc := Int.le_of_dvd (by omega) (Int.gcd_dvd_right _ _)
      have gp : 0 < ((Int.gcd y st.cyc : Nat) : Int) := gcd_pos (by omega)
      have ku : st.kk * st.u ≤ 200 * 100 := Int.mul_le_mul k1 u1 (by omega) (by omega)
      have ku0 : 1 * 1 ≤ st.kk * st.u := Int.mul_le_mul k0 u0 (by omega) (by omega)
      refine ⟨_, rfl, p, _, _, _, rfl, rfl, hP, rfl, _, rfl, _, rfl, p, _, _, _, rfl, rfl, hP, rfl, _, _, rfl, by omega, by omega, _, _, rfl, rfl, ⟨gp, by omega⟩, fun σ e => ?_⟩
      dsimp only [List.set] at e
      subst e
      refine ⟨_, rfl, _, rfl, _, _, rfl, rfl, mul_r (by omega) (by omega), fun σ e => ?_⟩
      dsimp only [List.set] at e
      subst e
      refine ⟨_, rfl, _, rfl, _, _, rfl, rfl, mul_r (by omega) (by omega), _, rfl, p, _, _, _, rfl, rfl, hP, rfl, _, _, rfl, rfl, ⟨by omega, by omega⟩, _, rfl, p, _, _, _, rfl, rfl, hP, rfl, _, _, rfl, rfl, mul_r (by omega) (by omega), fun σ e => ?_⟩
      dsimp only [List.set] at e
      subst e
      refine ⟨s0.trans s1, _, _, ?_, ?_, by rw [take_snoc h2']; exact per', ?_, _, _, _, rfl⟩
      · have := Int.mul_le_mul x0 m0 (by omega) (by omega)
        omega
      · have := Int.mul_le_mul rr ku0 (by omega) (by omega)
        omega
      · rw [take_snoc h2', prodI_snoc]
        exact Int.mul_dvd_mul dv md
    · rintro σ H' ⟨s0, x, y, x0, y0, per, dv, v1, v2, v3, rfl⟩
      have e : sts.take (as.map V.ref).length = sts := by rw [List.length_map, hC.len, List.take_length]
      rw [e] at per dv
      refine ⟨_, rfl, _, rfl, (small' (by show 2 ≤ 1000; decide)), fun p1 H1 _ s1 f1 => ?_⟩
      exact q p1 x y H1 (s0.trans s1) (SqT.of f1) x0 y0 per dv
theorem cal_some_cycle {P : Program} {w : World} {K : PySem.W.Frag} {mg : Str → Option Value} {base : Heap} {f : Addr} {fd : FuncData} (F : Fun K "some_cycle" "some_cycle" s_some_cycle f fd) (b : Binds K fd ["chain"] []) (m : mg "some_cycle" = some (.ref f)) (C_own_cycle : Cal P w K mg base "own_cycle" 4 ["step"] (sp_own_cycle K)) (C_common_divisor : Cal P w K mg base "common_divisor" 1 ["one", "other"] (sp_common_divisor K)) : Cal P w K mg base "some_cycle" 5 ["chain"] (sp_some_cycle K) :=
  ⟨f, fd, F.ok sc_some_cycle (fun vs H Q E h => by first | (obtain ⟨_, rfl, _⟩ := h; rfl) | (obtain ⟨_, _, rfl, _⟩ := h; rfl) | (obtain ⟨_, _, _, rfl, _⟩ := h; rfl) | (obtain ⟨_, _, _, _, rfl, _⟩ := h; rfl) | (obtain ⟨_, _, _, _, _, rfl, _⟩ := h; rfl) | (obtain ⟨_, _, _, _, _, _, rfl, _⟩ := h; rfl) | (obtain ⟨_, _, _, _, _, _, _, rfl, _⟩ := h; rfl) | (obtain ⟨_, _, _, _, _, _, _, _, rfl, _⟩ := h; rfl) | (obtain ⟨_, _, _, _, _, _, _, _, _, rfl, _⟩ := h; rfl)) (fun cdv A outer s H vs Q E hr h => unW (body_some_cycle (X := (cxOf CX0 P w K mg base ["chain", "cycle", "rise", "step", "own", "many"] "some_cycle" (defScope s_some_cycle) f cdv A outer s H E).nox) ⟨rfl, rfl, rfl, PassesOwn.never⟩ hr C_own_cycle C_common_divisor h)), b, F.kp, m⟩
theorem lk_first_ends_0 : (defScope s_first_ends).names.lookup ("chain" : Str) = some .local := by decide +kernel
theorem pv_first_ends_0 {X : Cx} (c : CxIs X ["chain", "many", "ends", "step"] (defScope s_first_ends)) {pos : Pos} : WE X (.Name "chain" pos) (tVar 0) := wxv c rfl lk_first_ends_0 (by decide) (by decide)
theorem lk_first_ends_1 : (defScope s_first_ends).names.lookup ("many" : Str) = some .local := by decide +kernel
theorem pv_first_ends_1 {X : Cx} (c : CxIs X ["chain", "many", "ends", "step"] (defScope s_first_ends)) {pos : Pos} : WE X (.Name "many" pos) (tVar 1) := wxv c rfl lk_first_ends_1 (by decide) (by decide)
theorem lk_first_ends_2 : (defScope s_first_ends).names.lookup ("ends" : Str) = some .local := by decide +kernel
theorem pv_first_ends_2 {X : Cx} (c : CxIs X ["chain", "many", "ends", "step"] (defScope s_first_ends)) {pos : Pos} : WE X (.Name "ends" pos) (tVar 2) := wxv c rfl lk_first_ends_2 (by decide) (by decide)
theorem ss_first_ends_2 {X : Cx} (c : CxIs X ["chain", "many", "ends", "step"] (defScope s_first_ends)) {pos pos' : Pos} {e : Expr} {te : TE} (he : WE X e te) (hs : swapsWith e (some (.Name "ends" pos')) pos.line X.env = pure false := by rfl) : WS X (.Assign [.Name "ends" pos'] e pos) (tAsg te (gN 2)) := wxs c sc_first_ends.nd rfl lk_first_ends_2 he hs
theorem lk_first_ends_3 : (defScope s_first_ends).names.lookup ("step" : Str) = some .cell := by decide +kernel
theorem sg_first_ends_3 {X : Cx} (c : CxIs X ["chain", "many", "ends", "step"] (defScope s_first_ends)) (hf : ∀ x, X.fn x = true) {pos : Pos} : WG X (.Name "step" pos) (gN 3) := wxtC c hf sc_first_ends.nd rfl lk_first_ends_3
theorem gl_first_ends_list {X : Cx} (c : CxIs X ["chain", "many", "ends", "step"] (defScope s_first_ends)) : Gl X "list" := xg c (by decide +kernel)
theorem gl_first_ends_range {X : Cx} (c : CxIs X ["chain", "many", "ends", "step"] (defScope s_first_ends)) : Gl X "range" := xg c (by decide +kernel)
theorem st_first_ends (v0 v1 : V) : L2.start ["chain", "many", "ends", "step"] [v0, v1] = [some v0, some v1, none, none] := rfl
noncomputable def sp_first_ends (K : PySem.W.Frag) : Sp := fun vs H Q _ => ∃ (l : Addr) (as : List Addr) (sts : List StepD) (m : Int), vs = [.ref l, .int m] ∧ Chn K H l as sts ∧ 0 ≤ m ∧ m ≤ 20000 ∧
  ∀ p H', Same H H' → SqL K H' p ((endsI sts m).map V.int) → Q (.ref p) H'
theorem body_first_ends {X : Cx} (c : CxIs X ["chain", "many", "ends", "step"] (defScope s_first_ends)) (hr : Room 4 X.A) {E : XK}  (hf : ∀ x, X.fn x = true) (z_list : X.mg "list" = none) (z_range : X.mg "range" = none) (C_after : Cal X.prog X.w X.K X.mg X.base "after" 4 ["step", "amount"] (sp_after X.K)) {vs : List V} {H : Hp} {Q : VK} (h : sp_first_ends X.K vs H Q E) : ∃ t, WSs X (defBody s_first_ends) t ∧ t { nx := fun _ H' => Q .non H', rt := Q } (L2.start ["chain", "many", "ends", "step"] vs) H := by
  obtain ⟨f_after, d_after, G_after, b_after, k_after, m_after⟩ := C_after
  · obtain ⟨l, as, sts, m, rfl, hC, m0, m1, q⟩ := h
    refine ⟨_, (wss_cons (ss_first_ends_2 c (we_callTy (call_list_rng c.calm) (gl_first_ends_list c) z_list boot_ty_list (wa_cons (we_callTy call_range1 (gl_first_ends_range c) z_range boot_ty_range (wa_cons (pv_first_ends_1 c) wa_nil star_Name)) wa_nil star_Call)))
      (wss_cons (ws_for c.own c.calm (wi_list (pv_first_ends_0 c)) (sg_first_ends_3 c hf)
      (wss_one (ws_comp (fs := ["step"]) (fr := [3]) (i := 2) c sc_first_ends.nd (by decide +kernel) rfl lk_first_ends_2 (wi_list (pv_first_ends_2 c)) (fun _ _ _ _ _ cc => (we_call (G_after.mono (by decide)) hr (xg cc (by decide +kernel)) m_after k_after b_after .nil pass0 (wa_cons (wxvC cc (i := 1) rfl (by decide +kernel) (by decide) (by decide)) (wa_cons (wxv cc (i := 0) rfl (by decide +kernel) (by decide) (by decide)) wa_nil star_Name) star_Name))) rfl rfl (by decide +kernel))))
      (wss_one (ws_ret (pv_first_ends_2 c))))), ?_⟩
    rw [st_first_ends]
    refine ⟨_, rfl, _, rfl, fun p1 H1 n1 s1 f1 => ?_⟩
    refine ⟨p1, _, _, rfl, f1, by omega, by omega, by omega, by omega, by omega, fun p2 H2 n2 s2 f2 σ e => ?_⟩
    dsimp only [List.set] at e
    subst e
    rw [← endsI_nil] at f2
    refine ⟨_, rfl, l, rfl, ⟨_, (s1.trans s2).seq hC.lst⟩, for_list (K := X.K) (a := l) (xs := as.map V.ref) (fun i σ H' => Same H H' ∧ ∃ p, SqL X.K H' p ((endsI (sts.take i) m).map V.int) ∧ ∃ v1, σ = [some (.ref l), some (.int m), some (.ref p), v1])
      ⟨s1.trans s2, p2, SqL.of f2, _, rfl⟩ (fun i σ H' _ ⟨e, _⟩ => e.seq hC.lst) ?_ ?_⟩
    · rintro i z σ H' hi ⟨s0, p, hP, v1, rfl⟩ σ e
      obtain ⟨a, st, rfl, h1, h2', hT, hO⟩ := hC.get hi
      dsimp only [List.set] at e
      subst e
      refine ⟨_, rfl, p, rfl, ⟨_, hP⟩, comp_map (xs := (endsI (sts.take i) m).map V.int) (ys := (endsI (sts.take (i + 1)) m).map V.int) (by rw [endsI_size]; exact Nat.le_trans (show _ ≤ 20000 by omega) (by decide)) hP (by rw [endsI_size, endsI_size]) ?_ ?_⟩
      · intro j x y H3 hx hy s3 R hR
        obtain ⟨rfl, _⟩ := endsI_get hx
        obtain ⟨rfl, _⟩ := endsI_get hy
        refine ⟨_, rfl, _, rfl, a, st, _, rfl, (s0.trans s3).seqT hT, hO, fun H4 s4 => ?_⟩
        have := hR H4 s4
        rw [take_snoc h2', endI_snoc, ← after_many hO] at this
        exact this
      · intro p' H3 n3 s3 f3 σ e
        dsimp only [List.set] at e
        subst e
        exact ⟨s0.trans s3, p', SqL.of f3, _, rfl⟩
    · rintro σ H' ⟨s0, p, hP, v1, rfl⟩
      have e : sts.take (as.map V.ref).length = sts := by rw [List.length_map, hC.len, List.take_length]
      rw [e] at hP
      exact ⟨_, rfl, q p H' s0 hP⟩
theorem cal_first_ends {P : Program} {w : World} {K : PySem.W.Frag} {mg : Str → Option Value} {base : Heap} {f : Addr} {fd : FuncData} (F : Fun K "first_ends" "first_ends" s_first_ends f fd) (b : Binds K fd ["chain", "many"] []) (m : mg "first_ends" = some (.ref f)) (z_list : mg "list" = none) (z_range : mg "range" = none) (C_after : Cal P w K mg base "after" 4 ["step", "amount"] (sp_after K)) : Cal P w K mg base "first_ends" 5 ["chain", "many"] (sp_first_ends K) :=
  ⟨f, fd, F.ok sc_first_ends (fun vs H Q E h => by first | (obtain ⟨_, rfl, _⟩ := h; rfl) | (obtain ⟨_, _, rfl, _⟩ := h; rfl) | (obtain ⟨_, _, _, rfl, _⟩ := h; rfl) | (obtain ⟨_, _, _, _, rfl, _⟩ := h; rfl) | (obtain ⟨_, _, _, _, _, rfl, _⟩ := h; rfl) | (obtain ⟨_, _, _, _, _, _, rfl, _⟩ := h; rfl) | (obtain ⟨_, _, _, _, _, _, _, rfl, _⟩ := h; rfl) | (obtain ⟨_, _, _, _, _, _, _, _, rfl, _⟩ := h; rfl) | (obtain ⟨_, _, _, _, _, _, _, _, _, rfl, _⟩ := h; rfl)) (fun cdv A outer s H vs Q E hr h => unW (body_first_ends (X := (cxOf CX0 P w K mg base ["chain", "many", "ends", "step"] "first_ends" (defScope s_first_ends) f cdv A outer s H E).nox) ⟨rfl, rfl, rfl, PassesOwn.never⟩ hr (fun _ => rfl) z_list z_range C_after h)), b, F.kp, m⟩
theorem lk_law_origin_0 : (defScope s_law_origin).names.lookup ("_law_steps" : Str) = some .local := by decide +kernel
theorem pv_law_origin_0 {X : Cx} (c : CxIs X ["_law_steps", "_law_end_here", "_law_first"] (defScope s_law_origin)) {pos : Pos} : WE X (.Name "_law_steps" pos) (tVar 0) := wxv c rfl lk_law_origin_0 (by decide) (by decide)
theorem lk_law_origin_1 : (defScope s_law_origin).names.lookup ("_law_end_here" : Str) = some .local := by decide +kernel
theorem pv_law_origin_1 {X : Cx} (c : CxIs X ["_law_steps", "_law_end_here", "_law_first"] (defScope s_law_origin)) {pos : Pos} : WE X (.Name "_law_end_here" pos) (tVar 1) := wxv c rfl lk_law_origin_1 (by decide) (by decide)
theorem lk_law_origin_2 : (defScope s_law_origin).names.lookup ("_law_first" : Str) = some .local := by decide +kernel
theorem pv_law_origin_2 {X : Cx} (c : CxIs X ["_law_steps", "_law_end_here", "_law_first"] (defScope s_law_origin)) {pos : Pos} : WE X (.Name "_law_first" pos) (tVar 2) := wxv c rfl lk_law_origin_2 (by decide) (by decide)
theorem ss_law_origin_2 {X : Cx} (c : CxIs X ["_law_steps", "_law_end_here", "_law_first"] (defScope s_law_origin)) {pos pos' : Pos} {e : Expr} {te : TE} (he : WE X e te) (hs : swapsWith e (some (.Name "_law_first" pos')) pos.line X.env = pure false := by rfl) : WS X (.Assign [.Name "_law_first" pos'] e pos) (tAsg te (gN 2)) := wxs c sc_law_origin.nd rfl lk_law_origin_2 he hs
theorem gl_law_origin_law_least {X : Cx} (c : CxIs X ["_law_steps", "_law_end_here", "_law_first"] (defScope s_law_origin)) : Gl X "_law_least" := xg c (by decide +kernel)
theorem gl_law_origin_law_end {X : Cx} (c : CxIs X ["_law_steps", "_law_end_here", "_law_first"] (defScope s_law_origin)) : Gl X "_law_end" := xg c (by decide +kernel)
theorem st_law_origin (v0 v1 : V) : L2.start ["_law_steps", "_law_end_here", "_law_first"] [v0, v1] = [some v0, some v1, none] := rfl
noncomputable def sp_law_origin (K : PySem.W.Frag) : Sp := fun vs H Q _ => ∃ (l : Addr) (as : List Addr) (sts : List StepD) (en : Int), vs = [.ref l, .int en] ∧ Chn K H l as sts ∧ 0 ≤ en ∧
  (∀ p f la H', Same H H' → SqT K H' p [.str "from", .int f, .int la] → From sts en f la → Q (.ref p) H') ∧
  (∀ p m (bel : V) H', Same H H' → SqT K H' p [.str "none", bel, .int (endI sts m)] → Low sts en m → ¬ endI sts m = en → (m = 0 ∧ bel = .non ∨ 0 < m ∧ bel = .int (endI sts (m - 1))) → Q (.ref p) H')
theorem body_law_origin {X : Cx} (c : CxIs X ["_law_steps", "_law_end_here", "_law_first"] (defScope s_law_origin)) (hr : Room 4 X.A) {E : XK}  (C_law_least : Cal X.prog X.w X.K X.mg X.base "_law_least" 4 ["_law_steps", "_law_end_here"] (sp_law_least X.K)) (C_law_end : Cal X.prog X.w X.K X.mg X.base "_law_end" 3 ["_law_steps", "_law_amount"] (sp_law_end X.K)) {vs : List V} {H : Hp} {Q : VK} (h : sp_law_origin X.K vs H Q E) : ∃ t, WSs X (defBody s_law_origin) t ∧ t { nx := fun _ H' => Q .non H', rt := Q } (L2.start ["_law_steps", "_law_end_here", "_law_first"] vs) H := by
  obtain ⟨f_law_least, d_law_least, G_law_least, b_law_least, k_law_least, m_law_least⟩ := C_law_least
  obtain ⟨f_law_end, d_law_end, G_law_end, b_law_end, k_law_end, m_law_end⟩ := C_law_end
  · obtain ⟨l, as, sts, en, rfl, hC, e0, q1, q2⟩ := h
    refine ⟨_, (wss_cons (ss_law_origin_2 c (we_call (G_law_least.mono (by decide)) hr (gl_law_origin_law_least c) m_law_least k_law_least b_law_least .nil pass0 (wa_cons (pv_law_origin_0 c) (wa_cons (pv_law_origin_1 c) wa_nil star_Name) star_Name)))
      (wss_cons (ws_if (wt_cmpR op_eq (we_call (G_law_end.mono (by decide)) hr (gl_law_origin_law_end c) m_law_end k_law_end b_law_end .nil pass0 (wa_cons (pv_law_origin_0 c) (wa_cons (pv_law_origin_2 c) wa_nil star_Name) star_Name)) (pv_law_origin_1 c) (nomark _))
      (wss_one (ws_ret (we_tupO (wa_cons we_str (wa_cons (pv_law_origin_2 c) (wa_cons (we_op op_sub (we_call (G_law_least.mono (by decide)) hr (gl_law_origin_law_least c) m_law_least k_law_least b_law_least .nil pass0 (wa_cons (pv_law_origin_0 c) (wa_cons (we_op op_add (pv_law_origin_1 c) we_int) wa_nil star_BinOp) star_Name)) we_int) wa_nil star_BinOp) star_Name) star_Constant))))
      wss_nil)
      (wss_cons (ws_if (wt_cmpR op_eq (pv_law_origin_2 c) we_int (nomark _))
      (wss_one (ws_ret (we_tupO (wa_cons we_str (wa_cons we_non (wa_cons (we_call (G_law_end.mono (by decide)) hr (gl_law_origin_law_end c) m_law_end k_law_end b_law_end .nil pass0 (wa_cons (pv_law_origin_0 c) (wa_cons we_int wa_nil star_Constant) star_Name)) wa_nil star_Call) star_Constant) star_Constant))))
      wss_nil)
      (wss_one (ws_ret (we_tupO (wa_cons we_str (wa_cons (we_call (G_law_end.mono (by decide)) hr (gl_law_origin_law_end c) m_law_end k_law_end b_law_end .nil pass0 (wa_cons (pv_law_origin_0 c) (wa_cons (we_op op_sub (pv_law_origin_2 c) we_int) wa_nil star_BinOp) star_Name)) (wa_cons (we_call (G_law_end.mono (by decide)) hr (gl_law_origin_law_end c) m_law_end k_law_end b_law_end .nil pass0 (wa_cons (pv_law_origin_0 c) (wa_cons (pv_law_origin_2 c) wa_nil star_Name) star_Name)) wa_nil star_Call) star_Call) star_Constant))))))), ?_⟩
    rw [st_law_origin]
    refine ⟨_, rfl, _, rfl, l, as, sts, en, rfl, hC, e0, fun m hL σ e => ?_⟩
    dsimp only [List.set] at e
    subst e
    have m0 := hL.m0
    refine ⟨_, rfl, _, rfl, l, as, sts, m, rfl, hC, _, rfl, rfl, _, rfl, ?_⟩
    refine if2 (fun c => ?_) (fun c => ?_)
    · have c' := of_int c
      refine ⟨_, rfl, _, rfl, _, rfl, _, _, rfl, rfl, l, as, sts, _, rfl, hC, by omega, fun m2 hL2 => ⟨_, _, rfl, rfl, (small' (by show 3 ≤ 1000; decide)), fun p H1 _ s1 f1 => ?_⟩⟩
      exact q1 p m (m2 - 1) H1 s1 (SqT.of f1) ⟨hL, c', by rw [show m2 - 1 + 1 = m2 by omega]; exact hL2⟩
    · refine ⟨_, rfl, rfl, _, rfl, ?_⟩
      refine if2 (fun d => ?_) (fun d => ?_)
      · have d' := of_int d
        subst d'
        refine ⟨_, rfl, l, as, sts, 0, rfl, hC, (small' (by show 3 ≤ 1000; decide)), fun p H1 _ s1 f1 => ?_⟩
        exact q2 p 0 .non H1 s1 (SqT.of f1) hL (of_not_int c) (.inl ⟨rfl, rfl⟩)
      · have d' := of_not_int d
        refine ⟨_, rfl, _, rfl, _, _, rfl, rfl, l, as, sts, _, rfl, hC, _, rfl, _, rfl, l, as, sts, m, rfl, hC, (small' (by show 3 ≤ 1000; decide)), fun p H1 _ s1 f1 => ?_⟩
        exact q2 p m _ H1 s1 (SqT.of f1) hL (of_not_int c) (.inr ⟨by omega, rfl⟩)
theorem cal_law_origin {P : Program} {w : World} {K : PySem.W.Frag} {mg : Str → Option Value} {base : Heap} {f : Addr} {fd : FuncData} (F : Fun K "_law_origin" "_law_origin" s_law_origin f fd) (b : Binds K fd ["_law_steps", "_law_end_here"] []) (m : mg "_law_origin" = some (.ref f)) (C_law_least : Cal P w K mg base "_law_least" 4 ["_law_steps", "_law_end_here"] (sp_law_least K)) (C_law_end : Cal P w K mg base "_law_end" 3 ["_law_steps", "_law_amount"] (sp_law_end K)) : Cal P w K mg base "_law_origin" 5 ["_law_steps", "_law_end_here"] (sp_law_origin K) :=
  ⟨f, fd, F.ok sc_law_origin (fun vs H Q E h => by first | (obtain ⟨_, rfl, _⟩ := h; rfl) | (obtain ⟨_, _, rfl, _⟩ := h; rfl) | (obtain ⟨_, _, _, rfl, _⟩ := h; rfl) | (obtain ⟨_, _, _, _, rfl, _⟩ := h; rfl) | (obtain ⟨_, _, _, _, _, rfl, _⟩ := h; rfl) | (obtain ⟨_, _, _, _, _, _, rfl, _⟩ := h; rfl) | (obtain ⟨_, _, _, _, _, _, _, rfl, _⟩ := h; rfl) | (obtain ⟨_, _, _, _, _, _, _, _, rfl, _⟩ := h; rfl) | (obtain ⟨_, _, _, _, _, _, _, _, _, rfl, _⟩ := h; rfl)) (fun cdv A outer s H vs Q E hr h => unW (body_law_origin (X := (cxOf CX0 P w K mg base ["_law_steps", "_law_end_here", "_law_first"] "_law_origin" (defScope s_law_origin) f cdv A outer s H E).nox) ⟨rfl, rfl, rfl, PassesOwn.never⟩ hr C_law_least C_law_end h)), b, F.kp, m⟩
theorem lk_law_gone_0 : (defScope s_law_gone).names.lookup ("_law_steps" : Str) = some .local := by decide +kernel
theorem pv_law_gone_0 {X : Cx} (c : CxIs X ["_law_steps", "_law_low", "_law_high", "_law_gone_here", "_law_end_here", "_law_price", "_law_found"] (defScope s_law_gone)) {pos : Pos} : WE X (.Name "_law_steps" pos) (tVar 0) := wxv c rfl lk_law_gone_0 (by decide) (by decide)
theorem lk_law_gone_1 : (defScope s_law_gone).names.lookup ("_law_low" : Str) = some .local := by decide +kernel
theorem pv_law_gone_1 {X : Cx} (c : CxIs X ["_law_steps", "_law_low", "_law_high", "_law_gone_here", "_law_end_here", "_law_price", "_law_found"] (defScope s_law_gone)) {pos : Pos} : WE X (.Name "_law_low" pos) (tVar 1) := wxv c rfl lk_law_gone_1 (by decide) (by decide)
theorem lk_law_gone_2 : (defScope s_law_gone).names.lookup ("_law_high" : Str) = some .local := by decide +kernel
theorem pv_law_gone_2 {X : Cx} (c : CxIs X ["_law_steps", "_law_low", "_law_high", "_law_gone_here", "_law_end_here", "_law_price", "_law_found"] (defScope s_law_gone)) {pos : Pos} : WE X (.Name "_law_high" pos) (tVar 2) := wxv c rfl lk_law_gone_2 (by decide) (by decide)
theorem lk_law_gone_3 : (defScope s_law_gone).names.lookup ("_law_gone_here" : Str) = some .local := by decide +kernel
theorem pv_law_gone_3 {X : Cx} (c : CxIs X ["_law_steps", "_law_low", "_law_high", "_law_gone_here", "_law_end_here", "_law_price", "_law_found"] (defScope s_law_gone)) {pos : Pos} : WE X (.Name "_law_gone_here" pos) (tVar 3) := wxv c rfl lk_law_gone_3 (by decide) (by decide)
theorem ss_law_gone_3 {X : Cx} (c : CxIs X ["_law_steps", "_law_low", "_law_high", "_law_gone_here", "_law_end_here", "_law_price", "_law_found"] (defScope s_law_gone)) {pos pos' : Pos} {e : Expr} {te : TE} (he : WE X e te) (hs : swapsWith e (some (.Name "_law_gone_here" pos')) pos.line X.env = pure false := by rfl) : WS X (.Assign [.Name "_law_gone_here" pos'] e pos) (tAsg te (gN 3)) := wxs c sc_law_gone.nd rfl lk_law_gone_3 he hs
theorem lk_law_gone_4 : (defScope s_law_gone).names.lookup ("_law_end_here" : Str) = some .local := by decide +kernel
theorem pv_law_gone_4 {X : Cx} (c : CxIs X ["_law_steps", "_law_low", "_law_high", "_law_gone_here", "_law_end_here", "_law_price", "_law_found"] (defScope s_law_gone)) {pos : Pos} : WE X (.Name "_law_end_here" pos) (tVar 4) := wxv c rfl lk_law_gone_4 (by decide) (by decide)
theorem ss_law_gone_4 {X : Cx} (c : CxIs X ["_law_steps", "_law_low", "_law_high", "_law_gone_here", "_law_end_here", "_law_price", "_law_found"] (defScope s_law_gone)) {pos pos' : Pos} {e : Expr} {te : TE} (he : WE X e te) (hs : swapsWith e (some (.Name "_law_end_here" pos')) pos.line X.env = pure false := by rfl) : WS X (.Assign [.Name "_law_end_here" pos'] e pos) (tAsg te (gN 4)) := wxs c sc_law_gone.nd rfl lk_law_gone_4 he hs
theorem lk_law_gone_5 : (defScope s_law_gone).names.lookup ("_law_price" : Str) = some .local := by decide +kernel
theorem pv_law_gone_5 {X : Cx} (c : CxIs X ["_law_steps", "_law_low", "_law_high", "_law_gone_here", "_law_end_here", "_law_price", "_law_found"] (defScope s_law_gone)) {pos : Pos} : WE X (.Name "_law_price" pos) (tVar 5) := wxv c rfl lk_law_gone_5 (by decide) (by decide)
theorem ss_law_gone_5 {X : Cx} (c : CxIs X ["_law_steps", "_law_low", "_law_high", "_law_gone_here", "_law_end_here", "_law_price", "_law_found"] (defScope s_law_gone)) {pos pos' : Pos} {e : Expr} {te : TE} (he : WE X e te) (hs : swapsWith e (some (.Name "_law_price" pos')) pos.line X.env = pure false := by rfl) : WS X (.Assign [.Name "_law_price" pos'] e pos) (tAsg te (gN 5)) := wxs c sc_law_gone.nd rfl lk_law_gone_5 he hs
theorem lk_law_gone_6 : (defScope s_law_gone).names.lookup ("_law_found" : Str) = some .local := by decide +kernel
theorem pv_law_gone_6 {X : Cx} (c : CxIs X ["_law_steps", "_law_low", "_law_high", "_law_gone_here", "_law_end_here", "_law_price", "_law_found"] (defScope s_law_gone)) {pos : Pos} : WE X (.Name "_law_found" pos) (tVar 6) := wxv c rfl lk_law_gone_6 (by decide) (by decide)
theorem ss_law_gone_6 {X : Cx} (c : CxIs X ["_law_steps", "_law_low", "_law_high", "_law_gone_here", "_law_end_here", "_law_price", "_law_found"] (defScope s_law_gone)) {pos pos' : Pos} {e : Expr} {te : TE} (he : WE X e te) (hs : swapsWith e (some (.Name "_law_found" pos')) pos.line X.env = pure false := by rfl) : WS X (.Assign [.Name "_law_found" pos'] e pos) (tAsg te (gN 6)) := wxs c sc_law_gone.nd rfl lk_law_gone_6 he hs
theorem gl_law_gone_law_least {X : Cx} (c : CxIs X ["_law_steps", "_law_low", "_law_high", "_law_gone_here", "_law_end_here", "_law_price", "_law_found"] (defScope s_law_gone)) : Gl X "_law_least" := xg c (by decide +kernel)
theorem gl_law_gone_law_end {X : Cx} (c : CxIs X ["_law_steps", "_law_low", "_law_high", "_law_gone_here", "_law_end_here", "_law_price", "_law_found"] (defScope s_law_gone)) : Gl X "_law_end" := xg c (by decide +kernel)
theorem gl_law_gone_law_next {X : Cx} (c : CxIs X ["_law_steps", "_law_low", "_law_high", "_law_gone_here", "_law_end_here", "_law_price", "_law_found"] (defScope s_law_gone)) : Gl X "_law_next" := xg c (by decide +kernel)
theorem gl_law_gone_list {X : Cx} (c : CxIs X ["_law_steps", "_law_low", "_law_high", "_law_gone_here", "_law_end_here", "_law_price", "_law_found"] (defScope s_law_gone)) : Gl X "list" := xg c (by decide +kernel)
theorem gl_law_gone_range {X : Cx} (c : CxIs X ["_law_steps", "_law_low", "_law_high", "_law_gone_here", "_law_end_here", "_law_price", "_law_found"] (defScope s_law_gone)) : Gl X "range" := xg c (by decide +kernel)
theorem gl_law_gone_min {X : Cx} (c : CxIs X ["_law_steps", "_law_low", "_law_high", "_law_gone_here", "_law_end_here", "_law_price", "_law_found"] (defScope s_law_gone)) : Gl X "min" := xg c (by decide +kernel)
theorem st_law_gone (v0 v1 v2 : V) : L2.start ["_law_steps", "_law_low", "_law_high", "_law_gone_here", "_law_end_here", "_law_price", "_law_found"] [v0, v1, v2] = [some v0, some v1, some v2, none, none, none, none] := rfl
noncomputable def sp_law_gone (K : PySem.W.Frag) : Sp := fun vs H Q _ => ∃ (l : Addr) (as : List Addr) (sts : List StepD) (low high : Int), vs = [.ref l, .int low, .int high] ∧ Chn K H l as sts ∧ 0 ≤ low ∧ high - low ≤ 400 ∧ ∀ p H', Same H H' → H p = none → H' p = some (.lst ((goneI sts low (high + 1)).map V.int)) → Q (.ref p) H'
theorem body_law_gone {X : Cx} (c : CxIs X ["_law_steps", "_law_low", "_law_high", "_law_gone_here", "_law_end_here", "_law_price", "_law_found"] (defScope s_law_gone)) (hr : Room 4 X.A) {E : XK}  (z_list : X.mg "list" = none) (z_range : X.mg "range" = none) (z_min : X.mg "min" = none) (C_law_least : Cal X.prog X.w X.K X.mg X.base "_law_least" 4 ["_law_steps", "_law_end_here"] (sp_law_least X.K)) (C_law_end : Cal X.prog X.w X.K X.mg X.base "_law_end" 3 ["_law_steps", "_law_amount"] (sp_law_end X.K)) (C_law_next : Cal X.prog X.w X.K X.mg X.base "_law_next" 4 ["_law_steps", "_law_price"] (sp_law_next X.K)) {vs : List V} {H : Hp} {Q : VK} (h : sp_law_gone X.K vs H Q E) : ∃ t, WSs X (defBody s_law_gone) t ∧ t { nx := fun _ H' => Q .non H', rt := Q } (L2.start ["_law_steps", "_law_low", "_law_high", "_law_gone_here", "_law_end_here", "_law_price", "_law_found"] vs) H := by
  obtain ⟨f_law_least, d_law_least, G_law_least, b_law_least, k_law_least, m_law_least⟩ := C_law_least
  obtain ⟨f_law_end, d_law_end, G_law_end, b_law_end, k_law_end, m_law_end⟩ := C_law_end
  obtain ⟨f_law_next, d_law_next, G_law_next, b_law_next, k_law_next, m_law_next⟩ := C_law_next
  · obtain ⟨l, as, sts, low, high, rfl, hC, l0, lh, q⟩ := h
    refine ⟨_, (wss_cons (ss_law_gone_3 c (we_lstO wa_nil))
      (wss_cons (ss_law_gone_4 c (pv_law_gone_1 c))
      (wss_cons (ss_law_gone_5 c (we_call (G_law_least.mono (by decide)) hr (gl_law_gone_law_least c) m_law_least k_law_least b_law_least .nil pass0 (wa_cons (pv_law_gone_0 c) (wa_cons (pv_law_gone_1 c) wa_nil star_Name) star_Name)))
      (wss_cons (ws_while c.own (wt_cmpR op_le (pv_law_gone_4 c) (pv_law_gone_2 c) (nomark _))
      (wss_cons (ss_law_gone_6 c (we_call (G_law_end.mono (by decide)) hr (gl_law_gone_law_end c) m_law_end k_law_end b_law_end .nil pass0 (wa_cons (pv_law_gone_0 c) (wa_cons (pv_law_gone_5 c) wa_nil star_Name) star_Name)))
      (wss_cons (ws_expr (we_bm PySem.F.plainAttrs_list PySem.F.slot_list_extend PySem.F.type_list_extend mt_extend (pv_law_gone_3 c) (wa_cons (we_callTy (call_list_rngL c.calm) (gl_law_gone_list c) z_list boot_ty_list (wa_cons (we_callTy call_range2 (gl_law_gone_range c) z_range boot_ty_range (wa_cons (pv_law_gone_4 c) (wa_cons (we_callB (call_min2 c.calm) (gl_law_gone_min c) z_min boot_min (wa_cons (pv_law_gone_6 c) (wa_cons (we_op op_add (pv_law_gone_2 c) we_int) wa_nil star_BinOp) star_Name)) wa_nil star_Call) star_Name)) wa_nil star_Call)) wa_nil star_Call)))
      (wss_cons (ss_law_gone_4 c (we_op op_add (pv_law_gone_6 c) we_int))
      (wss_one (ss_law_gone_5 c (we_call (G_law_next.mono (by decide)) hr (gl_law_gone_law_next c) m_law_next k_law_next b_law_next .nil pass0 (wa_cons (pv_law_gone_0 c) (wa_cons (pv_law_gone_5 c) wa_nil star_Name) star_Name))))))))
      (wss_one (ws_ret (pv_law_gone_3 c))))))), ?_⟩
    rw [st_law_gone]
    refine ⟨(small' (by show 0 ≤ 1000; decide)), fun pg H1 n1 s1 f1 σ e => ?_⟩
    dsimp only [List.set] at e
    subst e
    refine ⟨_, rfl, fun σ e => ?_⟩
    dsimp only [List.set] at e
    subst e
    refine ⟨_, rfl, _, rfl, l, as, sts, low, rfl, hC.same s1, l0, fun m hL σ e => ?_⟩
    dsimp only [List.set] at e
    subst e
    have g0 : goneI sts low (min low (high + 1)) = [] := gone_nil sts (by omega)
    refine while_by (fun σ H' => Same H H' ∧ ∃ en pr, low ≤ en ∧ Low sts en pr ∧ H' pg = some (.lst ((goneI sts low (min en (high + 1))).map V.int)) ∧ ∃ v, σ = [some (.ref l), some (.int low), some (.int high), some (.ref pg), some (.int en), some (.int pr), v])
      (fun σ _ => match σ with | [_, _, _, _, some (.int en), _, _] => (high + 1 - en).toNat | _ => 0) ⟨s1, low, m, Int.le_refl _, hL, by rw [g0]; exact f1, _, rfl⟩ ?_ ?_
    · rintro σ H2 ⟨s2, en, pr, hle, hL, f2, v, rfl⟩
      refine ⟨_, rfl, _, rfl, _, _, rfl, rfl, _, rfl, ?_⟩
      refine if2 (fun c => ?_) (fun c => ?_)
      · have hC2 := hC.same s2
        have ge := hL.ge
        have p0 := hL.m0
        have gl := gone_len sts low en
        rw [show min en (high + 1) = en by omega] at f2
        refine ⟨_, rfl, _, rfl, l, as, sts, pr, rfl, hC2, fun σ e => ?_⟩
        dsimp only [List.set] at e
        subst e
        refine ⟨_, rfl, .inl ⟨rfl, _, SqL.of f2⟩, _, rfl, _, rfl, _, rfl, _, _, rfl, rfl, _, _, rfl, ?_⟩
        have emin : (if high + 1 < endI sts pr then high + 1 else endI sts pr) = min (endI sts pr) (high + 1) := by
          split <;> omega
        dsimp only
        rw [emin]
        refine ⟨_, _, rfl, fun pA HA nA sA fA => ?_⟩
        refine ⟨pA, _, _, rfl, fA, by omega, fun pB HB nB sB fB => ?_⟩
        have sAB := sA.trans sB
        have f2B := sAB _ _ f2
        refine ⟨pg, pB, _, _, rfl, rfl, f2B, fB, Nat.le_trans (show _ ≤ 1000 by rw [List.length_map, List.length_map, fromTo_len]; omega) (by decide), ?_⟩
        rw [← List.map_append, ← gone_step hC.ok hL hle (by omega)]
        have sD := (s2.trans sAB).drop (o := .lst ((goneI sts low (min (endI sts pr + 1) (high + 1))).map V.int)) n1 rfl
        refine ⟨_, rfl, _, _, rfl, rfl, fun σ e => ?_⟩
        dsimp only [List.set] at e
        subst e
        refine ⟨_, rfl, _, rfl, l, as, sts, pr, rfl, hC.same sD, p0, fun m' hN σ e => ?_⟩
        dsimp only [List.set] at e
        subst e
        refine ⟨⟨sD, _, m', by omega, hN.low hC.ok p0, upd_same, _, rfl⟩, ?_⟩
        show (high + 1 - (endI sts pr + 1)).toNat < (high + 1 - en).toNat
        omega
      · rw [show min en (high + 1) = high + 1 by omega] at f2
        exact ⟨_, rfl, q pg H2 s2 n1 f2⟩
    · rintro σ H' R R' hq ⟨v, e, v2, e2, i, j, e3, e4, k, e5, h⟩
      exact ⟨v, e, v2, e2, i, j, e3, e4, k, e5, hq _ _ h⟩
theorem cal_law_gone {P : Program} {w : World} {K : PySem.W.Frag} {mg : Str → Option Value} {base : Heap} {f : Addr} {fd : FuncData} (F : Fun K "_law_gone" "_law_gone" s_law_gone f fd) (b : Binds K fd ["_law_steps", "_law_low", "_law_high"] []) (m : mg "_law_gone" = some (.ref f)) (z_list : mg "list" = none) (z_range : mg "range" = none) (z_min : mg "min" = none) (C_law_least : Cal P w K mg base "_law_least" 4 ["_law_steps", "_law_end_here"] (sp_law_least K)) (C_law_end : Cal P w K mg base "_law_end" 3 ["_law_steps", "_law_amount"] (sp_law_end K)) (C_law_next : Cal P w K mg base "_law_next" 4 ["_law_steps", "_law_price"] (sp_law_next K)) : Cal P w K mg base "_law_gone" 5 ["_law_steps", "_law_low", "_law_high"] (sp_law_gone K) :=
  ⟨f, fd, F.ok sc_law_gone (fun vs H Q E h => by first | (obtain ⟨_, rfl, _⟩ := h; rfl) | (obtain ⟨_, _, rfl, _⟩ := h; rfl) | (obtain ⟨_, _, _, rfl, _⟩ := h; rfl) | (obtain ⟨_, _, _, _, rfl, _⟩ := h; rfl) | (obtain ⟨_, _, _, _, _, rfl, _⟩ := h; rfl) | (obtain ⟨_, _, _, _, _, _, rfl, _⟩ := h; rfl) | (obtain ⟨_, _, _, _, _, _, _, rfl, _⟩ := h; rfl) | (obtain ⟨_, _, _, _, _, _, _, _, rfl, _⟩ := h; rfl) | (obtain ⟨_, _, _, _, _, _, _, _, _, rfl, _⟩ := h; rfl)) (fun cdv A outer s H vs Q E hr h => unW (body_law_gone (X := (cxOf CX0 P w K mg base ["_law_steps", "_law_low", "_law_high", "_law_gone_here", "_law_end_here", "_law_price", "_law_found"] "_law_gone" (defScope s_law_gone) f cdv A outer s H E).nox) ⟨rfl, rfl, rfl, PassesOwn.never⟩ hr z_list z_range z_min C_law_least C_law_end C_law_next h)), b, F.kp, m⟩
theorem lk_origin_0 : (defScope s_origin).names.lookup ("chain" : Str) = some .local := by decide +kernel
theorem pv_origin_0 {X : Cx} (c : CxIs X ["chain", "end", "first", "reached", "below"] (defScope s_origin)) {pos : Pos} : WE X (.Name "chain" pos) (tVar 0) := wxv c rfl lk_origin_0 (by decide) (by decide)
theorem lk_origin_1 : (defScope s_origin).names.lookup ("end" : Str) = some .local := by decide +kernel
theorem pv_origin_1 {X : Cx} (c : CxIs X ["chain", "end", "first", "reached", "below"] (defScope s_origin)) {pos : Pos} : WE X (.Name "end" pos) (tVar 1) := wxv c rfl lk_origin_1 (by decide) (by decide)
theorem lk_origin_2 : (defScope s_origin).names.lookup ("first" : Str) = some .local := by decide +kernel
theorem pv_origin_2 {X : Cx} (c : CxIs X ["chain", "end", "first", "reached", "below"] (defScope s_origin)) {pos : Pos} : WE X (.Name "first" pos) (tVar 2) := wxv c rfl lk_origin_2 (by decide) (by decide)
theorem ss_origin_2 {X : Cx} (c : CxIs X ["chain", "end", "first", "reached", "below"] (defScope s_origin)) {pos pos' : Pos} {e : Expr} {te : TE} (he : WE X e te) (hs : swapsWith e (some (.Name "first" pos')) pos.line X.env = pure false := by rfl) : WS X (.Assign [.Name "first" pos'] e pos) (tAsg te (gN 2)) := wxs c sc_origin.nd rfl lk_origin_2 he hs
theorem lk_origin_3 : (defScope s_origin).names.lookup ("reached" : Str) = some .local := by decide +kernel
theorem pv_origin_3 {X : Cx} (c : CxIs X ["chain", "end", "first", "reached", "below"] (defScope s_origin)) {pos : Pos} : WE X (.Name "reached" pos) (tVar 3) := wxv c rfl lk_origin_3 (by decide) (by decide)
theorem ss_origin_3 {X : Cx} (c : CxIs X ["chain", "end", "first", "reached", "below"] (defScope s_origin)) {pos pos' : Pos} {e : Expr} {te : TE} (he : WE X e te) (hs : swapsWith e (some (.Name "reached" pos')) pos.line X.env = pure false := by rfl) : WS X (.Assign [.Name "reached" pos'] e pos) (tAsg te (gN 3)) := wxs c sc_origin.nd rfl lk_origin_3 he hs
theorem lk_origin_4 : (defScope s_origin).names.lookup ("below" : Str) = some .local := by decide +kernel
theorem pv_origin_4 {X : Cx} (c : CxIs X ["chain", "end", "first", "reached", "below"] (defScope s_origin)) {pos : Pos} : WE X (.Name "below" pos) (tVar 4) := wxv c rfl lk_origin_4 (by decide) (by decide)
theorem ss_origin_4 {X : Cx} (c : CxIs X ["chain", "end", "first", "reached", "below"] (defScope s_origin)) {pos pos' : Pos} {e : Expr} {te : TE} (he : WE X e te) (hs : swapsWith e (some (.Name "below" pos')) pos.line X.env = pure false := by rfl) : WS X (.Assign [.Name "below" pos'] e pos) (tAsg te (gN 4)) := wxs c sc_origin.nd rfl lk_origin_4 he hs
theorem gl_origin_first_reaching {X : Cx} (c : CxIs X ["chain", "end", "first", "reached", "below"] (defScope s_origin)) : Gl X "first_reaching" := xg c (by decide +kernel)
theorem gl_origin_run {X : Cx} (c : CxIs X ["chain", "end", "first", "reached", "below"] (defScope s_origin)) : Gl X "run" := xg c (by decide +kernel)
theorem st_origin (v0 v1 : V) : L2.start ["chain", "end", "first", "reached", "below"] [v0, v1] = [some v0, some v1, none, none, none] := rfl
noncomputable def sp_origin (K : PySem.W.Frag) : Sp := fun vs H Q _ => ∃ (l : Addr) (as : List Addr) (sts : List StepD) (en : Int), vs = [.ref l, .int en] ∧ Chn K H l as sts ∧
  (∀ p f la H', Same H H' → SqT K H' p [.str "from", .int f, .int la] → From sts en f la → Q (.ref p) H') ∧
  (∀ p m (bel : V) H', Same H H' → SqT K H' p [.str "none", bel, .int (endI sts m)] → Low sts en m → ¬ endI sts m = en → (m = 0 ∧ bel = .non ∨ 0 < m ∧ bel = .int (endI sts (m - 1))) → Q (.ref p) H')
theorem body_origin {X : Cx} (c : CxIs X ["chain", "end", "first", "reached", "below"] (defScope s_origin)) (hr : Room 5 X.A) {E : XK}  (C_first_reaching : Cal X.prog X.w X.K X.mg X.base "first_reaching" 5 ["chain", "end"] (sp_first_reaching X.K)) (C_run : Cal X.prog X.w X.K X.mg X.base "run" 5 ["chain", "amount"] (sp_run X.K)) {vs : List V} {H : Hp} {Q : VK} (h : sp_origin X.K vs H Q E) : ∃ t, WSs X (defBody s_origin) t ∧ t { nx := fun _ H' => Q .non H', rt := Q } (L2.start ["chain", "end", "first", "reached", "below"] vs) H := by
  obtain ⟨f_first_reaching, d_first_reaching, G_first_reaching, b_first_reaching, k_first_reaching, m_first_reaching⟩ := C_first_reaching
  obtain ⟨f_run, d_run, G_run, b_run, k_run, m_run⟩ := C_run
  · obtain ⟨l, as, sts, en, rfl, hC, q1, q2⟩ := h
    refine ⟨_, (wss_cons (ss_origin_2 c (we_call (G_first_reaching.mono (by decide)) hr (gl_origin_first_reaching c) m_first_reaching k_first_reaching b_first_reaching .nil pass0 (wa_cons (pv_origin_0 c) (wa_cons (pv_origin_1 c) wa_nil star_Name) star_Name)))
      (wss_cons (ss_origin_3 c (we_call (G_run.mono (by decide)) hr (gl_origin_run c) m_run k_run b_run .nil pass0 (wa_cons (pv_origin_0 c) (wa_cons (pv_origin_2 c) wa_nil star_Name) star_Name)))
      (wss_cons (ws_if (wt_cmpR op_eq (pv_origin_3 c) (pv_origin_1 c) (nomark _))
      (wss_one (ws_ret (we_tupO (wa_cons we_str (wa_cons (pv_origin_2 c) (wa_cons (we_op op_sub (we_call (G_first_reaching.mono (by decide)) hr (gl_origin_first_reaching c) m_first_reaching k_first_reaching b_first_reaching .nil pass0 (wa_cons (pv_origin_0 c) (wa_cons (we_op op_add (pv_origin_1 c) we_int) wa_nil star_BinOp) star_Name)) we_int) wa_nil star_BinOp) star_Name) star_Constant))))
      wss_nil)
      (wss_cons (ss_origin_4 c we_non)
      (wss_cons (ws_if (wt_cmpR op_gt (pv_origin_2 c) we_int (nomark _))
      (wss_one (ss_origin_4 c (we_call (G_run.mono (by decide)) hr (gl_origin_run c) m_run k_run b_run .nil pass0 (wa_cons (pv_origin_0 c) (wa_cons (we_op op_sub (pv_origin_2 c) we_int) wa_nil star_BinOp) star_Name))))
      wss_nil)
      (wss_one (ws_ret (we_tupO (wa_cons we_str (wa_cons (pv_origin_4 c) (wa_cons (pv_origin_3 c) wa_nil star_Name) star_Name) star_Constant))))))))), ?_⟩
    rw [st_origin]
    refine ⟨_, rfl, _, rfl, l, as, sts, en, rfl, hC, fun m H1 s1 hL σ e => ?_⟩
    dsimp only [List.set] at e
    subst e
    have m0 := hL.m0
    refine ⟨_, rfl, _, rfl, l, as, sts, m, rfl, hC.same s1, fun H2 s2 σ e => ?_⟩
    dsimp only [List.set] at e
    subst e
    have s02 := s1.trans s2
    refine ⟨_, rfl, _, rfl, rfl, _, rfl, ?_⟩
    refine if2 (fun c => ?_) (fun c => ?_)
    · have c' := of_int c
      refine ⟨_, rfl, _, rfl, _, rfl, _, _, rfl, rfl, l, as, sts, _, rfl, hC.same s02, fun m2 H3 s3 hL2 => ⟨_, _, rfl, rfl, (small' (by show 3 ≤ 1000; decide)), fun p H4 _ s4 f4 => ?_⟩⟩
      exact q1 p m (m2 - 1) H4 ((s02.trans s3).trans s4) (SqT.of f4) ⟨hL, c', by rw [show m2 - 1 + 1 = m2 by omega]; exact hL2⟩
    intro σ e
    dsimp only [List.set] at e
    subst e
    try dsimp only
    refine seq_gen (fun σ H' => Same H H' ∧ ∃ bel, (m = 0 ∧ bel = V.non ∨ 0 < m ∧ bel = .int (endI sts (m - 1))) ∧ σ = [some (.ref l), some (.int en), some (.int m), some (.int (endI sts m)), some bel]) ?rest1 ?st1
    case st1 =>
      intro R hR
      refine ⟨_, rfl, _, _, rfl, rfl, _, rfl, ?_⟩
      refine if2 (fun d => ?_) (fun d => ?_)
      · refine ⟨_, rfl, _, rfl, _, _, rfl, rfl, l, as, sts, _, rfl, hC.same s02, fun H3 s3 σ e => ?_⟩
        dsimp only [List.set] at e
        subst e
        exact hR _ _ ⟨s02.trans s3, _, .inr ⟨d, rfl⟩, rfl⟩
      · exact hR _ _ ⟨s02, _, .inl ⟨by omega, rfl⟩, rfl⟩
    rintro σ H3 ⟨s3, bel, hb, rfl⟩
    refine ⟨_, rfl, _, rfl, (small' (by show 3 ≤ 1000; decide)), fun p H4 _ s4 f4 => ?_⟩
    exact q2 p m bel H4 (s3.trans s4) (SqT.of f4) hL (of_not_int c) hb
theorem cal_origin {P : Program} {w : World} {K : PySem.W.Frag} {mg : Str → Option Value} {base : Heap} {f : Addr} {fd : FuncData} (F : Fun K "origin" "origin" s_origin f fd) (b : Binds K fd ["chain", "end"] []) (m : mg "origin" = some (.ref f)) (C_first_reaching : Cal P w K mg base "first_reaching" 5 ["chain", "end"] (sp_first_reaching K)) (C_run : Cal P w K mg base "run" 5 ["chain", "amount"] (sp_run K)) : Cal P w K mg base "origin" 6 ["chain", "end"] (sp_origin K) :=
  ⟨f, fd, F.ok sc_origin (fun vs H Q E h => by first | (obtain ⟨_, rfl, _⟩ := h; rfl) | (obtain ⟨_, _, rfl, _⟩ := h; rfl) | (obtain ⟨_, _, _, rfl, _⟩ := h; rfl) | (obtain ⟨_, _, _, _, rfl, _⟩ := h; rfl) | (obtain ⟨_, _, _, _, _, rfl, _⟩ := h; rfl) | (obtain ⟨_, _, _, _, _, _, rfl, _⟩ := h; rfl) | (obtain ⟨_, _, _, _, _, _, _, rfl, _⟩ := h; rfl) | (obtain ⟨_, _, _, _, _, _, _, _, rfl, _⟩ := h; rfl) | (obtain ⟨_, _, _, _, _, _, _, _, _, rfl, _⟩ := h; rfl)) (fun cdv A outer s H vs Q E hr h => unW (body_origin (X := (cxOf CX0 P w K mg base ["chain", "end", "first", "reached", "below"] "origin" (defScope s_origin) f cdv A outer s H E).nox) ⟨rfl, rfl, rfl, PassesOwn.never⟩ hr C_first_reaching C_run h)), b, F.kp, m⟩
theorem lk_missing_0 : (defScope s_missing).names.lookup ("chain" : Str) = some .local := by decide +kernel
theorem pv_missing_0 {X : Cx} (c : CxIs X ["chain", "low", "high", "found", "number", "reached"] (defScope s_missing)) {pos : Pos} : WE X (.Name "chain" pos) (tVar 0) := wxv c rfl lk_missing_0 (by decide) (by decide)
theorem lk_missing_1 : (defScope s_missing).names.lookup ("low" : Str) = some .local := by decide +kernel
theorem pv_missing_1 {X : Cx} (c : CxIs X ["chain", "low", "high", "found", "number", "reached"] (defScope s_missing)) {pos : Pos} : WE X (.Name "low" pos) (tVar 1) := wxv c rfl lk_missing_1 (by decide) (by decide)
theorem lk_missing_2 : (defScope s_missing).names.lookup ("high" : Str) = some .local := by decide +kernel
theorem pv_missing_2 {X : Cx} (c : CxIs X ["chain", "low", "high", "found", "number", "reached"] (defScope s_missing)) {pos : Pos} : WE X (.Name "high" pos) (tVar 2) := wxv c rfl lk_missing_2 (by decide) (by decide)
theorem lk_missing_3 : (defScope s_missing).names.lookup ("found" : Str) = some .local := by decide +kernel
theorem pv_missing_3 {X : Cx} (c : CxIs X ["chain", "low", "high", "found", "number", "reached"] (defScope s_missing)) {pos : Pos} : WE X (.Name "found" pos) (tVar 3) := wxv c rfl lk_missing_3 (by decide) (by decide)
theorem ss_missing_3 {X : Cx} (c : CxIs X ["chain", "low", "high", "found", "number", "reached"] (defScope s_missing)) {pos pos' : Pos} {e : Expr} {te : TE} (he : WE X e te) (hs : swapsWith e (some (.Name "found" pos')) pos.line X.env = pure false := by rfl) : WS X (.Assign [.Name "found" pos'] e pos) (tAsg te (gN 3)) := wxs c sc_missing.nd rfl lk_missing_3 he hs
theorem lk_missing_4 : (defScope s_missing).names.lookup ("number" : Str) = some .local := by decide +kernel
theorem pv_missing_4 {X : Cx} (c : CxIs X ["chain", "low", "high", "found", "number", "reached"] (defScope s_missing)) {pos : Pos} : WE X (.Name "number" pos) (tVar 4) := wxv c rfl lk_missing_4 (by decide) (by decide)
theorem ss_missing_4 {X : Cx} (c : CxIs X ["chain", "low", "high", "found", "number", "reached"] (defScope s_missing)) {pos pos' : Pos} {e : Expr} {te : TE} (he : WE X e te) (hs : swapsWith e (some (.Name "number" pos')) pos.line X.env = pure false := by rfl) : WS X (.Assign [.Name "number" pos'] e pos) (tAsg te (gN 4)) := wxs c sc_missing.nd rfl lk_missing_4 he hs
theorem lk_missing_5 : (defScope s_missing).names.lookup ("reached" : Str) = some .local := by decide +kernel
theorem pv_missing_5 {X : Cx} (c : CxIs X ["chain", "low", "high", "found", "number", "reached"] (defScope s_missing)) {pos : Pos} : WE X (.Name "reached" pos) (tVar 5) := wxv c rfl lk_missing_5 (by decide) (by decide)
theorem ss_missing_5 {X : Cx} (c : CxIs X ["chain", "low", "high", "found", "number", "reached"] (defScope s_missing)) {pos pos' : Pos} {e : Expr} {te : TE} (he : WE X e te) (hs : swapsWith e (some (.Name "reached" pos')) pos.line X.env = pure false := by rfl) : WS X (.Assign [.Name "reached" pos'] e pos) (tAsg te (gN 5)) := wxs c sc_missing.nd rfl lk_missing_5 he hs
theorem gl_missing_run {X : Cx} (c : CxIs X ["chain", "low", "high", "found", "number", "reached"] (defScope s_missing)) : Gl X "run" := xg c (by decide +kernel)
theorem gl_missing_first_reaching {X : Cx} (c : CxIs X ["chain", "low", "high", "found", "number", "reached"] (defScope s_missing)) : Gl X "first_reaching" := xg c (by decide +kernel)
theorem gl_missing_list {X : Cx} (c : CxIs X ["chain", "low", "high", "found", "number", "reached"] (defScope s_missing)) : Gl X "list" := xg c (by decide +kernel)
theorem gl_missing_range {X : Cx} (c : CxIs X ["chain", "low", "high", "found", "number", "reached"] (defScope s_missing)) : Gl X "range" := xg c (by decide +kernel)
theorem gl_missing_min {X : Cx} (c : CxIs X ["chain", "low", "high", "found", "number", "reached"] (defScope s_missing)) : Gl X "min" := xg c (by decide +kernel)
theorem st_missing (v0 v1 v2 : V) : L2.start ["chain", "low", "high", "found", "number", "reached"] [v0, v1, v2] = [some v0, some v1, some v2, none, none, none] := rfl
noncomputable def sp_missing (K : PySem.W.Frag) : Sp := fun vs H Q _ => ∃ (l : Addr) (as : List Addr) (sts : List StepD) (low high : Int), vs = [.ref l, .int low, .int high] ∧ Chn K H l as sts ∧ high - low ≤ 400 ∧ ∀ p H', Same H H' → H p = none → H' p = some (.lst ((goneI sts low (high + 1)).map V.int)) → Q (.ref p) H'
theorem body_missing {X : Cx} (c : CxIs X ["chain", "low", "high", "found", "number", "reached"] (defScope s_missing)) (hr : Room 5 X.A) {E : XK}  (z_list : X.mg "list" = none) (z_range : X.mg "range" = none) (z_min : X.mg "min" = none) (C_run : Cal X.prog X.w X.K X.mg X.base "run" 5 ["chain", "amount"] (sp_run X.K)) (C_first_reaching : Cal X.prog X.w X.K X.mg X.base "first_reaching" 5 ["chain", "end"] (sp_first_reaching X.K)) {vs : List V} {H : Hp} {Q : VK} (h : sp_missing X.K vs H Q E) : ∃ t, WSs X (defBody s_missing) t ∧ t { nx := fun _ H' => Q .non H', rt := Q } (L2.start ["chain", "low", "high", "found", "number", "reached"] vs) H := by
  obtain ⟨f_run, d_run, G_run, b_run, k_run, m_run⟩ := C_run
  obtain ⟨f_first_reaching, d_first_reaching, G_first_reaching, b_first_reaching, k_first_reaching, m_first_reaching⟩ := C_first_reaching
  · obtain ⟨l, as, sts, low, high, rfl, hC, lh, q⟩ := h
    refine ⟨_, (wss_cons (ss_missing_3 c (we_lstO wa_nil))
      (wss_cons (ss_missing_4 c (pv_missing_1 c))
      (wss_cons (ws_while c.own (wt_cmpR op_le (pv_missing_4 c) (pv_missing_2 c) (nomark _))
      (wss_cons (ss_missing_5 c (we_call (G_run.mono (by decide)) hr (gl_missing_run c) m_run k_run b_run .nil pass0 (wa_cons (pv_missing_0 c) (wa_cons (we_call (G_first_reaching.mono (by decide)) hr (gl_missing_first_reaching c) m_first_reaching k_first_reaching b_first_reaching .nil pass0 (wa_cons (pv_missing_0 c) (wa_cons (pv_missing_4 c) wa_nil star_Name) star_Name)) wa_nil star_Call) star_Name)))
      (wss_cons (ws_expr (we_bm PySem.F.plainAttrs_list PySem.F.slot_list_extend PySem.F.type_list_extend mt_extend (pv_missing_3 c) (wa_cons (we_callTy (call_list_rngL c.calm) (gl_missing_list c) z_list boot_ty_list (wa_cons (we_callTy call_range2 (gl_missing_range c) z_range boot_ty_range (wa_cons (pv_missing_4 c) (wa_cons (we_callB (call_min2 c.calm) (gl_missing_min c) z_min boot_min (wa_cons (pv_missing_5 c) (wa_cons (we_op op_add (pv_missing_2 c) we_int) wa_nil star_BinOp) star_Name)) wa_nil star_Call) star_Name)) wa_nil star_Call)) wa_nil star_Call)))
      (wss_one (ss_missing_4 c (we_op op_add (pv_missing_5 c) we_int))))))
      (wss_one (ws_ret (pv_missing_3 c)))))), ?_⟩
    rw [st_missing]
    refine ⟨(small' (by show 0 ≤ 1000; decide)), fun pg H1 n1 s1 f1 σ e => ?_⟩
    dsimp only [List.set] at e
    subst e
    refine ⟨_, rfl, fun σ e => ?_⟩
    dsimp only [List.set] at e
    subst e
    have g0 : goneI sts low (min low (high + 1)) = [] := gone_nil sts (by omega)
    refine while_by (fun σ H' => Same H H' ∧ ∃ en, low ≤ en ∧ H' pg = some (.lst ((goneI sts low (min en (high + 1))).map V.int)) ∧ ∃ v, σ = [some (.ref l), some (.int low), some (.int high), some (.ref pg), some (.int en), v])
      (fun σ _ => match σ with | [_, _, _, _, some (.int en), _] => (high + 1 - en).toNat | _ => 0) ⟨s1, low, Int.le_refl _, by rw [g0]; exact f1, _, rfl⟩ ?_ ?_
    · rintro σ H2 ⟨s2, en, hle, f2, v, rfl⟩
      refine ⟨_, rfl, _, rfl, _, _, rfl, rfl, _, rfl, ?_⟩
      refine if2 (fun c => ?_) (fun c => ?_)
      · have gl := gone_len sts low en
        rw [show min en (high + 1) = en by omega] at f2
        refine ⟨_, rfl, _, rfl, _, rfl, l, as, sts, en, rfl, hC.same s2, fun pr H3 s3 hL => ⟨l, as, sts, pr, rfl, hC.same (s2.trans s3), fun H4 s4 σ e => ?_⟩⟩
        dsimp only [List.set] at e
        subst e
        have ge := hL.ge
        have p0 := hL.m0
        have s24 := s3.trans s4
        have f4 := s24 _ _ f2
        refine ⟨_, rfl, .inl ⟨rfl, _, SqL.of f4⟩, _, rfl, _, rfl, _, rfl, _, _, rfl, rfl, _, _, rfl, ?_⟩
        have emin : (if high + 1 < endI sts pr then high + 1 else endI sts pr) = min (endI sts pr) (high + 1) := by
          split <;> omega
        dsimp only
        rw [emin]
        refine ⟨_, _, rfl, fun pA HA nA sA fA => ?_⟩
        refine ⟨pA, _, _, rfl, fA, by omega, fun pB HB nB sB fB => ?_⟩
        have sAB := sA.trans sB
        have f2B := sAB _ _ f4
        refine ⟨pg, pB, _, _, rfl, rfl, f2B, fB, Nat.le_trans (show _ ≤ 1000 by rw [List.length_map, List.length_map, fromTo_len]; omega) (by decide), ?_⟩
        rw [← List.map_append, ← gone_step hC.ok hL hle (by omega)]
        have sD := ((s2.trans s24).trans sAB).drop (o := .lst ((goneI sts low (min (endI sts pr + 1) (high + 1))).map V.int)) n1 rfl
        refine ⟨_, rfl, _, _, rfl, rfl, fun σ e => ?_⟩
        dsimp only [List.set] at e
        subst e
        refine ⟨⟨sD, _, by omega, upd_same, _, rfl⟩, ?_⟩
        show (high + 1 - (endI sts pr + 1)).toNat < (high + 1 - en).toNat
        omega
      · rw [show min en (high + 1) = high + 1 by omega] at f2
        exact ⟨_, rfl, q pg H2 s2 n1 f2⟩
    · rintro σ H' R R' hq ⟨v, e, v2, e2, i, j, e3, e4, k, e5, h⟩
      exact ⟨v, e, v2, e2, i, j, e3, e4, k, e5, hq _ _ h⟩
theorem cal_missing {P : Program} {w : World} {K : PySem.W.Frag} {mg : Str → Option Value} {base : Heap} {f : Addr} {fd : FuncData} (F : Fun K "missing" "missing" s_missing f fd) (b : Binds K fd ["chain", "low", "high"] []) (m : mg "missing" = some (.ref f)) (z_list : mg "list" = none) (z_range : mg "range" = none) (z_min : mg "min" = none) (C_run : Cal P w K mg base "run" 5 ["chain", "amount"] (sp_run K)) (C_first_reaching : Cal P w K mg base "first_reaching" 5 ["chain", "end"] (sp_first_reaching K)) : Cal P w K mg base "missing" 6 ["chain", "low", "high"] (sp_missing K) :=
  ⟨f, fd, F.ok sc_missing (fun vs H Q E h => by first | (obtain ⟨_, rfl, _⟩ := h; rfl) | (obtain ⟨_, _, rfl, _⟩ := h; rfl) | (obtain ⟨_, _, _, rfl, _⟩ := h; rfl) | (obtain ⟨_, _, _, _, rfl, _⟩ := h; rfl) | (obtain ⟨_, _, _, _, _, rfl, _⟩ := h; rfl) | (obtain ⟨_, _, _, _, _, _, rfl, _⟩ := h; rfl) | (obtain ⟨_, _, _, _, _, _, _, rfl, _⟩ := h; rfl) | (obtain ⟨_, _, _, _, _, _, _, _, rfl, _⟩ := h; rfl) | (obtain ⟨_, _, _, _, _, _, _, _, _, rfl, _⟩ := h; rfl)) (fun cdv A outer s H vs Q E hr h => unW (body_missing (X := (cxOf CX0 P w K mg base ["chain", "low", "high", "found", "number", "reached"] "missing" (defScope s_missing) f cdv A outer s H E).nox) ⟨rfl, rfl, rfl, PassesOwn.never⟩ hr z_list z_range z_min C_run C_first_reaching h)), b, F.kp, m⟩
theorem lk_flatten_0 : (defScope s_flatten).names.lookup ("chain" : Str) = some .local := by decide +kernel
theorem pv_flatten_0 {X : Cx} (c : CxIs X ["chain", "found", "ends", "least"] (defScope s_flatten)) {pos : Pos} : WE X (.Name "chain" pos) (tVar 0) := wxv c rfl lk_flatten_0 (by decide) (by decide)
theorem lk_flatten_1 : (defScope s_flatten).names.lookup ("found" : Str) = some .local := by decide +kernel
theorem pv_flatten_1 {X : Cx} (c : CxIs X ["chain", "found", "ends", "least"] (defScope s_flatten)) {pos : Pos} : WE X (.Name "found" pos) (tVar 1) := wxv c rfl lk_flatten_1 (by decide) (by decide)
theorem ss_flatten_1 {X : Cx} (c : CxIs X ["chain", "found", "ends", "least"] (defScope s_flatten)) {pos pos' : Pos} {e : Expr} {te : TE} (he : WE X e te) (hs : swapsWith e (some (.Name "found" pos')) pos.line X.env = pure false := by rfl) : WS X (.Assign [.Name "found" pos'] e pos) (tAsg te (gN 1)) := wxs c sc_flatten.nd rfl lk_flatten_1 he hs
theorem lk_flatten_2 : (defScope s_flatten).names.lookup ("ends" : Str) = some .local := by decide +kernel
theorem pv_flatten_2 {X : Cx} (c : CxIs X ["chain", "found", "ends", "least"] (defScope s_flatten)) {pos : Pos} : WE X (.Name "ends" pos) (tVar 2) := wxv c rfl lk_flatten_2 (by decide) (by decide)
theorem ss_flatten_2 {X : Cx} (c : CxIs X ["chain", "found", "ends", "least"] (defScope s_flatten)) {pos pos' : Pos} {e : Expr} {te : TE} (he : WE X e te) (hs : swapsWith e (some (.Name "ends" pos')) pos.line X.env = pure false := by rfl) : WS X (.Assign [.Name "ends" pos'] e pos) (tAsg te (gN 2)) := wxs c sc_flatten.nd rfl lk_flatten_2 he hs
theorem lk_flatten_3 : (defScope s_flatten).names.lookup ("least" : Str) = some .local := by decide +kernel
theorem pv_flatten_3 {X : Cx} (c : CxIs X ["chain", "found", "ends", "least"] (defScope s_flatten)) {pos : Pos} : WE X (.Name "least" pos) (tVar 3) := wxv c rfl lk_flatten_3 (by decide) (by decide)
theorem ss_flatten_3 {X : Cx} (c : CxIs X ["chain", "found", "ends", "least"] (defScope s_flatten)) {pos pos' : Pos} {e : Expr} {te : TE} (he : WE X e te) (hs : swapsWith e (some (.Name "least" pos')) pos.line X.env = pure false := by rfl) : WS X (.Assign [.Name "least" pos'] e pos) (tAsg te (gN 3)) := wxs c sc_flatten.nd rfl lk_flatten_3 he hs
theorem gl_flatten_some_cycle {X : Cx} (c : CxIs X ["chain", "found", "ends", "least"] (defScope s_flatten)) : Gl X "some_cycle" := xg c (by decide +kernel)
theorem gl_flatten_first_ends {X : Cx} (c : CxIs X ["chain", "found", "ends", "least"] (defScope s_flatten)) : Gl X "first_ends" := xg c (by decide +kernel)
theorem gl_flatten_least_cycle {X : Cx} (c : CxIs X ["chain", "found", "ends", "least"] (defScope s_flatten)) : Gl X "least_cycle" := xg c (by decide +kernel)
theorem gl_flatten_tuple {X : Cx} (c : CxIs X ["chain", "found", "ends", "least"] (defScope s_flatten)) : Gl X "tuple" := xg c (by decide +kernel)
theorem gl_flatten_Flat {X : Cx} (c : CxIs X ["chain", "found", "ends", "least"] (defScope s_flatten)) : Gl X "Flat" := xg c (by decide +kernel)
theorem st_flatten (v0 : V) : L2.start ["chain", "found", "ends", "least"] [v0] = [some v0, none, none, none] := rfl
noncomputable def sp_flatten (K : PySem.W.Frag) : Sp := fun vs H Q _ => ∃ (l : Addr) (as : List Addr) (sts : List StepD), vs = [.ref l] ∧ Chn K H l as sts ∧ prodI sts ≤ 20000 ∧ sts.length ≤ 6 ∧
  ∀ (x : Addr) (cc r : Int) (H' : Hp), Same H H' → H x = none → FlatAt K H' x cc r (endsI sts cc) → IsCyc sts cc r → cc ∣ prodI sts → cc ≤ 20000 → Q (.ref x) H'
theorem body_flatten {X : Cx} (c : CxIs X ["chain", "found", "ends", "least"] (defScope s_flatten)) (hr : Room 5 X.A) {E : XK}  (T_Flat : Txt_Flat X.K X.mg) (z_tuple : X.mg "tuple" = none) (C_some_cycle : Cal X.prog X.w X.K X.mg X.base "some_cycle" 5 ["chain"] (sp_some_cycle X.K)) (C_first_ends : Cal X.prog X.w X.K X.mg X.base "first_ends" 5 ["chain", "many"] (sp_first_ends X.K)) (C_least_cycle : Cal X.prog X.w X.K X.mg X.base "least_cycle" 2 ["ends", "rise"] (sp_least_cycle X.K)) (C_Flat___init__ : CalI X.prog X.w X.K X.mg X.base (clsAt X.K "Flat") 1 ["self", "cycle", "rise", "ends"] (sp_Flat___init__ X.K)) {vs : List V} {H : Hp} {Q : VK} (h : sp_flatten X.K vs H Q E) : ∃ t, WSs X (defBody s_flatten) t ∧ t { nx := fun _ H' => Q .non H', rt := Q } (L2.start ["chain", "found", "ends", "least"] vs) H := by
  obtain ⟨f_some_cycle, d_some_cycle, G_some_cycle, b_some_cycle, k_some_cycle, m_some_cycle⟩ := C_some_cycle
  obtain ⟨f_first_ends, d_first_ends, G_first_ends, b_first_ends, k_first_ends, m_first_ends⟩ := C_first_ends
  obtain ⟨f_least_cycle, d_least_cycle, G_least_cycle, b_least_cycle, k_least_cycle, m_least_cycle⟩ := C_least_cycle
  obtain ⟨f_Flat___init__, d_Flat___init__, G_Flat___init__, b_Flat___init__, M_Flat___init__⟩ := C_Flat___init__
  · obtain ⟨l, as, sts, rfl, hC, hp, h6, q⟩ := h
    refine ⟨_, (wss_cons (ss_flatten_1 c (we_call (G_some_cycle.mono (by decide)) hr (gl_flatten_some_cycle c) m_some_cycle k_some_cycle b_some_cycle .nil pass0 (wa_cons (pv_flatten_0 c) wa_nil star_Name)))
      (wss_cons (ss_flatten_2 c (we_call (G_first_ends.mono (by decide)) hr (gl_flatten_first_ends c) m_first_ends k_first_ends b_first_ends .nil pass0 (wa_cons (pv_flatten_0 c) (wa_cons (we_ix ix_tup (pv_flatten_1 c) we_int plain_Constant) wa_nil star_Subscript) star_Name)))
      (wss_cons (ss_flatten_3 c (we_call (G_least_cycle.mono (by decide)) hr (gl_flatten_least_cycle c) m_least_cycle k_least_cycle b_least_cycle .nil pass0 (wa_cons (pv_flatten_2 c) (wa_cons (we_ix ix_tup (pv_flatten_1 c) we_int plain_Constant) wa_nil star_Subscript) star_Name)))
      (wss_one (ws_ret (we_make M_Flat___init__ (G_Flat___init__.mono (by decide)) hr (gl_flatten_Flat c) T_Flat.g b_Flat___init__ .nil pass0 (wa_cons (we_ix ix_tup (pv_flatten_3 c) we_int plain_Constant) (wa_cons (we_ix ix_tup (pv_flatten_3 c) we_int plain_Constant) (wa_cons (we_callTy call_tuple_ofO (gl_flatten_tuple c) z_tuple boot_ty_tuple (wa_cons (we_slice sl_listO (pv_flatten_2 c) wo_none (wo_some (we_ix ix_tup (pv_flatten_3 c) we_int plain_Constant))) wa_nil star_Subscript)) wa_nil star_Call) star_Subscript) star_Subscript))))))), ?_⟩
    rw [st_flatten]
    have pp := prodI_pos hC.ok
    refine ⟨_, rfl, l, as, sts, rfl, hC, fun p1 c1 r1 H1 s1 hP1 c0 r0 per dv σ e => ?_⟩
    dsimp only [List.set] at e
    subst e
    have cle : c1 ≤ 20000 := Int.le_trans (Int.le_of_dvd (by omega) dv) hp
    refine ⟨_, rfl, _, rfl, p1, _, _, _, rfl, rfl, hP1, rfl, l, as, sts, c1, rfl, hC.same s1, by omega, cle, fun p2 H2 s2 hL σ e => ?_⟩
    dsimp only [List.set] at e
    subst e
    refine ⟨_, rfl, _, rfl, p1, _, _, _, rfl, rfl, s2.seqT hP1, rfl, p2, sts, c1, r1, rfl, hL, c0, cle, hC.ok, per, fun p3 c3 r3 H3 s3 hP3 hY c3le σ e => ?_⟩
    dsimp only [List.set] at e
    subst e
    have y0 := hY.c0
    refine ⟨_, rfl, p3, _, _, _, rfl, rfl, hP3, rfl, _, rfl, p3, _, _, _, rfl, rfl, hP3, rfl, _, rfl, _, rfl, p3, _, _, _, rfl, rfl, hP3, rfl, _, rfl, p2, _, rfl, s3.seq hL, fun p4 H4 n4 s4 f4 => ?_⟩
    rw [endsI_take (by omega) c3le] at f4
    refine ⟨p4, _, rfl, SqL.of f4, fun p5 H5 n5 s5 f5 => ?_⟩
    have hT5 : SqT X.K H5 p5 ((endsI sts c3).map V.int) := SqT.of f5
    have s05 : Same H H5 := (((s1.trans s2).trans s3).trans s4).trans s5
    intro x dx nx ndx hne
    have hHx : H x = none := by
      cases z : H x with
      | none => rfl
      | some o => have := s05 _ _ z; rw [nx] at this; cases this
    have s6 : Same H5 (upd (upd H5 dx (.own x)) x (.ins (clsAt X.K "Flat") dx [])) := (same_new ndx _).trans (same_new (by rw [upd_ne (Ne.symm hne)]; exact nx) _)
    refine ⟨x, dx, p5, c3, r3, endsI sts c3, rfl, upd_same, s6.seqT hT5, fun H' hF hk => ⟨rfl, ?_⟩⟩
    refine q x c3 r3 H' (fun b o hb => hk b o (s6 _ _ (s05 _ _ hb)) (ne_of_none hb hHx)) hHx hF hY (hY.dvd hC.ok) (by omega)
theorem cal_flatten {P : Program} {w : World} {K : PySem.W.Frag} {mg : Str → Option Value} {base : Heap} {f : Addr} {fd : FuncData} (F : Fun K "flatten" "flatten" s_flatten f fd) (b : Binds K fd ["chain"] []) (m : mg "flatten" = some (.ref f)) (T_Flat : Txt_Flat K mg) (z_tuple : mg "tuple" = none) (C_some_cycle : Cal P w K mg base "some_cycle" 5 ["chain"] (sp_some_cycle K)) (C_first_ends : Cal P w K mg base "first_ends" 5 ["chain", "many"] (sp_first_ends K)) (C_least_cycle : Cal P w K mg base "least_cycle" 2 ["ends", "rise"] (sp_least_cycle K)) (C_Flat___init__ : CalI P w K mg base (clsAt K "Flat") 1 ["self", "cycle", "rise", "ends"] (sp_Flat___init__ K)) : Cal P w K mg base "flatten" 6 ["chain"] (sp_flatten K) :=
  ⟨f, fd, F.ok sc_flatten (fun vs H Q E h => by first | (obtain ⟨_, rfl, _⟩ := h; rfl) | (obtain ⟨_, _, rfl, _⟩ := h; rfl) | (obtain ⟨_, _, _, rfl, _⟩ := h; rfl) | (obtain ⟨_, _, _, _, rfl, _⟩ := h; rfl) | (obtain ⟨_, _, _, _, _, rfl, _⟩ := h; rfl) | (obtain ⟨_, _, _, _, _, _, rfl, _⟩ := h; rfl) | (obtain ⟨_, _, _, _, _, _, _, rfl, _⟩ := h; rfl) | (obtain ⟨_, _, _, _, _, _, _, _, rfl, _⟩ := h; rfl) | (obtain ⟨_, _, _, _, _, _, _, _, _, rfl, _⟩ := h; rfl)) (fun cdv A outer s H vs Q E hr h => unW (body_flatten (X := (cxOf CX0 P w K mg base ["chain", "found", "ends", "least"] "flatten" (defScope s_flatten) f cdv A outer s H E).nox) ⟨rfl, rfl, rfl, PassesOwn.never⟩ hr T_Flat z_tuple C_some_cycle C_first_ends C_least_cycle C_Flat___init__ h)), b, F.kp, m⟩
theorem lk_law_0 : (defScope s_law).names.lookup ("_law_script" : Str) = some .local := by decide +kernel
theorem pv_law_0 {X : Cx} (c : CxIs X ["_law_script", "_law_steps", "_law_last_here", "_law_made", "_law_cell", "_law_end_here", "_law_many", "_law_due", "_law_later", "_law_wide", "_law_gone_here"] (defScope s_law)) {pos : Pos} : WE X (.Name "_law_script" pos) (tVar 0) := wxv c rfl lk_law_0 (by decide) (by decide)
theorem lk_law_1 : (defScope s_law).names.lookup ("_law_steps" : Str) = some .local := by decide +kernel
theorem pv_law_1 {X : Cx} (c : CxIs X ["_law_script", "_law_steps", "_law_last_here", "_law_made", "_law_cell", "_law_end_here", "_law_many", "_law_due", "_law_later", "_law_wide", "_law_gone_here"] (defScope s_law)) {pos : Pos} : WE X (.Name "_law_steps" pos) (tVar 1) := wxv c rfl lk_law_1 (by decide) (by decide)
theorem ss_law_1 {X : Cx} (c : CxIs X ["_law_script", "_law_steps", "_law_last_here", "_law_made", "_law_cell", "_law_end_here", "_law_many", "_law_due", "_law_later", "_law_wide", "_law_gone_here"] (defScope s_law)) {pos pos' : Pos} {e : Expr} {te : TE} (he : WE X e te) (hs : swapsWith e (some (.Name "_law_steps" pos')) pos.line X.env = pure false := by rfl) : WS X (.Assign [.Name "_law_steps" pos'] e pos) (tAsg te (gN 1)) := wxs c sc_law.nd rfl lk_law_1 he hs
theorem lk_law_2 : (defScope s_law).names.lookup ("_law_last_here" : Str) = some .local := by decide +kernel
theorem pv_law_2 {X : Cx} (c : CxIs X ["_law_script", "_law_steps", "_law_last_here", "_law_made", "_law_cell", "_law_end_here", "_law_many", "_law_due", "_law_later", "_law_wide", "_law_gone_here"] (defScope s_law)) {pos : Pos} : WE X (.Name "_law_last_here" pos) (tVar 2) := wxv c rfl lk_law_2 (by decide) (by decide)
theorem ss_law_2 {X : Cx} (c : CxIs X ["_law_script", "_law_steps", "_law_last_here", "_law_made", "_law_cell", "_law_end_here", "_law_many", "_law_due", "_law_later", "_law_wide", "_law_gone_here"] (defScope s_law)) {pos pos' : Pos} {e : Expr} {te : TE} (he : WE X e te) (hs : swapsWith e (some (.Name "_law_last_here" pos')) pos.line X.env = pure false := by rfl) : WS X (.Assign [.Name "_law_last_here" pos'] e pos) (tAsg te (gN 2)) := wxs c sc_law.nd rfl lk_law_2 he hs
theorem lk_law_3 : (defScope s_law).names.lookup ("_law_made" : Str) = some .cell := by decide +kernel
theorem pv_law_3 {X : Cx} (c : CxIs X ["_law_script", "_law_steps", "_law_last_here", "_law_made", "_law_cell", "_law_end_here", "_law_many", "_law_due", "_law_later", "_law_wide", "_law_gone_here"] (defScope s_law)) {pos : Pos} : WE X (.Name "_law_made" pos) (tVar 3) := wxvC c rfl lk_law_3 (by decide) (by decide)
theorem ss_law_3 {X : Cx} (c : CxIs X ["_law_script", "_law_steps", "_law_last_here", "_law_made", "_law_cell", "_law_end_here", "_law_many", "_law_due", "_law_later", "_law_wide", "_law_gone_here"] (defScope s_law)) (hf : ∀ x, X.fn x = true) {pos pos' : Pos} {e : Expr} {te : TE} (he : WE X e te) (hs : swapsWith e (some (.Name "_law_made" pos')) pos.line X.env = pure false := by rfl) : WS X (.Assign [.Name "_law_made" pos'] e pos) (tAsg te (gN 3)) := wxsC c hf sc_law.nd rfl lk_law_3 he hs
theorem lk_law_4 : (defScope s_law).names.lookup ("_law_cell" : Str) = some .local := by decide +kernel
theorem pv_law_4 {X : Cx} (c : CxIs X ["_law_script", "_law_steps", "_law_last_here", "_law_made", "_law_cell", "_law_end_here", "_law_many", "_law_due", "_law_later", "_law_wide", "_law_gone_here"] (defScope s_law)) {pos : Pos} : WE X (.Name "_law_cell" pos) (tVar 4) := wxv c rfl lk_law_4 (by decide) (by decide)
theorem ss_law_4 {X : Cx} (c : CxIs X ["_law_script", "_law_steps", "_law_last_here", "_law_made", "_law_cell", "_law_end_here", "_law_many", "_law_due", "_law_later", "_law_wide", "_law_gone_here"] (defScope s_law)) {pos pos' : Pos} {e : Expr} {te : TE} (he : WE X e te) (hs : swapsWith e (some (.Name "_law_cell" pos')) pos.line X.env = pure false := by rfl) : WS X (.Assign [.Name "_law_cell" pos'] e pos) (tAsg te (gN 4)) := wxs c sc_law.nd rfl lk_law_4 he hs
theorem lk_law_5 : (defScope s_law).names.lookup ("_law_end_here" : Str) = some .local := by decide +kernel
theorem pv_law_5 {X : Cx} (c : CxIs X ["_law_script", "_law_steps", "_law_last_here", "_law_made", "_law_cell", "_law_end_here", "_law_many", "_law_due", "_law_later", "_law_wide", "_law_gone_here"] (defScope s_law)) {pos : Pos} : WE X (.Name "_law_end_here" pos) (tVar 5) := wxv c rfl lk_law_5 (by decide) (by decide)
theorem ss_law_5 {X : Cx} (c : CxIs X ["_law_script", "_law_steps", "_law_last_here", "_law_made", "_law_cell", "_law_end_here", "_law_many", "_law_due", "_law_later", "_law_wide", "_law_gone_here"] (defScope s_law)) {pos pos' : Pos} {e : Expr} {te : TE} (he : WE X e te) (hs : swapsWith e (some (.Name "_law_end_here" pos')) pos.line X.env = pure false := by rfl) : WS X (.Assign [.Name "_law_end_here" pos'] e pos) (tAsg te (gN 5)) := wxs c sc_law.nd rfl lk_law_5 he hs
theorem lk_law_6 : (defScope s_law).names.lookup ("_law_many" : Str) = some .cell := by decide +kernel
theorem pv_law_6 {X : Cx} (c : CxIs X ["_law_script", "_law_steps", "_law_last_here", "_law_made", "_law_cell", "_law_end_here", "_law_many", "_law_due", "_law_later", "_law_wide", "_law_gone_here"] (defScope s_law)) {pos : Pos} : WE X (.Name "_law_many" pos) (tVar 6) := wxvC c rfl lk_law_6 (by decide) (by decide)
theorem ss_law_6 {X : Cx} (c : CxIs X ["_law_script", "_law_steps", "_law_last_here", "_law_made", "_law_cell", "_law_end_here", "_law_many", "_law_due", "_law_later", "_law_wide", "_law_gone_here"] (defScope s_law)) (hf : ∀ x, X.fn x = true) {pos pos' : Pos} {e : Expr} {te : TE} (he : WE X e te) (hs : swapsWith e (some (.Name "_law_many" pos')) pos.line X.env = pure false := by rfl) : WS X (.Assign [.Name "_law_many" pos'] e pos) (tAsg te (gN 6)) := wxsC c hf sc_law.nd rfl lk_law_6 he hs
theorem lk_law_7 : (defScope s_law).names.lookup ("_law_due" : Str) = some .local := by decide +kernel
theorem pv_law_7 {X : Cx} (c : CxIs X ["_law_script", "_law_steps", "_law_last_here", "_law_made", "_law_cell", "_law_end_here", "_law_many", "_law_due", "_law_later", "_law_wide", "_law_gone_here"] (defScope s_law)) {pos : Pos} : WE X (.Name "_law_due" pos) (tVar 7) := wxv c rfl lk_law_7 (by decide) (by decide)
theorem ss_law_7 {X : Cx} (c : CxIs X ["_law_script", "_law_steps", "_law_last_here", "_law_made", "_law_cell", "_law_end_here", "_law_many", "_law_due", "_law_later", "_law_wide", "_law_gone_here"] (defScope s_law)) {pos pos' : Pos} {e : Expr} {te : TE} (he : WE X e te) (hs : swapsWith e (some (.Name "_law_due" pos')) pos.line X.env = pure false := by rfl) : WS X (.Assign [.Name "_law_due" pos'] e pos) (tAsg te (gN 7)) := wxs c sc_law.nd rfl lk_law_7 he hs
theorem lk_law_8 : (defScope s_law).names.lookup ("_law_later" : Str) = some .local := by decide +kernel
theorem pv_law_8 {X : Cx} (c : CxIs X ["_law_script", "_law_steps", "_law_last_here", "_law_made", "_law_cell", "_law_end_here", "_law_many", "_law_due", "_law_later", "_law_wide", "_law_gone_here"] (defScope s_law)) {pos : Pos} : WE X (.Name "_law_later" pos) (tVar 8) := wxv c rfl lk_law_8 (by decide) (by decide)
theorem ss_law_8 {X : Cx} (c : CxIs X ["_law_script", "_law_steps", "_law_last_here", "_law_made", "_law_cell", "_law_end_here", "_law_many", "_law_due", "_law_later", "_law_wide", "_law_gone_here"] (defScope s_law)) {pos pos' : Pos} {e : Expr} {te : TE} (he : WE X e te) (hs : swapsWith e (some (.Name "_law_later" pos')) pos.line X.env = pure false := by rfl) : WS X (.Assign [.Name "_law_later" pos'] e pos) (tAsg te (gN 8)) := wxs c sc_law.nd rfl lk_law_8 he hs
theorem lk_law_9 : (defScope s_law).names.lookup ("_law_wide" : Str) = some .local := by decide +kernel
theorem pv_law_9 {X : Cx} (c : CxIs X ["_law_script", "_law_steps", "_law_last_here", "_law_made", "_law_cell", "_law_end_here", "_law_many", "_law_due", "_law_later", "_law_wide", "_law_gone_here"] (defScope s_law)) {pos : Pos} : WE X (.Name "_law_wide" pos) (tVar 9) := wxv c rfl lk_law_9 (by decide) (by decide)
theorem ss_law_9 {X : Cx} (c : CxIs X ["_law_script", "_law_steps", "_law_last_here", "_law_made", "_law_cell", "_law_end_here", "_law_many", "_law_due", "_law_later", "_law_wide", "_law_gone_here"] (defScope s_law)) {pos pos' : Pos} {e : Expr} {te : TE} (he : WE X e te) (hs : swapsWith e (some (.Name "_law_wide" pos')) pos.line X.env = pure false := by rfl) : WS X (.Assign [.Name "_law_wide" pos'] e pos) (tAsg te (gN 9)) := wxs c sc_law.nd rfl lk_law_9 he hs
theorem lk_law_10 : (defScope s_law).names.lookup ("_law_gone_here" : Str) = some .local := by decide +kernel
theorem pv_law_10 {X : Cx} (c : CxIs X ["_law_script", "_law_steps", "_law_last_here", "_law_made", "_law_cell", "_law_end_here", "_law_many", "_law_due", "_law_later", "_law_wide", "_law_gone_here"] (defScope s_law)) {pos : Pos} : WE X (.Name "_law_gone_here" pos) (tVar 10) := wxv c rfl lk_law_10 (by decide) (by decide)
theorem ss_law_10 {X : Cx} (c : CxIs X ["_law_script", "_law_steps", "_law_last_here", "_law_made", "_law_cell", "_law_end_here", "_law_many", "_law_due", "_law_later", "_law_wide", "_law_gone_here"] (defScope s_law)) {pos pos' : Pos} {e : Expr} {te : TE} (he : WE X e te) (hs : swapsWith e (some (.Name "_law_gone_here" pos')) pos.line X.env = pure false := by rfl) : WS X (.Assign [.Name "_law_gone_here" pos'] e pos) (tAsg te (gN 10)) := wxs c sc_law.nd rfl lk_law_10 he hs
theorem gl_law_law_chain {X : Cx} (c : CxIs X ["_law_script", "_law_steps", "_law_last_here", "_law_made", "_law_cell", "_law_end_here", "_law_many", "_law_due", "_law_later", "_law_wide", "_law_gone_here"] (defScope s_law)) : Gl X "_law_chain" := xg c (by decide +kernel)
theorem gl_law_law_last {X : Cx} (c : CxIs X ["_law_script", "_law_steps", "_law_last_here", "_law_made", "_law_cell", "_law_end_here", "_law_many", "_law_due", "_law_later", "_law_wide", "_law_gone_here"] (defScope s_law)) : Gl X "_law_last" := xg c (by decide +kernel)
theorem gl_law_flatten {X : Cx} (c : CxIs X ["_law_script", "_law_steps", "_law_last_here", "_law_made", "_law_cell", "_law_end_here", "_law_many", "_law_due", "_law_later", "_law_wide", "_law_gone_here"] (defScope s_law)) : Gl X "flatten" := xg c (by decide +kernel)
theorem gl_law_law_draw {X : Cx} (c : CxIs X ["_law_script", "_law_steps", "_law_last_here", "_law_made", "_law_cell", "_law_end_here", "_law_many", "_law_due", "_law_later", "_law_wide", "_law_gone_here"] (defScope s_law)) : Gl X "_law_draw" := xg c (by decide +kernel)
theorem gl_law_law_origin {X : Cx} (c : CxIs X ["_law_script", "_law_steps", "_law_last_here", "_law_made", "_law_cell", "_law_end_here", "_law_many", "_law_due", "_law_later", "_law_wide", "_law_gone_here"] (defScope s_law)) : Gl X "_law_origin" := xg c (by decide +kernel)
theorem gl_law_missing {X : Cx} (c : CxIs X ["_law_script", "_law_steps", "_law_last_here", "_law_made", "_law_cell", "_law_end_here", "_law_many", "_law_due", "_law_later", "_law_wide", "_law_gone_here"] (defScope s_law)) : Gl X "missing" := xg c (by decide +kernel)
theorem gl_law_law_same_row {X : Cx} (c : CxIs X ["_law_script", "_law_steps", "_law_last_here", "_law_made", "_law_cell", "_law_end_here", "_law_many", "_law_due", "_law_later", "_law_wide", "_law_gone_here"] (defScope s_law)) : Gl X "_law_same_row" := xg c (by decide +kernel)
theorem gl_law_law_long {X : Cx} (c : CxIs X ["_law_script", "_law_steps", "_law_last_here", "_law_made", "_law_cell", "_law_end_here", "_law_many", "_law_due", "_law_later", "_law_wide", "_law_gone_here"] (defScope s_law)) : Gl X "_law_long" := xg c (by decide +kernel)
theorem gl_law_law_same_origin {X : Cx} (c : CxIs X ["_law_script", "_law_steps", "_law_last_here", "_law_made", "_law_cell", "_law_end_here", "_law_many", "_law_due", "_law_later", "_law_wide", "_law_gone_here"] (defScope s_law)) : Gl X "_law_same_origin" := xg c (by decide +kernel)
theorem gl_law_law_product {X : Cx} (c : CxIs X ["_law_script", "_law_steps", "_law_last_here", "_law_made", "_law_cell", "_law_end_here", "_law_many", "_law_due", "_law_later", "_law_wide", "_law_gone_here"] (defScope s_law)) : Gl X "_law_product" := xg c (by decide +kernel)
theorem gl_law_law_whole {X : Cx} (c : CxIs X ["_law_script", "_law_steps", "_law_last_here", "_law_made", "_law_cell", "_law_end_here", "_law_many", "_law_due", "_law_later", "_law_wide", "_law_gone_here"] (defScope s_law)) : Gl X "_law_whole" := xg c (by decide +kernel)
theorem gl_law_law_end {X : Cx} (c : CxIs X ["_law_script", "_law_steps", "_law_last_here", "_law_made", "_law_cell", "_law_end_here", "_law_many", "_law_due", "_law_later", "_law_wide", "_law_gone_here"] (defScope s_law)) : Gl X "_law_end" := xg c (by decide +kernel)
theorem gl_law_origin {X : Cx} (c : CxIs X ["_law_script", "_law_steps", "_law_last_here", "_law_made", "_law_cell", "_law_end_here", "_law_many", "_law_due", "_law_later", "_law_wide", "_law_gone_here"] (defScope s_law)) : Gl X "origin" := xg c (by decide +kernel)
theorem gl_law_law_moved {X : Cx} (c : CxIs X ["_law_script", "_law_steps", "_law_last_here", "_law_made", "_law_cell", "_law_end_here", "_law_many", "_law_due", "_law_later", "_law_wide", "_law_gone_here"] (defScope s_law)) : Gl X "_law_moved" := xg c (by decide +kernel)
theorem gl_law_law_gone {X : Cx} (c : CxIs X ["_law_script", "_law_steps", "_law_last_here", "_law_made", "_law_cell", "_law_end_here", "_law_many", "_law_due", "_law_later", "_law_wide", "_law_gone_here"] (defScope s_law)) : Gl X "_law_gone" := xg c (by decide +kernel)
theorem gl_law_list {X : Cx} (c : CxIs X ["_law_script", "_law_steps", "_law_last_here", "_law_made", "_law_cell", "_law_end_here", "_law_many", "_law_due", "_law_later", "_law_wide", "_law_gone_here"] (defScope s_law)) : Gl X "list" := xg c (by decide +kernel)
theorem st_law (v0 : V) : L2.start ["_law_script", "_law_steps", "_law_last_here", "_law_made", "_law_cell", "_law_end_here", "_law_many", "_law_due", "_law_later", "_law_wide", "_law_gone_here"] [v0] = [some v0, none, none, none, none, none, none, none, none, none, none] := rfl
noncomputable def sp_law (K : PySem.W.Frag) : Sp := fun vs H Q _ => ∃ (a : Addr) (ns : List Int), vs = [.ref a] ∧ SqL K H a (ns.map V.int) ∧ ns.length ≤ 63 ∧ BitsOk ns ∧ ∀ H', Q (.bl true) H'
theorem body_law {X : Cx} (c : CxIs X ["_law_script", "_law_steps", "_law_last_here", "_law_made", "_law_cell", "_law_end_here", "_law_many", "_law_due", "_law_later", "_law_wide", "_law_gone_here"] (defScope s_law)) (hr : Room 6 X.A) {E : XK}  (hf : ∀ x, X.fn x = true) (T_Flat : Txt_Flat X.K X.mg) (z_list : X.mg "list" = none) (C_law_chain : Cal X.prog X.w X.K X.mg X.base "_law_chain" 4 ["_law_script", "_law_base", "_law_many", "_law_limit"] (sp_law_chain X.K)) (C_law_last : Cal X.prog X.w X.K X.mg X.base "_law_last" 1 ["_law_cell"] (sp_law_last X.K)) (C_flatten : Cal X.prog X.w X.K X.mg X.base "flatten" 6 ["chain"] (sp_flatten X.K)) (C_law_draw : Cal X.prog X.w X.K X.mg X.base "_law_draw" 2 ["_law_script", "_law_k"] (sp_law_draw X.K)) (C_law_origin : Cal X.prog X.w X.K X.mg X.base "_law_origin" 5 ["_law_steps", "_law_end_here"] (sp_law_origin X.K)) (C_missing : Cal X.prog X.w X.K X.mg X.base "missing" 6 ["chain", "low", "high"] (sp_missing X.K)) (C_law_same_row : Cal X.prog X.w X.K X.mg X.base "_law_same_row" 2 ["_law_found", "_law_due"] (sp_law_same_row X.K)) (C_law_long : Cal X.prog X.w X.K X.mg X.base "_law_long" 4 ["_law_cell"] (sp_law_long X.K)) (C_law_same_origin : Cal X.prog X.w X.K X.mg X.base "_law_same_origin" 2 ["_law_found", "_law_due"] (sp_law_same_origin X.K)) (C_law_product : Cal X.prog X.w X.K X.mg X.base "_law_product" 3 ["_law_steps"] (sp_law_product X.K)) (C_law_whole : Cal X.prog X.w X.K X.mg X.base "_law_whole" 1 ["_law_found"] (sp_law_whole X.K)) (C_law_end : Cal X.prog X.w X.K X.mg X.base "_law_end" 3 ["_law_steps", "_law_amount"] (sp_law_end X.K)) (C_origin : Cal X.prog X.w X.K X.mg X.base "origin" 6 ["chain", "end"] (sp_origin X.K)) (C_law_moved : Cal X.prog X.w X.K X.mg X.base "_law_moved" 1 ["_law_due", "_law_many", "_law_made"] (sp_law_moved X.K)) (C_law_gone : Cal X.prog X.w X.K X.mg X.base "_law_gone" 5 ["_law_steps", "_law_low", "_law_high"] (sp_law_gone X.K)) {vs : List V} {H : Hp} {Q : VK} (h : sp_law X.K vs H Q E) : ∃ t, WSs X (defBody s_law) t ∧ t { nx := fun _ H' => Q .non H', rt := Q } (L2.start ["_law_script", "_law_steps", "_law_last_here", "_law_made", "_law_cell", "_law_end_here", "_law_many", "_law_due", "_law_later", "_law_wide", "_law_gone_here"] vs) H := by
  obtain ⟨f_law_chain, d_law_chain, G_law_chain, b_law_chain, k_law_chain, m_law_chain⟩ := C_law_chain
  obtain ⟨f_law_last, d_law_last, G_law_last, b_law_last, k_law_last, m_law_last⟩ := C_law_last
  obtain ⟨f_flatten, d_flatten, G_flatten, b_flatten, k_flatten, m_flatten⟩ := C_flatten
  obtain ⟨f_law_draw, d_law_draw, G_law_draw, b_law_draw, k_law_draw, m_law_draw⟩ := C_law_draw
  obtain ⟨f_law_origin, d_law_origin, G_law_origin, b_law_origin, k_law_origin, m_law_origin⟩ := C_law_origin
  obtain ⟨f_missing, d_missing, G_missing, b_missing, k_missing, m_missing⟩ := C_missing
  obtain ⟨f_law_same_row, d_law_same_row, G_law_same_row, b_law_same_row, k_law_same_row, m_law_same_row⟩ := C_law_same_row
  obtain ⟨f_law_long, d_law_long, G_law_long, b_law_long, k_law_long, m_law_long⟩ := C_law_long
  obtain ⟨f_law_same_origin, d_law_same_origin, G_law_same_origin, b_law_same_origin, k_law_same_origin, m_law_same_origin⟩ := C_law_same_origin
  obtain ⟨f_law_product, d_law_product, G_law_product, b_law_product, k_law_product, m_law_product⟩ := C_law_product
  obtain ⟨f_law_whole, d_law_whole, G_law_whole, b_law_whole, k_law_whole, m_law_whole⟩ := C_law_whole
  obtain ⟨f_law_end, d_law_end, G_law_end, b_law_end, k_law_end, m_law_end⟩ := C_law_end
  obtain ⟨f_origin, d_origin, G_origin, b_origin, k_origin, m_origin⟩ := C_origin
  obtain ⟨f_law_moved, d_law_moved, G_law_moved, b_law_moved, k_law_moved, m_law_moved⟩ := C_law_moved
  obtain ⟨f_law_gone, d_law_gone, G_law_gone, b_law_gone, k_law_gone, m_law_gone⟩ := C_law_gone
  · obtain ⟨a, ns, rfl, hS, hl, hb, q⟩ := h
    refine ⟨_, (wss_cons (ss_law_1 c (we_call (G_law_chain.mono (by decide)) hr (gl_law_law_chain c) m_law_chain k_law_chain b_law_chain .nil pass0 (wa_cons (pv_law_0 c) (wa_cons we_int (wa_cons (we_op op_mod (we_call (G_law_draw.mono (by decide)) hr (gl_law_law_draw c) m_law_draw k_law_draw b_law_draw .nil pass0 (wa_cons (pv_law_0 c) (wa_cons we_int wa_nil star_Constant) star_Name)) we_int) (wa_cons we_int wa_nil star_Constant) star_BinOp) star_Constant) star_Name)))
      (wss_cons (ss_law_2 c (we_call (G_law_last.mono (by decide)) hr (gl_law_law_last c) m_law_last k_law_last b_law_last .nil pass0 (wa_cons (we_op op_fdivB (we_call (G_law_draw.mono (by decide)) hr (gl_law_law_draw c) m_law_draw k_law_draw b_law_draw .nil pass0 (wa_cons (pv_law_0 c) (wa_cons we_int wa_nil star_Constant) star_Name)) we_int) wa_nil star_BinOp)))
      (wss_cons (ws_if (WW.pt (ww_and (wt_cmpR op_gt (we_op op_mod (we_call (G_law_draw.mono (by decide)) hr (gl_law_law_draw c) m_law_draw k_law_draw b_law_draw .nil pass0 (wa_cons (pv_law_0 c) (wa_cons we_int wa_nil star_Constant) star_Name)) we_int) we_int (nomark _)) (ww_and1 (wt_cmpR op_le (we_call (G_law_product.mono (by decide)) hr (gl_law_law_product c) m_law_product k_law_product b_law_product .nil pass0 (wa_cons (we_op op_catO (pv_law_1 c) (we_lstO (wa_cons (pv_law_2 c) wa_nil star_Name))) wa_nil star_BinOp)) we_int (nomark _)))))
      (wss_one (ws_expr (we_bm PySem.F.plainAttrs_list PySem.F.slot_list_append PySem.F.type_list_append mt_append (pv_law_1 c) (wa_cons (pv_law_2 c) wa_nil star_Name))))
      wss_nil)
      (wss_cons (ws_if (wt_cmpR op_eq (we_op op_mod (we_call (G_law_draw.mono (by decide)) hr (gl_law_law_draw c) m_law_draw k_law_draw b_law_draw .nil pass0 (wa_cons (pv_law_0 c) (wa_cons we_int wa_nil star_Constant) star_Name)) we_int) we_int (nomark _))
      (wss_one (ss_law_1 c (we_call (G_law_long.mono (by decide)) hr (gl_law_law_long c) m_law_long k_law_long b_law_long .nil pass0 (wa_cons (we_call (G_law_draw.mono (by decide)) hr (gl_law_law_draw c) m_law_draw k_law_draw b_law_draw .nil pass0 (wa_cons (pv_law_0 c) (wa_cons we_int wa_nil star_Constant) star_Name)) wa_nil star_Call))))
      wss_nil)
      (wss_cons (ss_law_3 c hf (we_call (G_flatten.mono (by decide)) hr (gl_law_flatten c) m_flatten k_flatten b_flatten .nil pass0 (wa_cons (we_callTy call_list_ofO (gl_law_list c) z_list boot_ty_list (wa_cons (pv_law_1 c) wa_nil star_Name)) wa_nil star_Call)))
      (wss_cons (ws_if (WW.pt (ww_or (wt_not (wt_val (we_call (G_law_whole.mono (by decide)) hr (gl_law_law_whole c) m_law_whole k_law_whole b_law_whole .nil pass0 (wa_cons (we_fld (pv_law_3 c) rfl) wa_nil star_Attribute)))) (ww_or1 (wt_not (wt_val (we_call (G_law_whole.mono (by decide)) hr (gl_law_law_whole c) m_law_whole k_law_whole b_law_whole .nil pass0 (wa_cons (we_fld (pv_law_3 c) rfl) wa_nil star_Attribute)))))))
      (wss_one (ws_ret we_bl))
      wss_nil)
      (wss_cons (ss_law_4 c (we_call (G_law_draw.mono (by decide)) hr (gl_law_law_draw c) m_law_draw k_law_draw b_law_draw .nil pass0 (wa_cons (pv_law_0 c) (wa_cons we_int wa_nil star_Constant) star_Name)))
      (wss_cons (ss_law_5 c (we_op op_add (we_op op_add (we_call (G_law_end.mono (by decide)) hr (gl_law_law_end c) m_law_end k_law_end b_law_end .nil pass0 (wa_cons (pv_law_1 c) (wa_cons we_int wa_nil star_Constant) star_Name)) we_int) (we_op op_mod (we_op op_fdivB (pv_law_4 c) we_int) (we_ix ix_list (we_lstO (wa_cons we_int (wa_cons (we_op op_pow we_int we_int) wa_nil star_BinOp) star_Constant)) (we_op op_mod (pv_law_4 c) we_int) plain_BinOp))))
      (wss_cons (ss_law_6 c hf (we_op op_mod (we_call (G_law_draw.mono (by decide)) hr (gl_law_law_draw c) m_law_draw k_law_draw b_law_draw .nil pass0 (wa_cons (pv_law_0 c) (wa_cons we_int wa_nil star_Constant) star_Name)) (we_op op_add (we_op op_pow we_int we_int) we_int)))
      (wss_cons (ss_law_7 c (we_call (G_law_origin.mono (by decide)) hr (gl_law_law_origin c) m_law_origin k_law_origin b_law_origin .nil pass0 (wa_cons (pv_law_1 c) (wa_cons (pv_law_5 c) wa_nil star_Name) star_Name)))
      (wss_cons (ws_if (wt_not (wt_val (we_call (G_law_same_origin.mono (by decide)) hr (gl_law_law_same_origin c) m_law_same_origin k_law_same_origin b_law_same_origin .nil pass0 (wa_cons (we_call (G_origin.mono (by decide)) hr (gl_law_origin c) m_origin k_origin b_origin .nil pass0 (wa_cons (we_callTy call_list_ofO (gl_law_list c) z_list boot_ty_list (wa_cons (pv_law_1 c) wa_nil star_Name)) (wa_cons (pv_law_5 c) wa_nil star_Name) star_Call)) (wa_cons (pv_law_7 c) wa_nil star_Name) star_Call))))
      (wss_one (ws_ret we_bl))
      wss_nil)
      (wss_cons (ss_law_8 c (we_op op_add (pv_law_5 c) (we_op op_mulB (pv_law_6 c) (we_fld (pv_law_3 c) rfl))))
      (wss_cons (ws_if (wt_not (wt_val (we_call (G_law_same_origin.mono (by decide)) hr (gl_law_law_same_origin c) m_law_same_origin k_law_same_origin b_law_same_origin .nil pass0 (wa_cons (we_call (G_origin.mono (by decide)) hr (gl_law_origin c) m_origin k_origin b_origin .nil pass0 (wa_cons (we_callTy call_list_ofO (gl_law_list c) z_list boot_ty_list (wa_cons (pv_law_1 c) wa_nil star_Name)) (wa_cons (pv_law_8 c) wa_nil star_Name) star_Call)) (wa_cons (we_call (G_law_moved.mono (by decide)) hr (gl_law_law_moved c) m_law_moved k_law_moved b_law_moved .nil pass0 (wa_cons (pv_law_7 c) (wa_cons (pv_law_6 c) (wa_cons (pv_law_3 c) wa_nil star_Name) star_Name) star_Name)) wa_nil star_Call) star_Call))))
      (wss_one (ws_ret we_bl))
      wss_nil)
      (wss_cons (ss_law_9 c (we_op op_mod (we_call (G_law_draw.mono (by decide)) hr (gl_law_law_draw c) m_law_draw k_law_draw b_law_draw .nil pass0 (wa_cons (pv_law_0 c) (wa_cons we_int wa_nil star_Constant) star_Name)) we_int))
      (wss_cons (ss_law_10 c (we_call (G_missing.mono (by decide)) hr (gl_law_missing c) m_missing k_missing b_missing .nil pass0 (wa_cons (we_callTy call_list_ofO (gl_law_list c) z_list boot_ty_list (wa_cons (pv_law_1 c) wa_nil star_Name)) (wa_cons (pv_law_5 c) (wa_cons (we_op op_add (pv_law_5 c) (pv_law_9 c)) wa_nil star_BinOp) star_Name) star_Call)))
      (wss_cons (ws_if (wt_not (wt_val (we_call (G_law_same_row.mono (by decide)) hr (gl_law_law_same_row c) m_law_same_row k_law_same_row b_law_same_row .nil pass0 (wa_cons (pv_law_10 c) (wa_cons (we_call (G_law_gone.mono (by decide)) hr (gl_law_law_gone c) m_law_gone k_law_gone b_law_gone .nil pass0 (wa_cons (pv_law_1 c) (wa_cons (pv_law_5 c) (wa_cons (we_op op_add (pv_law_5 c) (pv_law_9 c)) wa_nil star_BinOp) star_Name) star_Name)) wa_nil star_Call) star_Name))))
      (wss_one (ws_ret we_bl))
      wss_nil)
      (wss_one (ws_ret (we_call (G_law_same_row.mono (by decide)) hr (gl_law_law_same_row c) m_law_same_row k_law_same_row b_law_same_row .nil pass0 (wa_cons (we_call (G_missing.mono (by decide)) hr (gl_law_missing c) m_missing k_missing b_missing .nil pass0 (wa_cons (we_callTy call_list_ofO (gl_law_list c) z_list boot_ty_list (wa_cons (pv_law_1 c) wa_nil star_Name)) (wa_cons (pv_law_8 c) (wa_cons (we_op op_add (pv_law_8 c) (pv_law_9 c)) wa_nil star_BinOp) star_Name) star_Call)) (wa_cons (we_comp (fs := ["_law_many", "_law_made"]) (fr := [6, 3]) c (by decide +kernel) (wi_list (pv_law_10 c)) (fun _ _ _ _ _ cc => (we_op op_add (wxv cc (i := 0) rfl (by decide +kernel) (by decide) (by decide)) (we_op op_mulB (wxvC cc (i := 1) rfl (by decide +kernel) (by decide) (by decide)) (we_fldK (K := X.K) rfl (wxvC cc (i := 2) rfl (by decide +kernel) (by decide) (by decide)) rfl))))) wa_nil star_ListComp) star_Call)))))))))))))))))))), ?_⟩
    rw [st_law]
    have y0 := md0 (x := drawAt ns 1) (n := 6) (by decide)
    have y1 := md1 (x := drawAt ns 1) (n := 6) (by decide)
    refine ⟨_, rfl, _, rfl, a, ns, _, rfl, hS, by decide, by decide, _, _, rfl, rfl, (by decide : (0 : Int) < 6), a, ns, _, _, _, rfl, hS, by decide, by decide, y0, by omega, by decide, fun l as sts H1 s1 n1 f1 hC hn hp' σ e => ?_⟩
    dsimp only [List.set] at e
    subst e
    refine ⟨_, rfl, a, ns, _, rfl, s1.seq hS, by decide, by decide, _, _, rfl, rfl, ⟨by decide, by decide⟩, _, rfl, fun p2 st2 H2 s2 hT2 hO2 σ e => ?_⟩
    dsimp only [List.set] at e
    subst e
    have hC2 := hC.same s2
    have s02 := s1.trans s2
    have f2 := s2 _ _ f1
    try dsimp only
    refine seq_gen (fun σ H' => ∃ as sts, Same H H' ∧ Chn X.K H' l as sts ∧ sts.length ≤ 6 ∧ prodI sts ≤ 20000 ∧ σ = [some (.ref a), some (.ref l), some (.ref p2), none, none, none, none, none, none, none, none]) ?rest ?st
    case st =>
      intro R hR
      refine ⟨_, rfl, a, ns, _, rfl, s02.seq hS, by decide, by decide, _, _, rfl, rfl, (by decide : (0 : Int) < 3), _, _, rfl, rfl, _, rfl, ?_⟩
      refine if2 (fun d => ?_) (fun d => ?_)
      · refine ⟨_, rfl, _, rfl, (small' (by show 1 ≤ 1000; decide)), fun p3 H3 n3 s3 f3 => ?_⟩
        refine ⟨l, p3, _, _, rfl, rfl, s3 _ _ f2, f3, Nat.le_trans (show _ ≤ 1000 by rw [List.length_map, hC.len]; show sts.length + 1 ≤ 1000; omega) (by decide), fun p4 H4 n4 s4 f4 => ?_⟩
        have c4 : Chn X.K H4 p4 (as ++ [p2]) (sts ++ [st2]) := (hC2.same s3).cat (Chn.one f3 (s3.seqT hT2) hO2) s4 (by rw [f4, List.map_append]; rfl)
        refine ⟨p4, _, _, rfl, c4, _, _, rfl, rfl, _, rfl, ?_⟩
        have f34 := s4 _ _ (s3 _ _ f2)
        have s34 := s3.trans s4
        refine if2 (fun d2 => ?_) (fun d2 => ?_)
        · refine ⟨_, rfl, .inl ⟨rfl, _, SqL.of f34⟩, _, rfl, l, _, _, rfl, rfl, f34, small1000 (by rw [List.length_map, hC.len]; omega), ?_⟩
          refine hR _ _ ⟨as ++ [p2], sts ++ [st2], (s02.trans s34).drop n1 rfl, ?_, by rw [List.length_append, List.length_singleton]; omega, by omega, rfl⟩
          have := chn_push ((hC2.same s34)) f34 (s34.seqT hT2) hO2
          rw [List.map_append] at this
          exact this
        · exact hR _ _ ⟨as, sts, s02.trans s34, hC2.same s34, by omega, by omega, rfl⟩
      · refine iteF ?_
        exact hR _ _ ⟨as, sts, s02, hC2, by omega, by omega, rfl⟩
    rintro σ H3 ⟨as, sts, s3, hC, hlen, hp, rfl⟩
    try dsimp only
    refine seq_gen (fun σ H' => ∃ l as sts, Same H H' ∧ Chn X.K H' l as sts ∧ sts.length ≤ 6 ∧ prodI sts ≤ 20000 ∧ σ = [some (.ref a), some (.ref l), some (.ref p2), none, none, none, none, none, none, none, none]) ?rest2 ?st2
    case st2 =>
      intro R hR
      refine ⟨_, rfl, a, ns, _, rfl, s3.seq hS, by decide, by decide, _, _, rfl, rfl, (by decide : (0 : Int) < 8), rfl, _, rfl, ?_⟩
      refine if2 (fun d => ?_) (fun d => ?_)
      · refine ⟨_, rfl, a, ns, _, rfl, s3.seq hS, by decide, by decide, _, rfl, fun l as sts H1 s2 n2 f2 hC hn hp σ e => ?_⟩
        dsimp only [List.set] at e
        subst e
        exact hR _ _ ⟨l, as, sts, s3.trans s2, hC, by omega, hp, rfl⟩
      · exact hR _ _ ⟨l, as, sts, s3, hC, hlen, hp, rfl⟩
    rintro σ H4 ⟨l, as, sts, s4, hC, hlen, hp, rfl⟩
    refine ⟨_, rfl, _, _, rfl, .inl hC.lst, fun c5 H5 n5 s5 f5 => ?_⟩
    have hD5 := hC.copy (p := c5) s5 f5
    refine ⟨c5, as, sts, rfl, hD5, hp, hlen, fun x cc r H6 s6 n6 hF hY hd cle σ e => ?_⟩
    dsimp only [List.set] at e
    subst e
    have s46 := s5.trans s6
    have hC6 := hC.same s46
    have hS6 := (s4.trans s46).seq hS
    have cc0 := hY.c0
    obtain ⟨dx, fs, pe, g1, g2, g3, g4, g5, g6⟩ := id hF
    refine ⟨_, rfl, x, _, dx, fs, _, rfl, g1, T_Flat.cl, T_Flat.n_cycle, g2, _, rfl, _, rfl, ?_⟩
    refine iteF ?_
    refine ⟨_, rfl, x, _, dx, fs, _, rfl, g1, T_Flat.cl, T_Flat.n_rise, g3, _, rfl, _, rfl, ?_⟩
    refine iteF ?_
    refine ⟨_, rfl, a, ns, _, rfl, hS6, by decide, by decide, fun σ e => ?_⟩
    dsimp only [List.set] at e
    subst e
    have k0 := md0 (x := drawAt ns 8) (n := 2) (by decide)
    have k1 := md1 (x := drawAt ns 8) (n := 2) (by decide)
    refine ⟨_, rfl, l, as, sts, 0, rfl, hC6, _, _, rfl, rfl, _, rfl, _, _, rfl, rfl, ⟨by decide, by decide⟩, _, _, rfl, rfl, ⟨by decide, by decide, by decide⟩, (small' (by show 2 ≤ 1000; decide)), fun p7 H7 n7 s7 f7 => ?_⟩
    have e40 : (10 : Int) ^ Int.toNat 40 = 10 ^ 40 := by decide
    have hM := pick2_of (P := fun z : Int => 1 ≤ z) (i := drawAt ns 8 % 2) (a := 100) (b := 10 ^ Int.toNat 40) (by decide) (by decide)
    refine ⟨_, rfl, _, _, rfl, rfl, (by decide : (0 : Int) < 2), p7, _, _, _, rfl, rfl, SqL.of f7, at2i k0 k1, _, _, rfl, rfl, (show (0 : Int) < _ by omega), _, _, rfl, rfl, fun σ e => ?_⟩
    dsimp only [List.set] at e
    have w0 := md0 (x := drawAt ns 8 / 2) (n := pick2 (drawAt ns 8 % 2) 100 (10 ^ Int.toNat 40)) (by omega)
    generalize drawAt ns 8 / 2 % pick2 (drawAt ns 8 % 2) (100 : Int) (10 ^ Int.toNat 40) = wd at e w0
    generalize hen : endI sts 0 + 1 + wd = en at e
    have he0 : endI sts 0 < en := by omega
    have z0 := endI_nn sts hC.ok 0 (Int.le_refl 0)
    subst e
    have n0 := md0 (x := drawAt ns 10) (n := 10 ^ Int.toNat 9 + 1) (by decide)
    have n1 := md1 (x := drawAt ns 10) (n := 10 ^ Int.toNat 9 + 1) (by decide)
    have e9 : (10 : Int) ^ Int.toNat 9 = 10 ^ 9 := by decide
    have hC7 := hC6.same s7
    have hS7 := s7.seq hS6
    refine ⟨_, rfl, a, ns, _, rfl, hS7, by decide, by decide, _, _, rfl, rfl, ⟨by decide, by decide, by decide⟩, _, _, rfl, rfl, _, _, rfl, rfl, (by decide : (0 : Int) < 10 ^ Int.toNat 9 + 1), fun σ e => ?_⟩
    dsimp only [List.set] at e
    generalize drawAt ns 10 % (10 ^ Int.toNat 9 + 1) = n at e n0 n1
    subst e
    have mul : ∀ z, CMulB n z := fun z => mul_l (by omega) (by omega)
    try dsimp only
    refine seq_gen (fun σ H' => ∃ (p : Addr) (w : Str) (fx zx : Int), Same H7 H' ∧ SqT X.K H' p [.str w, .int fx, .int zx] ∧ ((w = "from" ∧ From sts en fx zx) ∨ (w = "none" ∧ ∃ m, Low sts en m ∧ ¬ endI sts m = en ∧ 0 < m ∧ fx = endI sts (m - 1) ∧ zx = endI sts m)) ∧
      σ = [some (.ref a), some (.ref l), some (.ref p2), some (.ref x), some (.int (drawAt ns 8)), some (.int en), some (.int n), some (.ref p), none, none, none]) ?rest3 ?st3
    case st3 =>
      intro R hR
      refine ⟨_, rfl, _, rfl, l, as, sts, en, rfl, hC7, by omega, ?_, ?_⟩
      · intro p f la H8 s8 hT hFr σ e
        dsimp only [List.set] at e
        subst e
        exact hR _ _ ⟨p, "from", f, la, s8, hT, .inl ⟨rfl, hFr⟩, rfl⟩
      · intro p m bel H8 s8 hT hL hne hbel σ e
        dsimp only [List.set] at e
        subst e
        rcases hbel with ⟨h1, h2⟩ | ⟨h1, h2⟩
        · subst h1
          have := hL.ge
          omega
        · subst h2
          exact hR _ _ ⟨p, "none", _, _, s8, hT, .inr ⟨rfl, m, hL, hne, h1, rfl, rfl⟩, rfl⟩
    rintro σ H8 ⟨p, w, fx, zx, s8, hT, hW, rfl⟩
    have hC8 := hC7.same s8
    have asked : ∀ (H9 : Hp) (l9 p' : Addr) (w' : Str) (f' z' e' : Int) (Q' : VK), Chn X.K H9 l9 as sts → SqT X.K H9 p' [.str w', .int f', .int z'] → ((w' = "from" ∧ From sts e' f' z') ∨ (w' = "none" ∧ ∃ m, Low sts e' m ∧ ¬ endI sts m = e' ∧ 0 < m ∧ f' = endI sts (m - 1) ∧ z' = endI sts m)) →
        (∀ p9 HA, Same H9 HA → SqT X.K HA p9 [.str w', .int f', .int z'] → Q' (.ref p9) HA) → ∀ E, sp_origin X.K [.ref l9, .int e'] H9 Q' E := fun H9 l9 p' w' f' z' e' Q' hC9 hT9 hW9 k E => by
      refine ⟨l9, as, sts, e', rfl, hC9, ?_, ?_⟩
      · intro p9 f9 la9 HA sA hTA hFA
        rcases hW9 with ⟨rfl, hF9⟩ | ⟨_, m, hL, hne, _⟩
        · have e1 := hF9.a.uniq hFA.a
          have e2 := hF9.b.uniq hFA.b
          have e3 : z' = la9 := by omega
          subst e1 e3
          exact k p9 HA sA hTA
        · rw [hL.uniq hFA.a] at hne
          exact (hne hFA.he).elim
      · intro p9 m9 bel9 HA sA hTA hLA hneA hbel9
        rcases hW9 with ⟨_, hF9⟩ | ⟨rfl, m, hL, hne, m0, rfl, rfl⟩
        · rw [← hF9.a.uniq hLA] at hneA
          exact (hneA hF9.he).elim
        · have em := hL.uniq hLA
          subst em
          rcases hbel9 with ⟨h1, _⟩ | ⟨_, h2⟩
          · omega
          · subst h2
            exact k p9 HA sA hTA
    refine ⟨_, rfl, _, _, rfl, .inl hC8.lst, fun c9 H9 n9 s9 f9 => ?_⟩
    refine ⟨_, rfl, ?_⟩
    dsimp only [tNil]
    refine asked H9 c9 p w fx zx en _ (hC8.copy (p := c9) s9 f9) (s9.seqT hT) hW (fun p9 HA sA hTA => ?_) _
    refine ⟨_, rfl, p9, p, _, _, _, rfl, hTA, sA.seqT (s9.seqT hT), .inr ⟨_, rfl⟩, _, rfl, ?_⟩
    refine iteF ?_
    have s9A := s9.trans sA
    have s7A := s8.trans s9A
    have hF7 := hF.same (s7.trans s7A)
    obtain ⟨dx, fs, pe, g1, g2, g3, g4, g5, g6⟩ := id hF7
    refine ⟨_, rfl, _, rfl, _, rfl, x, _, dx, fs, _, rfl, g1, T_Flat.cl, T_Flat.n_rise, g3, _, _, rfl, rfl, mul _, _, _, rfl, rfl, fun σ e => ?_⟩
    dsimp only [List.set] at e
    subst e
    have hCA := hC7.same s7A
    have hTp : SqT X.K HA p [.str w, .int fx, .int zx] := s9A.seqT hT
    refine ⟨_, rfl, _, _, rfl, .inl hCA.lst, fun cB HB nB sB fB => ?_⟩
    obtain ⟨w2, f2, z2, hW2, hmv⟩ : ∃ (w2 : Str) (f2 z2 : Int), ((w2 = "from" ∧ From sts (en + n * r) f2 z2) ∨ (w2 = "none" ∧ ∃ m, Low sts (en + n * r) m ∧ ¬ endI sts m = en + n * r ∧ 0 < m ∧ f2 = endI sts (m - 1) ∧ z2 = endI sts m)) ∧
        ((w = "from" ∧ w2 = "from" ∧ f2 = fx + n * cc ∧ z2 = zx + n * cc) ∨ (w = "none" ∧ w2 = "none" ∧ f2 = fx + n * r ∧ z2 = zx + n * r)) := by
      rcases hW with ⟨e1, hFr⟩ | ⟨e1, m, hL, hne, m0, e2, e3⟩
      · exact ⟨"from", _, _, .inl ⟨rfl, From.shift hC.ok hY n0 hFr he0⟩, .inl ⟨e1, rfl, rfl, rfl⟩⟩
      · have nc := nc_nn (n := n) hY n0
        have a1 := shift_end (p := m) hY n0 (by omega)
        have a2 := shift_end (p := m - 1) hY n0 (by omega)
        refine ⟨"none", _, _, .inr ⟨rfl, m + n * cc, Low.shift hC.ok hY n0 hL he0, by omega, by omega, rfl, rfl⟩, .inr ⟨e1, rfl, ?_, ?_⟩⟩
        · rw [show m + n * cc - 1 = m - 1 + n * cc by omega, a2, e2]
        · rw [a1, e3]
    have orig := fun (Q' : VK) (E : XK) (k : ∀ p9 HC, Same HB HC → SqT X.K HC p9 [.str w2, .int f2, .int z2] → Q' (.ref p9) HC) => show sp_origin X.K [.ref cB, .int (en + n * r)] HB Q' E from by
      refine ⟨cB, as, sts, _, rfl, hCA.copy (p := cB) sB fB, ?_, ?_⟩
      · intro p9 f9 la9 HC sC hTC hFC
        rcases hW2 with ⟨rfl, hF9⟩ | ⟨_, m, hL, hne, _⟩
        · have e1 := hF9.a.uniq hFC.a
          have e2 := hF9.b.uniq hFC.b
          have e3 : z2 = la9 := by omega
          subst e1 e3
          exact k p9 HC sC hTC
        · rw [hL.uniq hFC.a] at hne
          exact (hne hFC.he).elim
      · intro p9 m9 bel9 HC sC hTC hLC hneC hbel9
        rcases hW2 with ⟨_, hF9⟩ | ⟨rfl, m, hL, hne, m0, rfl, rfl⟩
        · rw [← hF9.a.uniq hLC] at hneC
          exact (hneC hF9.he).elim
        · have em := hL.uniq hLC
          subst em
          rcases hbel9 with ⟨h1, _⟩ | ⟨_, h2⟩
          · omega
          · subst h2
            exact k p9 HC sC hTC
    refine ⟨_, rfl, ?_⟩
    dsimp only [tNil]
    refine orig _ _ fun p9 HC sC hTC => ?_
    have sBC := sB.trans sC
    have moved := fun (Q' : VK) (E : XK) (k : ∀ p' HD, Same HC HD → SqT X.K HD p' [.str w2, .int f2, .int z2] → Q' (.ref p') HD) => show sp_law_moved X.K [.ref p, .int n, .ref x] HC Q' E from by
      refine ⟨p, x, w, fx, zx, n, cc, r, _, rfl, sBC.seqT hTp, hF7.same sBC, n0, by omega, fun hw p' HD sD hTD => ?_, fun hw p' HD sD hTD => ?_⟩
      all_goals
        refine k p' HD sD ?_
        rcases hmv with ⟨e1, e2, e3, e4⟩ | ⟨e1, e2, e3, e4⟩
        · first
            | (rw [e2, e3, e4]; exact hTD)
            | exact (hw e1).elim
        · first
            | (rw [e2, e3, e4]; exact hTD)
            | (rw [e1] at hw; exact absurd hw (by decide))
    refine ⟨_, rfl, _, rfl, _, rfl, ?_⟩
    dsimp only [tNil]
    refine moved _ _ fun p' HD sD hTD2 => ?_
    refine ⟨p9, p', _, _, _, rfl, sD.seqT hTC, hTD2, .inr ⟨_, rfl⟩, _, rfl, ?_⟩
    refine iteF ?_
    have sAD := sBC.trans sD
    have s7D := s7A.trans sAD
    have hCD := hC7.same s7D
    have hSD := s7D.seq hS7
    have hFD := hF7.same sAD
    obtain ⟨dx, fs, pe, g1, g2, g3, g4, g5, g6⟩ := id hFD
    have v0 := md0 (x := drawAt ns 11) (n := 41) (by decide)
    have v1 := md1 (x := drawAt ns 11) (n := 41) (by decide)
    refine ⟨_, rfl, a, ns, _, rfl, hSD, by decide, by decide, _, _, rfl, rfl, (by decide : (0 : Int) < 41), fun σ e => ?_⟩
    dsimp only [List.set] at e
    generalize drawAt ns 11 % 41 = wi at e v0 v1
    subst e
    refine ⟨_, rfl, _, _, rfl, .inl hCD.lst, fun cE HE nE sE fE => ?_⟩
    refine ⟨_, rfl, _, rfl, _, rfl, _, _, rfl, rfl, cE, as, sts, en, en + wi, rfl, hCD.copy (p := cE) sE fE, by omega, fun pF HF sF nF fF σ e => ?_⟩
    dsimp only [List.set] at e
    subst e
    have sDF := sE.trans sF
    have hCF := hCD.same sDF
    have gl := gone_len sts en (en + wi + 1)
    have ll : (goneI sts en (en + wi + 1)).length ≤ 2 ^ 60 := by omega
    refine ⟨_, rfl, _, rfl, _, rfl, _, rfl, _, rfl, _, _, rfl, rfl, l, as, sts, en, en + wi, rfl, hCF, by omega, by omega, fun pG HG sG nG fG => ?_⟩
    refine ⟨pF, pG, _, rfl, SqL.of (sG _ _ fF), SqL.of fG, ll, _, rfl, ?_⟩
    refine iteF ?_
    have hCG := hCF.same sG
    refine ⟨_, rfl, _, _, rfl, .inl hCG.lst, fun cH HH nH sH fH => ?_⟩
    refine ⟨_, rfl, _, rfl, _, rfl, _, _, rfl, rfl, cH, as, sts, en + n * r, en + n * r + wi, rfl, hCG.copy (p := cH) sH fH, by omega, fun pI HI sI nI fI => ?_⟩
    have gs := gone_shift (b := en + wi + 1) hC.ok hY n0 he0
    rw [show en + n * r + wi + 1 = en + wi + 1 + n * r by omega, gs] at fI
    have sGI := sH.trans sI
    have fFI := sGI _ _ (sG _ _ fF)
    have hFI := hFD.same ((sDF.trans sG).trans sGI)
    obtain ⟨dx', fs', pe', g1', g2', g3', g4', g5', g6'⟩ := hFI
    refine ⟨_, rfl, pF, rfl, ⟨_, SqL.of fFI⟩, comp_map (xs := (goneI sts en (en + wi + 1)).map V.int) (ys := ((goneI sts en (en + wi + 1)).map (· + n * r)).map V.int) (Nat.le_trans (show _ ≤ 1000 by rw [List.length_map]; omega) (by decide)) (SqL.of fFI) (by rw [List.length_map, List.length_map, List.length_map]) ?_ ?_⟩
    · intro j xv yv HJ hx hy sJ R hR
      rw [List.getElem?_map] at hx
      rw [List.getElem?_map, List.getElem?_map] at hy
      cases hz : (goneI sts en (en + wi + 1))[j]? with
      | none => rw [hz] at hx; cases hx
      | some z =>
        rw [hz] at hx hy
        cases hx
        cases hy
        refine ⟨_, rfl, _, rfl, _, rfl, x, _, dx', fs', _, rfl, sJ _ _ g1', T_Flat.cl, T_Flat.n_rise, g3', _, _, rfl, rfl, mul _, _, _, rfl, rfl, ?_⟩
        exact hR _ (Same.refl _)
    · intro pK HK nK sK fK
      refine ⟨pI, pK, _, rfl, SqL.of (sK _ _ fI), SqL.of fK, by rw [List.length_map]; exact ll, q _⟩
theorem ok_law {P : Program} {w : World} {K : PySem.W.Frag} {mg : Str → Option Value} {base : Heap} {f : Addr} {fd : FuncData} (F : Fun K "law" "law" s_law f fd) (T_Flat : Txt_Flat K mg) (z_list : mg "list" = none) (C_law_chain : Cal P w K mg base "_law_chain" 4 ["_law_script", "_law_base", "_law_many", "_law_limit"] (sp_law_chain K)) (C_law_last : Cal P w K mg base "_law_last" 1 ["_law_cell"] (sp_law_last K)) (C_flatten : Cal P w K mg base "flatten" 6 ["chain"] (sp_flatten K)) (C_law_draw : Cal P w K mg base "_law_draw" 2 ["_law_script", "_law_k"] (sp_law_draw K)) (C_law_origin : Cal P w K mg base "_law_origin" 5 ["_law_steps", "_law_end_here"] (sp_law_origin K)) (C_missing : Cal P w K mg base "missing" 6 ["chain", "low", "high"] (sp_missing K)) (C_law_same_row : Cal P w K mg base "_law_same_row" 2 ["_law_found", "_law_due"] (sp_law_same_row K)) (C_law_long : Cal P w K mg base "_law_long" 4 ["_law_cell"] (sp_law_long K)) (C_law_same_origin : Cal P w K mg base "_law_same_origin" 2 ["_law_found", "_law_due"] (sp_law_same_origin K)) (C_law_product : Cal P w K mg base "_law_product" 3 ["_law_steps"] (sp_law_product K)) (C_law_whole : Cal P w K mg base "_law_whole" 1 ["_law_found"] (sp_law_whole K)) (C_law_end : Cal P w K mg base "_law_end" 3 ["_law_steps", "_law_amount"] (sp_law_end K)) (C_origin : Cal P w K mg base "origin" 6 ["chain", "end"] (sp_origin K)) (C_law_moved : Cal P w K mg base "_law_moved" 1 ["_law_due", "_law_many", "_law_made"] (sp_law_moved K)) (C_law_gone : Cal P w K mg base "_law_gone" 5 ["_law_steps", "_law_low", "_law_high"] (sp_law_gone K)) : FnOk P w K mg base CX0 7 f fd ["_law_script"] (sp_law K) :=
  F.ok sc_law (fun vs H Q E h => by first | (obtain ⟨_, rfl, _⟩ := h; rfl) | (obtain ⟨_, _, rfl, _⟩ := h; rfl) | (obtain ⟨_, _, _, rfl, _⟩ := h; rfl) | (obtain ⟨_, _, _, _, rfl, _⟩ := h; rfl) | (obtain ⟨_, _, _, _, _, rfl, _⟩ := h; rfl) | (obtain ⟨_, _, _, _, _, _, rfl, _⟩ := h; rfl) | (obtain ⟨_, _, _, _, _, _, _, rfl, _⟩ := h; rfl) | (obtain ⟨_, _, _, _, _, _, _, _, rfl, _⟩ := h; rfl) | (obtain ⟨_, _, _, _, _, _, _, _, _, rfl, _⟩ := h; rfl)) (fun cdv A outer s H vs Q E hr h => unW (body_law (X := (cxOf CX0 P w K mg base ["_law_script", "_law_steps", "_law_last_here", "_law_made", "_law_cell", "_law_end_here", "_law_many", "_law_due", "_law_later", "_law_wide", "_law_gone_here"] "law" (defScope s_law) f cdv A outer s H E).nox) ⟨rfl, rfl, rfl, PassesOwn.never⟩ hr (fun _ => rfl) T_Flat z_list C_law_chain C_law_last C_flatten C_law_draw C_law_origin C_missing C_law_same_row C_law_long C_law_same_origin C_law_product C_law_whole C_law_end C_origin C_law_moved C_law_gone h))
theorem all_mk {l : PySem.W.OpenLaw} {w : World} {K : PySem.W.Frag} {h : Heap} {mg : Str → Option Value} {fa : Addr} (X : K.In h) (G : h.Ns mainGlobals mg) (hfa : mg "law" = some (.ref fa))
    {od0 an0 : Option Addr} {sl0 : Array (Option Value)} {oc0 kV0 dc0 pm0 cd0 ct0 : Value} {f0 : Addr}
    {od1 an1 : Option Addr} {sl1 : Array (Option Value)} {oc1 kV1 dc1 pm1 cd1 ct1 : Value} {f1 : Addr}
    {od2 an2 : Option Addr} {sl2 : Array (Option Value)} {oc2 kV2 dc2 pm2 cd2 ct2 : Value} {f2 : Addr}
    {od3 an3 : Option Addr} {sl3 : Array (Option Value)} {oc3 kV3 dc3 pm3 cd3 ct3 : Value} {f3 : Addr}
    {od4 an4 : Option Addr} {sl4 : Array (Option Value)} {oc4 kV4 dc4 pm4 cd4 ct4 : Value} {f4 : Addr}
    {od5 an5 : Option Addr} {sl5 : Array (Option Value)} {oc5 kV5 dc5 pm5 cd5 ct5 : Value} {f5 : Addr}
    {od6 an6 : Option Addr} {sl6 : Array (Option Value)} {oc6 kV6 dc6 pm6 cd6 ct6 : Value} {f6 : Addr}
    {od7 an7 : Option Addr} {sl7 : Array (Option Value)} {oc7 kV7 dc7 pm7 cd7 ct7 : Value} {f7 : Addr}
    {od8 an8 : Option Addr} {sl8 : Array (Option Value)} {oc8 kV8 dc8 pm8 cd8 ct8 : Value} {f8 : Addr}
    {od9 an9 : Option Addr} {sl9 : Array (Option Value)} {oc9 kV9 dc9 pm9 cd9 ct9 : Value} {f9 : Addr}
    {od10 an10 : Option Addr} {sl10 : Array (Option Value)} {oc10 kV10 dc10 pm10 cd10 ct10 : Value} {f10 : Addr}
    {od11 an11 : Option Addr} {sl11 : Array (Option Value)} {oc11 kV11 dc11 pm11 cd11 ct11 : Value} {f11 : Addr}
    {od12 an12 : Option Addr} {sl12 : Array (Option Value)} {oc12 kV12 dc12 pm12 cd12 ct12 : Value} {f12 : Addr}
    {od13 an13 : Option Addr} {sl13 : Array (Option Value)} {oc13 kV13 dc13 pm13 cd13 ct13 : Value} {f13 : Addr}
    {od14 an14 : Option Addr} {sl14 : Array (Option Value)} {oc14 kV14 dc14 pm14 cd14 ct14 : Value} {f14 : Addr}
    {od15 an15 : Option Addr} {sl15 : Array (Option Value)} {oc15 kV15 dc15 pm15 cd15 ct15 : Value} {f15 : Addr}
    {od16 an16 : Option Addr} {sl16 : Array (Option Value)} {oc16 kV16 dc16 pm16 cd16 ct16 : Value} {f16 : Addr}
    {od17 an17 : Option Addr} {sl17 : Array (Option Value)} {oc17 kV17 dc17 pm17 cd17 ct17 : Value} {f17 : Addr}
    {od18 an18 : Option Addr} {sl18 : Array (Option Value)} {oc18 kV18 dc18 pm18 cd18 ct18 : Value} {f18 : Addr}
    {od19 an19 : Option Addr} {sl19 : Array (Option Value)} {oc19 kV19 dc19 pm19 cd19 ct19 : Value} {f19 : Addr}
    {od20 an20 : Option Addr} {sl20 : Array (Option Value)} {oc20 kV20 dc20 pm20 cd20 ct20 : Value} {f20 : Addr}
    {od21 an21 : Option Addr} {sl21 : Array (Option Value)} {oc21 kV21 dc21 pm21 cd21 ct21 : Value} {f21 : Addr}
    {od22 an22 : Option Addr} {sl22 : Array (Option Value)} {oc22 kV22 dc22 pm22 cd22 ct22 : Value} {f22 : Addr}
    {od23 an23 : Option Addr} {sl23 : Array (Option Value)} {oc23 kV23 dc23 pm23 cd23 ct23 : Value} {f23 : Addr}
    {od24 an24 : Option Addr} {sl24 : Array (Option Value)} {oc24 kV24 dc24 pm24 cd24 ct24 : Value} {f24 : Addr}
    {od25 an25 : Option Addr} {sl25 : Array (Option Value)} {oc25 kV25 dc25 pm25 cd25 ct25 : Value} {f25 : Addr}
    {od26 an26 : Option Addr} {sl26 : Array (Option Value)} {oc26 kV26 dc26 pm26 cd26 ct26 : Value} {f26 : Addr}
    {od27 an27 : Option Addr} {sl27 : Array (Option Value)} {oc27 kV27 dc27 pm27 cd27 ct27 : Value} {f27 : Addr}
    {od28 an28 : Option Addr} {sl28 : Array (Option Value)} {oc28 kV28 dc28 pm28 cd28 ct28 : Value} {f28 : Addr}
    {od29 an29 : Option Addr} {sl29 : Array (Option Value)} {oc29 kV29 dc29 pm29 cd29 ct29 : Value} {f29 : Addr}
    {od30 an30 : Option Addr} {sl30 : Array (Option Value)} {oc30 kV30 dc30 pm30 cd30 ct30 : Value} {f30 : Addr}
    {od31 an31 : Option Addr} {sl31 : Array (Option Value)} {oc31 kV31 dc31 pm31 cd31 ct31 : Value} {f31 : Addr}
    {od32 an32 : Option Addr} {sl32 : Array (Option Value)} {oc32 kV32 dc32 pm32 cd32 ct32 : Value} {f32 : Addr}
    {od33 an33 : Option Addr} {sl33 : Array (Option Value)} {oc33 kV33 dc33 pm33 cd33 ct33 : Value} {f33 : Addr}
    {od34 an34 : Option Addr} {sl34 : Array (Option Value)} {oc34 kV34 dc34 pm34 cd34 ct34 : Value} {f34 : Addr}
    {od35 an35 : Option Addr} {sl35 : Array (Option Value)} {oc35 kV35 dc35 pm35 cd35 ct35 : Value} {f35 : Addr}
    {od36 an36 : Option Addr} {sl36 : Array (Option Value)} {oc36 kV36 dc36 pm36 cd36 ct36 : Value} {f36 : Addr}
    {od37 an37 : Option Addr} {sl37 : Array (Option Value)} {oc37 kV37 dc37 pm37 cd37 ct37 : Value} {f37 : Addr}
    {od38 an38 : Option Addr} {sl38 : Array (Option Value)} {oc38 kV38 dc38 pm38 cd38 ct38 : Value} {f38 : Addr}
    {A_Flat : Addr} (aC_Flat : PySem.W.nsIn K mainGlobals "Flat" = some (some (.ref A_Flat))) (pg_Flat : PySem.W.plainGet K A_Flat Str.empty = true) (hd_Flat : PySem.W.hasDictIn K A_Flat = true) (po_Flat : PySem.W.plainOver K A_Flat = true) (sa_Flat : PySem.W.findIn K (.ref A_Flat) "__setattr__" = some (some (.builtin "object.__setattr__"))) (mk_Flat : PySem.W.makesIn K A_Flat = true) (kc_Flat : PySem.W.keepIn K (.ref A_Flat) = true) (ha_Flat : PySem.W.findIn K (.ref A_Flat) "__class__" = some (some (.builtin "object.__class__"))) (hn_Flat : PySem.W.specialIn K (.builtin "object.__class__") "__get__" = some (some (.builtin "getset_descriptor.__get__"))) (htk_Flat : PySem.W.takesIn K (.builtin "object.__class__") = some true) (hm_Flat : PySem.W.mroIn K A_Flat (.type "object") = some true) (nf_Flat_cycle : PySem.W.findIn K (.ref A_Flat) "cycle" = some none) (nf_Flat_rise : PySem.W.findIn K (.ref A_Flat) "rise" = some none) (nf_Flat_ends : PySem.W.findIn K (.ref A_Flat) "ends" = some none)
    (a0 : PySem.W.nsIn K mainGlobals "common_divisor" = some (some (.ref f0))) (l0 : K.lookup f0 = some ⟨oc0, od0, .func (PySem.W.fnOf "common_divisor" "common_divisor" (defArgs s_common_divisor) (defBody s_common_divisor) (defScope s_common_divisor) .none kV0 dc0 pm0 an0 cd0 ct0), sl0⟩) (c0 : PySem.W.codeIn K cd0 "common_divisor" = true) (k0 : PySem.W.keepIn K (.ref f0) = true)
    (a1 : PySem.W.nsIn K mainGlobals "lowest" = some (some (.ref f1))) (l1 : K.lookup f1 = some ⟨oc1, od1, .func (PySem.W.fnOf "lowest" "lowest" (defArgs s_lowest) (defBody s_lowest) (defScope s_lowest) .none kV1 dc1 pm1 an1 cd1 ct1), sl1⟩) (c1 : PySem.W.codeIn K cd1 "lowest" = true) (k1 : PySem.W.keepIn K (.ref f1) = true)
    (a2 : PySem.W.nsIn K mainGlobals "prime_factors" = some (some (.ref f2))) (l2 : K.lookup f2 = some ⟨oc2, od2, .func (PySem.W.fnOf "prime_factors" "prime_factors" (defArgs s_prime_factors) (defBody s_prime_factors) (defScope s_prime_factors) .none kV2 dc2 pm2 an2 cd2 ct2), sl2⟩) (c2 : PySem.W.codeIn K cd2 "prime_factors" = true) (k2 : PySem.W.keepIn K (.ref f2) = true)
    (a3 : PySem.W.nsIn K mainGlobals "share" = some (some (.ref f3))) (l3 : K.lookup f3 = some ⟨oc3, od3, .func (PySem.W.fnOf "share" "share" (defArgs s_share) (defBody s_share) (defScope s_share) .none kV3 dc3 pm3 an3 cd3 ct3), sl3⟩) (c3 : PySem.W.codeIn K cd3 "share" = true) (k3 : PySem.W.keepIn K (.ref f3) = true)
    (a4 : PySem.W.nsIn K mainGlobals "rounded" = some (some (.ref f4))) (l4 : K.lookup f4 = some ⟨oc4, od4, .func (PySem.W.fnOf "rounded" "rounded" (defArgs s_rounded) (defBody s_rounded) (defScope s_rounded) .none kV4 dc4 pm4 an4 cd4 ct4), sl4⟩) (c4 : PySem.W.codeIn K cd4 "rounded" = true) (k4 : PySem.W.keepIn K (.ref f4) = true)
    (a5 : PySem.W.nsIn K mainGlobals "after" = some (some (.ref f5))) (l5 : K.lookup f5 = some ⟨oc5, od5, .func (PySem.W.fnOf "after" "after" (defArgs s_after) (defBody s_after) (defScope s_after) .none kV5 dc5 pm5 an5 cd5 ct5), sl5⟩) (c5 : PySem.W.codeIn K cd5 "after" = true) (k5 : PySem.W.keepIn K (.ref f5) = true)
    (a6 : PySem.W.nsIn K mainGlobals "own_cycle" = some (some (.ref f6))) (l6 : K.lookup f6 = some ⟨oc6, od6, .func (PySem.W.fnOf "own_cycle" "own_cycle" (defArgs s_own_cycle) (defBody s_own_cycle) (defScope s_own_cycle) .none kV6 dc6 pm6 an6 cd6 ct6), sl6⟩) (c6 : PySem.W.codeIn K cd6 "own_cycle" = true) (k6 : PySem.W.keepIn K (.ref f6) = true)
    (a7 : PySem.W.nsIn K mainGlobals "run" = some (some (.ref f7))) (l7 : K.lookup f7 = some ⟨oc7, od7, .func (PySem.W.fnOf "run" "run" (defArgs s_run) (defBody s_run) (defScope s_run) .none kV7 dc7 pm7 an7 cd7 ct7), sl7⟩) (c7 : PySem.W.codeIn K cd7 "run" = true) (k7 : PySem.W.keepIn K (.ref f7) = true)
    (a8 : PySem.W.nsIn K mainGlobals "origin" = some (some (.ref f8))) (l8 : K.lookup f8 = some ⟨oc8, od8, .func (PySem.W.fnOf "origin" "origin" (defArgs s_origin) (defBody s_origin) (defScope s_origin) .none kV8 dc8 pm8 an8 cd8 ct8), sl8⟩) (c8 : PySem.W.codeIn K cd8 "origin" = true) (k8 : PySem.W.keepIn K (.ref f8) = true)
    (a9 : PySem.W.nsIn K mainGlobals "missing" = some (some (.ref f9))) (l9 : K.lookup f9 = some ⟨oc9, od9, .func (PySem.W.fnOf "missing" "missing" (defArgs s_missing) (defBody s_missing) (defScope s_missing) .none kV9 dc9 pm9 an9 cd9 ct9), sl9⟩) (c9 : PySem.W.codeIn K cd9 "missing" = true) (k9 : PySem.W.keepIn K (.ref f9) = true)
    (a10 : PySem.W.nsIn K mainGlobals "first_reaching" = some (some (.ref f10))) (l10 : K.lookup f10 = some ⟨oc10, od10, .func (PySem.W.fnOf "first_reaching" "first_reaching" (defArgs s_first_reaching) (defBody s_first_reaching) (defScope s_first_reaching) .none kV10 dc10 pm10 an10 cd10 ct10), sl10⟩) (c10 : PySem.W.codeIn K cd10 "first_reaching" = true) (k10 : PySem.W.keepIn K (.ref f10) = true)
    (a11 : PySem.W.nsIn K mainGlobals "least_ahead" = some (some (.ref f11))) (l11 : K.lookup f11 = some ⟨oc11, od11, .func (PySem.W.fnOf "least_ahead" "least_ahead" (defArgs s_least_ahead) (defBody s_least_ahead) (defScope s_least_ahead) .none kV11 dc11 pm11 an11 cd11 ct11), sl11⟩) (c11 : PySem.W.codeIn K cd11 "least_ahead" = true) (k11 : PySem.W.keepIn K (.ref f11) = true)
    (a12 : PySem.W.findIn K (.ref A_Flat) "__init__" = some (some (.ref f12))) (i12 : PySem.W.isFn K (.ref f12) = true) (l12 : K.lookup f12 = some ⟨oc12, od12, .func (PySem.W.fnOf "__init__" "Flat.__init__" (defArgs s_Flat___init__) (defBody s_Flat___init__) (defScope s_Flat___init__) .none kV12 dc12 pm12 an12 cd12 ct12), sl12⟩) (c12 : PySem.W.codeIn K cd12 "Flat.__init__" = true) (k12 : PySem.W.keepIn K (.ref f12) = true)
    (a13 : PySem.W.nsIn K mainGlobals "flatten" = some (some (.ref f13))) (l13 : K.lookup f13 = some ⟨oc13, od13, .func (PySem.W.fnOf "flatten" "flatten" (defArgs s_flatten) (defBody s_flatten) (defScope s_flatten) .none kV13 dc13 pm13 an13 cd13 ct13), sl13⟩) (c13 : PySem.W.codeIn K cd13 "flatten" = true) (k13 : PySem.W.keepIn K (.ref f13) = true)
    (a14 : PySem.W.nsIn K mainGlobals "some_cycle" = some (some (.ref f14))) (l14 : K.lookup f14 = some ⟨oc14, od14, .func (PySem.W.fnOf "some_cycle" "some_cycle" (defArgs s_some_cycle) (defBody s_some_cycle) (defScope s_some_cycle) .none kV14 dc14 pm14 an14 cd14 ct14), sl14⟩) (c14 : PySem.W.codeIn K cd14 "some_cycle" = true) (k14 : PySem.W.keepIn K (.ref f14) = true)
    (a15 : PySem.W.nsIn K mainGlobals "first_ends" = some (some (.ref f15))) (l15 : K.lookup f15 = some ⟨oc15, od15, .func (PySem.W.fnOf "first_ends" "first_ends" (defArgs s_first_ends) (defBody s_first_ends) (defScope s_first_ends) .none kV15 dc15 pm15 an15 cd15 ct15), sl15⟩) (c15 : PySem.W.codeIn K cd15 "first_ends" = true) (k15 : PySem.W.keepIn K (.ref f15) = true)
    (a16 : PySem.W.nsIn K mainGlobals "least_cycle" = some (some (.ref f16))) (l16 : K.lookup f16 = some ⟨oc16, od16, .func (PySem.W.fnOf "least_cycle" "least_cycle" (defArgs s_least_cycle) (defBody s_least_cycle) (defScope s_least_cycle) .none kV16 dc16 pm16 an16 cd16 ct16), sl16⟩) (c16 : PySem.W.codeIn K cd16 "least_cycle" = true) (k16 : PySem.W.keepIn K (.ref f16) = true)
    (a17 : PySem.W.nsIn K mainGlobals "repeats" = some (some (.ref f17))) (l17 : K.lookup f17 = some ⟨oc17, od17, .func (PySem.W.fnOf "repeats" "repeats" (defArgs s_repeats) (defBody s_repeats) (defScope s_repeats) .none kV17 dc17 pm17 an17 cd17 ct17), sl17⟩) (c17 : PySem.W.codeIn K cd17 "repeats" = true) (k17 : PySem.W.keepIn K (.ref f17) = true)
    (a18 : PySem.W.nsIn K mainGlobals "_law_at" = some (some (.ref f18))) (l18 : K.lookup f18 = some ⟨oc18, od18, .func (PySem.W.fnOf "_law_at" "_law_at" (defArgs s_law_at) (defBody s_law_at) (defScope s_law_at) .none kV18 dc18 pm18 an18 cd18 ct18), sl18⟩) (c18 : PySem.W.codeIn K cd18 "_law_at" = true) (k18 : PySem.W.keepIn K (.ref f18) = true)
    (a19 : PySem.W.nsIn K mainGlobals "_law_draw" = some (some (.ref f19))) (l19 : K.lookup f19 = some ⟨oc19, od19, .func (PySem.W.fnOf "_law_draw" "_law_draw" (defArgs s_law_draw) (defBody s_law_draw) (defScope s_law_draw) .none kV19 dc19 pm19 an19 cd19 ct19), sl19⟩) (c19 : PySem.W.codeIn K cd19 "_law_draw" = true) (k19 : PySem.W.keepIn K (.ref f19) = true)
    (a20 : PySem.W.nsIn K mainGlobals "_law_whole" = some (some (.ref f20))) (l20 : K.lookup f20 = some ⟨oc20, od20, .func (PySem.W.fnOf "_law_whole" "_law_whole" (defArgs s_law_whole) (defBody s_law_whole) (defScope s_law_whole) .none kV20 dc20 pm20 an20 cd20 ct20), sl20⟩) (c20 : PySem.W.codeIn K cd20 "_law_whole" = true) (k20 : PySem.W.keepIn K (.ref f20) = true)
    (a21 : PySem.W.nsIn K mainGlobals "_law_gcd" = some (some (.ref f21))) (l21 : K.lookup f21 = some ⟨oc21, od21, .func (PySem.W.fnOf "_law_gcd" "_law_gcd" (defArgs s_law_gcd) (defBody s_law_gcd) (defScope s_law_gcd) .none kV21 dc21 pm21 an21 cd21 ct21), sl21⟩) (c21 : PySem.W.codeIn K cd21 "_law_gcd" = true) (k21 : PySem.W.keepIn K (.ref f21) = true)
    (a22 : PySem.W.nsIn K mainGlobals "_law_step" = some (some (.ref f22))) (l22 : K.lookup f22 = some ⟨oc22, od22, .func (PySem.W.fnOf "_law_step" "_law_step" (defArgs s_law_step) (defBody s_law_step) (defScope s_law_step) .none kV22 dc22 pm22 an22 cd22 ct22), sl22⟩) (c22 : PySem.W.codeIn K cd22 "_law_step" = true) (k22 : PySem.W.keepIn K (.ref f22) = true)
    (a23 : PySem.W.nsIn K mainGlobals "_law_num" = some (some (.ref f23))) (l23 : K.lookup f23 = some ⟨oc23, od23, .func (PySem.W.fnOf "_law_num" "_law_num" (defArgs s_law_num) (defBody s_law_num) (defScope s_law_num) .none kV23 dc23 pm23 an23 cd23 ct23), sl23⟩) (c23 : PySem.W.codeIn K cd23 "_law_num" = true) (k23 : PySem.W.keepIn K (.ref f23) = true)
    (a24 : PySem.W.nsIn K mainGlobals "_law_own" = some (some (.ref f24))) (l24 : K.lookup f24 = some ⟨oc24, od24, .func (PySem.W.fnOf "_law_own" "_law_own" (defArgs s_law_own) (defBody s_law_own) (defScope s_law_own) .none kV24 dc24 pm24 an24 cd24 ct24), sl24⟩) (c24 : PySem.W.codeIn K cd24 "_law_own" = true) (k24 : PySem.W.keepIn K (.ref f24) = true)
    (a25 : PySem.W.nsIn K mainGlobals "_law_product" = some (some (.ref f25))) (l25 : K.lookup f25 = some ⟨oc25, od25, .func (PySem.W.fnOf "_law_product" "_law_product" (defArgs s_law_product) (defBody s_law_product) (defScope s_law_product) .none kV25 dc25 pm25 an25 cd25 ct25), sl25⟩) (c25 : PySem.W.codeIn K cd25 "_law_product" = true) (k25 : PySem.W.keepIn K (.ref f25) = true)
    (a26 : PySem.W.nsIn K mainGlobals "_law_chain" = some (some (.ref f26))) (l26 : K.lookup f26 = some ⟨oc26, od26, .func (PySem.W.fnOf "_law_chain" "_law_chain" (defArgs s_law_chain) (defBody s_law_chain) (defScope s_law_chain) .none kV26 dc26 pm26 an26 cd26 ct26), sl26⟩) (c26 : PySem.W.codeIn K cd26 "_law_chain" = true) (k26 : PySem.W.keepIn K (.ref f26) = true)
    (a27 : PySem.W.nsIn K mainGlobals "_law_after" = some (some (.ref f27))) (l27 : K.lookup f27 = some ⟨oc27, od27, .func (PySem.W.fnOf "_law_after" "_law_after" (defArgs s_law_after) (defBody s_law_after) (defScope s_law_after) .none kV27 dc27 pm27 an27 cd27 ct27), sl27⟩) (c27 : PySem.W.codeIn K cd27 "_law_after" = true) (k27 : PySem.W.keepIn K (.ref f27) = true)
    (a28 : PySem.W.nsIn K mainGlobals "_law_end" = some (some (.ref f28))) (l28 : K.lookup f28 = some ⟨oc28, od28, .func (PySem.W.fnOf "_law_end" "_law_end" (defArgs s_law_end) (defBody s_law_end) (defScope s_law_end) .none kV28 dc28 pm28 an28 cd28 ct28), sl28⟩) (c28 : PySem.W.codeIn K cd28 "_law_end" = true) (k28 : PySem.W.keepIn K (.ref f28) = true)
    (a29 : PySem.W.nsIn K mainGlobals "_law_same_row" = some (some (.ref f29))) (l29 : K.lookup f29 = some ⟨oc29, od29, .func (PySem.W.fnOf "_law_same_row" "_law_same_row" (defArgs s_law_same_row) (defBody s_law_same_row) (defScope s_law_same_row) .none kV29 dc29 pm29 an29 cd29 ct29), sl29⟩) (c29 : PySem.W.codeIn K cd29 "_law_same_row" = true) (k29 : PySem.W.keepIn K (.ref f29) = true)
    (a30 : PySem.W.nsIn K mainGlobals "_law_least" = some (some (.ref f30))) (l30 : K.lookup f30 = some ⟨oc30, od30, .func (PySem.W.fnOf "_law_least" "_law_least" (defArgs s_law_least) (defBody s_law_least) (defScope s_law_least) .none kV30 dc30 pm30 an30 cd30 ct30), sl30⟩) (c30 : PySem.W.codeIn K cd30 "_law_least" = true) (k30 : PySem.W.keepIn K (.ref f30) = true)
    (a31 : PySem.W.nsIn K mainGlobals "_law_origin" = some (some (.ref f31))) (l31 : K.lookup f31 = some ⟨oc31, od31, .func (PySem.W.fnOf "_law_origin" "_law_origin" (defArgs s_law_origin) (defBody s_law_origin) (defScope s_law_origin) .none kV31 dc31 pm31 an31 cd31 ct31), sl31⟩) (c31 : PySem.W.codeIn K cd31 "_law_origin" = true) (k31 : PySem.W.keepIn K (.ref f31) = true)
    (a32 : PySem.W.nsIn K mainGlobals "_law_same_origin" = some (some (.ref f32))) (l32 : K.lookup f32 = some ⟨oc32, od32, .func (PySem.W.fnOf "_law_same_origin" "_law_same_origin" (defArgs s_law_same_origin) (defBody s_law_same_origin) (defScope s_law_same_origin) .none kV32 dc32 pm32 an32 cd32 ct32), sl32⟩) (c32 : PySem.W.codeIn K cd32 "_law_same_origin" = true) (k32 : PySem.W.keepIn K (.ref f32) = true)
    (a33 : PySem.W.nsIn K mainGlobals "_law_next" = some (some (.ref f33))) (l33 : K.lookup f33 = some ⟨oc33, od33, .func (PySem.W.fnOf "_law_next" "_law_next" (defArgs s_law_next) (defBody s_law_next) (defScope s_law_next) .none kV33 dc33 pm33 an33 cd33 ct33), sl33⟩) (c33 : PySem.W.codeIn K cd33 "_law_next" = true) (k33 : PySem.W.keepIn K (.ref f33) = true)
    (a34 : PySem.W.nsIn K mainGlobals "_law_last" = some (some (.ref f34))) (l34 : K.lookup f34 = some ⟨oc34, od34, .func (PySem.W.fnOf "_law_last" "_law_last" (defArgs s_law_last) (defBody s_law_last) (defScope s_law_last) .none kV34 dc34 pm34 an34 cd34 ct34), sl34⟩) (c34 : PySem.W.codeIn K cd34 "_law_last" = true) (k34 : PySem.W.keepIn K (.ref f34) = true)
    (a35 : PySem.W.nsIn K mainGlobals "_law_long" = some (some (.ref f35))) (l35 : K.lookup f35 = some ⟨oc35, od35, .func (PySem.W.fnOf "_law_long" "_law_long" (defArgs s_law_long) (defBody s_law_long) (defScope s_law_long) .none kV35 dc35 pm35 an35 cd35 ct35), sl35⟩) (c35 : PySem.W.codeIn K cd35 "_law_long" = true) (k35 : PySem.W.keepIn K (.ref f35) = true)
    (a36 : PySem.W.nsIn K mainGlobals "_law_gone" = some (some (.ref f36))) (l36 : K.lookup f36 = some ⟨oc36, od36, .func (PySem.W.fnOf "_law_gone" "_law_gone" (defArgs s_law_gone) (defBody s_law_gone) (defScope s_law_gone) .none kV36 dc36 pm36 an36 cd36 ct36), sl36⟩) (c36 : PySem.W.codeIn K cd36 "_law_gone" = true) (k36 : PySem.W.keepIn K (.ref f36) = true)
    (a37 : PySem.W.nsIn K mainGlobals "_law_moved" = some (some (.ref f37))) (l37 : K.lookup f37 = some ⟨oc37, od37, .func (PySem.W.fnOf "_law_moved" "_law_moved" (defArgs s_law_moved) (defBody s_law_moved) (defScope s_law_moved) .none kV37 dc37 pm37 an37 cd37 ct37), sl37⟩) (c37 : PySem.W.codeIn K cd37 "_law_moved" = true) (k37 : PySem.W.keepIn K (.ref f37) = true)
    (a38 : PySem.W.nsIn K mainGlobals "law" = some (some (.ref f38))) (l38 : K.lookup f38 = some ⟨oc38, od38, .func (PySem.W.fnOf "law" "law" (defArgs s_law) (defBody s_law) (defScope s_law) .none kV38 dc38 pm38 an38 cd38 ct38), sl38⟩) (c38 : PySem.W.codeIn K cd38 "law" = true) (k38 : PySem.W.keepIn K (.ref f38) = true)
    (z0 : PySem.W.nsIn K mainGlobals "list" = some none)
    (z1 : PySem.W.nsIn K mainGlobals "range" = some none)
    (z2 : PySem.W.nsIn K mainGlobals "min" = some none)
    (z3 : PySem.W.nsIn K mainGlobals "max" = some none)
    (z4 : PySem.W.nsIn K mainGlobals "reversed" = some none)
    (z5 : PySem.W.nsIn K mainGlobals "tuple" = some none)
    (z6 : PySem.W.nsIn K mainGlobals "len" = some none)
    (z7 : PySem.W.nsIn K mainGlobals "isinstance" = some none)
    (z8 : PySem.W.nsIn K mainGlobals "int" = some none)
    (z9 : PySem.W.nsIn K mainGlobals "bool" = some none)
    (z10 : PySem.W.nsIn K mainGlobals "str" = some none) :
    ∃ fd : FuncData, (∀ (s : Shared) (v : Value), BindsTo s fd ⟨[v], []⟩ [("_law_script", v)]) ∧ ∀ base : Heap, K.In base → base.Ns mainGlobals mg → FnOk l.prog w K mg base CX0 7 fa fd ["_law_script"] (sp_law K) := by
  have e := hfa.symm.trans (PySem.W.mg_of X G a38)
  cases e
  have eC_Flat : clsAt K "Flat" = A_Flat := clsAt_eq aC_Flat
  have T_Flat : Txt_Flat K mg := by
    refine ⟨?_, ?_, ?_, hn_Flat, htk_Flat, ?_, ?_, ?_, ?_⟩
    · rw [eC_Flat]; exact ⟨pg_Flat, hd_Flat, po_Flat, sa_Flat⟩
    · rw [eC_Flat]; exact PySem.W.mg_of X G aC_Flat
    · rw [eC_Flat]; exact ha_Flat
    · rw [eC_Flat]; exact hm_Flat
    · rw [eC_Flat]; exact nf_Flat_cycle
    · rw [eC_Flat]; exact nf_Flat_rise
    · rw [eC_Flat]; exact nf_Flat_ends
  have F0 := fun_mk (st := s_common_divisor) l0 c0 k0
  have b0 := F0.binds (ps := ["one", "other"]) fun _ _ _ _ _ _ us hl => match us, hl with | [_, _], _ => rfl
  have F1 := fun_mk (st := s_lowest) l1 c1 k1
  have b1 := F1.binds (ps := ["num", "den"]) fun _ _ _ _ _ _ us hl => match us, hl with | [_, _], _ => rfl
  have F2 := fun_mk (st := s_prime_factors) l2 c2 k2
  have b2 := F2.binds (ps := ["number"]) fun _ _ _ _ _ _ us hl => match us, hl with | [_], _ => rfl
  have F3 := fun_mk (st := s_share) l3 c3 k3
  have b3 := F3.binds (ps := ["step"]) fun _ _ _ _ _ _ us hl => match us, hl with | [_], _ => rfl
  have F4 := fun_mk (st := s_rounded) l4 c4 k4
  have b4 := F4.binds (ps := ["num", "den", "unit", "way"]) fun _ _ _ _ _ _ us hl => match us, hl with | [_, _, _, _], _ => rfl
  have F5 := fun_mk (st := s_after) l5 c5 k5
  have b5 := F5.binds (ps := ["step", "amount"]) fun _ _ _ _ _ _ us hl => match us, hl with | [_, _], _ => rfl
  have F6 := fun_mk (st := s_own_cycle) l6 c6 k6
  have b6 := F6.binds (ps := ["step"]) fun _ _ _ _ _ _ us hl => match us, hl with | [_], _ => rfl
  have F7 := fun_mk (st := s_run) l7 c7 k7
  have b7 := F7.binds (ps := ["chain", "amount"]) fun _ _ _ _ _ _ us hl => match us, hl with | [_, _], _ => rfl
  have F8 := fun_mk (st := s_origin) l8 c8 k8
  have b8 := F8.binds (ps := ["chain", "end"]) fun _ _ _ _ _ _ us hl => match us, hl with | [_, _], _ => rfl
  have F9 := fun_mk (st := s_missing) l9 c9 k9
  have b9 := F9.binds (ps := ["chain", "low", "high"]) fun _ _ _ _ _ _ us hl => match us, hl with | [_, _, _], _ => rfl
  have F10 := fun_mk (st := s_first_reaching) l10 c10 k10
  have b10 := F10.binds (ps := ["chain", "end"]) fun _ _ _ _ _ _ us hl => match us, hl with | [_, _], _ => rfl
  have F11 := fun_mk (st := s_least_ahead) l11 c11 k11
  have b11 := F11.binds (ps := ["step", "amount"]) fun _ _ _ _ _ _ us hl => match us, hl with | [_, _], _ => rfl
  have F12 := fun_mk (st := s_Flat___init__) l12 c12 k12
  have b12 := F12.binds (ps := ["self", "cycle", "rise", "ends"]) fun _ _ _ _ _ _ us hl => match us, hl with | [_, _, _, _], _ => rfl
  have F13 := fun_mk (st := s_flatten) l13 c13 k13
  have b13 := F13.binds (ps := ["chain"]) fun _ _ _ _ _ _ us hl => match us, hl with | [_], _ => rfl
  have F14 := fun_mk (st := s_some_cycle) l14 c14 k14
  have b14 := F14.binds (ps := ["chain"]) fun _ _ _ _ _ _ us hl => match us, hl with | [_], _ => rfl
  have F15 := fun_mk (st := s_first_ends) l15 c15 k15
  have b15 := F15.binds (ps := ["chain", "many"]) fun _ _ _ _ _ _ us hl => match us, hl with | [_, _], _ => rfl
  have F16 := fun_mk (st := s_least_cycle) l16 c16 k16
  have b16 := F16.binds (ps := ["ends", "rise"]) fun _ _ _ _ _ _ us hl => match us, hl with | [_, _], _ => rfl
  have F17 := fun_mk (st := s_repeats) l17 c17 k17
  have b17 := F17.binds (ps := ["ends", "part", "rise"]) fun _ _ _ _ _ _ us hl => match us, hl with | [_, _, _], _ => rfl
  have F18 := fun_mk (st := s_law_at) l18 c18 k18
  have b18 := F18.binds (ps := ["_law_script", "_law_k"]) fun _ _ _ _ _ _ us hl => match us, hl with | [_, _], _ => rfl
  have F19 := fun_mk (st := s_law_draw) l19 c19 k19
  have b19 := F19.binds (ps := ["_law_script", "_law_k"]) fun _ _ _ _ _ _ us hl => match us, hl with | [_, _], _ => rfl
  have F20 := fun_mk (st := s_law_whole) l20 c20 k20
  have b20 := F20.binds (ps := ["_law_found"]) fun _ _ _ _ _ _ us hl => match us, hl with | [_], _ => rfl
  have F21 := fun_mk (st := s_law_gcd) l21 c21 k21
  have b21 := F21.binds (ps := ["_law_one", "_law_other"]) fun _ _ _ _ _ _ us hl => match us, hl with | [_, _], _ => rfl
  have F22 := fun_mk (st := s_law_step) l22 c22 k22
  have b22 := F22.binds (ps := ["_law_cell", "_law_size"]) fun _ _ _ _ _ _ us hl => match us, hl with | [_, _], _ => rfl
  have F23 := fun_mk (st := s_law_num) l23 c23 k23
  have b23 := F23.binds (ps := ["_law_step_here"]) fun _ _ _ _ _ _ us hl => match us, hl with | [_], _ => rfl
  have F24 := fun_mk (st := s_law_own) l24 c24 k24
  have b24 := F24.binds (ps := ["_law_step_here"]) fun _ _ _ _ _ _ us hl => match us, hl with | [_], _ => rfl
  have F25 := fun_mk (st := s_law_product) l25 c25 k25
  have b25 := F25.binds (ps := ["_law_steps"]) fun _ _ _ _ _ _ us hl => match us, hl with | [_], _ => rfl
  have F26 := fun_mk (st := s_law_chain) l26 c26 k26
  have b26 := F26.binds (ps := ["_law_script", "_law_base", "_law_many", "_law_limit"]) fun _ _ _ _ _ _ us hl => match us, hl with | [_, _, _, _], _ => rfl
  have F27 := fun_mk (st := s_law_after) l27 c27 k27
  have b27 := F27.binds (ps := ["_law_step_here", "_law_amount"]) fun _ _ _ _ _ _ us hl => match us, hl with | [_, _], _ => rfl
  have F28 := fun_mk (st := s_law_end) l28 c28 k28
  have b28 := F28.binds (ps := ["_law_steps", "_law_amount"]) fun _ _ _ _ _ _ us hl => match us, hl with | [_, _], _ => rfl
  have F29 := fun_mk (st := s_law_same_row) l29 c29 k29
  have b29 := F29.binds (ps := ["_law_found", "_law_due"]) fun _ _ _ _ _ _ us hl => match us, hl with | [_, _], _ => rfl
  have F30 := fun_mk (st := s_law_least) l30 c30 k30
  have b30 := F30.binds (ps := ["_law_steps", "_law_end_here"]) fun _ _ _ _ _ _ us hl => match us, hl with | [_, _], _ => rfl
  have F31 := fun_mk (st := s_law_origin) l31 c31 k31
  have b31 := F31.binds (ps := ["_law_steps", "_law_end_here"]) fun _ _ _ _ _ _ us hl => match us, hl with | [_, _], _ => rfl
  have F32 := fun_mk (st := s_law_same_origin) l32 c32 k32
  have b32 := F32.binds (ps := ["_law_found", "_law_due"]) fun _ _ _ _ _ _ us hl => match us, hl with | [_, _], _ => rfl
  have F33 := fun_mk (st := s_law_next) l33 c33 k33
  have b33 := F33.binds (ps := ["_law_steps", "_law_price"]) fun _ _ _ _ _ _ us hl => match us, hl with | [_, _], _ => rfl
  have F34 := fun_mk (st := s_law_last) l34 c34 k34
  have b34 := F34.binds (ps := ["_law_cell"]) fun _ _ _ _ _ _ us hl => match us, hl with | [_], _ => rfl
  have F35 := fun_mk (st := s_law_long) l35 c35 k35
  have b35 := F35.binds (ps := ["_law_cell"]) fun _ _ _ _ _ _ us hl => match us, hl with | [_], _ => rfl
  have F36 := fun_mk (st := s_law_gone) l36 c36 k36
  have b36 := F36.binds (ps := ["_law_steps", "_law_low", "_law_high"]) fun _ _ _ _ _ _ us hl => match us, hl with | [_, _, _], _ => rfl
  have F37 := fun_mk (st := s_law_moved) l37 c37 k37
  have b37 := F37.binds (ps := ["_law_due", "_law_many", "_law_made"]) fun _ _ _ _ _ _ us hl => match us, hl with | [_, _, _], _ => rfl
  have F38 := fun_mk (st := s_law) l38 c38 k38
  have b38 := F38.binds (ps := ["_law_script"]) fun _ _ _ _ _ _ us hl => match us, hl with | [_], _ => rfl
  have z_list := PySem.W.mg_none_of X G z0
  have z_range := PySem.W.mg_none_of X G z1
  have z_min := PySem.W.mg_none_of X G z2
  have z_max := PySem.W.mg_none_of X G z3
  have z_reversed := PySem.W.mg_none_of X G z4
  have z_tuple := PySem.W.mg_none_of X G z5
  have z_len := PySem.W.mg_none_of X G z6
  have z_isinstance := PySem.W.mg_none_of X G z7
  have z_int := PySem.W.mg_none_of X G z8
  have z_bool := PySem.W.mg_none_of X G z9
  have z_str := PySem.W.mg_none_of X G z10
  refine ⟨PySem.W.fnOf "law" "law" (defArgs s_law) (defBody s_law) (defScope s_law) .none kV38 dc38 pm38 an38 cd38 ct38, fun s v => .of_eq rfl, fun base _ _ => ?_⟩
  have C_common_divisor := cal_common_divisor (P := l.prog) (w := w) (base := base) F0 b0 (PySem.W.mg_of X G a0)
  have C_prime_factors := cal_prime_factors (P := l.prog) (w := w) (base := base) F2 b2 (PySem.W.mg_of X G a2)
  have C_rounded := cal_rounded (P := l.prog) (w := w) (base := base) F4 b4 (PySem.W.mg_of X G a4)
  have C_Flat___init__ := cal_Flat___init__ (P := l.prog) (w := w) (base := base) F12 b12 (by rw [eC_Flat]; exact ⟨mk_Flat, a12, i12, kc_Flat⟩) T_Flat
  have C_repeats := cal_repeats (P := l.prog) (w := w) (base := base) F17 b17 (PySem.W.mg_of X G a17) z_range z_len
  have C_law_at := cal_law_at (P := l.prog) (w := w) (base := base) F18 b18 (PySem.W.mg_of X G a18) z_len
  have C_law_whole := cal_law_whole (P := l.prog) (w := w) (base := base) F20 b20 (PySem.W.mg_of X G a20) z_isinstance z_int z_bool
  have C_law_gcd := cal_law_gcd (P := l.prog) (w := w) (base := base) F21 b21 (PySem.W.mg_of X G a21)
  have C_law_step := cal_law_step (P := l.prog) (w := w) (base := base) F22 b22 (PySem.W.mg_of X G a22)
  have C_law_num := cal_law_num (P := l.prog) (w := w) (base := base) F23 b23 (PySem.W.mg_of X G a23)
  have C_law_last := cal_law_last (P := l.prog) (w := w) (base := base) F34 b34 (PySem.W.mg_of X G a34)
  have C_law_moved := cal_law_moved (P := l.prog) (w := w) (base := base) F37 b37 (PySem.W.mg_of X G a37) T_Flat
  have C_lowest := cal_lowest (P := l.prog) (w := w) (base := base) F1 b1 (PySem.W.mg_of X G a1) C_common_divisor
  have C_least_cycle := cal_least_cycle (P := l.prog) (w := w) (base := base) F16 b16 (PySem.W.mg_of X G a16) z_len C_prime_factors C_repeats
  have C_law_draw := cal_law_draw (P := l.prog) (w := w) (base := base) F19 b19 (PySem.W.mg_of X G a19) C_law_at
  have C_law_own := cal_law_own (P := l.prog) (w := w) (base := base) F24 b24 (PySem.W.mg_of X G a24) C_law_gcd C_law_num
  have C_law_after := cal_law_after (P := l.prog) (w := w) (base := base) F27 b27 (PySem.W.mg_of X G a27) C_law_num
  have C_law_same_row := cal_law_same_row (P := l.prog) (w := w) (base := base) F29 b29 (PySem.W.mg_of X G a29) z_range z_len z_isinstance z_list C_law_whole
  have C_law_same_origin := cal_law_same_origin (P := l.prog) (w := w) (base := base) F32 b32 (PySem.W.mg_of X G a32) z_isinstance z_tuple z_len z_str C_law_whole
  have C_share := cal_share (P := l.prog) (w := w) (base := base) F3 b3 (PySem.W.mg_of X G a3) C_lowest
  have C_law_product := cal_law_product (P := l.prog) (w := w) (base := base) F25 b25 (PySem.W.mg_of X G a25) C_law_own
  have C_law_end := cal_law_end (P := l.prog) (w := w) (base := base) F28 b28 (PySem.W.mg_of X G a28) C_law_after
  have C_after := cal_after (P := l.prog) (w := w) (base := base) F5 b5 (PySem.W.mg_of X G a5) C_share C_rounded
  have C_own_cycle := cal_own_cycle (P := l.prog) (w := w) (base := base) F6 b6 (PySem.W.mg_of X G a6) C_share C_common_divisor
  have C_least_ahead := cal_least_ahead (P := l.prog) (w := w) (base := base) F11 b11 (PySem.W.mg_of X G a11) z_max C_share C_rounded
  have C_law_chain := cal_law_chain (P := l.prog) (w := w) (base := base) F26 b26 (PySem.W.mg_of X G a26) z_range z_min C_law_draw C_law_step C_law_at C_law_product
  have C_law_least := cal_law_least (P := l.prog) (w := w) (base := base) F30 b30 (PySem.W.mg_of X G a30) C_law_end
  have C_law_next := cal_law_next (P := l.prog) (w := w) (base := base) F33 b33 (PySem.W.mg_of X G a33) C_law_end
  have C_law_long := cal_law_long (P := l.prog) (w := w) (base := base) F35 b35 (PySem.W.mg_of X G a35) C_law_product
  have C_run := cal_run (P := l.prog) (w := w) (base := base) F7 b7 (PySem.W.mg_of X G a7) C_after
  have C_first_reaching := cal_first_reaching (P := l.prog) (w := w) (base := base) F10 b10 (PySem.W.mg_of X G a10) z_max z_reversed C_least_ahead
  have C_some_cycle := cal_some_cycle (P := l.prog) (w := w) (base := base) F14 b14 (PySem.W.mg_of X G a14) C_own_cycle C_common_divisor
  have C_first_ends := cal_first_ends (P := l.prog) (w := w) (base := base) F15 b15 (PySem.W.mg_of X G a15) z_list z_range C_after
  have C_law_origin := cal_law_origin (P := l.prog) (w := w) (base := base) F31 b31 (PySem.W.mg_of X G a31) C_law_least C_law_end
  have C_law_gone := cal_law_gone (P := l.prog) (w := w) (base := base) F36 b36 (PySem.W.mg_of X G a36) z_list z_range z_min C_law_least C_law_end C_law_next
  have C_origin := cal_origin (P := l.prog) (w := w) (base := base) F8 b8 (PySem.W.mg_of X G a8) C_first_reaching C_run
  have C_missing := cal_missing (P := l.prog) (w := w) (base := base) F9 b9 (PySem.W.mg_of X G a9) z_list z_range z_min C_run C_first_reaching
  have C_flatten := cal_flatten (P := l.prog) (w := w) (base := base) F13 b13 (PySem.W.mg_of X G a13) T_Flat z_tuple C_some_cycle C_first_ends C_least_cycle C_Flat___init__
  exact ok_law F38 T_Flat z_list C_law_chain C_law_last C_flatten C_law_draw C_law_origin C_missing C_law_same_row C_law_long C_law_same_origin C_law_product C_law_whole C_law_end C_origin C_law_moved C_law_gone
theorem walk {l : PySem.W.OpenLaw} {q : Program} {loose : List Str} {XP : (Str → Option Value) → Heap → Prop} {YP : World → Heap → Prop} {d : DefRec} {K : Params → PySem.W.Frag} (hn : l.most = some 63) (hdf : d.params.defaults = [])
    (hY : ∀ (w : World) (h : Heap), YP w h → (K w.params).In h)
    (F : ∀ (w : World) (mg : Str → Option Value) (fa : Addr) (h : Heap), (K w.params).In h → h.Ns mainGlobals mg → mg d.name = some (.ref fa) →
      ∃ fd : FuncData, (∀ (s : Shared) (u : Value), BindsTo s fd ⟨[u], []⟩ [("_law_script", u)]) ∧ ∀ base : Heap, (K w.params).In base → base.Ns mainGlobals mg → FnOk l.prog w (K w.params) mg base CX0 7 fa fd ["_law_script"] (sp_law (K w.params))) :
    PySem.W.WalkO q loose XP YP l.row.toRowW d [] (fun f vs => PySem.call f vs) :=
  L2.walk_ofB (n := 63) (k := 7) (x := "_law_script") (CX := fun _ => CX0) (sp := fun w => sp_law (K w.params)) hn (by decide) hdf ⟨rfl, by decide, by decide⟩ hY F (fun _ _ a ns hl hb _ hS => ⟨a, ns, rfl, hS, hl, hb, fun _ => rfl⟩) fun _ _ _ _ _ z => z
end My
open PySem PySem.W PyProof.Rows
set_option maxRecDepth 100000 in
set_option maxHeartbeats 0 in
theorem PySem.Challenge.cw_roundprice_k43_whole_backwards_goes_roun_holds : PySem.Challenge.rw_roundprice_k43_whole_backwards_goes_roun.Holds := by
  w_on; o_law; k_head; (case hw => w_witness2)
  k_fill
  refine My.walk (l := PySem.Challenge.rw_roundprice_k43_whole_backwards_goes_roun) rfl rfl (fun w h Y => PySem.W.kIn_of Y) ?F
  case F =>
    intro w mg fa h KX G hmg
    refine' My.all_mk KX G hmg ?aC_Flat ?pg_Flat ?hd_Flat ?po_Flat ?sa_Flat ?mk_Flat ?kc_Flat ?ha_Flat ?hn_Flat ?htk_Flat ?hm_Flat ?nf_Flat_cycle ?nf_Flat_rise ?nf_Flat_ends ?a0 ?l0 ?c0 ?k0 ?a1 ?l1 ?c1 ?k1 ?a2 ?l2 ?c2 ?k2 ?a3 ?l3 ?c3 ?k3 ?a4 ?l4 ?c4 ?k4 ?a5 ?l5 ?c5 ?k5 ?a6 ?l6 ?c6 ?k6 ?a7 ?l7 ?c7 ?k7 ?a8 ?l8 ?c8 ?k8 ?a9 ?l9 ?c9 ?k9 ?a10 ?l10 ?c10 ?k10 ?a11 ?l11 ?c11 ?k11 ?a12 ?i12 ?l12 ?c12 ?k12 ?a13 ?l13 ?c13 ?k13 ?a14 ?l14 ?c14 ?k14 ?a15 ?l15 ?c15 ?k15 ?a16 ?l16 ?c16 ?k16 ?a17 ?l17 ?c17 ?k17 ?a18 ?l18 ?c18 ?k18 ?a19 ?l19 ?c19 ?k19 ?a20 ?l20 ?c20 ?k20 ?a21 ?l21 ?c21 ?k21 ?a22 ?l22 ?c22 ?k22 ?a23 ?l23 ?c23 ?k23 ?a24 ?l24 ?c24 ?k24 ?a25 ?l25 ?c25 ?k25 ?a26 ?l26 ?c26 ?k26 ?a27 ?l27 ?c27 ?k27 ?a28 ?l28 ?c28 ?k28 ?a29 ?l29 ?c29 ?k29 ?a30 ?l30 ?c30 ?k30 ?a31 ?l31 ?c31 ?k31 ?a32 ?l32 ?c32 ?k32 ?a33 ?l33 ?c33 ?k33 ?a34 ?l34 ?c34 ?k34 ?a35 ?l35 ?c35 ?k35 ?a36 ?l36 ?c36 ?k36 ?a37 ?l37 ?c37 ?k37 ?a38 ?l38 ?c38 ?k38 ?z0 ?z1 ?z2 ?z3 ?z4 ?z5 ?z6 ?z7 ?z8 ?z9 ?z10
    (case aC_Flat => k_is)
    (case pg_Flat => k_is)
    (case hd_Flat => k_is)
    (case po_Flat => k_is)
    (case sa_Flat => k_is)
    (case mk_Flat => k_is)
    (case kc_Flat => k_is)
    (case ha_Flat => k_is)
    (case hn_Flat => k_is)
    (case htk_Flat => k_is)
    (case hm_Flat => k_is)
    (case nf_Flat_cycle => k_is)
    (case nf_Flat_rise => k_is)
    (case nf_Flat_ends => k_is)
    (case a0 => k_is)
    (case l0 => k_is)
    (case c0 => k_is)
    (case k0 => k_is)
    (case a1 => k_is)
    (case l1 => k_is)
    (case c1 => k_is)
    (case k1 => k_is)
    (case a2 => k_is)
    (case l2 => k_is)
    (case c2 => k_is)
    (case k2 => k_is)
    (case a3 => k_is)
    (case l3 => k_is)
    (case c3 => k_is)
    (case k3 => k_is)
    (case a4 => k_is)
    (case l4 => k_is)
    (case c4 => k_is)
    (case k4 => k_is)
    (case a5 => k_is)
    (case l5 => k_is)
    (case c5 => k_is)
    (case k5 => k_is)
    (case a6 => k_is)
    (case l6 => k_is)
    (case c6 => k_is)
    (case k6 => k_is)
    (case a7 => k_is)
    (case l7 => k_is)
    (case c7 => k_is)
    (case k7 => k_is)
    (case a8 => k_is)
    (case l8 => k_is)
    (case c8 => k_is)
    (case k8 => k_is)
    (case a9 => k_is)
    (case l9 => k_is)
    (case c9 => k_is)
    (case k9 => k_is)
    (case a10 => k_is)
    (case l10 => k_is)
    (case c10 => k_is)
    (case k10 => k_is)
    (case a11 => k_is)
    (case l11 => k_is)
    (case c11 => k_is)
    (case k11 => k_is)
    (case a12 => k_is)
    (case i12 => k_is)
    (case l12 => k_is)
    (case c12 => k_is)
    (case k12 => k_is)
    (case a13 => k_is)
    (case l13 => k_is)
    (case c13 => k_is)
    (case k13 => k_is)
    (case a14 => k_is)
    (case l14 => k_is)
    (case c14 => k_is)
    (case k14 => k_is)
    (case a15 => k_is)
    (case l15 => k_is)
    (case c15 => k_is)
    (case k15 => k_is)
    (case a16 => k_is)
    (case l16 => k_is)
    (case c16 => k_is)
    (case k16 => k_is)
    (case a17 => k_is)
    (case l17 => k_is)
    (case c17 => k_is)
    (case k17 => k_is)
    (case a18 => k_is)
    (case l18 => k_is)
    (case c18 => k_is)
    (case k18 => k_is)
    (case a19 => k_is)
    (case l19 => k_is)
    (case c19 => k_is)
    (case k19 => k_is)
    (case a20 => k_is)
    (case l20 => k_is)
    (case c20 => k_is)
    (case k20 => k_is)
    (case a21 => k_is)
    (case l21 => k_is)
    (case c21 => k_is)
    (case k21 => k_is)
    (case a22 => k_is)
    (case l22 => k_is)
    (case c22 => k_is)
    (case k22 => k_is)
    (case a23 => k_is)
    (case l23 => k_is)
    (case c23 => k_is)
    (case k23 => k_is)
    (case a24 => k_is)
    (case l24 => k_is)
    (case c24 => k_is)
    (case k24 => k_is)
    (case a25 => k_is)
    (case l25 => k_is)
    (case c25 => k_is)
    (case k25 => k_is)
    (case a26 => k_is)
    (case l26 => k_is)
    (case c26 => k_is)
    (case k26 => k_is)
    (case a27 => k_is)
    (case l27 => k_is)
    (case c27 => k_is)
    (case k27 => k_is)
    (case a28 => k_is)
    (case l28 => k_is)
    (case c28 => k_is)
    (case k28 => k_is)
    (case a29 => k_is)
    (case l29 => k_is)
    (case c29 => k_is)
    (case k29 => k_is)
    (case a30 => k_is)
    (case l30 => k_is)
    (case c30 => k_is)
    (case k30 => k_is)
    (case a31 => k_is)
    (case l31 => k_is)
    (case c31 => k_is)
    (case k31 => k_is)
    (case a32 => k_is)
    (case l32 => k_is)
    (case c32 => k_is)
    (case k32 => k_is)
    (case a33 => k_is)
    (case l33 => k_is)
    (case c33 => k_is)
    (case k33 => k_is)
    (case a34 => k_is)
    (case l34 => k_is)
    (case c34 => k_is)
    (case k34 => k_is)
    (case a35 => k_is)
    (case l35 => k_is)
    (case c35 => k_is)
    (case k35 => k_is)
    (case a36 => k_is)
    (case l36 => k_is)
    (case c36 => k_is)
    (case k36 => k_is)
    (case a37 => k_is)
    (case l37 => k_is)
    (case c37 => k_is)
    (case k37 => k_is)
    (case a38 => k_is)
    (case l38 => k_is)
    (case c38 => k_is)
    (case k38 => k_is)
    (case z0 => k_is)
    (case z1 => k_is)
    (case z2 => k_is)
    (case z3 => k_is)
    (case z4 => k_is)
    (case z5 => k_is)
    (case z6 => k_is)
    (case z7 => k_is)
    (case z8 => k_is)
    (case z9 => k_is)
    (case z10 => k_is)
#print axioms PySem.Challenge.cw_roundprice_k43_whole_backwards_goes_roun_holds
