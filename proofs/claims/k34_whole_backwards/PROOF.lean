import PyProof.Rows.All
import Wide.All
import OpenK.AllK
import Wide.FinOn
import Lean
import PyProof.EqAt
import PyProof.EqKinds
import PyProof.TupleCall
import PySem.Challenge.RW_roundprice_k34_whole_backwards
set_option Elab.async false
set_option linter.all false
set_option maxRecDepth 100000
set_option genSizeOf false
set_option genSizeOfSpec false
set_option bootstrap.genMatcherCode false
namespace L2
open PySem PySem.Spec PyProof.Rows
noncomputable abbrev Key := Sum Int Str
noncomputable def keyIs : Key → Value → Bool
  | .inl k, v => Value.isInt k v
  | .inr x, v => Value.isStrOf x v
noncomputable def keyH (w : World) : Key → Int
  | .inl k => hashInt k
  | .inr x => hashStr w x
theorem keyIs_shape : ∀ {k : Key} {v : Value}, keyIs k v = true → (∃ i t, k = Sum.inl i ∧ v = Value.int i t) ∨ (∃ x t, k = Sum.inr x ∧ v = Value.str x t)
  | .inl i, v, h => by
    obtain ⟨t, e⟩ := Value.isInt_shape (k := i) (v := v) h
    exact .inl ⟨i, t, rfl, e⟩
  | .inr x, v, h => by
    obtain ⟨t, e⟩ := Value.isStrOf_shape (x := x) (v := v) h
    exact .inr ⟨x, t, rfl, e⟩
theorem keyIs_int (i : Int) (t : Tok) : keyIs (.inl i) (.int i t) = true := by simp [keyIs, Value.isInt]
theorem keyIs_str (x : Str) (t : Tok) : keyIs (.inr x) (.str x t) = true := by simp [keyIs, Value.isStrOf]
theorem key_ll (a b : Int) : decide ((Sum.inl a : Key) = Sum.inl b) = (a == b) := by
  by_cases e : a = b
  · subst e; simp
  · have h : ¬ (Sum.inl a : Key) = Sum.inl b := fun q => e (Sum.inl.inj q)
    rw [decide_eq_false h]
    exact (beq_eq_false_iff_ne.mpr e).symm
theorem key_rr (a b : Str) : decide ((Sum.inr a : Key) = Sum.inr b) = decide (a = b) := by
  by_cases e : a = b
  · subst e; simp
  · have h : ¬ (Sum.inr a : Key) = Sum.inr b := fun q => e (Sum.inr.inj q)
    rw [decide_eq_false h, decide_eq_false e]
theorem key_lr (a : Int) (b : Str) : decide ((Sum.inl a : Key) = Sum.inr b) = false := decide_eq_false (fun q => nomatch q)
theorem key_rl (a : Str) (b : Int) : decide ((Sum.inr a : Key) = Sum.inl b) = false := decide_eq_false (fun q => nomatch q)
noncomputable def mixKind (prog : Program) (w : World) : PySem.KeyKind prog w Key where
  is := keyIs
  hash := keyH w
  inj := fun v a b ha hb => by
    rcases keyIs_shape ha with ⟨i, t, rfl, rfl⟩ | ⟨x, t, rfl, rfl⟩
    · rcases keyIs_shape hb with ⟨j, u, rfl, e⟩ | ⟨y, u, rfl, e⟩
      · injection e with e1 _; rw [e1]
      · exact nomatch e
    · rcases keyIs_shape hb with ⟨j, u, rfl, e⟩ | ⟨y, u, rfl, e⟩
      · exact nomatch e
      · injection e with e1 _; rw [e1]
  byValue := fun k v h => by
    rcases keyIs_shape h with ⟨i, t, rfl, rfl⟩ | ⟨x, t, rfl, rfl⟩ <;> rfl
  pyHash := fun hv h => by
    rcases keyIs_shape hv with ⟨i, t, rfl, rfl⟩ | ⟨x, t, rfl, rfl⟩
    · exact wpAny_pyHash_int h
    · exact wpAny_pyHash_str h
  eqBool := fun hu hv h => by
    rcases keyIs_shape hu with ⟨i, t, rfl, rfl⟩ | ⟨x, t, rfl, rfl⟩
    · rcases keyIs_shape hv with ⟨j, u, rfl, rfl⟩ | ⟨y, u, rfl, rfl⟩
      · rw [key_ll] at h; exact wpAny_eqBool_int h
      · rw [key_lr] at h; exact SeqAt.EqAt.int_str i t y u _ _ _ _ h
    · rcases keyIs_shape hv with ⟨j, u, rfl, rfl⟩ | ⟨y, u, rfl, rfl⟩
      · rw [key_rl] at h; exact SeqAt.EqAt.str_int x t j u _ _ _ _ h
      · rw [key_rr] at h; exact wpAny_eqBool_str h
  «strs» := fun k x t v h => by
    rcases keyIs_shape h with ⟨i, u, rfl, e⟩ | ⟨y, u, rfl, e⟩
    · exact nomatch e
    · injection e with e1 _
      subst e1
      cases v <;> rfl
theorem mixKind_int (prog : Program) (w : World) (i : Int) (t : Tok) : (mixKind prog w).is (.inl i) (.int i t) = true := keyIs_int i t
theorem mixKind_str (prog : Program) (w : World) (x : Str) (t : Tok) : (mixKind prog w).is (.inr x) (.str x t) = true := keyIs_str x t
end L2
namespace L2
open PySem PySem.Spec PyProof.Rows
inductive V where
  | non | bl (b : Bool) | int (i : Int) | str (x : Str) | byt (b : Array UInt8) | flt (b : UInt64) | ref (a : Addr) | ty (n : String)
  deriving DecidableEq
noncomputable def RelV : V → Value → Prop
  | .non, u => u = Value.none
  | .bl b, u => u = Value.bool b
  | .int i, u => ∃ t, u = Value.int i t
  | .str x, u => ∃ t, u = Value.str x t
  | .byt b, u => ∃ t, u = Value.bytes b t
  | .flt b, u => ∃ t, u = Value.float b t
  | .ref a, u => u = Value.ref a
  | .ty n, u => u = Value.type n
noncomputable abbrev Vals : List V → List Value → Prop := Paired RelV
theorem Vals.length {xs : List V} {us : List Value} (r : Vals xs us) : xs.length = us.length := Paired.length r
theorem Vals.get : ∀ {xs : List V} {us : List Value} {i : Nat} {x : V}, Vals xs us → xs[i]? = some x → ∃ u, us[i]? = some u ∧ RelV x u
  | _, _, _, _, .nil, e => by simp at e
  | _, _, 0, _, .cons r _, e => by simp at e; subst e; exact ⟨_, rfl, r⟩
  | _, _, i + 1, x, .cons _ t, e => by
    obtain ⟨u, h1, h2⟩ := Vals.get (i := i) (x := x) t (by simpa using e)
    exact ⟨u, by simpa using h1, h2⟩
theorem Vals.set {x : V} {u : Value} (r : RelV x u) : ∀ {xs : List V} {us : List Value} (i : Nat), Vals xs us → Vals (xs.set i x) (us.set i u)
  | _, _, _, .nil => .nil
  | _, _, 0, .cons _ t => .cons r t
  | _, _, i + 1, .cons q t => .cons q (Vals.set r i t)
theorem Vals.append : ∀ {xs ys : List V} {us ws : List Value}, Vals xs us → Vals ys ws → Vals (xs ++ ys) (us ++ ws)
  | _, _, _, _, .nil, s => s
  | _, _, _, _, .cons r t, s => .cons r (Vals.append t s)
theorem Vals.take : ∀ {xs : List V} {us : List Value} (n : Nat), Vals xs us → Vals (xs.take n) (us.take n)
  | _, _, 0, _ => .nil
  | _, _, _ + 1, .nil => .nil
  | _, _, n + 1, .cons r t => .cons r (Vals.take n t)
theorem Vals.drop : ∀ {xs : List V} {us : List Value} (n : Nat), Vals xs us → Vals (xs.drop n) (us.drop n)
  | _, _, 0, r => r
  | _, _, _ + 1, .nil => .nil
  | _, _, n + 1, .cons _ t => Vals.drop n t
theorem Vals.none_of : ∀ {xs : List V} {us : List Value} {i : Nat}, Vals xs us → xs[i]? = none → us[i]? = none := fun {xs us i} r e => by
  have h1 := r.length
  have h2 : xs.length ≤ i := List.getElem?_eq_none_iff.mp e
  exact List.getElem?_eq_none_iff.mpr (by omega)
noncomputable def RelO : Option V → Option Value → Prop
  | some v, some u => RelV v u
  | none, none => True
  | _, _ => False
noncomputable def KV {κ : Type} : List (κ × V) → List (κ × Value) → Prop := Paired fun (p : κ × V) (q : κ × Value) => p.1 = q.1 ∧ RelV p.2 q.2
noncomputable def kV : Key → V
  | .inl i => .int i
  | .inr x => .str x
inductive HO where
  /-- a list -/
  | lst (xs : List V)
  /-- a tuple (never changes) -/
  | tup (xs : List V)
  /-- a dict whose keys are ints and texts; one whose keys are tuples of ints and texts (the empty one is both) -/
  | dK (kvs : List (Key × V)) | dT (kvs : List (List Key × V))
  /-- a set of ints: its members, its size -/
  | set (S : Int → Bool) (n : Nat)
  /-- an instance of the class at C, its dict at dx, its attributes -/
  | ins (C dx : Addr) (fs : List (Str × V))
  /-- the dict of the instance at x -/
  | own (x : Addr)
  /-- the dict of an exception -/
  | xd (fs : List (Str × V))
  /-- a bound method, f of x -/
  | met (f x : Addr)
  /-- a range object lo, lo + 1, .. below hi -/
  | rng (lo hi : Int)
  /-- a thing that is known to the object (the script; a dict while a loop walks it): read, never written while it is so -/
  | frz (o : Obj) (u : HO)
  /-- a code object's table -/
  | tbl (ps : Array Value)
  /-- any other thing, by what is true of its one object (a def of one's own: SetO a S n := HO.ext fun h => ..) -/
  | ext (φ : Heap → Prop)
noncomputable abbrev Hp := Addr → Option HO
noncomputable def upd (H : Hp) (a : Addr) (o : HO) : Hp := fun b => if b = a then some o else H b
theorem upd_same {H : Hp} {a : Addr} {o : HO} : upd H a o a = some o := by unfold upd; rw [if_pos rfl]
theorem upd_ne {H : Hp} {a b : Addr} {o : HO} (h : b ≠ a) : upd H a o b = H b := by unfold upd; rw [if_neg h]
theorem ne_of {H : Hp} {a b : Addr} {o u : HO} (h : H a = some o) (h' : H b = some u) (d : o ≠ u) : a ≠ b := by
  intro e; subst e; rw [h] at h'; exact d (Option.some.inj h')
theorem ne_of_none {H : Hp} {a b : Addr} {o : HO} (h : H a = some o) (h' : H b = none) : a ≠ b := by
  intro e; subst e; rw [h] at h'; cases h'
section
variable (P : Program) (w : World)
noncomputable def ObjOk (H : Hp) (h : Heap) (a : Addr) : HO → Prop
  | .lst xs => xs.length ≤ sizeLine ∧ ∃ (its : List Value) (n : Nat), Vals xs its ∧ h.get? a = some { cls := .type "list", data := .seq its.toArray n }
  | .tup xs => xs.length ≤ sizeLine ∧ ∃ its : List Value, Vals xs its ∧ IsTup h a its.toArray
  | .dK kvs => kvs.length ≤ sizeLine ∧ (a == sysModules) = false ∧ ∃ vs, KV kvs vs ∧ h.DictOf (mixKind P w) a vs
  | .dT kvs => kvs.length ≤ sizeLine ∧ (a == sysModules) = false ∧ ∃ xs : List (List Key × Addr × Value),
      Paired (fun (p : List Key × V) (q : List Key × Addr × Value) => p.1 = q.1 ∧ H q.2.1 = some (.tup (p.1.map kV)) ∧ RelV p.2 q.2.2) kvs xs ∧
      ∃ o es ep, h.get? a = some o ∧ o.ExactDict ∧ o.data = .dict es ep ∧ es.toList = xs.map (entryOfKey (tupleKind (mixKind P w))) ∧ (xs.map (·.1)).Nodup
  | .set S n => h.SetOf (intKind P w) a S n
  | .ins C dx fs => H dx = some (.own a) ∧ fs.length ≤ 1000 ∧ dx ≠ a ∧ h.get? a = some (PySem.W.instObj C dx) ∧
      ∃ mA, h.Ns1 dx mA ∧ (∀ f, RelO (fs.lookup f) (mA f)) ∧ PySem.Within mA (fs.map (·.1))
  | .own _ => ∃ o, h.get? a = some o
  | .xd fs => ∃ mA, h.Ns1 a mA ∧ ∀ f, RelO (fs.lookup f) (mA f)
  | .rng lo hi => ∃ t u v, h.get? a = some { cls := .type "range", data := .fields #[.int lo t, .int hi u, .int 1 v] }
  | .frz o u => h.get? a = some o ∧ ObjOk H h a u
  | .tbl ps => h.get? a = some { cls := .none, data := .fields ps }
  | .met f x => h.get? a = some (PySem.W.methodObj (.ref f) (.ref x))
  | .ext φ => φ h ∧ (∃ o, h.get? a = some o) ∧ ∀ h1 h2 : Heap, φ h1 → (∀ o, h1.get? a = some o → h2.get? a = some o) → φ h2
noncomputable def HOk (H : Hp) (h : Heap) : Prop := ∀ a o, H a = some o → ObjOk P w H h a o
end
section
variable {P : Program} {w : World} {H H' : Hp} {h h' : Heap} {a : Addr} {o : HO}
theorem ObjOk.lt (x : ObjOk P w H h a o) : a < h.objs.size := by
  cases o with
  | lst xs => obtain ⟨_, _, _, _, e⟩ := x; exact Heap.lt_size e
  | tup xs => obtain ⟨_, _, _, p⟩ := x; exact p.lt
  | dK kvs => obtain ⟨_, _, _, _, o, _, _, e, _⟩ := x; exact Heap.lt_size e
  | dT kvs => obtain ⟨_, _, _, _, o, _, _, e, _⟩ := x; exact Heap.lt_size e
  | set S n => obtain ⟨o, _, _, _, e, _⟩ := x; exact Heap.lt_size e
  | ins C dx fs => obtain ⟨_, _, _, e, _⟩ := x; exact Heap.lt_size e
  | own y => obtain ⟨_, e⟩ := x; exact Heap.lt_size e
  | xd fs => obtain ⟨_, ⟨_, _, _, e, _⟩, _⟩ := x; exact Heap.lt_size e
  | rng lo hi => obtain ⟨_, _, _, e⟩ := x; exact Heap.lt_size e
  | frz ob u => obtain ⟨e, _⟩ := x; exact Heap.lt_size e
  | tbl ps => exact Heap.lt_size (show h.get? a = some _ from x)
  | met f y => exact Heap.lt_size (show h.get? a = some _ from x)
  | ext φ => obtain ⟨_, ⟨_, e⟩, _⟩ := x; exact Heap.lt_size e
theorem Paired.mapP {α β : Type} {F G : α → β → Prop} : ∀ {l₁ : List α} {l₂ : List β}, Paired F l₁ l₂ → (∀ a b, F a b → G a b) → Paired G l₁ l₂
  | _, _, .nil, _ => .nil
  | _, _, .cons r t, f => .cons (f _ _ r) (Paired.mapP t f)
theorem ObjOk.stay (x : ObjOk P w H h a o) (k : ∀ b u, (b = a ∨ H b = some (.own a)) → h.get? b = some u → h'.get? b = some u)
    (ho : ∀ b, H b = some (.own a) → H' b = some (.own a)) (ht : ∀ b xs, H b = some (.tup xs) → H' b = some (.tup xs)) : ObjOk P w H' h' a o := by
  induction o with
  | lst xs => obtain ⟨z, its, n, r, e⟩ := x; exact ⟨z, its, n, r, k _ _ (.inl rfl) e⟩
  | tup xs => obtain ⟨z, its, r, ob, e, c⟩ := x; exact ⟨z, its, r, ob, k _ _ (.inl rfl) e, c⟩
  | dK kvs => obtain ⟨z, y, vs, r, ob, es, ep, e, c⟩ := x; exact ⟨z, y, vs, r, ob, es, ep, k _ _ (.inl rfl) e, c⟩
  | dT kvs =>
    obtain ⟨z, y, xs, r, ob, es, ep, e, c⟩ := x
    exact ⟨z, y, xs, Paired.mapP r fun p q z => ⟨z.1, ht _ _ z.2.1, z.2.2⟩, ob, es, ep, k _ _ (.inl rfl) e, c⟩
  | set S n => obtain ⟨ob, es, ep, t, e, c⟩ := x; exact ⟨ob, es, ep, t, k _ _ (.inl rfl) e, c⟩
  | ins C dx fs =>
    obtain ⟨d, z, ne, e, mA, ⟨od, es, ep, e2, c⟩, r⟩ := x
    exact ⟨ho _ d, z, ne, k _ _ (.inl rfl) e, mA, ⟨od, es, ep, k _ _ (.inr d) e2, c⟩, r⟩
  | own y => obtain ⟨ob, e⟩ := x; exact ⟨ob, k _ _ (.inl rfl) e⟩
  | xd fs => obtain ⟨mA, ⟨od, es, ep, e, c⟩, r⟩ := x; exact ⟨mA, ⟨od, es, ep, k _ _ (.inl rfl) e, c⟩, r⟩
  | rng lo hi => obtain ⟨t, u, v, e⟩ := x; exact ⟨t, u, v, k _ _ (.inl rfl) e⟩
  | frz ob u ih => obtain ⟨e, q⟩ := x; exact ⟨k _ _ (.inl rfl) e, ih q⟩
  | tbl ps =>
    have e : h.get? a = some { cls := .none, data := .fields ps } := x
    show h'.get? a = some { cls := .none, data := .fields ps }
    exact k a _ (.inl rfl) e
  | met f y =>
    have e : h.get? a = some (PySem.W.methodObj (.ref f) (.ref y)) := x
    show h'.get? a = some (PySem.W.methodObj (.ref f) (.ref y))
    exact k a _ (.inl rfl) e
  | ext φ => obtain ⟨p, ⟨o, e⟩, st⟩ := x; exact ⟨st _ _ p fun o q => k _ _ (.inl rfl) q, ⟨o, k _ _ (.inl rfl) e⟩, st⟩
theorem HOk.lt (x : HOk P w H h) (e : H a = some o) : a < h.objs.size := (x a o e).lt
theorem HOk.fresh (x : HOk P w H h) (e : h.objs.size ≤ a) : H a = none := by
  cases q : H a with
  | none => rfl
  | some u => exact absurd (Nat.lt_of_lt_of_le (x.lt q) e) (Nat.lt_irrefl _)
theorem HOk.kept (x : HOk P w H h) (k : ∀ b u, h.get? b = some u → h'.get? b = some u) : HOk P w H h' := fun a o e =>
  (x a o e).stay (fun b u _ q => k b u q) (fun _ q => q) fun _ _ q => q
theorem HOk.laid (x : HOk P w H h) (k : ∀ b u, h.get? b = some u → h'.get? b = some u) (hp : h.objs.size ≤ a) (new : ObjOk P w (upd H a o) h' a o) : HOk P w (upd H a o) h' := fun b u e => by
  have hn := x.fresh hp
  by_cases hb : b = a
  · subst hb; rw [upd_same] at e; cases e; exact new
  · rw [upd_ne hb] at e
    exact (x b u e).stay (fun c v _ q => k c v q) (fun c q => by rw [upd_ne (ne_of_none q hn)]; exact q) fun c xs q => by rw [upd_ne (ne_of_none q hn)]; exact q
end
noncomputable def Rd (H : Hp) (a : Addr) (u : HO) : Prop := H a = some u ∨ ∃ o, H a = some (.frz o u)
theorem Rd.of {H : Hp} {a : Addr} {u : HO} (h : H a = some u) : Rd H a u := .inl h
theorem Rd.ok {P : Program} {w : World} {H : Hp} {h : Heap} {a : Addr} {u : HO} (r : Rd H a u) (x : HOk P w H h) : ObjOk P w H h a u := by
  rcases r with r | ⟨o, r⟩
  · exact x a u r
  · obtain ⟨_, q⟩ := x a _ r
    exact q
noncomputable def Mut : Option HO → Prop
  | some (.lst _) => True
  | some (.dK _) => True
  | some (.dT _) => True
  | some (.set _ _) => True
  | some (.ins _ _ _) => True
  | some (.ext _) => True
  | _ => False
section
variable {P : Program} {w : World} {H : Hp} {h h' : Heap} {x e : Addr} {o' : HO}
theorem HOk.write (ok : HOk P w H h) (mu : Mut (H x)) (he : e = x ∨ H e = some (.own x)) (k : ∀ b u, b ≠ e → h.get? b = some u → h'.get? b = some u) (heo : ∃ u, h'.get? e = some u)
    (new : ObjOk P w (upd H x o') h' x o') : HOk P w (upd H x o') h' := fun b u q => by
  have nown : ∀ c y, H c = some (.own y) → c ≠ x := fun c y r z => by subst z; rw [r] at mu; exact mu
  have ntup : ∀ c xs, H c = some (.tup xs) → c ≠ x := fun c xs r z => by subst z; rw [r] at mu; exact mu
  by_cases hb : b = x
  · subst hb; rw [upd_same] at q; cases q; exact new
  · rw [upd_ne hb] at q
    by_cases hbe : b = e
    · have q' : H b = some (.own x) := by
        rcases he with z | z
        · exact absurd (hbe.trans z) hb
        · rw [hbe]; exact z
      rw [q] at q'; cases q'
      obtain ⟨v, hv⟩ := heo
      exact ⟨v, by rw [hbe]; exact hv⟩
    · refine (ok b u q).stay (fun c v hc r => k c v ?_ r) (fun c r => by rw [upd_ne (nown c b r)]; exact r) fun c xs r => by rw [upd_ne (ntup c xs r)]; exact r
      rcases hc with rfl | hc
      · exact hbe
      · rintro rfl
        rcases he with z | z
        · exact nown c b hc z
        · rw [hc] at z; cases z; exact hb rfl
end
structure Un (fs ex : List Addr) (H H' : Hp) (h h' : Heap) : Prop where
  keep : ∀ b o, h.get? b = some o → H b = none → b ∉ fs → b ∉ ex → h'.get? b = some o
  slot : ∀ b o, h.get? b = some o → H b = none → b ∈ fs → b ∉ ex → ∃ sl, h'.get? b = some { o with slots := sl }
  free : ∀ b o, h.get? b = some o → H b = none → b ∉ ex → H' b = none
  there : ∀ b o, h.get? b = some o → b ∉ ex → ∃ o', h'.get? b = some o'
  tups : ∀ b xs, H b = some (.tup xs) → H' b = some (.tup xs)
  frzs : ∀ b o u, H b = some (.frz o u) → H' b = some (.frz o u)
  tbls : ∀ b ps, H b = some (.tbl ps) → ∃ more, H' b = some (.tbl (ps ++ more))
section
variable {fs fs' ex ex' : List Addr} {H H1 H2 : Hp} {h h1 h2 h' : Heap} {a x e : Addr} {o : HO}
theorem Un.any (u : Un fs ex H H1 h h1) {b : Addr} {ob : Obj} (q : h.get? b = some ob) (n : H b = none) (hx : b ∉ ex) : ∃ sl, h1.get? b = some { ob with slots := sl } := by
  by_cases hb : b ∈ fs
  · exact u.slot b ob q n hb hx
  · exact ⟨ob.slots, u.keep b ob q n hb hx⟩
theorem Un.trans (a : Un fs ex H H1 h h1) (b : Un fs ex H1 H2 h1 h2) : Un fs ex H H2 h h2 where
  keep := fun c ob q n hc hx => b.keep c ob (a.keep c ob q n hc hx) (a.free c ob q n hx) hc hx
  slot := fun c ob q n hc hx => by
    obtain ⟨sl, e1⟩ := a.slot c ob q n hc hx
    obtain ⟨sl', e2⟩ := b.slot c _ e1 (a.free c ob q n hx) hc hx
    exact ⟨sl', e2⟩
  free := fun c ob q n hx => by
    obtain ⟨o', e1⟩ := a.there c ob q hx
    exact b.free c o' e1 (a.free c ob q n hx) hx
  there := fun c ob q hx => by
    obtain ⟨o', e1⟩ := a.there c ob q hx
    exact b.there c o' e1 hx
  tups := fun c xs q => b.tups c xs (a.tups c xs q)
  frzs := fun c ob xs q => b.frzs c ob xs (a.frzs c ob xs q)
  tbls := fun c ps q => by
    obtain ⟨m1, e1⟩ := a.tbls c ps q
    obtain ⟨m2, e2⟩ := b.tbls c _ e1
    exact ⟨m1 ++ m2, by rw [e2, Array.append_assoc]⟩
theorem Un.kept (k : ∀ b u, h.get? b = some u → h'.get? b = some u) : Un fs ex H H h h' :=
  ⟨fun b ob q _ _ _ => k b ob q, fun b ob q _ _ _ => ⟨ob.slots, k b ob q⟩, fun _ _ _ n _ => n, fun b ob q _ => ⟨ob, k b ob q⟩, fun _ _ q => q, fun _ _ _ q => q, fun _ ps q => ⟨#[], by rw [q]; simp⟩⟩
theorem Un.refl : Un fs ex H H h h := Un.kept fun _ _ q => q
theorem Un.laid (k : ∀ b u, h.get? b = some u → h'.get? b = some u) (hp : h.objs.size ≤ a) (hn : H a = none) : Un fs ex H (upd H a o) h h' where
  keep := fun b u q _ _ _ => k b u q
  slot := fun b u q _ _ _ => ⟨u.slots, k b u q⟩
  free := fun b u q n _ => by rw [upd_ne (Nat.ne_of_lt (Nat.lt_of_lt_of_le (Heap.lt_size q) hp))]; exact n
  there := fun b u q _ => ⟨u, k b u q⟩
  tups := fun b xs q => by rw [upd_ne (ne_of_none q hn)]; exact q
  frzs := fun b u xs q => by rw [upd_ne (ne_of_none q hn)]; exact q
  tbls := fun b ps q => ⟨#[], by rw [upd_ne (ne_of_none q hn), q]; simp⟩
theorem Un.write (mu : Mut (H x)) (he : e = x ∨ H e = some (.own x)) (k : ∀ b u, b ≠ e → h.get? b = some u → h'.get? b = some u) (heo : ∃ u, h'.get? e = some u) : Un fs ex H (upd H x o) h h' := by
  have hx : ∀ b, H b = none → b ≠ x := fun b n z => by subst z; rw [n] at mu; exact mu
  have hb : ∀ b, H b = none → b ≠ e := fun b n z => by
    subst z
    rcases he with r | r
    · exact hx b n r
    · rw [n] at r; cases r
  have hm : ∀ b u, H b = some u → ¬ Mut (some u) → b ≠ x := fun b u q nm z => by subst z; rw [q] at mu; exact nm mu
  refine ⟨fun b u q n _ _ => k b u (hb b n) q, fun b u q n _ _ => ⟨u.slots, k b u (hb b n) q⟩, fun b u q n _ => by rw [upd_ne (hx b n)]; exact n, fun b u q _ => ?_,
    fun b xs q => by rw [upd_ne (hm b _ q fun z => z)]; exact q, fun b u xs q => by rw [upd_ne (hm b _ q fun z => z)]; exact q, fun b ps q => ⟨#[], by rw [upd_ne (hm b _ q fun z => z), q]; simp⟩⟩
  by_cases hbe : b = e
  · subst hbe; exact heo
  · exact ⟨u, k b u hbe q⟩
theorem Un.mono (u : Un fs ex H H1 h h1) (hs : ∀ b ∈ fs, b ∈ fs') (hx : ∀ b ∈ ex, b ∈ ex') : Un fs' ex' H H1 h h1 :=
  ⟨fun b ob q n hb he => u.keep b ob q n (fun z => hb (hs b z)) fun z => he (hx b z), fun _ _ q n _ he => u.any q n fun z => he (hx _ z), fun b ob q n he => u.free b ob q n fun z => he (hx b z), fun b ob q he => u.there b ob q fun z => he (hx b z), u.tups, u.frzs, u.tbls⟩
end
noncomputable def trk (h : Heap) (H : Hp) : List Addr := (List.range h.objs.size).filter fun a => (H a).isSome
noncomputable def hidT (h : Heap) (H : Hp) : Heap := PySem.W.hideAll h (trk h H)
theorem hidT_size (h : Heap) (H : Hp) : (hidT h H).objs.size = h.objs.size := PySem.W.hideAll_size _ _
theorem hidT_get {h : Heap} {H : Hp} {b : Addr} {o : Obj} (e : h.get? b = some o) (n : H b = none) : (hidT h H).get? b = some o :=
  PySem.W.hideAll_get _ e fun hm => by
    have q : (H b).isSome = true := (List.mem_filter.mp hm).2
    rw [n] at q; simp at q
theorem of_hidT {h : Heap} {H : Hp} {b : Addr} {o : Obj} (e : (hidT h H).get? b = some o) : h.get? b = some o ∧ H b = none := by
  have e' : h.get? b = some o := PySem.W.of_hideAll (trk h H) e
  refine ⟨e', ?_⟩
  cases q : H b with
  | none => rfl
  | some x =>
    have hm : b ∈ trk h H := List.mem_filter.mpr ⟨List.mem_range.mpr (Heap.lt_size e'), by simp [q]⟩
    have z : (hidT h H).get? b = none := PySem.W.hideAll_none (trk h H) hm
    rw [z] at e; cases e
noncomputable def allNews (g h : Heap) (L : Addr) : List (Addr × Obj) := (List.range h.objs.size).filterMap fun a => if a = L ∨ (g.get? a).isSome = true then none else (h.get? a).map fun o => (a, o)
noncomputable def rest (g h : Heap) (L d : Addr) : List (Addr × Obj) := (allNews g h L).filter fun p => decide (p.1 ≠ d)
end L2
namespace L2
open PySem PySem.Spec PyProof.Rows
structure Mod (K : PySem.W.Frag) (mg : Str → Option Value) (base : Heap) : Prop where
  kin : K.In base
  glob : base.Ns mainGlobals mg
  blt : ∃ mb, base.Ns builtinsNs mb ∧ ∀ x : Str, x ≠ "__name__" → mb x = bootBuiltins x
  nolimit : base.NoLimit
structure Cx where
  prog : Program
  w : World
  K : PySem.W.Frag
  mg : Str → Option Value
  base : Heap
  A : Around
  N : List Str
  s₀ : Shared
  H₀ : Hp
  env : Env
  outer : List Env
  stack : List Env
  ex : List Addr
  fn : Str → Bool
  calm : Bool
  pn : List (Addr × Obj)
  xe : Value → Shared → Prop
noncomputable def frs (l : List Env) : List Addr := l.filterMap (·.frame)
noncomputable abbrev Cx.fs (X : Cx) : List Addr := frs X.outer
noncomputable def Vis (sc : Scope) (x : Str) : Prop := sc.names.lookup x = some .local ∨ sc.names.lookup x = some .cell ∨ sc.names.lookup x = some .free
noncomputable def Loc (sc : Scope) (x : Str) : Prop := sc.names.lookup x = some .local ∨ sc.names.lookup x = some .cell
noncomputable def Look (env : Env) (h : Heap) (m : Str → Option Value) (x : Str) (u : Value) : Prop :=
  (env.kindOf x = some .local ∧ m x = some u) ∨ ((env.kindOf x = some .cell ∨ env.kindOf x = some .free) ∧ ∃ c, env.cells.lookup x = some c ∧ h.IsCell c (some u))
structure Cx.Ok (X : Cx) : Prop where
  mod : Mod X.K X.mg X.base
  kind : X.env.scope.kind = .function
  glob : X.env.globals = mainGlobals
  blt : X.env.builtins = builtinsNs
  above : X.s₀.heap.objs.size ≤ X.env.locals
  inj : ∀ x y c, X.env.cells.lookup x = some c → X.env.cells.lookup y = some c → x = y
  has : ∀ x, (X.env.kindOf x = some .cell ∨ X.env.kindOf x = some .free) → ∃ c, X.env.cells.lookup x = some c
  cab : ∀ x c, X.fn x = true → X.env.cells.lookup x = some c → X.s₀.heap.objs.size ≤ c
  hd : X.calm = true → X.A.handled = none
  frames : X.A.frames = some X.stack
  stk : X.stack = X.outer ∨ (X.stack = X.env :: X.outer ∧ X.env.frame = some X.env.locals)
  exf : ∀ b ∈ X.ex, b ≠ X.env.locals ∧ ∀ x c, X.env.cells.lookup x = some c → c ≠ b
  bs : ∀ b o, X.base.get? b = some o → X.s₀.heap.get? b = some o ∧ X.H₀ b = none
  bsz : X.base.objs.size ≤ X.s₀.heap.objs.size
  noex : ∀ b o, X.base.get? b = some o → b ∉ X.ex
  exfs : ∀ b ∈ X.ex, b ∉ X.fs
  funs : X.s₀.heap.FunFrames X.base X.outer
  frf : ∀ b ∈ X.fs, X.H₀ b = none
structure Inv (X : Cx) (pins : List (Addr × Obj)) (σ : List (Option V)) (H : Hp) (s : Shared) : Prop where
  ok : X.Ok
  os : s.os = X.s₀.os
  bare : AllBare s.gens
  base : Un X.fs X.ex X.H₀ H X.s₀.heap s.heap
  loc : ∃ m, s.heap.Ns X.env.locals m ∧ ∀ (i : Nat) (x : Str) (v : V), X.N[i]? = some x → σ[i]? = some (some v) → Vis X.env.scope x → ∃ u, RelV v u ∧ Look X.env s.heap m x u
  cell : ∀ x c, X.env.cells.lookup x = some c → ∃ v, s.heap.IsCell c v
  free : H X.env.locals = none
  freeC : ∀ x c, X.env.cells.lookup x = some c → H c = none
  pin : ∀ p ∈ X.pn ++ pins, s.heap.get? p.1 = some p.2 ∧ H p.1 = none ∧ p.1 ≠ X.env.locals ∧ p.1 ∉ X.fs ∧ ∀ v, p.2.data ≠ .cell v
  hok : HOk X.prog X.w H s.heap
  len : σ.length = X.N.length
section
variable {X : Cx} {pins : List (Addr × Obj)} {σ : List (Option V)} {H H' : Hp} {s : Shared} {h' : Heap}
theorem Cx.Ok.nofr (ok : X.Ok) {b : Addr} {o : Obj} (e : X.base.get? b = some o) : b ∉ X.fs := fun hb => by
  have := (ok.funs.mem hb).1
  rw [e] at this; cases this
theorem Inv.bs (I : Inv X pins σ H s) : ∀ b o, X.base.get? b = some o → s.heap.get? b = some o ∧ H b = none := fun b o e =>
  ⟨I.base.keep b o (I.ok.bs b o e).1 (I.ok.bs b o e).2 (I.ok.nofr e) (I.ok.noex b o e), I.base.free b o (I.ok.bs b o e).1 (I.ok.bs b o e).2 (I.ok.noex b o e)⟩
theorem Inv.bk (I : Inv X pins σ H s) : ∀ b o, X.base.get? b = some o → s.heap.get? b = some o := fun b o e => (I.bs b o e).1
theorem Inv.mod (I : Inv X pins σ H s) : Mod X.K X.mg X.base := I.ok.mod
theorem Inv.kIn (I : Inv X pins σ H s) : X.K.In s.heap := I.ok.mod.kin.keeps I.bk
theorem Inv.nolimit (I : Inv X pins σ H s) : s.heap.NoLimit := I.ok.mod.nolimit.keeps I.bk
theorem Inv.fr (I : Inv X pins σ H s) : ∃ m, Fr X.base X.env.locals s.heap m :=
  let ⟨m, hn, _⟩ := I.loc
  ⟨m, hn, I.bk, Nat.le_trans I.ok.bsz I.ok.above⟩
theorem Inv.lt (I : Inv X pins σ H s) : X.env.locals < s.heap.objs.size := let ⟨_, hn, _⟩ := I.loc; hn.lt
theorem Inv.sz (I : Inv X pins σ H s) : X.s₀.heap.objs.size ≤ s.heap.objs.size := Nat.le_trans I.ok.above (Nat.le_of_lt I.lt)
theorem Inv.nofs (I : Inv X pins σ H s) {a : Addr} (h : s.heap.objs.size ≤ a) : a ∉ X.fs := fun hb => by
  obtain ⟨_, o, ho, _⟩ := I.ok.funs.mem hb
  exact absurd (Nat.lt_of_lt_of_le (Heap.lt_size ho) (Nat.le_trans I.sz h)) (Nat.lt_irrefl _)
theorem Inv.cne (I : Inv X pins σ H s) : ∀ x c, X.env.cells.lookup x = some c → c ≠ X.env.locals := fun x c e z => by
  obtain ⟨v, o, ho, hd⟩ := I.cell x c e
  obtain ⟨m, ⟨o', es, ep, ho', hd', _⟩, _⟩ := I.loc
  rw [z, ho'] at ho; cases ho; rw [hd'] at hd; cases hd
theorem Inv.funs (I : Inv X pins σ H s) : s.heap.FunFrames X.base X.outer := by
  have all : ∀ (l : List Env), (∀ b ∈ frs l, b ∈ X.fs) → X.s₀.heap.FunFrames X.base l → s.heap.FunFrames X.base l := by
    intro l
    induction l with
    | nil => intro _ _; trivial
    | cons env r ih =>
      intro hs hl
      obtain ⟨hk, ⟨L, o, hf, hn, ho, hd⟩, hr⟩ := hl
      have hL : L ∈ X.fs := hs L (by unfold frs; rw [List.filterMap_cons, hf]; exact List.mem_cons_self)
      obtain ⟨sl, e⟩ := I.base.slot L o ho (I.ok.frf L hL) hL fun z => I.ok.exfs L z hL
      exact ⟨hk, ⟨L, _, hf, hn, e, hd⟩, ih (fun b hb => hs b (by unfold frs; rw [List.filterMap_cons, hf]; exact List.mem_cons_of_mem _ hb)) hr⟩
  exact all X.outer (fun _ hb => hb) I.ok.funs
theorem Inv.stack (I : Inv X pins σ H s) : s.heap.FunFrames X.base X.stack := by
  rcases I.ok.stk with e | ⟨e, hf⟩
  · rw [e]; exact I.funs
  · rw [e]
    obtain ⟨m, hn, _⟩ := I.loc
    refine .cons (by rw [I.ok.kind]; decide) hf hn ?_ I.funs
    exact Heap.get?_none_of_le (Nat.le_trans I.ok.bsz I.ok.above)
theorem Inv.stkSub (I : Inv X pins σ H s) : ∀ b ∈ frs X.stack, b ∈ X.env.locals :: X.fs := fun b hb => by
  rcases I.ok.stk with e | ⟨e, hf⟩
  · rw [e] at hb; exact List.mem_cons_of_mem _ hb
  · rw [e] at hb
    unfold frs at hb
    rw [List.filterMap_cons, hf] at hb
    exact hb
theorem Inv.stkFree (I : Inv X pins σ H s) : ∀ b ∈ frs X.stack, H b = none := fun b hb => by
  rcases List.mem_cons.mp (I.stkSub b hb) with e | hb
  · rw [e]; exact I.free
  · obtain ⟨_, o, ho, _⟩ := I.ok.funs.mem hb
    exact I.base.free b o ho (I.ok.frf b hb) fun z => I.ok.exfs b z hb
theorem Inv.step {g' : Array GenState} {t' : Nat} {d' : Drawn} {ch : List Addr} (I : Inv X pins σ H s)
    (hch : ∀ b ∈ ch, (b ∈ X.ex ∨ X.s₀.heap.objs.size ≤ b) ∧ b ≠ X.env.locals ∧ (∀ x c, X.env.cells.lookup x = some c → c ≠ b) ∧ ∀ p ∈ X.pn ++ pins, p.1 ≠ b)
    (keep : ∀ b o, b ≠ X.env.locals → b ∉ X.fs → b ∉ ch → s.heap.get? b = some o → H b = none → h'.get? b = some o)
    (slot : ∀ b o, b ≠ X.env.locals → b ∈ X.fs → b ∉ ch → s.heap.get? b = some o → H b = none → ∃ sl, h'.get? b = some { o with slots := sl }) (free : ∀ b o, b ∉ ch → s.heap.get? b = some o → H b = none → H' b = none)
    (there : ∀ b o, b ∉ ch → s.heap.get? b = some o → ∃ o', h'.get? b = some o')
    (tups : ∀ b xs, H b = some (.tup xs) → H' b = some (.tup xs)) (frzs : ∀ b o u, H b = some (.frz o u) → H' b = some (.frz o u)) (tbls : ∀ b ps, H b = some (.tbl ps) → ∃ more, H' b = some (.tbl (ps ++ more)))
    (ns : ∀ m, s.heap.Ns X.env.locals m → h'.Ns X.env.locals m) (hok : HOk X.prog X.w H' h') (hg : AllBare g') :
    Inv X pins σ H' { s with heap := h', gens := g', drawn := d', toks := t' } := by
  have neL : ∀ b o, X.s₀.heap.get? b = some o → b ≠ X.env.locals := fun b o e => Nat.ne_of_lt (Nat.lt_of_lt_of_le (Heap.lt_size e) I.ok.above)
  have neC : ∀ b o, X.s₀.heap.get? b = some o → b ∉ X.ex → b ∉ ch := fun b o e hx hb => by
    rcases (hch b hb).1 with z | z
    · exact hx z
    · exact absurd (Nat.lt_of_lt_of_le (Heap.lt_size e) z) (Nat.lt_irrefl _)
  have cellK : ∀ x c, X.env.cells.lookup x = some c → ∀ v, s.heap.IsCell c v → h'.IsCell c v := fun x c e v ⟨o, ho, hd⟩ => by
    have nch : c ∉ ch := fun z => (hch c z).2.2.1 x c e rfl
    by_cases hc : c ∈ X.fs
    · obtain ⟨sl, q⟩ := slot c o (I.cne x c e) hc nch ho (I.freeC x c e)
      exact ⟨_, q, hd⟩
    · exact ⟨o, keep c o (I.cne x c e) hc nch ho (I.freeC x c e), hd⟩
  refine ⟨I.ok, I.os, hg, ⟨fun b o e n hb hx => ?_, fun b o e n hb hx => ?_, fun b o e n hx => ?_, fun b o e hx => ?_, fun b xs e => tups b xs (I.base.tups b xs e), fun b o xs e => frzs b o xs (I.base.frzs b o xs e), fun b ps e => ?_⟩, ?_, fun x c e => ?_, ?_, fun x c e => ?_, fun p hp => ?_, hok, I.len⟩
  · exact keep b o (neL b o e) hb (neC b o e hx) (I.base.keep b o e n hb hx) (I.base.free b o e n hx)
  · obtain ⟨sl, e1⟩ := I.base.slot b o e n hb hx
    obtain ⟨sl', e2⟩ := slot b _ (neL b o e) hb (neC b o e hx) e1 (I.base.free b o e n hx)
    exact ⟨sl', e2⟩
  · obtain ⟨o', e1⟩ := I.base.there b o e hx
    exact free b o' (neC b o e hx) e1 (I.base.free b o e n hx)
  · obtain ⟨o', e1⟩ := I.base.there b o e hx
    exact there b o' (neC b o e hx) e1
  · obtain ⟨m1, e1⟩ := I.base.tbls b ps e
    obtain ⟨m2, e2⟩ := tbls b _ e1
    exact ⟨m1 ++ m2, by rw [e2, Array.append_assoc]⟩
  · obtain ⟨m, hn, hl⟩ := I.loc
    refine ⟨m, ns m hn, fun i x v e1 e2 e3 => ?_⟩
    obtain ⟨u, r, l⟩ := hl i x v e1 e2 e3
    refine ⟨u, r, ?_⟩
    rcases l with l | ⟨k, c, e, z⟩
    · exact .inl l
    · exact .inr ⟨k, c, e, cellK x c e _ z⟩
  · obtain ⟨v, z⟩ := I.cell x c e
    exact ⟨v, cellK x c e v z⟩
  · obtain ⟨m, ⟨o, _, _, ho, _⟩, _⟩ := I.loc
    exact free _ o (fun z => (hch _ z).2.1 rfl) ho I.free
  · obtain ⟨v, o, ho, hd⟩ := I.cell x c e
    exact free c o (fun z => (hch c z).2.2.1 x c e rfl) ho (I.freeC x c e)
  · obtain ⟨e, n, ne, nf, d⟩ := I.pin p hp
    have nch : p.1 ∉ ch := fun z => (hch p.1 z).2.2.2 p hp rfl
    exact ⟨keep p.1 p.2 ne nf nch e n, free p.1 p.2 nch e n, ne, nf, d⟩
theorem Inv.un {t' : Nat} (I : Inv X pins σ H s) (u : Un X.fs [] H H' s.heap h') (hok : HOk X.prog X.w H' h') : Inv X pins σ H' { s with heap := h', toks := t' } := by
  obtain ⟨m, ⟨o, es, ep, ho, r⟩, _⟩ := id I.loc
  obtain ⟨sl, hL⟩ := u.any ho I.free (by simp)
  exact I.step (g' := s.gens) (d' := s.drawn) (ch := []) (fun _ z => nomatch z) (fun b o _ hb _ e n => u.keep b o e n hb (by simp)) (fun b o _ hb _ e n => u.slot b o e n hb (by simp)) (fun b o _ e n => u.free b o e n (by simp)) (fun b o _ e => u.there b o e (by simp)) u.tups u.frzs u.tbls (fun m' hm => by
    obtain ⟨o', es', ep', ho', r'⟩ := hm
    rw [ho] at ho'; cases ho'
    exact ⟨_, es', ep', hL, r'⟩) hok I.bare
theorem Inv.call {g' : Array GenState} {t' : Nat} {d' : Drawn} {ch : List Addr} (I : Inv X pins σ H s) (u : Un (frs X.stack) ch H H' s.heap h') (hok : HOk X.prog X.w H' h') (hg : AllBare g')
    (hch : ∀ b ∈ ch, (b ∈ X.ex ∨ X.s₀.heap.objs.size ≤ b) ∧ b ≠ X.env.locals ∧ (∀ x c, X.env.cells.lookup x = some c → c ≠ b) ∧ ∀ p ∈ X.pn ++ pins, p.1 ≠ b) :
    Inv X pins σ H' { s with heap := h', gens := g', drawn := d', toks := t' } := by
  obtain ⟨m, ⟨o, es, ep, ho, r⟩, _⟩ := id I.loc
  obtain ⟨sl, hL⟩ := u.any ho I.free fun z => (hch _ z).2.1 rfl
  exact I.step (ch := ch) hch (fun b o hL hb hc e n => u.keep b o e n (fun z => (List.mem_cons.mp (I.stkSub b z)).elim hL hb) hc) (fun b o _ _ hc e n => u.any e n hc) (fun b o hc e n => u.free b o e n hc) (fun b o hc e => u.there b o e hc) u.tups u.frzs u.tbls (fun m' hm => by
    obtain ⟨o', es', ep', ho', r'⟩ := hm
    rw [ho] at ho'; cases ho'
    exact ⟨_, es', ep', hL, r'⟩) hok hg
theorem Inv.turned {t' : Nat} {it : Addr} (I : Inv X pins σ H s) (k : ∀ b o, b ≠ it → s.heap.get? b = some o → h'.get? b = some o) (hn : H it = none) (hL : it ≠ X.env.locals)
    (h1 : it ∈ X.ex ∨ X.s₀.heap.objs.size ≤ it) (h2 : ∀ x c, X.env.cells.lookup x = some c → c ≠ it) (h3 : ∀ p ∈ X.pn ++ pins, p.1 ≠ it) : Inv X pins σ H { s with heap := h', toks := t' } := by
  have nit : ∀ b u, H b = some u → b ≠ it := fun b u e z => by rw [z, hn] at e; cases e
  refine I.step (g' := s.gens) (d' := s.drawn) (ch := [it]) (fun b hb => ?_) (fun b o _ _ hc e _ => k b o (fun z => hc (by simp [z])) e) (fun b o _ _ hc e _ => ⟨o.slots, k b o (fun z => hc (by simp [z])) e⟩) (fun _ _ _ _ n => n)
    (fun b o hc e => ⟨o, k b o (fun z => hc (by simp [z])) e⟩) (fun _ _ e => e) (fun _ _ _ e => e) (fun b ps e => ⟨#[], by rw [e]; simp⟩) (fun m hm => ?_) (fun b u e => ?_) I.bare
  · have e : b = it := by simpa using hb
    subst e
    exact ⟨h1, hL, h2, h3⟩
  · obtain ⟨o, es, ep, ho, r⟩ := hm
    exact ⟨o, es, ep, k _ o (Ne.symm hL) ho, r⟩
  · refine (I.hok b u e).stay (fun c v hc q => k c v ?_ q) (fun _ q => q) fun _ _ q => q
    rcases hc with z | z
    · rw [z]; exact nit b u e
    · exact nit c _ z
theorem Inv.tok (I : Inv X pins σ H s) (t : Nat) : Inv X pins σ H { s with toks := t } := I.un (h' := s.heap) (t' := t) Un.refl I.hok
theorem Inv.kept {t' : Nat} (I : Inv X pins σ H s) (k : ∀ b u, s.heap.get? b = some u → h'.get? b = some u) : Inv X pins σ H { s with heap := h', toks := t' } := I.un (Un.kept k) (I.hok.kept k)
theorem Inv.laid {a : Addr} {o : HO} {t' : Nat} (I : Inv X pins σ H s) (k : ∀ b u, s.heap.get? b = some u → h'.get? b = some u) (hp : s.heap.objs.size ≤ a) (new : ObjOk X.prog X.w (upd H a o) h' a o) :
    Inv X pins σ (upd H a o) { s with heap := h', toks := t' } := I.un (Un.laid k hp (I.hok.fresh hp)) (I.hok.laid k hp new)
theorem Inv.write {x e : Addr} {o : HO} {t' : Nat} (I : Inv X pins σ H s) (mu : Mut (H x)) (he : e = x ∨ H e = some (.own x)) (k : ∀ b u, b ≠ e → s.heap.get? b = some u → h'.get? b = some u) (heo : ∃ u, h'.get? e = some u)
    (new : ObjOk X.prog X.w (upd H x o) h' x o) : Inv X pins σ (upd H x o) { s with heap := h', toks := t' } := I.un (Un.write mu he k heo) (I.hok.write mu he k heo new)
theorem Inv.pins_of {pins' : List (Addr × Obj)} (I : Inv X pins σ H s) (h : ∀ p ∈ pins', s.heap.get? p.1 = some p.2 ∧ H p.1 = none ∧ p.1 ≠ X.env.locals ∧ p.1 ∉ X.fs ∧ ∀ v, p.2.data ≠ .cell v) : Inv X pins' σ H s :=
  ⟨I.ok, I.os, I.bare, I.base, I.loc, I.cell, I.free, I.freeC, fun p hp => (List.mem_append.mp hp).elim (fun z => I.pin p (List.mem_append_left _ z)) (h p), I.hok, I.len⟩
theorem nodup_ix {N : List Str} (hN : N.Nodup) {i j : Nat} {x : Str} (a : N[i]? = some x) (b : N[j]? = some x) : i = j := by
  obtain ⟨h1, e1⟩ := List.getElem?_eq_some_iff.mp a
  obtain ⟨h2, e2⟩ := List.getElem?_eq_some_iff.mp b
  exact (List.getElem_inj hN).mp (e1.trans e2.symm)
theorem store_ok2 {M : Model} {A : Around} {E : Value → Shared → Prop} {i : Nat} {x : Str} {v : V} {u : Value} {Q : Unit → Shared → Prop} (I : Inv X pins σ H s) (hN : X.N.Nodup) (hi : X.N[i]? = some x) (hx : Loc X.env.scope x) (r : RelV v u)
    (h : ∀ s', Inv X pins (σ.set i (some v)) H s' → (∃ a, Heap.SameBut a s.heap s'.heap ∧ (a = X.env.locals ∨ X.env.cells.lookup x = some a)) → Q () s') (hf : X.fn x = true ∨ X.env.scope.names.lookup x = some .local := by first | exact .inl rfl | exact .inr rfl | assumption) : wpAny M A (storeName X.env x u) Q E s := by
  obtain ⟨m, hn, hl⟩ := id I.loc
  have hcls : (X.env.scope.kind == .class || (X.env.scope.kind == .module && X.env.locals != X.env.globals)) = false := by rw [I.ok.kind]; rfl
  have hiσ : i < σ.length := by rw [I.len]; exact (List.getElem?_eq_some_iff.mp hi).1
  have cne := I.cne
  have tracked : ∀ {a : Addr} {h' : Heap}, (∃ o, s.heap.get? a = some o ∧ H a = none) → Heap.SameBut a s.heap h' → HOk X.prog X.w H h' := fun {a h'} ha hs b ob e => by
    obtain ⟨_, _, hfree⟩ := ha
    refine (I.hok b ob e).stay (fun c w' hc q => (hs.2 c ?_).trans q) (fun _ q => q) fun _ _ q => q
    rintro rfl
    rcases hc with rfl | hc
    · rw [hfree] at e; cases e
    · rw [hfree] at hc; cases hc
  rcases hx with hk | hk
  · refine wpAny_storeName_local hk hn (fun h' hn' hs => ?_) hcls
    obtain ⟨oL, _, _, hoL, _⟩ := id hn
    refine h _ ⟨I.ok, I.os, I.bare, ⟨fun b o e n hb hx => ?_, fun b o e n hb hx => ?_, I.base.free, fun b o e hx => ?_, I.base.tups, I.base.frzs, I.base.tbls⟩, ⟨_, hn', fun j y v' e1 e2 e3 => ?_⟩, fun y c e => ?_, I.free, I.freeC, fun p hp => ?_, tracked ⟨oL, hoL, I.free⟩ hs, by simpa using I.len⟩ ⟨_, hs, .inl rfl⟩
    · exact (hs.2 b (Nat.ne_of_lt (Nat.lt_of_lt_of_le (Heap.lt_size e) I.ok.above))).trans (I.base.keep b o e n hb hx)
    · obtain ⟨sl, e1⟩ := I.base.slot b o e n hb hx
      exact ⟨sl, (hs.2 b (Nat.ne_of_lt (Nat.lt_of_lt_of_le (Heap.lt_size e) I.ok.above))).trans e1⟩
    · obtain ⟨o', e1⟩ := I.base.there b o e hx
      exact ⟨o', (hs.2 b (Nat.ne_of_lt (Nat.lt_of_lt_of_le (Heap.lt_size e) I.ok.above))).trans e1⟩
    · by_cases hj : j = i
      · subst hj
        rw [hi] at e1; cases e1
        rw [List.getElem?_set_self hiσ] at e2
        cases e2
        exact ⟨u, r, .inl ⟨hk, by simp⟩⟩
      · rw [List.getElem?_set_ne (Ne.symm hj)] at e2
        obtain ⟨u', r', q⟩ := hl j y v' e1 e2 e3
        refine ⟨u', r', ?_⟩
        rcases q with ⟨k, e⟩ | ⟨k, c, e, z⟩
        · refine .inl ⟨k, ?_⟩
          have : y ≠ x := fun e => hj (nodup_ix hN e1 (e ▸ hi))
          simp [this, e]
        · exact .inr ⟨k, c, e, z.sameBut hs (cne y c e)⟩
    · obtain ⟨w', z⟩ := I.cell y c e
      exact ⟨w', z.sameBut hs (cne y c e)⟩
    · obtain ⟨e, n, ne, nf, d⟩ := I.pin p hp
      exact ⟨(hs.2 p.1 ne).trans e, n, ne, nf, d⟩
  · have hfn : X.fn x = true := by
      rcases hf with z | z
      · exact z
      · rw [z] at hk; cases hk
    obtain ⟨c, hc⟩ := I.ok.has x (.inl hk)
    obtain ⟨w', z⟩ := I.cell x c hc
    refine wpAny_storeName_cell I.ok.kind hk hc z (fun h' hc' hs => ?_)
    obtain ⟨oc, hoc, hocd⟩ := id z
    refine h { s with heap := h' } ⟨I.ok, I.os, I.bare, ⟨fun b o e n hb hx => ?_, fun b o e n hb hx => ?_, I.base.free, fun b o e hx => ?_, I.base.tups, I.base.frzs, I.base.tbls⟩, ⟨m, hn.sameBut hs (Ne.symm (cne x c hc)), fun j y v' e1 e2 e3 => ?_⟩, fun y c' e => ?_, I.free, I.freeC, fun p hp => ?_, tracked ⟨oc, hoc, I.freeC x c hc⟩ hs, by simpa using I.len⟩ ⟨c, hs, .inr hc⟩
    · exact (hs.2 b (Nat.ne_of_lt (Nat.lt_of_lt_of_le (Heap.lt_size e) (I.ok.cab x c hfn hc)))).trans (I.base.keep b o e n hb hx)
    · obtain ⟨sl, e1⟩ := I.base.slot b o e n hb hx
      exact ⟨sl, (hs.2 b (Nat.ne_of_lt (Nat.lt_of_lt_of_le (Heap.lt_size e) (I.ok.cab x c hfn hc)))).trans e1⟩
    · obtain ⟨o', e1⟩ := I.base.there b o e hx
      exact ⟨o', (hs.2 b (Nat.ne_of_lt (Nat.lt_of_lt_of_le (Heap.lt_size e) (I.ok.cab x c hfn hc)))).trans e1⟩
    · by_cases hj : j = i
      · subst hj
        rw [hi] at e1; cases e1
        rw [List.getElem?_set_self hiσ] at e2
        cases e2
        exact ⟨u, r, .inr ⟨.inl hk, c, hc, hc'⟩⟩
      · rw [List.getElem?_set_ne (Ne.symm hj)] at e2
        obtain ⟨u', r', q⟩ := hl j y v' e1 e2 e3
        refine ⟨u', r', ?_⟩
        rcases q with q | ⟨k, c', e, z'⟩
        · exact .inl q
        · refine .inr ⟨k, c', e, z'.sameBut hs ?_⟩
          rintro rfl
          exact hj (nodup_ix hN e1 (I.ok.inj _ _ _ e hc ▸ hi))
    · by_cases hcc : c' = c
      · subst hcc; exact ⟨_, hc'⟩
      · obtain ⟨w2, z2⟩ := I.cell y c' e
        exact ⟨w2, z2.sameBut hs hcc⟩
    · obtain ⟨e, n, ne, nf, d⟩ := I.pin p hp
      refine ⟨(hs.2 p.1 ?_).trans e, n, ne, nf, d⟩
      intro q
      rw [q, hoc] at e
      have q' : oc = p.2 := Option.some.inj e
      exact d w' (by rw [← q']; exact hocd)
theorem store_ok {M : Model} {A : Around} {E : Value → Shared → Prop} {i : Nat} {x : Str} {v : V} {u : Value} {Q : Unit → Shared → Prop} (I : Inv X pins σ H s) (hN : X.N.Nodup) (hi : X.N[i]? = some x) (hx : Loc X.env.scope x) (r : RelV v u)
    (h : ∀ s', Inv X pins (σ.set i (some v)) H s' → Q () s') (hf : X.fn x = true ∨ X.env.scope.names.lookup x = some .local := by first | exact .inl rfl | exact .inr rfl | assumption) : wpAny M A (storeName X.env x u) Q E s :=
  store_ok2 I hN hi hx r (fun s' I' _ => h s' I') hf
theorem Inv.call' {s' : Shared} {ch : List Addr} (I : Inv X pins σ H s) (ho : s'.os = s.os) (u : Un (frs X.stack) ch H H' s.heap s'.heap) (hok : HOk X.prog X.w H' s'.heap) (hg : AllBare s'.gens)
    (hch : ∀ b ∈ ch, (b ∈ X.ex ∨ X.s₀.heap.objs.size ≤ b) ∧ b ≠ X.env.locals ∧ (∀ x c, X.env.cells.lookup x = some c → c ≠ b) ∧ ∀ p ∈ X.pn ++ pins, p.1 ≠ b) : Inv X pins σ H' s' := by
  obtain ⟨h', g', d', t', o'⟩ := s'
  have e : o' = s.os := ho
  subst e
  exact I.call (g' := g') (t' := t') (d' := d') u hok hg hch
end
noncomputable abbrev XK := Value → Option Addr → Hp → Prop
noncomputable abbrev St := List (Option V)
noncomputable abbrev VK := V → Hp → Prop
noncomputable abbrev TE := St → Hp → VK → Prop
noncomputable abbrev TT := St → Hp → (Bool → Hp → Prop) → Prop
noncomputable abbrev TA := St → Hp → (List V → Hp → Prop) → Prop
structure Ends where
  nx : St → Hp → Prop
  rt : VK
  bk : St → Hp → Prop := fun _ _ => False
  ct : St → Hp → Prop := fun _ _ => False
noncomputable abbrev TS := Ends → St → Hp → Prop
noncomputable def EP (X : Cx) (pins : List (Addr × Obj)) (σ : St) (Q : VK) (u : Value) (s' : Shared) : Prop := ∃ v H', Inv X pins σ H' s' ∧ RelV v u ∧ Q v H'
noncomputable def TP (X : Cx) (pins : List (Addr × Obj)) (σ : St) (Q : Bool → Hp → Prop) (b : Bool) (s' : Shared) : Prop := ∃ H', Inv X pins σ H' s' ∧ Q b H'
noncomputable def AP (X : Cx) (pins : List (Addr × Obj)) (σ : St) (Q : List V → Hp → Prop) (us : List Value) (s' : Shared) : Prop := ∃ vs H', Inv X pins σ H' s' ∧ Vals vs us ∧ Q vs H'
noncomputable def SP (X : Cx) (pins : List (Addr × Obj)) (D : Ends) (f : Flow) (s' : Shared) : Prop :=
  match f with
  | .next => ∃ σ' H', Inv X pins σ' H' s' ∧ D.nx σ' H'
  | .brk => ∃ σ' H', Inv X pins σ' H' s' ∧ D.bk σ' H'
  | .cont => ∃ σ' H', Inv X pins σ' H' s' ∧ D.ct σ' H'
  | .ret u => ∃ v σ' H', Inv X pins σ' H' s' ∧ RelV v u ∧ D.rt v H'
noncomputable def PE (X : Cx) (e : Expr) (t : TE) : Prop :=
  ∀ (pins : List (Addr × Obj)) (s : Shared) (σ : St) (H : Hp) (Q : VK), Inv X pins σ H s → t σ H Q → wpAny (model X.prog X.w) X.A (eval e X.env) (EP X pins σ Q) X.xe s
noncomputable def PT (X : Cx) (e : Expr) (t : TT) : Prop :=
  ∀ (pins : List (Addr × Obj)) (s : Shared) (σ : St) (H : Hp) (Q : Bool → Hp → Prop), Inv X pins σ H s → t σ H Q → wpAny (model X.prog X.w) X.A (isTrue e X.env (eval e X.env)) (TP X pins σ Q) X.xe s
noncomputable def PW (X : Cx) (e : Expr) (t : TT) : Prop :=
  ∀ (whole : Sem Value) (pins : List (Addr × Obj)) (s : Shared) (σ : St) (H : Hp) (Q : Bool → Hp → Prop), Inv X pins σ H s → t σ H Q → wpAny (model X.prog X.w) X.A (isTrue e X.env whole) (TP X pins σ Q) X.xe s
theorem PW.pt {X : Cx} {e : Expr} {t : TT} (h : PW X e t) : PT X e t := h _
noncomputable def PA (X : Cx) (es : List Expr) (t : TA) : Prop :=
  ∀ (pos : Pos) (pins : List (Addr × Obj)) (s : Shared) (σ : St) (H : Hp) (Q : List V → Hp → Prop), Inv X pins σ H s → t σ H Q → wpAny (model X.prog X.w) X.A (spliced (backTo pos (starEach es X.env))) (AP X pins σ Q) X.xe s
noncomputable def PS (X : Cx) (st : Stmt) (t : TS) : Prop :=
  ∀ (pins : List (Addr × Obj)) (s : Shared) (σ : St) (H : Hp) (D : Ends), Inv X pins σ H s → t D σ H → wpAny (model X.prog X.w) X.A (exec st X.env) (SP X pins D) X.xe s
noncomputable def PSs (X : Cx) (st : List Stmt) (t : TS) : Prop :=
  ∀ (pins : List (Addr × Obj)) (s : Shared) (σ : St) (H : Hp) (D : Ends), Inv X pins σ H s → t D σ H → wpAny (model X.prog X.w) X.A (execs st X.env) (SP X pins D) X.xe s
theorem thn {α : Type} {t : Sem α} {Q Q' : α → Shared → Prop} {M : Model} {A : Around} {E : Value → Shared → Prop} {s : Shared} (h : wpAny M A t Q E s) (hQ : ∀ a s, Q a s → Q' a s) : wpAny M A t Q' E s := wpAny_mono h hQ fun _ _ x => x
end L2
namespace L2
open PySem PySem.Spec PyProof.Rows
section
variable {X : Cx}
noncomputable def tVar (i : Nat) : TE := fun σ H Q => ∃ v, σ[i]? = some (some v) ∧ Q v H
noncomputable def tC (v : V) : TE := fun _ H Q => Q v H
theorem pe_var {i : Nat} {x : Str} {pos : Pos} (hN : X.N[i]? = some x) (hv : Vis X.env.scope x) (hd : (x == ("__debug__" : Str)) = false := by decide) (hcd : (x == ("__classdict__" : Str)) = false := by decide) : PE X (.Name x pos) (tVar i) := by
  intro pins s σ H Q I h
  obtain ⟨v, e, h⟩ := h
  obtain ⟨m, hn, hl⟩ := I.loc
  obtain ⟨u, r, l⟩ := hl i x v hN e hv
  have fin : EP X pins σ Q u s := ⟨v, H, I, r, h⟩
  rcases l with ⟨hk, hm⟩ | ⟨hk, c, hc, hcell⟩
  · exact wpAny_Name (wpAny_loadName_local I.ok.kind hk hn hm fin) hd
  · rcases hk with hk | hk
    · exact wpAny_Name (wpAny_loadName_cell I.ok.kind hk hc hcell fin) hd
    · exact wpAny_Name (wpAny_loadName_free I.ok.kind hk hc hcell fin hcd) hd
theorem pe_int {i j pos} : PE X (.Constant (.int i) j pos) (tC (.int i)) := fun _ _ _ H _ I h => wpAny_Constant_int ⟨.int i, H, I.tok _, ⟨_, rfl⟩, h⟩
theorem pe_bl {b j pos} : PE X (.Constant (.bool b) j pos) (tC (.bl b)) := fun _ _ _ H _ I h => Constant_bool ⟨.bl b, H, I, rfl, h⟩
theorem pe_non {j pos} : PE X (.Constant .none j pos) (tC .non) := fun _ _ _ H _ I h => Constant_none ⟨.non, H, I, rfl, h⟩
theorem pe_str {x j pos} : PE X (.Constant (.str x) j pos) (tC (.str x)) := fun _ _ _ H _ I h => Calls.Constant_str ⟨.str x, H, I.tok _, ⟨_, rfl⟩, h⟩
noncomputable def Gl (X : Cx) (x : Str) : Prop := X.env.kindOf x = some .globalImplicit
theorem ld_glob {E : Value → Shared → Prop} {pins : List (Addr × Obj)} {s : Shared} {σ : St} {H : Hp} {x : Str} {u : Value} {pos : Pos} {Q : Value → Shared → Prop} (I : Inv X pins σ H s) (hg : Gl X x) (hm : X.mg x = some u) (h : Q u s)
    (hd : (x == ("__debug__" : Str)) = false := by decide) : wpAny (model X.prog X.w) X.A (eval (.Name x pos) X.env) Q E s :=
  Calls.Name_function_global I.ok.kind hg (Calls.loadGlobal_global (by rw [I.ok.glob]; exact I.mod.glob.keeps I.bk) hm h) hd
theorem ld_blt {E : Value → Shared → Prop} {pins : List (Addr × Obj)} {s : Shared} {σ : St} {H : Hp} {x : Str} {u : Value} {pos : Pos} {Q : Value → Shared → Prop} (I : Inv X pins σ H s) (hg : Gl X x) (hm : X.mg x = none) (hv : bootBuiltins x = some u) (h : Q u s)
    (hn : x ≠ "__name__" := by decide) (hd : (x == ("__debug__" : Str)) = false := by decide) : wpAny (model X.prog X.w) X.A (eval (.Name x pos) X.env) Q E s := by
  obtain ⟨mb, h1, h2⟩ := I.mod.blt
  exact Calls.Name_function_global I.ok.kind hg (Calls.loadGlobal_builtin (by rw [I.ok.glob]; exact I.mod.glob.keeps I.bk) hm (by rw [I.ok.blt]; exact h1.keeps I.bk) ((h2 x hn).trans hv) h) hd
theorem pe_bltn {x : Str} {v : V} {u : Value} {pos : Pos} (hg : Gl X x) (hm : X.mg x = none) (hv : bootBuiltins x = some u) (r : RelV v u) (hn : x ≠ "__name__" := by decide) (hd : (x == ("__debug__" : Str)) = false := by decide) : PE X (.Name x pos) (tC v) :=
  fun _ _ _ H _ I h => ld_blt I hg hm hv ⟨v, H, I, r, h⟩ hn hd
variable {a b : Expr} {ta tb : TE} {pos : Pos}
noncomputable def tB (t : TE) : TT := fun σ H Q => t σ H fun x H1 => ∃ c, x = .bl c ∧ Q c H1
theorem pt_val {e : Expr} {t : TE} (h : PE X e t) (he : ∀ whole, isTrue e X.env whole = (do let v ← whole; standAt e.pos; holding [v] (truthy v)) := by intro _; rfl) : PT X e (tB t) := by
  intro pins s σ H Q I hw
  refine isTrue_plain (thn (h pins s σ H _ I hw) fun v s1 ⟨x, H1, I1, r1, q1⟩ => ?_) (he _)
  obtain ⟨d, rfl, q⟩ := q1
  cases r1
  exact wpAny_truthy_bool ⟨H1, I1, q⟩
variable {tA tB' : TT} {rest : List Expr}
noncomputable def tAnd (t u : TT) : TT := fun σ H Q => t σ H fun c H1 => if c = true then u σ H1 Q else Q false H1
noncomputable def tOr (t u : TT) : TT := fun σ H Q => t σ H fun c H1 => if c = true then Q true H1 else u σ H1 Q
noncomputable def tNot (t : TT) : TT := fun σ H Q => t σ H fun c H1 => Q (!c) H1
theorem pw_and1 (ha : PT X a tA) : PW X (.BoolOp .And [a] pos) tA := by
  intro wh pins s σ H Q I h
  refine isTrue_and (thn (ha pins s σ H Q I h) fun c s1 e => ?_)
  cases c with
  | true => exact isTrue_and_nil e
  | false => exact e
theorem pw_or1 (ha : PT X a tA) : PW X (.BoolOp .Or [a] pos) tA := by
  intro wh pins s σ H Q I h
  refine isTrue_or (thn (ha pins s σ H Q I h) fun c s1 e => ?_)
  cases c with
  | false => exact isTrue_or_nil e
  | true => exact e
theorem pw_and (ha : PT X a tA) (hb : PW X (.BoolOp .And (b :: rest) pos) tB') : PW X (.BoolOp .And (a :: b :: rest) pos) (tAnd tA tB') := by
  intro wh pins s σ H Q I h
  refine isTrue_and (thn (ha pins s σ H _ I h) fun c s1 ⟨H1, I1, q1⟩ => ?_)
  cases c with
  | true => exact hb wh pins s1 σ H1 Q I1 q1
  | false => exact ⟨H1, I1, q1⟩
theorem pw_or (ha : PT X a tA) (hb : PW X (.BoolOp .Or (b :: rest) pos) tB') : PW X (.BoolOp .Or (a :: b :: rest) pos) (tOr tA tB') := by
  intro wh pins s σ H Q I h
  refine isTrue_or (thn (ha pins s σ H _ I h) fun c s1 ⟨H1, I1, q1⟩ => ?_)
  cases c with
  | true => exact ⟨H1, I1, q1⟩
  | false => exact hb wh pins s1 σ H1 Q I1 q1
theorem pt_not (ha : PT X a tA) : PT X (.UnaryOp .Not a pos) (tNot tA) := by
  intro pins s σ H Q I h
  exact isTrue_not (ha pins s σ H (fun c H1 => Q (!c) H1) I h)
noncomputable def tAndV (ta tb : TE) : TE := fun σ H Q => ta σ H fun x H1 => ∃ c, x = .bl c ∧ if c = true then tb σ H1 Q else Q (.bl false) H1
noncomputable def tNotV (ta : TE) : TE := fun σ H Q => ta σ H fun x H1 => ∃ c, x = .bl c ∧ Q (.bl (!c)) H1
theorem pe_one {op} {t : TE} (h : PE X a t) : PE X (.BoolOp op [a] pos) t := fun pins s σ H Q I hw => BoolOp_one (h pins s σ H Q I hw)
theorem pe_and (ha : PE X a ta) (hb : PE X (.BoolOp .And (b :: rest) pos) tb) : PE X (.BoolOp .And (a :: b :: rest) pos) (tAndV ta tb) := by
  intro pins s σ H Q I h
  refine BoolOp_and (thn (ha pins s σ H _ I h) fun v s1 ⟨x, H1, I1, r1, q1⟩ => ?_)
  obtain ⟨c, rfl, q1⟩ := q1
  cases r1
  refine wpAny_truthy_bool ?_
  cases c with
  | true => exact hb pins s1 σ H1 Q I1 q1
  | false => exact ⟨.bl false, H1, I1, rfl, q1⟩
theorem pe_not (ha : PE X a ta) : PE X (.UnaryOp .Not a pos) (tNotV ta) := by
  intro pins s σ H Q I h
  refine UnaryOp_ (thn (ha pins s σ H _ I h) fun v s1 ⟨x, H1, I1, r1, q1⟩ => ?_)
  obtain ⟨c, rfl, q1⟩ := q1
  cases r1
  exact not_of (wpAny_truthy_bool ⟨.bl (!c), H1, I1, rfl, q1⟩)
end
end L2
namespace L2
open PySem PySem.Spec PyProof.Rows
noncomputable def SqL (K : PySem.W.Frag) (H : Hp) (a : Addr) (xs : List V) : Prop :=
  Rd H a (.lst xs) ∨
    ∃ (o : Obj) (its : Array Value) (n : Nat), K.lookup a = some o ∧ o.cls = .type "list" ∧ o.dict = none ∧ o.data = .seq its n ∧ its.size ≤ sizeLine ∧ Vals xs its.toList
noncomputable def SqT (K : PySem.W.Frag) (H : Hp) (a : Addr) (xs : List V) : Prop :=
  Rd H a (.tup xs) ∨
    ∃ (o : Obj) (its : Array Value) (n : Nat), K.lookup a = some o ∧ o.cls = .type "tuple" ∧ o.data = .seq its n ∧ its.size ≤ sizeLine ∧ Vals xs its.toList
noncomputable def absV : Value → Option V
  | .none => some .non
  | .bool b => some (.bl b)
  | .int i _ => some (.int i)
  | .str x _ => some (.str x)
  | .bytes b _ => some (.byt b)
  | .float b _ => some (.flt b)
  | .ref a => some (.ref a)
  | .type n => some (.ty n)
  | _ => none
theorem RelV.abs {x : V} {u : Value} (r : RelV x u) : absV u = some x := by
  cases x with
  | non => cases r; rfl
  | bl _ => cases r; rfl
  | int _ => obtain ⟨t, rfl⟩ := r; rfl
  | str _ => obtain ⟨t, rfl⟩ := r; rfl
  | byt _ => obtain ⟨t, rfl⟩ := r; rfl
  | flt _ => obtain ⟨t, rfl⟩ := r; rfl
  | ref _ => cases r; rfl
  | ty _ => cases r; rfl
theorem RelV.inj {x y : V} {u : Value} (r : RelV x u) (q : RelV y u) : x = y := Option.some.inj (r.abs.symm.trans q.abs)
theorem Vals.inj : ∀ {xs ys : List V} {us : List Value}, Vals xs us → Vals ys us → xs = ys
  | _, _, _, .nil, .nil => rfl
  | _, _, _, .cons r t, .cons r' t' => by rw [r.inj r', Vals.inj t t']
section
variable {X : Cx} {pins : List (Addr × Obj)} {σ : St} {H : Hp} {s : Shared} {a : Addr} {xs ys : List V}
theorem SqL.of {K : PySem.W.Frag} (h : H a = some (.lst xs)) : SqL K H a xs := .inl (.inl h)
theorem SqT.of {K : PySem.W.Frag} (h : H a = some (.tup xs)) : SqT K H a xs := .inl (.inl h)
theorem Inv.list (I : Inv X pins σ H s) (h : SqL X.K H a xs) : ∃ its : List Value, Vals xs its ∧ PlainL s.heap a its.toArray ∧ xs.length ≤ sizeLine := by
  rcases h with h | ⟨o, its, n, hk, hc, hd, hs, hz, r⟩
  · obtain ⟨z, its, n, r, e⟩ := h.ok I.hok
    exact ⟨its, r, ⟨_, n, e, rfl, rfl, rfl⟩, z⟩
  · refine ⟨its.toList, r, ⟨o, n, I.kIn a o hk, hc, hd, by simpa using hs⟩, ?_⟩
    have e := r.length
    simp only [Array.length_toList] at e
    omega
theorem Inv.tuple (I : Inv X pins σ H s) (h : SqT X.K H a xs) : ∃ its : List Value, Vals xs its ∧ IsTup s.heap a its.toArray ∧ xs.length ≤ sizeLine := by
  rcases h with h | ⟨o, its, n, hk, hc, hs, hz, r⟩
  · obtain ⟨z, its, r, p⟩ := h.ok I.hok
    exact ⟨its, r, p, z⟩
  · refine ⟨its.toList, r, ⟨o, I.kIn a o hk, hc, n, by simpa using hs⟩, ?_⟩
    have e := r.length
    simp only [Array.length_toList] at e
    omega
theorem Inv.list_inj (I : Inv X pins σ H s) (h : SqL X.K H a xs) (h' : SqL X.K H a ys) : xs = ys := by
  obtain ⟨its, r, ⟨o, n, e, _, _, d⟩, _⟩ := I.list h
  obtain ⟨its', r', ⟨o', n', e', _, _, d'⟩, _⟩ := I.list h'
  rw [e] at e'; cases e'
  rw [d] at d'
  injection d' with d1 _
  have : its = its' := by simpa using congrArg Array.toList d1
  subst this
  exact r.inj r'
end
noncomputable abbrev Cx.wish (X : Cx) (E : Value → Shared → Prop) : Cx := { X with xe := E }
noncomputable abbrev Cx.nox (X : Cx) : Cx := X.wish fun _ _ => False
theorem Cx.Ok.wish {X : Cx} (ok : X.Ok) (E : Value → Shared → Prop) : (X.wish E).Ok :=
  ⟨ok.mod, ok.kind, ok.glob, ok.blt, ok.above, ok.inj, ok.has, ok.cab, ok.hd, ok.frames, ok.stk, ok.exf, ok.bs, ok.bsz, ok.noex, ok.exfs, ok.funs, ok.frf⟩
theorem Cx.Ok.unwish {X : Cx} {E : Value → Shared → Prop} (ok : (X.wish E).Ok) : X.Ok :=
  ⟨ok.mod, ok.kind, ok.glob, ok.blt, ok.above, ok.inj, ok.has, ok.cab, ok.hd, ok.frames, ok.stk, ok.exf, ok.bs, ok.bsz, ok.noex, ok.exfs, ok.funs, ok.frf⟩
section
variable {X : Cx} {pins : List (Addr × Obj)} {σ : St} {H : Hp} {s : Shared} {E : Value → Shared → Prop}
theorem Inv.wish (I : Inv X pins σ H s) (E : Value → Shared → Prop) : Inv (X.wish E) pins σ H s := ⟨I.ok.wish E, I.os, I.bare, I.base, I.loc, I.cell, I.free, I.freeC, I.pin, I.hok, I.len⟩
theorem Inv.unwish (I : Inv (X.wish E) pins σ H s) : Inv X pins σ H s := ⟨I.ok.unwish, I.os, I.bare, I.base, I.loc, I.cell, I.free, I.freeC, I.pin, I.hok, I.len⟩
theorem SP.unwish {D : Ends} {f : Flow} {s' : Shared} (h : SP (X.wish E) pins D f s') : SP X pins D f s' := by
  cases f with
  | next => obtain ⟨σ', H', I, q⟩ := h; exact ⟨σ', H', I.unwish, q⟩
  | brk => obtain ⟨σ', H', I, q⟩ := h; exact ⟨σ', H', I.unwish, q⟩
  | cont => obtain ⟨σ', H', I, q⟩ := h; exact ⟨σ', H', I.unwish, q⟩
  | ret u => obtain ⟨v, σ', H', I, r, q⟩ := h; exact ⟨v, σ', H', I.unwish, r, q⟩
theorem PE.nox {e : Expr} {t : TE} (h : PE X.nox e t) : PE X e t := fun pins s σ H Q I hw =>
  wpAny_mono (h pins s σ H Q (I.wish _) hw) (fun _ _ ⟨v, H', I', r, q⟩ => ⟨v, H', I'.unwish, r, q⟩) fun _ _ z => False.elim z
theorem PT.nox {e : Expr} {t : TT} (h : PT X.nox e t) : PT X e t := fun pins s σ H Q I hw =>
  wpAny_mono (h pins s σ H Q (I.wish _) hw) (fun _ _ ⟨H', I', q⟩ => ⟨H', I'.unwish, q⟩) fun _ _ z => False.elim z
theorem PSs.nox {st : List Stmt} {t : TS} (h : PSs X.nox st t) : PSs X st t := fun pins s σ H D I hw =>
  wpAny_mono (h pins s σ H D (I.wish _) hw) (fun _ _ q => q.unwish) fun _ _ z => False.elim z
end
section
variable {X : Cx} {st : Stmt} {rest : List Stmt} {t u : TS} {e : Expr} {te : TE} {pos : Pos}
noncomputable def tNext : TS := fun D σ H => D.nx σ H
noncomputable def tSeq (t u : TS) : TS := fun D σ H => t { D with nx := u D } σ H
theorem pss_nil : PSs X [] tNext := fun _ _ σ H _ I h => wpAny_execs_nil ⟨σ, H, I, h⟩
theorem pss_cons (h1 : PS X st t) (h2 : PSs X rest u) : PSs X (st :: rest) (tSeq t u) := by
  intro pins s σ H D I h
  refine wpAny_execs_cons (thn (h1 pins s σ H { D with nx := u D } I h) fun f s1 q => ?_)
  cases f with
  | next =>
    obtain ⟨σ', H', I', q⟩ := q
    exact h2 pins s1 σ' H' D I' q
  | ret v => exact q
  | brk => exact q
  | cont => exact q
theorem pss_one (h1 : PS X st t) : PSs X [st] t := by
  intro pins s σ H D I h
  refine wpAny_execs_cons (thn (h1 pins s σ H D I h) fun f s1 q => ?_)
  cases f with
  | next => exact wpAny_execs_nil q
  | ret v => exact q
  | brk => exact q
  | cont => exact q
theorem Inv.quiet {pins : List (Addr × Obj)} {σ : St} {H : Hp} {s : Shared} (I : Inv X pins σ H s) : interactive X.env = false := by simp [interactive, I.ok.kind]
noncomputable def tDrop (te : TE) : TS := fun D σ H => te σ H fun _ H1 => D.nx σ H1
theorem ps_expr (he : PE X e te) (hs : swapsWith e none pos.line X.env = pure false := by rfl) : PS X (.Expr e pos) (tDrop te) := by
  intro pins s σ H D I h
  exact wpAny_Expr_any (thn (he pins s σ H _ I h) fun v s1 ⟨x, H1, I1, r1, q1⟩ => ⟨σ, H1, I1, q1⟩) I.quiet hs
noncomputable def tRet (te : TE) : TS := fun D σ H => te σ H D.rt
theorem ps_ret (he : PE X e te) : PS X (.Return (some e) pos) (tRet te) := by
  intro pins s σ H D I h
  exact wpAny_Return_some (thn (he pins s σ H _ I h) fun v s1 ⟨x, H1, I1, r1, q1⟩ => ⟨x, σ, H1, I1, r1, q1⟩)
noncomputable def tIfS (c : TT) (t u : TS) : TS := fun D σ H => c σ H fun b H1 => if b = true then t D σ H1 else u D σ H1
theorem ps_if {c : Expr} {a b : List Stmt} {tc : TT} (hc : PT X c tc) (ha : PSs X a t) (hb : PSs X b u) : PS X (.If c a b pos) (tIfS tc t u) := by
  intro pins s σ H D I h
  refine wpAny_If (thn (hc pins s σ H _ I h) fun d s1 ⟨H1, I1, q1⟩ => ?_)
  cases d with
  | true => exact ha pins s1 σ H1 D I1 q1
  | false => exact hb pins s1 σ H1 D I1 q1
noncomputable def tNever : TS := fun _ _ _ => False
theorem ps_never : PS X st tNever := fun _ _ _ _ _ _ h => h.elim
end
noncomputable abbrev TG := V → St → Hp → (St → Hp → Prop) → Prop
noncomputable abbrev TGs := List V → St → Hp → (St → Hp → Prop) → Prop
noncomputable def PG (X : Cx) (target : Expr) (t : TG) : Prop :=
  ∀ (pins : List (Addr × Obj)) (s : Shared) (σ : St) (H : Hp) (v : V) (u : Value) (Q : St → Hp → Prop), Inv X pins σ H s → RelV v u → t v σ H Q →
    wpAny (model X.prog X.w) X.A (assign target X.env u) (fun _ s' => ∃ σ' H', Inv X pins σ' H' s' ∧ Q σ' H') X.xe s
section
variable {X : Cx} {pos : Pos}
noncomputable def gName (i : Nat) : TG := fun v σ H Q => Q (σ.set i (some v)) H
theorem pg_name {i : Nat} {x : Str} (hN : X.N.Nodup) (hi : X.N[i]? = some x) (hx : Loc X.env.scope x) (hf : X.fn x = true ∨ X.env.scope.names.lookup x = some .local := by first | exact .inl rfl | exact .inr rfl | assumption) : PG X (.Name x pos) (gName i) := by
  intro pins s σ H v u Q I r h
  exact wpAny_assign_Name (store_ok I hN hi hx r (fun s' I' => ⟨_, H, I', h⟩) hf)
noncomputable def tAsg (te : TE) (g : TG) : TS := fun D σ H => te σ H fun x H1 => g x σ H1 D.nx
theorem ps_set {i : Nat} {x : Str} {e : Expr} {te : TE} {pos' : Pos} (hN : X.N.Nodup) (hi : X.N[i]? = some x) (hx : Loc X.env.scope x) (he : PE X e te) (hs : swapsWith e (some (.Name x pos')) pos.line X.env = pure false := by rfl) (hf : X.fn x = true ∨ X.env.scope.names.lookup x = some .local := by first | exact .inl rfl | exact .inr rfl | assumption) :
    PS X (.Assign [.Name x pos'] e pos) (tAsg te (gName i)) := by
  intro pins s σ H D I h
  refine wpAny_Assign_Name (thn (he pins s σ H _ I h) fun v s1 ⟨y, H1, I1, r1, q1⟩ => ?_) hs
  exact store_ok I1 hN hi hx r1 (fun s2 I2 => ⟨_, H1, I2, q1⟩) hf
noncomputable def tPar (i j : Nat) (ta : TA) : TS := fun D σ H => ta σ H fun vs H1 => ∃ v w, vs = [v, w] ∧ D.nx ((σ.set i (some v)).set j (some w)) H1
theorem ps_par {i j : Nat} {x y : Str} {a b : Expr} {ta : TA} {px py pt : Pos} {kt k2 pt2} (hc : X.calm = true) (hN : X.N.Nodup) (hi : X.N[i]? = some x) (hj : X.N[j]? = some y) (hij : i ≠ j)
    (hx : X.env.scope.names.lookup x = some .local) (hy : X.env.scope.names.lookup y = some .local) (ha : PA X [a, b] ta)
    (hw : swappedStores [.Tuple [.Name x px, .Name y py] kt pt] (.Tuple [a, b] k2 pt2) X.env = pure (some [x, y]))
    (hs : swapsWithSole [.Tuple [.Name x px, .Name y py] kt pt] (.Tuple [a, b] k2 pt2) pos.line X.env = pure false := by rfl) :
    PS X (.Assign [.Tuple [.Name x px, .Name y py] kt pt] (.Tuple [a, b] k2 pt2) pos) (tPar i j ta) := by
  intro pins s σ H D I h
  rw [exec_Assign_arm]
  refine wpAny_bind (wpAny_standAt ?_)
  rw [hs]
  refine wpAny_bind (wpAny_pure ?_)
  rw [if_neg (by decide)]
  refine wpAny_bind (Tuple_ (thn (ha _ pins s σ H _ I h) fun us s1 ⟨vs, H1, I1, r1, q1⟩ => ?_))
  obtain ⟨v, w, e1, q1⟩ := q1
  subst e1
  obtain ⟨u1, u2, rfl, rv, rw'⟩ : ∃ u1 u2, us = [u1, u2] ∧ RelV v u1 ∧ RelV w u2 := by
    cases r1 with
    | cons p q =>
      cases q with
      | cons p' q' =>
        cases q'
        exact ⟨_, _, rfl, p, p'⟩
  refine wpAny_newObj_type ?_ (by show 2 ≤ sizeLine; decide)
  have I2 : Inv X pins σ H1 { s1 with heap := s1.heap.push { cls := .type "tuple", data := .seq [u1, u2].toArray } } := I1.kept (t' := s1.toks) fun b o e => Heap.get?_push_of_some _ e
  rw [hw]
  refine wpAny_bind (wpAny_pure ?_)
  show wpAny (model X.prog X.w) X.A (do rule "assign.swapped-stores"; let items ← unpackItems (.ref s1.heap.objs.size) 2 none; assignInOrder [fun v => bindName X.env y v, fun v => bindName X.env x v] items.reverse; pure Flow.next) _ _ _
  refine wpAny_bind (wpAny_rule (wpAny_bind (unpackItems_tuple (items := #[u1, u2]) (I.ok.hd hc) (IsTup.new s1.heap _) fun h' hx' => ?_)))
  have I3 := I2.kept (h' := h') (t' := s1.toks) fun b o e => hx' b o (Nat.ne_of_lt (Heap.lt_size e)) e
  show wpAny _ _ (assignInOrder [fun v => bindName X.env y v, fun v => bindName X.env x v] [u2, u1] >>= fun _ => pure Flow.next) _ _ _
  refine wpAny_bind (assignInOrder_cons (wpAny_bindName (store_ok I3 hN hj (.inl hy) rw' (fun s2 I4 => ?_) (.inr hy))))
  refine assignInOrder_cons (wpAny_bindName (store_ok I4 hN hi (.inl hx) rv (fun s3 I5 => assignInOrder_nil (wpAny_pure ?_)) (.inr hx)))
  rw [List.set_comm _ _ (Ne.symm hij)] at I5
  exact ⟨_, H1, I5, q1⟩
end
section
variable {X : Cx} {pos : Pos}
noncomputable def tWhile (c : TT) (tb : TS) : TS := fun D σ H => ∃ W : Nat → St → Hp → Prop, (∃ m, W m σ H) ∧ ∀ m σ H, W m σ H →
  c σ H fun b H1 => if b = true then ∃ N : St → Hp → Prop, (∀ σ' H', N σ' H' → ∃ m', m' < m ∧ W m' σ' H') ∧ tb { D with nx := N, ct := N, bk := D.nx } σ H1 else D.nx σ H1
theorem ps_while {c : Expr} {body : List Stmt} {tc : TT} {tb : TS} (hp : PassesOwn (model X.prog X.w) X.A X.env X.xe) (hc : PT X c tc) (hb : PSs X body tb) : PS X (.While c body [] pos) (tWhile tc tb) := by
  intro pins s σ H D I h
  obtain ⟨W, ⟨m0, w0⟩, turn⟩ := h
  refine wpAny_While (codeAny_whileLoop (fun n s' => ∃ σ' H', Inv X pins σ' H' s' ∧ W n σ' H') ?_ m0 ⟨σ, H, I, w0⟩)
  rintro n s1 ⟨σ1, H1, I1, w1⟩
  refine wpAny_passesOwn hp (thn (hc pins s1 σ1 H1 _ I1 (turn n σ1 H1 w1)) fun b s2 ⟨H2, I2, q2⟩ => ?_)
  cases b with
  | true =>
    obtain ⟨N, hN, q2⟩ := q2
    rw [if_pos rfl]
    refine wpAny_passesOwn hp (thn (hb pins s2 σ1 H2 _ I2 q2) fun f s3 q3 => ?_)
    cases f with
    | next =>
      obtain ⟨σ3, H3, I3, n3⟩ := q3
      obtain ⟨m', hm, w3⟩ := hN σ3 H3 n3
      exact ⟨m', hm, σ3, H3, I3, w3⟩
    | cont =>
      obtain ⟨σ3, H3, I3, n3⟩ := q3
      obtain ⟨m', hm, w3⟩ := hN σ3 H3 n3
      exact ⟨m', hm, σ3, H3, I3, w3⟩
    | brk => exact q3
    | ret v => exact q3
  | false =>
    rw [if_neg Bool.false_ne_true]
    exact wpAny_execs_nil ⟨σ1, H2, I2, q2⟩
end
structure It where
  go : Nat → Hp → Prop
  yld : Nat → Hp → V → Hp → Prop
  stop : Nat → Hp → Prop
noncomputable def FpOk (X : Cx) (pins : List (Addr × Obj)) (H : Hp) (b : Addr) : Prop :=
  H b = none ∧ b ≠ X.env.locals ∧ b ∉ X.fs ∧ (b ∈ X.ex ∨ X.s₀.heap.objs.size ≤ b) ∧ (∀ x c, X.env.cells.lookup x = some c → c ≠ b) ∧ ∀ p ∈ X.pn ++ pins, p.1 ≠ b
theorem Inv.fpOk {X : Cx} {pins : List (Addr × Obj)} {σ : St} {H H' : Hp} {s : Shared} {b : Addr} (I : Inv X pins σ H s) (hb : s.heap.objs.size ≤ b) (hn : H' b = none) : FpOk X pins H' b := by
  refine ⟨hn, Nat.ne_of_gt (Nat.lt_of_lt_of_le I.lt hb), I.nofs hb, .inr (Nat.le_trans I.sz hb), fun x c e z => ?_, fun p hp z => ?_⟩
  · obtain ⟨v, q⟩ := I.cell x c e
    exact absurd (Nat.lt_of_lt_of_le q.lt (by rw [z]; exact hb)) (Nat.lt_irrefl _)
  · exact absurd (Nat.lt_of_lt_of_le (Heap.lt_size (I.pin p hp).1) (by rw [z]; exact hb)) (Nat.lt_irrefl _)
structure Turn (P : Program) (w : World) (K : PySem.W.Frag) (tg : Expr) (J : It) (fp : List Addr) (it : Addr) (tn : Nat → Heap → Prop) : Prop where
  mem : it ∈ fp
  obj : ∀ i h, tn i h → ∀ b ∈ fp, ∃ o, h.get? b = some o ∧ ∀ v, o.data ≠ .cell v
  keep : ∀ i h h', tn i h → (∀ b ∈ fp, ∀ o, h.get? b = some o → h'.get? b = some o) → tn i h'
  item : ∀ (X : Cx), X.prog = P → X.w = w → X.K = K → X.calm = true → ∀ (i : Nat) (pins : List (Addr × Obj)) (s : Shared) (σ : St) (H : Hp) (E : Value → Shared → Prop), Inv X pins σ H s → (∀ b ∈ fp, FpOk X pins H b) → tn i s.heap → J.go i H →
    wpAny (model P w) X.A (pyNext (.ref it)) (fun r s1 => ∃ u, r = some u ∧
      wpAny (model P w) X.A (letOwnedTupleGo tg (.ref it) u) (fun _ s2 => ∃ x H', Inv X pins σ H' s2 ∧ RelV x u ∧ J.yld i H x H' ∧ tn (i + 1) s2.heap ∧ ∀ b ∈ fp, H' b = none) E s1) E s
  done : ∀ (X : Cx), X.prog = P → X.w = w → X.K = K → X.calm = true → ∀ (i : Nat) (pins : List (Addr × Obj)) (s : Shared) (σ : St) (H : Hp) (E : Value → Shared → Prop), Inv X pins σ H s → (∀ b ∈ fp, FpOk X pins H b) → tn i s.heap → J.stop i H →
    wpAny (model P w) X.A (pyNext (.ref it)) (fun r s1 => r = none ∧ Inv X pins σ H s1) E s
  self : ∀ (A : Around) (i : Nat) (s : Shared) (Q : Value → Shared → Prop) (E : Value → Shared → Prop), tn i s.heap → Q (.ref it) s → wpAny (model P w) A (pyIter (.ref it)) Q E s
noncomputable abbrev TI := St → Hp → (It → Hp → Prop) → Prop
noncomputable def PIE (X : Cx) (pins : List (Addr × Obj)) (σ : St) (tg : Expr) (R : It → Hp → Prop) (itv : Value) (s2 : Shared) : Prop :=
  ∃ (it : Addr) (fp : List Addr) (tn : Nat → Heap → Prop) (J : It) (H' : Hp), itv = .ref it ∧ Inv X pins σ H' s2 ∧ Turn X.prog X.w X.K tg J fp it tn ∧ tn 0 s2.heap ∧ (∀ b ∈ fp, FpOk X pins H' b) ∧ R J H'
noncomputable def PI (X : Cx) (tg iter : Expr) (wi : TI) : Prop :=
  ∀ (pins : List (Addr × Obj)) (s : Shared) (σ : St) (H : Hp) (R : It → Hp → Prop), Inv X pins σ H s → wi σ H R →
    wpAny (model X.prog X.w) X.A (eval iter X.env) (fun v s1 => wpAny (model X.prog X.w) X.A (pyIter v) (PIE X pins σ tg R) X.xe s1) X.xe s
theorem go_of {M : Model} {A : Around} {E : Value → Shared → Prop} {s : Shared} {tg : Expr} {it : Addr} {u : Value} {o : Obj} {n : String} {vs : Array Value} {Q : Unit → Shared → Prop} (ho : s.heap.get? it = some o) (hc : o.cls = .type n) (hd : o.data = .fields vs)
    (hn : ["enumerate", "zip", "dict_itemiterator", "dict_reverseitemiterator", "odict_iterator", "itertools.zip_longest", "itertools.pairwise"].contains n = false) (hQ : Q () s) : wpAny M A (letOwnedTupleGo tg (.ref it) u) Q E s := by
  unfold letOwnedTupleGo
  cases tg <;> first
    | exact wpAny_pure hQ
    | (cases u <;> first
        | exact wpAny_pure hQ
        | (refine wpAny_bind (wpAny_load ho ?_)
           rw [hc, hd]
           show wpAny M A (if (["enumerate", "zip", "dict_itemiterator", "dict_reverseitemiterator", "odict_iterator", "itertools.zip_longest", "itertools.pairwise"].contains n && vs[0]? == some (rawInt _)) = true then _ else _) Q E s
           rw [if_neg (by intro h; rw [hn, Bool.false_and] at h; cases h)]
           exact wpAny_pure hQ))
noncomputable def Itl (K : PySem.W.Frag) (a : Addr) : It :=
  ⟨fun i H => ∃ xs x, SqL K H a xs ∧ xs[i]? = some x, fun i H x H' => H' = H ∧ ∀ xs, SqL K H a xs → xs[i]? = some x, fun i H => ∃ xs, SqL K H a xs ∧ xs.length ≤ i⟩
noncomputable def Itr (lo : Int) (n : Nat) : It := ⟨fun i _ => i < n, fun i H x H' => H' = H ∧ x = .int (lo + i), fun i _ => n ≤ i⟩
theorem turn_list {P : Program} {w : World} {K : PySem.W.Frag} {tg : Expr} (a it : Addr) : Turn P w K tg (Itl K a) [it] it (fun i h => h.IsListIter it a i) where
  mem := by simp
  obj := fun i h st b hb => by
    have e : b = it := by simpa using hb
    subst e
    obtain ⟨o, e, c, d⟩ := st
    exact ⟨o, e, fun v z => by rw [d] at z; cases z⟩
  keep := fun i h h' st k => st.at fun o e => k it (by simp) o e
  item := by
    intro X hP hw hK hc i pins s σ H E I hf st hg
    subst hP hw hK
    obtain ⟨xs, x, hq, hx⟩ := hg
    obtain ⟨its, rv, p, hz⟩ := I.list hq
    obtain ⟨u, hu, ru⟩ := rv.get hx
    obtain ⟨f0, f1, f2, f3, f4, f5⟩ := hf it (by simp)
    refine wpAny_pyNext_list_item st p.isList (x := u) (by simpa using hu) fun h' st' sb => ?_
    have I1 : Inv X pins σ H { s with heap := h' } := I.turned (t' := s.toks) (fun b o hb e => (sb.2 b hb).trans e) f0 f1 f3 f4 f5
    obtain ⟨o, e, c, d⟩ := id st'
    exact ⟨u, rfl, go_of (s := { s with heap := h' }) e c d (by decide) ⟨x, H, I1, ru, ⟨rfl, fun ys hy => by rw [I.list_inj hy hq]; exact hx⟩, st', fun b hb => (hf b hb).1⟩⟩
  done := by
    intro X hP hw hK hc i pins s σ H E I hf st hg
    subst hP hw hK
    obtain ⟨xs, hq, hx⟩ := hg
    obtain ⟨its, rv, p, hz⟩ := I.list hq
    obtain ⟨f0, f1, f2, f3, f4, f5⟩ := hf it (by simp)
    have hl := rv.length
    exact wpAny_pyNext_list_end (I.ok.hd hc) st p.isList (by simp; omega) fun h' eb => ⟨rfl, I.turned (t' := s.toks) (fun b o hb e => eb b o hb e) f0 f1 f3 f4 f5⟩
  self := fun _ _ _ _ _ st h => wpAny_pyIter_listiter st h
theorem turn_range {P : Program} {w : World} {K : PySem.W.Frag} {tg : Expr} (it : Addr) (lo : Int) (n : Nat) : Turn P w K tg (Itr lo n) [it] it (fun i h => IsRangeIter h it (lo + (i : Nat) * 1) ((n : Int) - (i : Nat)) 1) where
  mem := by simp
  obj := fun i h st b hb => by
    have e : b = it := by simpa using hb
    subst e
    exact ⟨_, st, fun v z => by
      have z' : Data.fields _ = Data.cell v := z
      cases z'⟩
  keep := fun i h h' st k => k it (by simp) _ st
  item := by
    intro X hP hw hK hc i pins s σ H E I hf st hg
    subst hP hw hK
    obtain ⟨f0, f1, f2, f3, f4, f5⟩ := hf it (by simp)
    have W := Walks.range (prog := X.prog) (w := X.w) (I.ok.hd hc) it lo 1 n
    refine W.item i s _ _ hg st fun v h' tk hv st' kk => ?_
    obtain ⟨t, rfl⟩ := hv
    have I1 : Inv X pins σ H { s with heap := h', toks := tk } := I.turned (fun b o hb e => kk b o (by simpa using hb) e) f0 f1 f3 f4 f5
    refine ⟨_, rfl, go_of (s := { s with heap := h', toks := tk }) (n := "range_iterator") st' rfl rfl (by decide) ⟨.int (lo + i), H, I1, ⟨t, ?_⟩, ⟨rfl, rfl⟩, st', fun b hb => (hf b hb).1⟩⟩
    rw [Int.mul_one]
  done := by
    intro X hP hw hK hc i pins s σ H E I hf st hg
    subst hP hw hK
    obtain ⟨f0, f1, f2, f3, f4, f5⟩ := hf it (by simp)
    exact wpAny_pyNext_range_end (I.ok.hd hc) st (by have : n ≤ i := hg; omega) fun h' eb => ⟨rfl, I.turned (t' := s.toks) (fun b o hb e => eb b o hb e) f0 f1 f3 f4 f5⟩
  self := fun _ _ _ _ _ st h => wpAny_pyIter_rangeiter st h
end L2
namespace L2
open PySem PySem.Spec PyProof.Rows
section
variable {X : Cx} {tg : Expr}
noncomputable def iList (K : PySem.W.Frag) (tl : TE) : TI := fun σ H R => tl σ H fun x H1 => ∃ a, x = .ref a ∧ (∃ xs, SqL K H1 a xs) ∧ R (Itl K a) H1
theorem pi_list {l : Expr} {tl : TE} (hl : PE X l tl) : PI X tg l (iList X.K tl) := by
  intro pins s σ H R I h
  refine thn (hl pins s σ H _ I h) fun v s1 ⟨x, H1, I1, r1, q1⟩ => ?_
  obtain ⟨a, e, ⟨xs, hq⟩, q⟩ := q1
  subst e
  cases r1
  obtain ⟨its, rv, p, hz⟩ := I1.list hq
  refine wpAny_pyIter_list p.isList ?_
  refine ⟨s1.heap.objs.size, [s1.heap.objs.size], _, _, H1, rfl, I1.kept (t' := s1.toks) fun b o e => Heap.get?_push_of_some _ e, turn_list a _, ⟨_, Heap.get?_push_size _ rfl, rfl, rfl⟩, fun b hb => ?_, q⟩
  have e : b = s1.heap.objs.size := by simpa using hb
  subst e
  exact I1.fpOk (Nat.le_refl _) (I1.hok.fresh (Nat.le_refl _))
theorem range_it {pins : List (Addr × Obj)} {σ : St} {H : Hp} {s : Shared} {R : It → Hp → Prop} {E : Value → Shared → Prop} {lo hi : Int} {t u v : Tok} {tk : Nat} (I : Inv X pins σ H s) (h1 : -(2 ^ 62) ≤ lo) (h2 : lo < 2 ^ 62) (h3 : -(2 ^ 62) ≤ hi) (h4 : hi < 2 ^ 62)
    (q : R (Itr lo (hi - lo).toNat) H) : wpAny (model X.prog X.w) X.A (pyIter (.ref s.heap.objs.size)) (PIE X pins σ tg R) E { s with heap := s.heap.push { cls := .type "range", data := .fields #[.int lo t, .int hi u, .int 1 v] }, toks := tk } := by
  refine wpAny_pyIter_range (IsRange.new ..) (small_one h1 h2 h3 h4) ?_
  have I1 : Inv X pins σ H { s with heap := s.heap.push { cls := .type "range", data := .fields #[.int lo t, .int hi u, .int 1 v] }, toks := tk } := I.kept fun b o e => Heap.get?_push_of_some _ e
  refine ⟨(s.heap.push { cls := .type "range", data := .fields #[.int lo t, .int hi u, .int 1 v] }).objs.size, [(s.heap.push { cls := .type "range", data := .fields #[.int lo t, .int hi u, .int 1 v] }).objs.size], _, _, H, rfl,
    I1.kept (t' := tk) fun b o e => Heap.get?_push_of_some _ e, turn_range _ lo (hi - lo).toNat, ?_, fun b hb => ?_, q⟩
  · have e1 : lo + ((0 : Nat) : Int) * 1 = lo := by simp
    have e2 : (((hi - lo).toNat : Nat) : Int) - ((0 : Nat) : Int) = Builtin.Range.rangeSize lo hi 1 := by rw [rangeSize_one]; split <;> omega
    show IsRangeIter _ _ (lo + ((0 : Nat) : Int) * 1) ((((hi - lo).toNat : Nat) : Int) - ((0 : Nat) : Int)) 1
    rw [e1, e2]
    exact Heap.get?_push_size _ rfl
  · have e : b = (s.heap.push { cls := .type "range", data := .fields #[.int lo t, .int hi u, .int 1 v] }).objs.size := by simpa using hb
    subst e
    exact I1.fpOk (Nat.le_refl _) (I1.hok.fresh (Nat.le_refl _))
noncomputable def iRng1 (ta : TA) : TI := fun σ H R => ta σ H fun vs H1 => ∃ j : Int, vs = [.int j] ∧ -(2 ^ 62) ≤ j ∧ j < 2 ^ 62 ∧ R (Itr 0 j.toNat) H1
theorem pi_range1 {a : Expr} {ta : TA} {p pos : Pos} (hg : Gl X "range") (hm : X.mg "range" = none) (ha : PA X [a] ta) (hs : starEach [a] X.env = [(false, eval a X.env)] := by rfl) : PI X tg (.Call (.Name "range" p) [a] [] pos) (iRng1 ta) := by
  intro pins s σ H R I h
  refine Call_ (ld_blt I hg hm boot_range (PyProof.Rows.callWith_type1 (thn (ha pos pins s σ H _ I h) fun us s1 ⟨vs, H1, I1, r1, q1⟩ => ?_) hs rfl))
  obtain ⟨j, e, q1, q2, q⟩ := q1
  subst e
  cases r1 with
  | cons r rr =>
    cases rr
    obtain ⟨t, rfl⟩ := r
    exact call_range_1 (range_it I1 (by omega) (by omega) q1 q2 (by simpa using q))
noncomputable def tFor (wi : TI) (g : TG) (tb : TS) : TS := fun D σ H => wi σ H fun J H1 => ∃ W : Nat → Nat → St → Hp → Prop, (∃ m, W 0 m σ H1) ∧ ∀ i m σ H, W i m σ H →
  (J.stop i H ∧ D.nx σ H) ∨ (J.go i H ∧ ∃ N : St → Hp → Prop, (∀ σ' H', N σ' H' → ∃ m', m' < m ∧ W (i + 1) m' σ' H') ∧ ∀ x H', J.yld i H x H' → g x σ H' fun σ2 H2 => tb { D with nx := N, ct := N, bk := D.nx } σ2 H2)
noncomputable def pinsAt (fp : List Addr) (h : Heap) : List (Addr × Obj) := fp.filterMap fun b => (h.get? b).map fun o => (b, o)
theorem mem_pinsAt {fp : List Addr} {h : Heap} {b : Addr} {o : Obj} (hb : b ∈ fp) (e : h.get? b = some o) : (b, o) ∈ pinsAt fp h := List.mem_filterMap.mpr ⟨b, hb, by rw [e]; rfl⟩
theorem of_pinsAt {fp : List Addr} {h : Heap} {p : Addr × Obj} (hp : p ∈ pinsAt fp h) : p.1 ∈ fp ∧ h.get? p.1 = some p.2 := by
  obtain ⟨b, hb, e⟩ := List.mem_filterMap.mp hp
  cases q : h.get? b with
  | none => rw [q] at e; cases e
  | some o =>
    rw [q] at e
    have e' : (b, o) = p := Option.some.inj e
    subst e'
    exact ⟨hb, q⟩
theorem Inv.pinned {pins : List (Addr × Obj)} {σ : St} {H : Hp} {s : Shared} {fp : List Addr} (I : Inv X pins σ H s) (hf : ∀ b ∈ fp, FpOk X pins H b) (ho : ∀ b ∈ fp, ∃ o, s.heap.get? b = some o ∧ ∀ v, o.data ≠ .cell v) : Inv X (pins ++ pinsAt fp s.heap) σ H s :=
  I.pins_of fun p hp => (List.mem_append.mp hp).elim (fun z => I.pin p (List.mem_append_right _ z)) fun z => by
    obtain ⟨hb, e⟩ := of_pinsAt z
    obtain ⟨f0, f1, f2, _⟩ := hf p.1 hb
    obtain ⟨o, e', d⟩ := ho p.1 hb
    rw [e] at e'; cases e'
    exact ⟨e, f0, f1, f2, d⟩
theorem Inv.unpinned {pins pl : List (Addr × Obj)} {σ : St} {H : Hp} {s : Shared} (I : Inv X (pins ++ pl) σ H s) : Inv X pins σ H s := I.pins_of fun p hp => I.pin p (List.mem_append_right _ (List.mem_append_left _ hp))
theorem ps_for {iter : Expr} {body : List Stmt} {wi : TI} {g : TG} {tb : TS} {pos : Pos} (hp : PassesOwn (model X.prog X.w) X.A X.env X.xe) (hc : X.calm = true) (hi : PI X tg iter wi) (hg : PG X tg g) (hb : PSs X body tb)
    (hs : ∀ x, foldedSetIterable iter X.env x = pure x := by intro _; rfl) : PS X (.For tg iter body [] pos) (tFor wi g tb) := by
  intro pins s σ H D I h
  refine wpAny_For (thn (hi pins s σ H _ I h) fun v s1 h1 => thn h1 fun itv s2 h2 => ?_) hs
  obtain ⟨it, fp, tn, J, H2, e, I2, T, st2, f2, W, ⟨m0, w0⟩, turn⟩ := h2
  subst e
  have stat : ∀ {H' : Hp}, (∀ b ∈ fp, H' b = none) → ∀ b ∈ fp, FpOk X pins H' b := fun hn b hb => ⟨hn b hb, (f2 b hb).2⟩
  refine codeAny_forLoop_any (fun n s' => ∃ i σ' H', Inv X pins σ' H' s' ∧ tn i s'.heap ∧ (∀ b ∈ fp, H' b = none) ∧ W i n σ' H') ?_ m0 ⟨0, σ, H2, I2, st2, fun b hb => (f2 b hb).1, w0⟩
  rintro n s3 ⟨i, σ3, H3, I3, st3, fr3, w3⟩
  rcases turn i n σ3 H3 w3 with ⟨stop, qn⟩ | ⟨go, N, hN, step⟩
  · refine wpAny_passesOwn hp (thn (T.done X rfl rfl rfl hc i pins s3 σ3 H3 X.xe I3 (stat fr3) st3 stop) fun r s4 ⟨hr, I4⟩ => ?_)
    subst hr
    exact wpAny_execs_nil ⟨σ3, H3, I4, qn⟩
  · refine wpAny_passesOwn hp (thn (T.item X rfl rfl rfl hc i pins s3 σ3 H3 X.xe I3 (stat fr3) st3 go) fun r s4 ⟨u, hr, h4⟩ => ?_)
    subst hr
    refine wpAny_passesOwn hp (thn h4 fun _ s5 ⟨x, H5, I5, r5, y5, st5, fr5⟩ => ?_)
    have I5' := I5.pinned (stat fr5) (T.obj _ _ st5)
    refine wpAny_passesOwn hp (thn (hg _ s5 σ3 H5 x u _ I5' r5 (step x H5 y5)) fun _ s6 ⟨σ6, H6, I6, q6⟩ => ?_)
    refine wpAny_passesOwn hp (thn (hb _ s6 σ6 H6 _ I6 q6) fun f s7 q7 => ?_)
    have again : ∀ {σ7 : St} {H7 : Hp}, Inv X (pins ++ pinsAt fp s5.heap) σ7 H7 s7 → N σ7 H7 → ∃ m, m < n ∧ ∃ i σ' H', Inv X pins σ' H' s7 ∧ tn i s7.heap ∧ (∀ b ∈ fp, H' b = none) ∧ W i m σ' H' := fun {σ7 H7} I7 n7 => by
      obtain ⟨m', hm, w7⟩ := hN σ7 H7 n7
      refine ⟨m', hm, i + 1, σ7, H7, I7.unpinned, T.keep _ _ _ st5 fun b hb o e => (I7.pin (b, o) (List.mem_append_right _ (List.mem_append_right _ (mem_pinsAt hb e)))).1, fun b hb => ?_, w7⟩
      obtain ⟨o, e, d⟩ := T.obj _ _ st5 b hb
      exact (I7.pin (b, o) (List.mem_append_right _ (List.mem_append_right _ (mem_pinsAt hb e)))).2.1
    cases f with
    | next => obtain ⟨σ7, H7, I7, n7⟩ := q7; exact again I7 n7
    | cont => obtain ⟨σ7, H7, I7, n7⟩ := q7; exact again I7 n7
    | brk => obtain ⟨σ7, H7, I7, q7⟩ := q7; exact ⟨σ7, H7, I7.unpinned, q7⟩
    | ret v => obtain ⟨x7, σ7, H7, I7, r7, q7⟩ := q7; exact ⟨x7, σ7, H7, I7.unpinned, r7, q7⟩
end
theorem for_list {K : PySem.W.Frag} {a : Addr} {xs : List V} {g : TG} {tb : TS} {D : Ends} {σ : St} {H : Hp} (Pv : Nat → St → Hp → Prop) (h0 : Pv 0 σ H) (hl : ∀ i σ H, i ≤ xs.length → Pv i σ H → SqL K H a xs)
    (hs : ∀ i x σ H, xs[i]? = some x → Pv i σ H → g x σ H fun σ2 H2 => tb { D with nx := Pv (i + 1), ct := Pv (i + 1), bk := D.nx } σ2 H2) (hd : ∀ σ H, Pv xs.length σ H → D.nx σ H) :
    ∃ W : Nat → Nat → St → Hp → Prop, (∃ m, W 0 m σ H) ∧ ∀ i m σ H, W i m σ H →
      ((Itl K a).stop i H ∧ D.nx σ H) ∨ ((Itl K a).go i H ∧ ∃ N : St → Hp → Prop, (∀ σ' H', N σ' H' → ∃ m', m' < m ∧ W (i + 1) m' σ' H') ∧ ∀ x H', (Itl K a).yld i H x H' → g x σ H' fun σ2 H2 => tb { D with nx := N, ct := N, bk := D.nx } σ2 H2) := by
  refine ⟨fun i m σ H => m = xs.length - i ∧ i ≤ xs.length ∧ Pv i σ H, ⟨xs.length, by simp, Nat.zero_le _, h0⟩, ?_⟩
  rintro i m σ H ⟨rfl, hi, p⟩
  have q := hl i σ H hi p
  by_cases hlt : i < xs.length
  · refine .inr ⟨⟨xs, xs[i], q, by simp [hlt]⟩, Pv (i + 1), fun σ' H' p' => ⟨xs.length - (i + 1), by omega, rfl, hlt, p'⟩, fun x H' y => ?_⟩
    obtain ⟨e, y⟩ := y
    subst e
    exact hs i x σ _ (y xs q) p
  · have e : i = xs.length := by omega
    subst e
    exact .inl ⟨⟨xs, q, Nat.le_refl _⟩, hd σ H p⟩
theorem for_range {lo : Int} {n : Nat} {g : TG} {tb : TS} {D : Ends} {σ : St} {H : Hp} (Pv : Nat → St → Hp → Prop) (h0 : Pv 0 σ H)
    (hs : ∀ i σ H, i < n → Pv i σ H → g (.int (lo + i)) σ H fun σ2 H2 => tb { D with nx := Pv (i + 1), ct := Pv (i + 1), bk := D.nx } σ2 H2) (hd : ∀ σ H, Pv n σ H → D.nx σ H) :
    ∃ W : Nat → Nat → St → Hp → Prop, (∃ m, W 0 m σ H) ∧ ∀ i m σ H, W i m σ H →
      ((Itr lo n).stop i H ∧ D.nx σ H) ∨ ((Itr lo n).go i H ∧ ∃ N : St → Hp → Prop, (∀ σ' H', N σ' H' → ∃ m', m' < m ∧ W (i + 1) m' σ' H') ∧ ∀ x H', (Itr lo n).yld i H x H' → g x σ H' fun σ2 H2 => tb { D with nx := N, ct := N, bk := D.nx } σ2 H2) := by
  refine ⟨fun i m σ H => m = n - i ∧ i ≤ n ∧ Pv i σ H, ⟨n, by simp, Nat.zero_le _, h0⟩, ?_⟩
  rintro i m σ H ⟨rfl, hi, p⟩
  by_cases hlt : i < n
  · refine .inr ⟨hlt, Pv (i + 1), fun σ' H' p' => ⟨n - (i + 1), by omega, rfl, hlt, p'⟩, fun x H' y => ?_⟩
    obtain ⟨e, y⟩ := y
    subst e y
    exact hs i σ _ hlt p
  · have e : i = n := by omega
    subst e
    exact .inl ⟨Nat.le_refl _, hd σ H p⟩
theorem while_by {c : TT} {tb : TS} {D : Ends} {σ : St} {H : Hp} (Pv : St → Hp → Prop) (μ : St → Hp → Nat) (h0 : Pv σ H)
    (hs : ∀ σ H, Pv σ H → c σ H fun b H1 => if b = true then tb { D with nx := fun σ' H' => Pv σ' H' ∧ μ σ' H' < μ σ H, ct := fun σ' H' => Pv σ' H' ∧ μ σ' H' < μ σ H, bk := D.nx } σ H1 else D.nx σ H1)
    (mono : ∀ σ H Q Q', (∀ b H1, Q b H1 → Q' b H1) → c σ H Q → c σ H Q') : tWhile c tb D σ H := by
  refine ⟨fun m σ H => m = μ σ H ∧ Pv σ H, ⟨_, rfl, h0⟩, ?_⟩
  rintro m σ H ⟨rfl, p⟩
  refine mono σ H _ _ (fun b H1 q => ?_) (hs σ H p)
  cases b with
  | true => exact ⟨_, fun σ' H' ⟨p', l⟩ => ⟨_, l, rfl, p'⟩, q⟩
  | false => exact q
end L2
namespace L2
open PySem PySem.Spec PyProof.Rows
noncomputable abbrev R2 := V → V → Hp → VK → Prop
noncomputable def OpR (X : Cx) (f : Value → Value → Sem Value) (r : R2) : Prop :=
  ∀ (pins : List (Addr × Obj)) (s : Shared) (σ : St) (H : Hp) (x y : V) (v u : Value) (Q : VK), Inv X pins σ H s → RelV x v → RelV y u → r x y H Q →
    wpAny (model X.prog X.w) X.A (f v u) (EP X pins σ Q) X.xe s
noncomputable def UnR (X : Cx) (f : Value → Sem Value) (r : V → Hp → VK → Prop) : Prop :=
  ∀ (pins : List (Addr × Obj)) (s : Shared) (σ : St) (H : Hp) (x : V) (v : Value) (Q : VK), Inv X pins σ H s → RelV x v → r x H Q →
    wpAny (model X.prog X.w) X.A (f v) (EP X pins σ Q) X.xe s
noncomputable def CallR (X : Cx) (f : Value) (r : List V → Hp → VK → Prop) : Prop :=
  ∀ (pins : List (Addr × Obj)) (s : Shared) (σ : St) (H : Hp) (xs : List V) (us : List Value) (Q : VK), Inv X pins σ H s → Vals xs us → r xs H Q →
    wpAny (model X.prog X.w) X.A (call f us) (EP X pins σ Q) X.xe s
noncomputable def tOp (r : R2) (ta tb : TE) : TE := fun σ H Q => ta σ H fun x H1 => tb σ H1 fun y H2 => r x y H2 Q
noncomputable def tUn (r : V → Hp → VK → Prop) (ta : TE) : TE := fun σ H Q => ta σ H fun x H1 => r x H1 Q
noncomputable def rI (C : Int → Int → Prop) (g : Int → Int → V) : R2 := fun x y H Q => ∃ i j, x = .int i ∧ y = .int j ∧ C i j ∧ Q (g i j) H
noncomputable def rI0 (g : Int → Int → V) : R2 := fun x y H Q => ∃ i j, x = .int i ∧ y = .int j ∧ Q (g i j) H
noncomputable def rU (g : Int → V) : V → Hp → VK → Prop := fun x H Q => ∃ i, x = .int i ∧ Q (g i) H
section
variable {X : Cx} {a b c : Expr} {ta tb tc : TE} {pos : Pos}
theorem binT (ha : PE X a ta) (hb : PE X b tb) {pins : List (Addr × Obj)} {s : Shared} {σ : St} {H : Hp} {R : V → V → Hp → Prop} (I : Inv X pins σ H s)
    (h : ta σ H fun x H1 => tb σ H1 fun y H2 => R x y H2) {Q : Value → Shared → Prop} {f : Value → Value → Sem Value}
    (hf : ∀ v u s2 x y H2, Inv X pins σ H2 s2 → RelV x v → RelV y u → R x y H2 → wpAny (model X.prog X.w) X.A (f v u) Q X.xe s2) :
    wpAny (model X.prog X.w) X.A (eval a X.env) (fun v s₁ => wpAny (model X.prog X.w) X.A (eval b X.env) (fun u s₂ => wpAny (model X.prog X.w) X.A (f v u) Q X.xe s₂) X.xe s₁) X.xe s := by
  refine thn (ha pins s σ H _ I h) fun v s1 ⟨x, H1, I1, r1, q1⟩ => ?_
  refine thn (hb pins s1 σ H1 _ I1 q1) fun u s2 ⟨y, H2, I2, r2, q2⟩ => ?_
  exact hf v u s2 x y H2 I2 r1 r2 q2
theorem pe_op {op : Operator} {r : R2} (ho : OpR X (binaryOp op) r) (ha : PE X a ta) (hb : PE X b tb) : PE X (.BinOp a op b pos) (tOp r ta tb) := by
  intro pins s σ H Q I h
  exact wpAny_BinOp (binT ha hb I h fun v u s2 x y H2 I2 rx ry q => ho pins s2 σ H2 x y v u Q I2 rx ry q)
theorem pe_un {op : UnaryOp} {r : V → Hp → VK → Prop} (ho : UnR X (unaryOp op) r) (ha : PE X a ta) : PE X (.UnaryOp op a pos) (tUn r ta) := by
  intro pins s σ H Q I h
  exact UnaryOp_ (thn (ha pins s σ H _ I h) fun v s1 ⟨x, H1, I1, r1, q1⟩ => ho pins s1 σ H1 x v Q I1 r1 q1)
theorem opI {f : Value → Value → Sem Value} {C : Int → Int → Prop} {g : Int → Int → Int}
    (rule : ∀ (i j : Int) (t u : Tok) (s : Shared) (Q : Value → Shared → Prop) (E : Value → Shared → Prop), C i j → Q (.int (g i j) s.toks) { s with toks := s.toks + 1 } → wpAny (model X.prog X.w) X.A (f (.int i t) (.int j u)) Q E s) :
    OpR X f (rI C fun i j => .int (g i j)) := by
  intro pins s σ H x y v u Q I rx ry h
  obtain ⟨i, j, rfl, rfl, hc, q⟩ := h
  obtain ⟨t, rfl⟩ := rx
  obtain ⟨t', rfl⟩ := ry
  exact rule i j t t' s _ _ hc ⟨.int (g i j), H, I.tok _, ⟨_, rfl⟩, q⟩
theorem opI0 {f : Value → Value → Sem Value} {g : Int → Int → Int}
    (rule : ∀ (i j : Int) (t u : Tok) (s : Shared) (Q : Value → Shared → Prop) (E : Value → Shared → Prop), Q (.int (g i j) s.toks) { s with toks := s.toks + 1 } → wpAny (model X.prog X.w) X.A (f (.int i t) (.int j u)) Q E s) :
    OpR X f (rI0 fun i j => .int (g i j)) := by
  intro pins s σ H x y v u Q I rx ry h
  obtain ⟨i, j, rfl, rfl, q⟩ := h
  obtain ⟨t, rfl⟩ := rx
  obtain ⟨t', rfl⟩ := ry
  exact rule i j t t' s _ _ ⟨.int (g i j), H, I.tok _, ⟨_, rfl⟩, q⟩
theorem opB0 {f : Value → Value → Sem Value} {g : Int → Int → Bool}
    (rule : ∀ (i j : Int) (t u : Tok) (s : Shared) (Q : Value → Shared → Prop) (E : Value → Shared → Prop), Q (.bool (g i j)) s → wpAny (model X.prog X.w) X.A (f (.int i t) (.int j u)) Q E s) :
    OpR X f (rI0 fun i j => .bl (g i j)) := by
  intro pins s σ H x y v u Q I rx ry h
  obtain ⟨i, j, rfl, rfl, q⟩ := h
  obtain ⟨t, rfl⟩ := rx
  obtain ⟨t', rfl⟩ := ry
  exact rule i j t t' s _ _ ⟨.bl (g i j), H, I, rfl, q⟩
noncomputable def CPow (i j : Int) : Prop := 0 ≤ j ∧ j ≤ 1000000 ∧ i.natAbs < 2 ^ 64
noncomputable def CMul (i j : Int) : Prop := (-(2 ^ 64) < i ∧ i < 2 ^ 64) ∨ (-(2 ^ 64) < j ∧ j < 2 ^ 64)
theorem CMul.ok {i j : Int} (h : CMul i j) : IntMulOk i j := by
  rcases h with ⟨h1, h2⟩ | ⟨h1, h2⟩
  · exact .of_left (intBits_le_64 h1 h2)
  · exact .of_right (intBits_le_64 h1 h2)
theorem op_add : OpR X (binaryOp .Add) (rI0 fun i j => .int (i + j)) := opI0 fun _ _ _ _ _ _ _ q => add_int q
theorem op_sub : OpR X (binaryOp .Sub) (rI0 fun i j => .int (i - j)) := opI0 fun _ _ _ _ _ _ _ q => sub_int q
theorem op_mod : OpR X (binaryOp .Mod) (rI (fun _ j => 0 < j) fun i j => .int (i % j)) := opI fun i j _ _ _ _ _ hc q => by
  have h1 : (0 : Int) < j := hc
  exact mod_int' (by omega) (by rw [Int.fmod_eq_emod_of_nonneg i (by omega)]; exact q)
theorem op_pow : OpR X (binaryOp .Pow) (rI CPow fun i j => .int (i ^ j.toNat)) := opI fun _ _ _ _ _ _ _ hc q => pow_int_small hc.1 hc.2.1 hc.2.2 q
theorem unI {f : Value → Sem Value} {g : Int → Int}
    (rule : ∀ (i : Int) (t : Tok) (s : Shared) (Q : Value → Shared → Prop) (E : Value → Shared → Prop), Q (.int (g i) s.toks) { s with toks := s.toks + 1 } → wpAny (model X.prog X.w) X.A (f (.int i t)) Q E s) :
    UnR X f (rU fun i => .int (g i)) := by
  intro pins s σ H x v Q I rx h
  obtain ⟨i, rfl, q⟩ := h
  obtain ⟨t, rfl⟩ := rx
  exact rule i t s _ _ ⟨.int (g i), H, I.tok _, ⟨_, rfl⟩, q⟩
theorem un_neg : UnR X (unaryOp .USub) (rU fun i => .int (-i)) := unI fun _ _ _ _ _ q => neg_int q
end
noncomputable def scal : V → V → Bool
  | .non, .non => true | .non, .int _ => true | .int _, .non => true | .non, .bl _ => true | .bl _, .non => true | .non, .str _ => true | .str _, .non => true
  | .int _, .int _ => true | .bl _, .bl _ => true | .str _, .str _ => true | .byt _, .byt _ => true
  | .int _, .str _ => true | .str _, .int _ => true | .bl _, .str _ => true | .str _, .bl _ => true
  | _, _ => false
noncomputable def rEq : R2 := fun x y H Q => scal x y = true ∧ Q (.bl (decide (x = y))) H
noncomputable def rNe : R2 := fun x y H Q => scal x y = true ∧ Q (.bl (!decide (x = y))) H
theorem dec_int {i j : Int} : decide (V.int i = V.int j) = (i == j) := by
  rw [Bool.eq_iff_iff]
  simp
theorem dec_bl {i j : Bool} : decide (V.bl i = V.bl j) = (i == j) := by
  rw [Bool.eq_iff_iff]
  simp
theorem dec_str {i j : Str} : decide (V.str i = V.str j) = (i == j) := by
  rw [Bool.eq_iff_iff]
  simp
theorem dec_byt {i j : Array UInt8} : decide (V.byt i = V.byt j) = (i.toList == j.toList) := by
  rw [Bool.eq_iff_iff]
  cases i
  cases j
  simp
section
variable {X : Cx} {a b c : Expr} {ta tb tc : TE} {pos : Pos}
theorem fin_bl {pins : List (Addr × Obj)} {σ : St} {H : Hp} {s : Shared} {Q : VK} {k k' : Bool} (I : Inv X pins σ H s) (q : Q (.bl k) H) (e : k = k') : EP X pins σ Q (.bool k') s := by
  subst e
  exact ⟨.bl k, H, I, rfl, q⟩
theorem op_eq : OpR X (compareOp .Eq) rEq := by
  intro pins s σ H x y v u Q I rx ry h
  obtain ⟨hs, q⟩ := h
  cases x with
  | non =>
    cases rx
    cases y with
    | non => cases ry; exact PySem.EqNone.eq_none_none (fin_bl I q (by simp))
    | bl j => cases ry; exact PySem.EqNone.eq_none_bool (fin_bl I q (by simp))
    | int j => obtain ⟨t', rfl⟩ := ry; exact PySem.EqNone.eq_none_int (fin_bl I q (by simp))
    | str j => obtain ⟨t', rfl⟩ := ry; exact PySem.EqNone.eq_none_str (fin_bl I q (by simp))
    | _ => exact absurd (show false = true from hs) Bool.false_ne_true
  | bl i =>
    cases rx
    cases y with
    | non => cases ry; exact PySem.EqNone.eq_bool_none (fin_bl I q (by simp))
    | bl j => cases ry; exact eq_bool (fin_bl I q dec_bl)
    | str j => obtain ⟨t', rfl⟩ := ry; exact PySem.EqMixed.eq_bool_str (fin_bl I q (by simp))
    | _ => exact absurd (show false = true from hs) Bool.false_ne_true
  | int i =>
    obtain ⟨t, rfl⟩ := rx
    cases y with
    | non => cases ry; exact PySem.EqNone.eq_int_none (fin_bl I q (by simp))
    | int j => obtain ⟨t', rfl⟩ := ry; exact eq_int (fin_bl I q dec_int)
    | str j => obtain ⟨t', rfl⟩ := ry; exact PySem.EqMixed.eq_int_str (fin_bl I q (by simp))
    | _ => exact absurd (show false = true from hs) Bool.false_ne_true
  | str i =>
    obtain ⟨t, rfl⟩ := rx
    cases y with
    | non => cases ry; exact PySem.EqNone.eq_str_none (fin_bl I q (by simp))
    | bl j => cases ry; exact PySem.EqMixed.eq_str_bool (fin_bl I q (by simp))
    | int j => obtain ⟨t', rfl⟩ := ry; exact PySem.EqMixed.eq_str_int (fin_bl I q (by simp))
    | str j => obtain ⟨t', rfl⟩ := ry; exact eq_str (fin_bl I q dec_str)
    | _ => exact absurd (show false = true from hs) Bool.false_ne_true
  | byt i =>
    obtain ⟨t, rfl⟩ := rx
    cases y with
    | byt j => obtain ⟨t', rfl⟩ := ry; exact PySem.W.eq_bytes (fin_bl I q dec_byt)
    | _ => exact absurd (show false = true from hs) Bool.false_ne_true
  | _ => cases y <;> exact absurd (show false = true from hs) Bool.false_ne_true
theorem op_ne : OpR X (compareOp .NotEq) rNe := by
  intro pins s σ H x y v u Q I rx ry h
  obtain ⟨hs, q⟩ := h
  cases x with
  | non =>
    cases rx
    cases y with
    | non => cases ry; exact PySem.EqNone.ne_none_none (fin_bl I q (by simp))
    | bl j => cases ry; exact PySem.EqNone.ne_none_bool (fin_bl I q (by simp))
    | int j => obtain ⟨t', rfl⟩ := ry; exact PySem.EqNone.ne_none_int (fin_bl I q (by simp))
    | str j => obtain ⟨t', rfl⟩ := ry; exact PySem.EqNone.ne_none_str (fin_bl I q (by simp))
    | _ => exact absurd (show false = true from hs) Bool.false_ne_true
  | bl i =>
    cases rx
    cases y with
    | non => cases ry; exact PySem.EqNone.ne_bool_none (fin_bl I q (by simp))
    | bl j => cases ry; exact ne_bool (fin_bl I q (congrArg not dec_bl))
    | str j => obtain ⟨t', rfl⟩ := ry; exact PySem.EqMixed.ne_bool_str (fin_bl I q (by simp))
    | _ => exact absurd (show false = true from hs) Bool.false_ne_true
  | int i =>
    obtain ⟨t, rfl⟩ := rx
    cases y with
    | non => cases ry; exact PySem.EqNone.ne_int_none (fin_bl I q (by simp))
    | int j => obtain ⟨t', rfl⟩ := ry; exact ne_int (fin_bl I q (congrArg not dec_int))
    | str j => obtain ⟨t', rfl⟩ := ry; exact PySem.EqMixed.ne_int_str (fin_bl I q (by simp))
    | _ => exact absurd (show false = true from hs) Bool.false_ne_true
  | str i =>
    obtain ⟨t, rfl⟩ := rx
    cases y with
    | non => cases ry; exact PySem.EqNone.ne_str_none (fin_bl I q (by simp))
    | bl j => cases ry; exact PySem.EqMixed.ne_str_bool (fin_bl I q (by simp))
    | int j => obtain ⟨t', rfl⟩ := ry; exact PySem.EqMixed.ne_str_int (fin_bl I q (by simp))
    | str j => obtain ⟨t', rfl⟩ := ry; exact ne_str (fin_bl I q (congrArg not dec_str))
    | _ => exact absurd (show false = true from hs) Bool.false_ne_true
  | byt i =>
    obtain ⟨t, rfl⟩ := rx
    cases y with
    | byt j => obtain ⟨t', rfl⟩ := ry; exact PySem.W.ne_bytes (fin_bl I q (congrArg not dec_byt))
    | _ => exact absurd (show false = true from hs) Bool.false_ne_true
  | _ => cases y <;> exact absurd (show false = true from hs) Bool.false_ne_true
theorem op_lt : OpR X (compareOp .Lt) (rI0 fun i j => .bl (decide (i < j))) := opB0 fun _ _ _ _ _ _ _ q => lt_int q
theorem op_le : OpR X (compareOp .LtE) (rI0 fun i j => .bl (decide (i ≤ j))) := opB0 fun _ _ _ _ _ _ _ q => le_int q
theorem op_gt : OpR X (compareOp .Gt) (rI0 fun i j => .bl (decide (j < i))) := opB0 fun _ _ _ _ _ _ _ q => gt_int q
theorem op_ge : OpR X (compareOp .GtE) (rI0 fun i j => .bl (decide (j ≤ i))) := opB0 fun _ _ _ _ _ _ _ q => ge_int q
theorem op_isN : OpR X (compareOp .Is) (fun x y H Q => y = .non ∧ Q (.bl (decide (x = .non))) H) := by
  intro pins s σ H x y v u Q I rx ry h
  obtain ⟨rfl, q⟩ := h
  cases ry
  refine is_none_gen (fin_bl I q ?_)
  cases x <;> first
    | (cases rx; rfl)
    | (obtain ⟨t, rfl⟩ := rx; rfl)
theorem nomark (b : Expr) {op : CmpOp} (h : op ≠ .In := by decide) (h2 : op ≠ .NotIn := by decide) : behindInMarks op b = false := by
  have e1 : (op == CmpOp.In) = false := by cases op <;> first | rfl | exact absurd rfl h
  have e2 : (op == CmpOp.NotIn) = false := by cases op <;> first | rfl | exact absurd rfl h2
  cases b <;> simp [behindInMarks, e1, e2]
theorem pe_cmpR {op : CmpOp} {r : R2} (ho : OpR X (compareOp op) r) (ha : PE X a ta) (hb : PE X b tb) (hm : behindInMarks op b = false) : PE X (.Compare a [op] [b] pos) (tOp r ta tb) := by
  intro pins s σ H Q I h
  exact wpAny_Compare1 (binT ha hb I h fun v u s2 x y H2 I2 rx ry q => ho pins s2 σ H2 x y v u Q I2 rx ry q) hm
noncomputable def tTest (t : TE) : TT := fun σ H Q => t σ H fun x H' => ∃ k, x = .bl k ∧ Q k H'
theorem pt_cmpR {op : CmpOp} {r : R2} (ho : OpR X (compareOp op) r) (ha : PE X a ta) (hb : PE X b tb) (hm : behindInMarks op b = false) : PT X (.Compare a [op] [b] pos) (tTest (tOp r ta tb)) := by
  intro pins s σ H Q I h
  refine wpAny_isTrue_Compare1 (thn (ha pins s σ H _ I h) fun v s1 ⟨x, H1, I1, r1, q1⟩ => thn (hb pins s1 σ H1 _ I1 q1) fun u s2 ⟨y, H2, I2, r2, q2⟩ =>
    thn (ho pins s2 σ H2 x y v u _ I2 r1 r2 q2) fun c s3 ⟨z, H3, I3, r3, k, e, q3⟩ => ?_) hm
  subst e
  cases r3
  exact wpAny_truthy_bool ⟨H3, I3, q3⟩
theorem line63 : (sizeLine : Nat) < 2 ^ 63 := by rw [sizeLine_eq]; decide
theorem vals1 {x : V} {us : List Value} (r : Vals [x] us) : ∃ u, us = [u] ∧ RelV x u := by
  cases r with
  | cons r1 r2 => cases r2; exact ⟨_, rfl, r1⟩
theorem vals2 {x y : V} {us : List Value} (r : Vals [x, y] us) : ∃ u w', us = [u, w'] ∧ RelV x u ∧ RelV y w' := by
  cases r with
  | cons r1 r2 =>
    cases r2 with
    | cons r3 r4 => cases r4; exact ⟨_, _, rfl, r1, r3⟩
theorem call_max2 (hc : X.calm = true) : CallR X (.builtin "max") (fun xs H Q => ∃ i j, xs = [.int i, .int j] ∧ Q (.int (if j > i then j else i)) H) := by
  intro pins s σ H xs us Q I r h
  obtain ⟨i, j, rfl, q⟩ := h
  obtain ⟨u, w', rfl, ⟨t, rfl⟩, ⟨t', rfl⟩⟩ := vals2 r
  refine max_two_ints (I.ok.hd hc) fun h' tk k => ⟨_, H, I.kept k, ?_, q⟩
  by_cases hj : j > i
  · rw [if_pos hj, if_pos hj]; exact ⟨_, rfl⟩
  · rw [if_neg hj, if_neg hj]; exact ⟨_, rfl⟩
theorem call_min2 (hc : X.calm = true) : CallR X (.builtin "min") (fun xs H Q => ∃ i j, xs = [.int i, .int j] ∧ Q (.int (if j < i then j else i)) H) := by
  intro pins s σ H xs us Q I r h
  obtain ⟨i, j, rfl, q⟩ := h
  obtain ⟨u, w', rfl, ⟨t, rfl⟩, ⟨t', rfl⟩⟩ := vals2 r
  refine min_two_ints (I.ok.hd hc) fun h' tk k => ⟨_, H, I.kept k, ?_, q⟩
  by_cases hj : j < i
  · rw [if_pos hj, if_pos hj]; exact ⟨_, rfl⟩
  · rw [if_neg hj, if_neg hj]; exact ⟨_, rfl⟩
theorem call_int1 : CallR X (.type "int") (fun xs H Q => (∃ i, xs = [.int i] ∧ Q (.int i) H) ∨ ∃ k, xs = [.bl k] ∧ Q (.int (if k then 1 else 0)) H) := by
  intro pins s σ H xs us Q I r h
  rcases h with ⟨i, rfl, q⟩ | ⟨k, rfl, q⟩
  · obtain ⟨u, rfl, t, rfl⟩ := vals1 r
    exact call_int_int ⟨.int i, H, I, ⟨_, rfl⟩, q⟩
  · obtain ⟨u, rfl, r1⟩ := vals1 r
    cases r1
    exact call_int_bool ⟨.int (if k then 1 else 0), H, I.tok _, ⟨_, rfl⟩, q⟩
end
end L2
namespace L2
open PySem PySem.Spec PyProof.Rows
structure ObjM (h : Heap) (x dx C : Addr) (mA : Str → Option Value) : Prop where
  obj : h.get? x = some (PySem.W.instObj C dx)
  ns : h.Ns1 dx mA
  ne : dx ≠ x
theorem lookIn_ns {h : Heap} {dx : Addr} {mA : Str → Option Value} (n : h.Ns1 dx mA) : ∃ od, h.get? dx = some od ∧ ∀ name, PySem.W.lookIn name od = some (mA name) := by
  obtain ⟨o, es, ep, ho, hd, hk, _, hm⟩ := n
  refine ⟨o, ho, fun name => ?_⟩
  have e := hm name
  unfold nsFind findBy at e
  rw [← Array.find?_toList] at e
  unfold PySem.W.lookIn
  rw [hd]
  dsimp only
  split
  · rename_i y q
    rw [q] at e
    exact congrArg some e
  · rename_i q
    rw [q] at e
    have a : es.toList.any (·.refKey) = false := by
      rw [List.any_eq_false]
      intro y hy
      obtain ⟨z, t, hkey⟩ := hk y (Array.mem_toList_iff.mp hy)
      simp [DictEntry.refKey, hkey]
    have a' : ¬ es.toList.any (·.refKey) = true := by rw [a]; exact Bool.false_ne_true
    rw [if_neg a']
    exact congrArg some e
theorem ObjM.look {h : Heap} {x dx C : Addr} {mA : Str → Option Value} (I : ObjM h x dx C mA) : ∃ od, PySem.W.InstAt h x (PySem.W.instObj C dx) C (some od) ∧ ∀ name, PySem.W.lookIn name od = some (mA name) :=
  let ⟨od, ho, hl⟩ := lookIn_ns I.ns
  ⟨od, ⟨I.obj, rfl, rfl, ho⟩, hl⟩
section
variable {prog : Program} {w : World} {A : Around} {E : Value → Shared → Prop} {s : Shared} {K : PySem.W.Frag} {x dx C f : Addr} {mA : Str → Option Value} {name : Str} {v : Value}
end
theorem RelO.none_of {o : Option Value} (r : RelO none o) : o = none := by
  cases o with
  | none => rfl
  | some u => exact (show False from r).elim
section
variable {P : Program} {w : World} {H H' : Hp} {h h' : Heap} {a C dx : Addr} {fs fs' : List (Str × V)}
theorem ins_get (hok : HOk P w H h) (e : H a = some (.ins C dx fs)) : ∃ mA, ObjM h a dx C mA ∧ (∀ f, RelO (fs.lookup f) (mA f)) ∧ PySem.Within mA (fs.map (·.1)) ∧ fs.length ≤ 1000 ∧ H dx = some (.own a) := by
  obtain ⟨d, z, ne, ob, mA, n, r, q⟩ := (show ObjOk P w H h a (.ins C dx fs) from hok a _ e)
  exact ⟨mA, ⟨ob, n, ne⟩, r, q, z, d⟩
end
structure Cls (K : PySem.W.Frag) (C : Addr) : Prop where
  pg : PySem.W.plainGet K C Str.empty = true
  hd : PySem.W.hasDictIn K C = true
  po : PySem.W.plainOver K C = true
  sa : PySem.W.findIn K (.ref C) "__setattr__" = some (some (.builtin "object.__setattr__"))
theorem Cls.get {K : PySem.W.Frag} {C : Addr} (c : Cls K C) (f : Str) : PySem.W.plainGet K C f = true := c.pg
section
variable {X : Cx} {pins : List (Addr × Obj)} {σ : St} {H : Hp} {s : Shared} {a C dx : Addr} {fs : List (Str × V)} {f : Str} {v : V} {A : Around} {E : Value → Shared → Prop}
end
section
variable {X : Cx} {o e value : Expr} {f : Str} {pos pos' tpos : Pos} {ta tv : TE}
end
section
variable {X : Cx} {pins : List (Addr × Obj)} {σ : St} {H : Hp} {s : Shared} {A : Around} {E : Value → Shared → Prop} {Q : Value → Shared → Prop} {c : Value} {b : Bool}
inductive TyOf (K : PySem.W.Frag) (H : Hp) : V → Value → Prop where
  | non : TyOf K H .non (.type "NoneType")
  | bl (x : Bool) : TyOf K H (.bl x) (.type "bool")
  | int (i : Int) : TyOf K H (.int i) (.type "int")
  | str (x : Str) : TyOf K H (.str x) (.type "str")
  | flt (x : UInt64) : TyOf K H (.flt x) (.type "float")
  | lst {a : Addr} {xs : List V} (e : H a = some (.lst xs)) : TyOf K H (.ref a) (.type "list")
  | frz {a : Addr} {o : Obj} {xs : List V} (e : H a = some (.frz o (.lst xs))) : TyOf K H (.ref a) (.type "list")
  | tup {a : Addr} {xs : List V} (e : H a = some (.tup xs)) : TyOf K H (.ref a) (.type "tuple")
  | dK {a : Addr} {kvs : List (Key × V)} (e : H a = some (.dK kvs)) : TyOf K H (.ref a) (.type "dict")
  | dT {a : Addr} {kvs : List (List Key × V)} (e : H a = some (.dT kvs)) : TyOf K H (.ref a) (.type "dict")
  | ins {a C dx : Addr} {fs : List (Str × V)} (e : H a = some (.ins C dx fs)) (cl : Cls K C) (ha : PySem.W.findIn K (.ref C) "__class__" = some (some (.builtin "object.__class__")))
      (hn : PySem.W.specialIn K (.builtin "object.__class__") "__get__" = some (some (.builtin "getset_descriptor.__get__"))) (htk : PySem.W.takesIn K (.builtin "object.__class__") = some true)
      (hm : PySem.W.mroIn K C (.type "object") = some true) : TyOf K H (.ref a) (.ref C)
theorem isinst_ok {x : V} {u t : Value} (I : Inv X pins σ H s) (rx : RelV x u) (ty : TyOf X.K H x t) (e : PySem.W.kitOne X.K t c = some b) (h : ∀ tk, Q (.bool b) { s with toks := tk }) :
    wpAny (model X.prog X.w) A (call (.builtin "isinstance") [u, c]) Q E s := by
  cases ty with
  | non => cases (show u = Value.none from rx); exact PySem.W.kia_one PySem.W.kitx_none I.kIn True.intro e (fun z => nomatch z) h
  | bl y => cases (show u = Value.bool y from rx); exact PySem.W.kia_one PySem.W.kitx_bool I.kIn True.intro e (fun z => nomatch z) h
  | int i => obtain ⟨t, q⟩ := (show ∃ t, u = Value.int i t from rx); cases q; exact PySem.W.kia_one PySem.W.kitx_int I.kIn True.intro e (fun z => nomatch z) h
  | str y => obtain ⟨t, q⟩ := (show ∃ t, u = Value.str y t from rx); cases q; exact PySem.W.kia_one PySem.W.kitx_str I.kIn True.intro e (fun z => nomatch z) h
  | flt y => obtain ⟨t, q⟩ := (show ∃ t, u = Value.float y t from rx); cases q; exact PySem.W.kia_one PySem.W.kitx_float I.kIn True.intro e (fun z => nomatch z) h
  | @lst a xs ea =>
    cases (show u = Value.ref a from rx)
    obtain ⟨_, _, n, _, h1⟩ := (show ObjOk X.prog X.w H s.heap a (.lst xs) from I.hok a _ ea)
    exact PySem.W.kia_one PySem.W.kitx_list I.kIn ⟨_, h1, rfl⟩ e (fun z => nomatch z) h
  | @frz a ob xs ea =>
    cases (show u = Value.ref a from rx)
    obtain ⟨_, _, _, n, _, h1⟩ := (show ObjOk X.prog X.w H s.heap a (.frz ob (.lst xs)) from I.hok a _ ea)
    exact PySem.W.kia_one PySem.W.kitx_list I.kIn ⟨_, h1, rfl⟩ e (fun z => nomatch z) h
  | @tup a xs ea =>
    cases (show u = Value.ref a from rx)
    obtain ⟨_, _, _, p⟩ := (show ObjOk X.prog X.w H s.heap a (.tup xs) from I.hok a _ ea)
    obtain ⟨o, h1, h2, _⟩ := p
    exact PySem.W.kia_one PySem.W.kitx_tuple I.kIn ⟨o, h1, h2⟩ e (fun z => nomatch z) h
  | @dK a kvs ea =>
    cases (show u = Value.ref a from rx)
    obtain ⟨_, _, vs, _, p⟩ := (show ObjOk X.prog X.w H s.heap a (.dK kvs) from I.hok a _ ea)
    obtain ⟨o, es, ep, h1, h2, _⟩ := p
    exact PySem.W.kia_one PySem.W.kitx_dict I.kIn ⟨o, h1, h2.1⟩ e (fun z => nomatch z) h
  | @dT a kvs ea =>
    cases (show u = Value.ref a from rx)
    obtain ⟨_, _, xs, _, o, es, ep, h1, h2, _⟩ := (show ObjOk X.prog X.w H s.heap a (.dT kvs) from I.hok a _ ea)
    exact PySem.W.kia_one PySem.W.kitx_dict I.kIn ⟨o, h1, h2.1⟩ e (fun z => nomatch z) h
  | @ins a C dx fs ea cl ha hn htk hm =>
    cases (show u = Value.ref a from rx)
    obtain ⟨mA, O, _⟩ := ins_get I.hok ea
    obtain ⟨od, J, _⟩ := O.look
    exact PySem.W.kia_one (PySem.W.kitx_own (cl.get _) cl.hd ha hn htk hm) I.kIn J e (fun z => nomatch z) h
end
end L2
namespace L2
open PySem PySem.Spec PyProof.Rows
structure Room (k : Nat) (A : Around) : Prop where
  hd : A.handled = none
  dp : A.depth + 3 * k + 5 < recursionLimit
  un : A.units + 16 * k + 200 < cLine
theorem Room.mono {j k : Nat} {A : Around} (r : Room k A) (h : j ≤ k) : Room j A := ⟨r.hd, by have := r.dp; omega, by have := r.un; omega⟩
theorem Room.deeper {k : Nat} {A : Around} (r : Room (k + 1) A) (env : Env) : Room k (A.deeper env) :=
  ⟨r.hd, by have := r.dp; show A.depth + 1 + 3 * k + 5 < _; omega, by have := r.un; show A.units + 3 + 16 * k + 200 < _; omega⟩
theorem Room.in1 {k : Nat} {A : Around} (r : Room (k + 1) A) : Room k A.in1 :=
  ⟨r.hd, by have := r.dp; show A.depth + 3 * k + 5 < _; omega, by have := r.un; show A.units + 1 + 16 * k + 200 < _; omega⟩
theorem Room.depth {k : Nat} {A : Around} (r : Room k A) : A.depth < recursionLimit := by have := r.dp; omega
theorem Room.units {k : Nat} {A : Around} (r : Room k A) : A.units + 64 < cLine := by have := r.un; omega
theorem Room.units0 {k : Nat} {A : Around} (r : Room k A) : A.units < cLine := by have := r.un; omega
noncomputable def tNil : TA := fun _ H Q => Q [] H
noncomputable def tCons (ta : TE) (tr : TA) : TA := fun σ H Q => ta σ H fun x H1 => tr σ H1 fun xs H2 => Q (x :: xs) H2
section
variable {X : Cx} {e : Expr} {es : List Expr} {te : TE} {t : TA} {pos : Pos}
theorem pa_nil : PA X [] tNil := fun _ _ _ _ H Q I h => Calls.spliced_nil ⟨[], H, I, .nil, h⟩
theorem pa_cons (ha : PE X e te) (hr : PA X es t) (hs : starEach (e :: es) X.env = (false, eval e X.env) :: starEach es X.env := by rfl) : PA X (e :: es) (tCons te t) := by
  intro pos pins s σ H Q I h
  rw [hs]
  show wpAny _ _ (spliced ((false, eval e X.env) :: backTo pos (starEach es X.env))) _ _ s
  refine Calls.spliced_cons (thn (ha pins s σ H _ I h) fun u s1 ⟨x, H1, I1, r1, q1⟩ => ?_)
  exact thn (hr pos pins s1 σ H1 _ I1 q1) fun us s2 ⟨xs, H2, I2, r2, q2⟩ => ⟨x :: xs, H2, I2, .cons r1 r2, q2⟩
noncomputable def tTup (t : TA) : TE := fun σ H Q => t σ H fun xs H1 => xs.length ≤ sizeLine ∧ ∀ p, H1 p = none → Q (.ref p) (upd H1 p (.tup xs))
theorem pe_tup {x1} (h : PA X es t) : PE X (.Tuple es x1 pos) (tTup t) := by
  intro pins s σ H Q I hq
  refine wpAny_Tuple_spliced (thn (h pos pins s σ H _ I hq) fun us s1 ⟨xs, H1, I1, r, z, q⟩ => ⟨by rw [← r.length]; exact z, ?_⟩)
  have hf : H1 s1.heap.objs.size = none := I1.hok.fresh (Nat.le_refl _)
  refine ⟨.ref s1.heap.objs.size, upd H1 s1.heap.objs.size (.tup xs), I1.laid (t' := s1.toks) (fun b u e => Heap.get?_push_of_some _ e) (Nat.le_refl _) ?_, rfl, q _ hf⟩
  exact ⟨z, us, r, ⟨_, Heap.get?_push_size _ rfl, rfl, _, rfl⟩⟩
end
noncomputable abbrev Sp := List V → Hp → VK → XK → Prop
noncomputable abbrev CXT := List Env → Hp → Shared → XK → Value → Shared → Prop
structure Env0 (P : Program) (w : World) (K : PySem.W.Frag) (mg : Str → Option Value) (base : Heap) (A : Around) (outer : List Env) (s : Shared) (H : Hp) : Prop where
  frames : A.frames = some outer
  mod : Mod K mg base
  bs : ∀ b o, base.get? b = some o → s.heap.get? b = some o ∧ H b = none
  bsz : base.objs.size ≤ s.heap.objs.size
  funs : s.heap.FunFrames base outer
  frf : ∀ b ∈ frs outer, H b = none
  hok : HOk P w H s.heap
  bare : AllBare s.gens
noncomputable def CE (outer : List Env) (P : Program) (w : World) (H : Hp) (s : Shared) (Q : VK) (u : Value) (s' : Shared) : Prop :=
  ∃ v H', s'.os = s.os ∧ AllBare s'.gens ∧ Un (frs outer) [] H H' s.heap s'.heap ∧ HOk P w H' s'.heap ∧ RelV v u ∧ Q v H'
noncomputable def CR (CX : CXT) (outer : List Env) (P : Program) (w : World) (H : Hp) (s : Shared) (Q : VK) (E : XK) (r : Result) (s' : Shared) : Prop :=
  match r with
  | .ok (.ret u) => CE outer P w H s Q u s'
  | .ok _ => False
  | .error e => CX outer H s E e s'
structure FnOk (P : Program) (w : World) (K : PySem.W.Frag) (mg : Str → Option Value) (base : Heap) (CX : CXT) (k : Nat) (f : Addr) (fd : FuncData) (ps : List Str) (sp : Sp) : Prop where
  len : ∀ vs H Q E, sp vs H Q E → vs.length = ps.length
  run : ∀ (A : Around) (outer : List Env) (s : Shared) (H : Hp) (args : Args) (us : List Value) (vs : List V) (Q : VK) (E : XK), Room k A → Env0 P w K mg base A outer s H → BindsTo s fd args (ps.zip us) → Vals vs us → sp vs H Q E →
    codeAny (model P w) A (.call (.ref f) args) (CR CX outer P w H s Q E) s
theorem FnOk.mono {P : Program} {w : World} {K : PySem.W.Frag} {mg : Str → Option Value} {base : Heap} {CX : CXT} {j k : Nat} {f : Addr} {fd : FuncData} {ps : List Str} {sp : Sp} (F : FnOk P w K mg base CX j f fd ps sp) (h : j ≤ k) :
    FnOk P w K mg base CX k f fd ps sp := ⟨F.len, fun A outer s H args us vs Q E hr => F.run A outer s H args us vs Q E (hr.mono h)⟩
theorem Env0.in1 {P : Program} {w : World} {K : PySem.W.Frag} {mg : Str → Option Value} {base : Heap} {A : Around} {outer : List Env} {s : Shared} {H : Hp} (e : Env0 P w K mg base A outer s H) :
    Env0 P w K mg base A.in1 outer s H := ⟨e.frames, e.mod, e.bs, e.bsz, e.funs, e.frf, e.hok, e.bare⟩
section
variable {X : Cx} {pins : List (Addr × Obj)} {σ : St} {H : Hp} {s s' : Shared}
theorem Inv.env0 (I : Inv X pins σ H s) : Env0 X.prog X.w X.K X.mg X.base X.A X.stack s H :=
  ⟨I.ok.frames, I.ok.mod, I.bs, Nat.le_trans I.ok.bsz I.sz, I.stack, I.stkFree, I.hok, I.bare⟩
theorem Inv.after {Q : VK} {u : Value} (I : Inv X pins σ H s) (h : CE X.stack X.prog X.w H s Q u s') : EP X pins σ Q u s' := by
  obtain ⟨v, H', os, bare, un, hok, r, q⟩ := h
  obtain ⟨hh, g, d, t, os'⟩ := s'
  obtain rfl : os' = s.os := os
  exact ⟨v, H', I.call (h' := hh) (g' := g) (d' := d) (t' := t) (ch := []) un hok bare (fun b z => absurd z (by simp)), r, q⟩
end
noncomputable def tCall (sp : Sp) (dvs : List V) (E : XK) (t : TA) : TE := fun σ H Q => t σ H fun vs H1 => sp (vs ++ dvs) H1 Q E
noncomputable def Binds (K : PySem.W.Frag) (fd : FuncData) (ps : List Str) (ds : List Value) : Prop :=
  ∀ (s : Shared) (us : List Value), K.In s.heap → (us ++ ds).length = ps.length → BindsTo s fd ⟨us, []⟩ (ps.zip (us ++ ds))
theorem Binds.all {K : PySem.W.Frag} {fd : FuncData} {ps : List Str} (h : ∀ us : List Value, us.length = ps.length → bindArgs fd ⟨us, []⟩ = pure (ps.zip us)) : Binds K fd ps [] := fun s us _ hl => by
  rw [List.append_nil] at hl ⊢
  exact .of_eq (h us hl)
noncomputable def Passes (CX : CXT) (X : Cx) (E : XK) : Prop := ∀ (pins : List (Addr × Obj)) (σ : St) (H : Hp) (s : Shared) (e : Value) (s' : Shared), Inv X pins σ H s → CX X.stack H s E e s' → X.xe e s'
section
variable {X : Cx} {CX : CXT} {k : Nat} {f C : Addr} {fd : FuncData} {ps : List Str} {sp : Sp} {dvs : List V} {ds : List Value} {E : XK} {x m : Str} {p pos apos : Pos} {e o : Expr} {es : List Expr} {ta : TE} {t : TA}
theorem run_fn {pins : List (Addr × Obj)} {σ : St} {H : Hp} {s : Shared} {Q : VK} {us : List Value} {vs : List V} (F : FnOk X.prog X.w X.K X.mg X.base CX k f fd ps sp) (hr : Room k X.A) (hb : Binds X.K fd ps ds) (hd : Vals dvs ds) (hx : Passes CX X E)
    (I : Inv X pins σ H s) (r : Vals vs us) (h : sp (vs ++ dvs) H Q E) : wpAny (model X.prog X.w) X.A (call (.ref f) us) (EP X pins σ Q) X.xe s := by
  have r2 : Vals (vs ++ dvs) (us ++ ds) := r.append hd
  have hl : (us ++ ds).length = ps.length := by rw [← r2.length]; exact F.len _ _ _ _ h
  refine wpAny_call (codeAny_mono (F.run X.A X.stack s H ⟨us, []⟩ (us ++ ds) (vs ++ dvs) Q E hr I.env0 (hb s us I.kIn hl) r2 h) fun r s' hq => ?_)
  cases r with
  | error e => exact hx pins σ H s e s' I hq
  | ok fl =>
    cases fl with
    | ret u => exact I.after hq
    | next => exact False.elim hq
    | brk => exact False.elim hq
    | cont => exact False.elim hq
theorem pe_call (F : FnOk X.prog X.w X.K X.mg X.base CX k f fd ps sp) (hr : Room k X.A) (hg : Gl X x) (hm : X.mg x = some (.ref f)) (hk : PySem.W.keepIn X.K (.ref f) = true) (hb : Binds X.K fd ps ds) (hd : Vals dvs ds) (hx : Passes CX X E)
    (ha : PA X (e :: es) t) (hdb : (x == ("__debug__" : Str)) = false := by decide) (he : starEach (e :: es) X.env = (false, eval e X.env) :: starEach es X.env := by rfl) (hpl : (backTo pos (starEach es X.env)).any (·.1) = false := by rfl) :
    PE X (.Call (.Name x p) (e :: es) [] pos) (tCall sp dvs E t) := by
  intro pins s σ H Q I h
  refine wpAny_Call_Name_kw (ld_glob I hg hm ?_ hdb)
  refine PySem.W.callWith_K (h₀ := X.base) I.ok.mod.kin hk (thn (ha pos pins s σ H _ I h) fun us s1 ⟨vs, H1, I1, r, q⟩ => ⟨I1.kIn, ?_⟩) he hpl
  exact run_fn F hr hb hd hx I1 r q
end
section
variable {X : Cx} {CX : CXT} {k : Nat} {f C : Addr} {fd : FuncData} {ps ks : List Str} {sp : Sp} {E : XK} {x m : Str} {p pos apos kpos : Pos} {e o : Expr} {es : List Expr} {kws : List Keyword} {te ta : TE} {t tk : TA} {nm : Option Str}
variable {g : List Value → List Value → List Value} {gV : List V → List V → List V}
end
structure FnScope (N P : List Str) (sc : Scope) : Prop where
  kind : sc.kind = .function
  co : sc.isCoroutine = false
  gen : sc.isGenerator = false
  nd : N.Nodup
  pre : N.take P.length = P
  par : ∀ x ∈ P, sc.names.lookup x = some .local ∨ sc.names.lookup x = some .cell
  nofree : ∀ y ∈ sc.names, y.2 ≠ .free
theorem bindL_out {kindOf : Str → Option NameKind} {x : Str} : ∀ {binds : List (Str × Value)} {m : Str → Option Value}, (∀ v, (x, v) ∉ binds) → bindL kindOf binds m x = m x
  | [], _, _ => rfl
  | (n, v) :: r, m, h => by
    unfold bindL
    rw [bindL_out fun w hw => h w (List.mem_cons_of_mem _ hw)]
    split
    · have : x ≠ n := by rintro rfl; exact h v List.mem_cons_self
      simp [this]
    · rfl
theorem bindC_out {kindOf : Str → Option NameKind} {x : Str} : ∀ {binds : List (Str × Value)} {m : Str → Option Value}, (∀ v, (x, v) ∉ binds) → bindC kindOf binds m x = m x
  | [], _, _ => rfl
  | (n, v) :: r, m, h => by
    unfold bindC
    rw [bindC_out fun w hw => h w (List.mem_cons_of_mem _ hw)]
    split
    · rfl
    · have : x ≠ n := by rintro rfl; exact h v List.mem_cons_self
      simp [this]
theorem bindL_get {kindOf : Str → Option NameKind} {x : Str} {v : Value} : ∀ {P : List Str} {vs : List Value} {i : Nat} {m : Str → Option Value}, P.Nodup → P[i]? = some x → vs[i]? = some v → kindOf x = some .local →
    bindL kindOf (P.zip vs) m x = some v
  | [], _, _, _, _, h, _, _ => by simp at h
  | _ :: _, [], _, _, _, _, h, _ => by simp at h
  | p :: P, w :: vs, 0, m, nd, h1, h2, hk => by
    simp at h1 h2; subst h1; subst h2
    show bindL kindOf ((p, w) :: P.zip vs) m p = _
    unfold bindL
    rw [bindL_out fun v hv => (List.nodup_cons.mp nd).1 (List.of_mem_zip hv).1, if_pos hk]
    simp
  | p :: P, w :: vs, i + 1, m, nd, h1, h2, hk => by
    show bindL kindOf ((p, w) :: P.zip vs) m x = _
    unfold bindL
    exact bindL_get (i := i) (List.nodup_cons.mp nd).2 (by simpa using h1) (by simpa using h2) hk
theorem bindC_get {kindOf : Str → Option NameKind} {x : Str} {v : Value} : ∀ {P : List Str} {vs : List Value} {i : Nat} {m : Str → Option Value}, P.Nodup → P[i]? = some x → vs[i]? = some v → kindOf x ≠ some .local →
    bindC kindOf (P.zip vs) m x = some v
  | [], _, _, _, _, h, _, _ => by simp at h
  | _ :: _, [], _, _, _, _, h, _ => by simp at h
  | p :: P, w :: vs, 0, m, nd, h1, h2, hk => by
    simp at h1 h2; subst h1; subst h2
    show bindC kindOf ((p, w) :: P.zip vs) m p = _
    unfold bindC
    rw [bindC_out fun v hv => (List.nodup_cons.mp nd).1 (List.of_mem_zip hv).1, if_neg hk]
    simp
  | p :: P, w :: vs, i + 1, m, nd, h1, h2, hk => by
    show bindC kindOf ((p, w) :: P.zip vs) m x = _
    unfold bindC
    exact bindC_get (i := i) (List.nodup_cons.mp nd).2 (by simpa using h1) (by simpa using h2) hk
noncomputable def start (N : List Str) (vs : List V) : St := vs.map some ++ List.replicate (N.length - vs.length) none
noncomputable def cxOf (CX : CXT) (P : Program) (w : World) (K : PySem.W.Frag) (mg : Str → Option Value) (base : Heap) (N : List Str) (qual : Str) (scope : Scope) (f : Addr) (cd : Value) (A : Around) (outer : List Env) (s : Shared) (H : Hp) (E : XK) : Cx where
  prog := P
  w := w
  K := K
  mg := mg
  base := base
  A := A.deeper (envOfC qual scope s.heap.objs.size f cd)
  N := N
  s₀ := s
  H₀ := H
  env := envOfC qual scope s.heap.objs.size f cd
  outer := outer
  stack := envOfC qual scope s.heap.objs.size f cd :: outer
  ex := []
  calm := true
  fn := fun _ => true
  pn := []
  xe := fun e s' => wpAny (model P w) (A.deeper (envOfC qual scope s.heap.objs.size f cd)) (leaving (envOfC qual scope s.heap.objs.size f cd) e) (fun _ s'' => CX outer H s E e s'') (fun e' s'' => CX outer H s E e' s'') s'
theorem cell_has {sc : Scope} {n : Nat} {x : Str} (h : sc.names.lookup x = some .cell) : ∃ c, (cellsFrom n sc.names []).lookup x = some c := by
  have q := PySem.W.cellsFrom_some sc.names n [] (.inl h)
  exact Option.isSome_iff_exists.mp q
theorem inv_start {CX : CXT} {P : Program} {w : World} {K : PySem.W.Frag} {mg : Str → Option Value} {base : Heap} {N ps : List Str} {qual : Str} {scope : Scope} {f : Addr} {cd : Value} {A : Around} {outer : List Env} {s s1 : Shared} {H : Hp} {E : XK} {us : List Value} {vs : List V}
    (S : FnScope N ps scope) (hd : A.handled = none) (e0 : Env0 P w K mg base A outer s H) (hl : vs.length = ps.length) (r : Vals vs us)
    (x : InCallC s s.heap.objs.size (bindL (envOfC qual scope s.heap.objs.size f cd).kindOf (ps.zip us) fun _ => none) (cellsFrom (s.heap.objs.size + 1) scope.names []) (bindC (envOfC qual scope s.heap.objs.size f cd).kindOf (ps.zip us) fun _ => none) s1) :
    Inv (cxOf CX P w K mg base N qual scope f cd A outer s H E) [] (start N vs) H s1 := by
  have hpl : ps.length ≤ N.length := by have := congrArg List.length S.pre; rw [List.length_take] at this; omega
  obtain ⟨h1, tk, rfl, hk⟩ := x.done
  have noA : ∀ b : Addr, b ∉ (cxOf CX P w K mg base N qual scope f cd A outer s H E).ex := fun b z => absurd (show b ∈ ([] : List Addr) from z) (by simp)
  refine ⟨⟨e0.mod, S.kind, rfl, rfl, Nat.le_refl _, fun y z c h1 h2 => ?_, fun y hy => ?_, fun y c _ h => ?_, fun _ => hd, Around.frames_deeper e0.frames, .inr ⟨rfl, rfl⟩, fun b z => absurd z (noA b), e0.bs, e0.bsz, fun b _ _ => noA b, fun b z => absurd z (noA b), e0.funs, e0.frf⟩,
    rfl, e0.bare, Un.kept hk, ⟨_, x.toInCall.ns, fun i y v h1 h2 h3 => ?_⟩, fun y c h => ⟨_, x.cell y c h⟩, e0.hok.fresh (Nat.le_refl _), fun y c h => ?_, fun p hp => absurd (show p ∈ ([] : List (Addr × Obj)) from hp) (by simp), e0.hok.kept hk, ?_⟩
  · exact name_of_addr x.apart (PySem.mem_of_lookup h1) (PySem.mem_of_lookup h2)
  · have hy : scope.names.lookup y = some .cell ∨ scope.names.lookup y = some .free := hy
    rcases hy with hy | hy
    · exact cell_has hy
    · exact absurd rfl (S.nofree _ (PySem.mem_of_lookup hy))
  · exact Nat.le_of_lt (x.above y c (PySem.mem_of_lookup h))
  · have hi : i < vs.length := by
      unfold start at h2
      by_cases hi : i < vs.length
      · exact hi
      · rw [List.getElem?_append_right (by simpa using hi)] at h2
        rw [List.getElem?_replicate] at h2
        split at h2 <;> cases h2
    have ha : vs[i]? = some v := by
      unfold start at h2
      rw [List.getElem?_append_left (by simpa using hi), List.getElem?_map] at h2
      cases e : vs[i]? with
      | none => rw [e] at h2; cases h2
      | some a => rw [e] at h2; cases h2; rfl
    obtain ⟨u, hu, rv⟩ := r.get ha
    have hp : ps[i]? = some y := by
      rw [← S.pre, List.getElem?_take_of_lt (by omega)]; exact h1
    have ndP : ps.Nodup := by rw [← S.pre]; exact S.nd.sublist (List.take_sublist _ _)
    refine ⟨u, rv, ?_⟩
    rcases S.par y (List.mem_of_getElem? hp) with k | k
    · exact .inl ⟨k, bindL_get ndP hp hu k⟩
    · obtain ⟨c, e⟩ := cell_has (n := s.heap.objs.size + 1) k
      refine .inr ⟨.inl k, c, e, ?_⟩
      have q := x.cell y c e
      rw [bindC_get ndP hp hu (by show scope.names.lookup y ≠ _; rw [k]; decide)] at q
      exact q
  · exact e0.hok.fresh (Nat.le_of_lt (x.above y c (PySem.mem_of_lookup h)))
  · unfold start
    show _ = N.length
    rw [List.length_append, List.length_map, List.length_replicate]
    omega
theorem fn_of {CX : CXT} {P : Program} {w : World} {K : PySem.W.Frag} {mg : Str → Option Value} {base : Heap} {k : Nat} {f : Addr} {name qual : Str} {params : Arguments} {body : List Stmt} {scope : Scope} {dV kV doc pm cdv ct oc : Value} {an od : Option Addr}
    {osl : Array (Option Value)} {N ps : List Str} {sp : Sp} (lk : K.lookup f = some ⟨oc, od, .func (PySem.W.fnOf name qual params body scope dV kV doc pm an cdv ct), osl⟩) (hcd : PySem.W.codeIn K cdv qual = true) (S : FnScope N ps scope)
    (len : ∀ vs H Q E, sp vs H Q E → vs.length = ps.length)
    (hbody : ∀ (A : Around) (outer : List Env) (s : Shared) (H : Hp) (vs : List V) (Q : VK) (E : XK), Room k (A.deeper (envOfC qual scope s.heap.objs.size f cdv)) → sp vs H Q E →
      ∃ t, PSs (cxOf CX P w K mg base N qual scope f cdv A outer s H E) body t ∧ t { nx := fun _ H' => Q .non H', rt := Q } (start N vs) H) :
    FnOk P w K mg base CX (k + 1) f (PySem.W.fnOf name qual params body scope dV kV doc pm an cdv ct) ps sp := by
  refine ⟨len, fun A outer s H args us vs Q E hr e0 hb r hsp => ?_⟩
  have hl := len _ _ _ _ hsp
  have KX : K.In s.heap := e0.mod.kin.keeps fun b o e => (e0.bs b o e).1
  have lim : s.heap.NoLimit := e0.mod.nolimit.keeps fun b o e => (e0.bs b o e).1
  have hkind : ∀ y ∈ ps.zip us, scope.names.lookup y.1 = some .local ∨ (scope.names.lookup y.1 = some .cell ∧ ((cellsFrom (s.heap.objs.size + 1) scope.names []).lookup y.1).isSome = true) := fun ⟨n, v⟩ hy => by
    rcases S.par n (List.of_mem_zip hy).1 with q | q
    · exact .inl q
    · exact .inr ⟨q, PySem.W.cellsFrom_some _ _ _ (.inl q)⟩
  refine codeAny_call_function hr.depth (KX _ _ lk) rfl S.co S.gen rfl (PySem.W.codeRec_of KX hcd) (hb _ _ _ _ ?_)
  refine wpAny_newFunctionEnv_cells S.kind hkind fun env he s1 x => ?_
  subst he
  refine ⟨lim.keeps x.toInCall.keep, codeAny_func ?_⟩
  obtain ⟨t, ht, hq⟩ := hbody A outer s H vs Q E (hr.deeper _) hsp
  have I : Inv (cxOf CX P w K mg base N qual scope f cdv A outer s H E) [] (start N vs) H s1 := inv_start S hr.hd e0 hl r x
  refine wpAny_mono (ht [] s1 (start N vs) H _ I hq) (fun fl s' hs => ?_) fun e s' hs => hs
  have fin : ∀ {σ' : St} {H' : Hp} {v : V} {u : Value}, Inv (cxOf CX P w K mg base N qual scope f cdv A outer s H E) [] σ' H' s' → RelV v u → Q v H' → CE outer P w H s Q u s' :=
    fun {σ' H' v u} J rv q => ⟨v, H', J.os, J.bare, J.base, J.hok, rv, q⟩
  cases fl with
  | ret u =>
    obtain ⟨v, σ', H', J, rv, q⟩ := hs
    exact fin J rv q
  | next =>
    obtain ⟨σ', H', J, q⟩ := hs
    exact fin (v := V.non) (u := Value.none) J rfl q
  | brk =>
    obtain ⟨_, _, _, q⟩ := hs
    exact False.elim q
  | cont =>
    obtain ⟨_, _, _, q⟩ := hs
    exact False.elim q
end L2
namespace L2
open PySem PySem.Spec PyProof.Rows
section
variable {X : Cx} {x : Str} {p pos : Pos} {e : Expr} {es : List Expr} {t : TA} {id T : String} {r : List V → Hp → VK → Prop}
noncomputable def tCB (r : List V → Hp → VK → Prop) (t : TA) : TE := fun σ H Q => t σ H fun vs H1 => r vs H1 Q
theorem pe_callB (hc : CallR X (.builtin id) r) (hg : Gl X x) (hm : X.mg x = none) (hv : bootBuiltins x = some (.builtin id)) (ha : PA X (e :: es) t) (hn : x ≠ "__name__" := by decide) (hdb : (x == ("__debug__" : Str)) = false := by decide)
    (he : starEach (e :: es) X.env = (false, eval e X.env) :: starEach es X.env := by rfl) (hpl : (backTo pos (starEach es X.env)).any (·.1) = false := by rfl) : PE X (.Call (.Name x p) (e :: es) [] pos) (tCB r t) := by
  intro pins s σ H Q I h
  refine wpAny_Call_Name_kw (ld_blt I hg hm hv ?_ hn hdb)
  exact PyProof.Rows.callWith_builtin1 (thn (ha pos pins s σ H _ I h) fun us s1 ⟨vs, H1, I1, r1, q1⟩ => hc pins s1 σ H1 vs us Q I1 r1 q1) he hpl
theorem pe_callTy (hc : CallR X (.type T) r) (hg : Gl X x) (hm : X.mg x = none) (hv : bootBuiltins x = some (.type T)) (ha : PA X (e :: es) t) (hn : x ≠ "__name__" := by decide) (hdb : (x == ("__debug__" : Str)) = false := by decide)
    (he : starEach (e :: es) X.env = (false, eval e X.env) :: starEach es X.env := by rfl) (hpl : (backTo pos (starEach es X.env)).any (·.1) = false := by rfl) : PE X (.Call (.Name x p) (e :: es) [] pos) (tCB r t) := by
  intro pins s σ H Q I h
  refine wpAny_Call_Name_kw (ld_blt I hg hm hv ?_ hn hdb)
  exact PyProof.Rows.callWith_type1 (thn (ha pos pins s σ H _ I h) fun us s1 ⟨vs, H1, I1, r1, q1⟩ => hc pins s1 σ H1 vs us Q I1 r1 q1) he hpl
end
end L2
namespace HT
open PySem PyProof.Rows
section
open PySem.SeqAt
open PySem.AutoSeq1 (wpAny_loadPart')
open PySem.MeetsSeq PySem.MeetsSeq2 PySem.MeetsSeq3
end
section
variable {prog : Program} {w : World} {A : Around} {E : Value → Shared → Prop} {s : Shared}
end
end HT
namespace L2
open PySem PySem.Spec PyProof.Rows
noncomputable abbrev TO := St → Hp → (Option Int → Hp → Prop) → Prop
theorem intsAre_of {ns : List Int} : ∀ {us : List Value}, Vals (ns.map V.int) us → IntsAre us ns := by
  induction ns with
  | nil => intro us r; rw [List.map_nil] at r; cases r; exact .nil
  | cons n ns ih =>
    intro us r
    rw [List.map_cons] at r
    cases r with
    | cons r1 r2 =>
      obtain ⟨t, e⟩ := r1
      subst e
      exact .cons n t (ih r2)
section
variable {X : Cx} {e : Expr} {te : TE} {lo hi : Option Expr} {tl th : TO} {pos p2 : Pos}
end
end L2
namespace L2
open PySem PySem.Spec PyProof.Rows
noncomputable def ixN (n : Nat) (i : Int) : Option Nat := if 0 ≤ i then (if i < n then some i.toNat else none) else if -(n : Int) ≤ i then some (i + n).toNat else none
noncomputable def atI {α : Type} (xs : List α) (i : Int) : Option α := (ixN xs.length i).bind fun j => xs[j]?
theorem ixN_seq {n : Nat} {i : Int} {j : Nat} (h : ixN n i = some j) : seqIndex? i n = some j ∧ j < n ∧ -(n : Int) ≤ i ∧ i < n := by
  unfold ixN at h
  by_cases h0 : 0 ≤ i
  · rw [if_pos h0] at h
    by_cases h1 : i < n
    · rw [if_pos h1] at h
      have e : i.toNat = j := Option.some.inj h
      exact ⟨by rw [seqIndex_of h0 h1, e], by omega, by omega, h1⟩
    · rw [if_neg h1] at h; cases h
  · rw [if_neg h0] at h
    by_cases h1 : -(n : Int) ≤ i
    · rw [if_pos h1] at h
      have e : (i + n).toNat = j := Option.some.inj h
      exact ⟨by rw [seqIndex_neg (by omega) h1, e], by omega, h1, by omega⟩
    · rw [if_neg h1] at h; cases h
theorem atI_get {α : Type} {xs : List α} {i : Int} {v : α} (h : atI xs i = some v) : ∃ j, seqIndex? i xs.length = some j ∧ xs[j]? = some v ∧ j < xs.length ∧ -(xs.length : Int) ≤ i ∧ i < xs.length := by
  unfold atI at h
  cases e : ixN xs.length i with
  | none => rw [e] at h; cases h
  | some j =>
    rw [e] at h
    obtain ⟨h1, h2, h3, h4⟩ := ixN_seq e
    exact ⟨j, h1, h, h2, h3, h4⟩
theorem atI_nat {α : Type} {xs : List α} {j : Nat} {v : α} (h : xs[j]? = some v) : atI xs (j : Int) = some v := by
  have hj : j < xs.length := (List.getElem?_eq_some_iff.mp h).1
  have e : ixN xs.length (j : Int) = some j := by
    unfold ixN
    rw [if_pos (by omega), if_pos (by omega)]; simp
  unfold atI; rw [e]; exact h
theorem atI_last {α : Type} (xs : List α) (v : α) : atI (xs ++ [v]) (-1) = some v := by
  have hl : (xs ++ [v]).length = xs.length + 1 := by simp
  have e : ixN (xs ++ [v]).length (-1) = some xs.length := by
    unfold ixN
    rw [hl, if_neg (by decide), if_pos (by omega)]
    congr 1
    omega
  unfold atI
  rw [e]
  show (xs ++ [v])[xs.length]? = some v
  simp
noncomputable def PlainIx (b : Expr) : Prop := ∀ o i, subscripted b false o i = operate [o, i] (getItem o i)
noncomputable def IxR (X : Cx) (r : R2) : Prop :=
  ∀ (value slice : Expr) (pins : List (Addr × Obj)) (s : Shared) (σ : St) (H : Hp) (x y : V) (v u : Value) (Q : VK), Inv X pins σ H s → RelV x v → RelV y u → r x y H Q →
    subscripted slice false v u = operate [v, u] (getItem v u) → wpAny (model X.prog X.w) X.A (subscriptTail value slice v u) (EP X pins σ Q) X.xe s
noncomputable def MtR (X : Cx) (id : String) (r : V → List V → Hp → VK → Prop) : Prop :=
  ∀ (pins : List (Addr × Obj)) (s : Shared) (σ : St) (H : Hp) (x : V) (xs : List V) (v : Value) (us : List Value) (Q : VK), Inv X pins σ H s → RelV x v → Vals xs us → r x xs H Q →
    wpAny (model X.prog X.w) X.A (call (.builtin id) (v :: us)) (EP X pins σ Q) X.xe s
section
variable {X : Cx} {a b : Expr} {ta tb : TE} {pos : Pos}
theorem pe_ix {r : R2} (hr : IxR X r) (ha : PE X a ta) (hb : PE X b tb) (hs : PlainIx b) : PE X (.Subscript a b pos) (tOp r ta tb) := by
  intro pins s σ H Q I h
  exact Subscript_ (binT ha hb I h fun v u s2 x y H2 I2 rx ry q => hr a b pins s2 σ H2 x y v u Q I2 rx ry q (hs _ _))
noncomputable def rIxL (K : PySem.W.Frag) : R2 := fun x y H Q => ∃ p xs i v, x = .ref p ∧ y = .int i ∧ SqL K H p xs ∧ atI xs i = some v ∧ Q v H
noncomputable def rIxT (K : PySem.W.Frag) : R2 := fun x y H Q => ∃ p xs i v, x = .ref p ∧ y = .int i ∧ SqT K H p xs ∧ atI xs i = some v ∧ Q v H
theorem ix_list : IxR X (rIxL X.K) := by
  intro value slice pins s σ H x y v u Q I rx ry h hs
  obtain ⟨p, xs, i, z, rfl, rfl, hq, he, q⟩ := h
  cases rx
  obtain ⟨t, rfl⟩ := ry
  obtain ⟨its, r, pl, hz⟩ := I.list hq
  obtain ⟨j, h1, h2, h3, h4, h5⟩ := atI_get he
  obtain ⟨w, ew, rw'⟩ := r.get h2
  have hl := r.length
  have hn := line63
  have fin : EP X pins σ Q w s := ⟨z, H, I, rw', q⟩
  by_cases h0 : 0 ≤ i
  · have hj : i.toNat = j := by
      rw [seqIndex_of h0 h5] at h1
      exact Option.some.inj h1
    exact item_listR pl.isList h0 (by omega) (by rw [hj]; simpa using ew) fin hs
  · have hj : (i + (its.toArray.size : Int)).toNat = j := by
      rw [seqIndex_neg (by omega) h4] at h1
      rw [List.size_toArray, ← hl]
      exact Option.some.inj h1
    exact subscriptTail_builtinR (x := w) pl.isList.typeIs slot_list_getitem.lookup
      (wpAny_getItem_list_neg (Q := fun r s' => r = w ∧ EP X pins σ Q r s') pl.isList (by omega) (by rw [List.size_toArray] <;> omega) (by omega) (by rw [hj]; simpa using ew) ⟨rfl, fin⟩) hs
theorem ix_tup : IxR X (rIxT X.K) := by
  intro value slice pins s σ H x y v u Q I rx ry h hs
  obtain ⟨p, xs, i, z, rfl, rfl, hq, he, q⟩ := h
  cases rx
  obtain ⟨t, rfl⟩ := ry
  obtain ⟨its, r, pl, hz⟩ := I.tuple hq
  obtain ⟨j, h1, h2, h3, h4, h5⟩ := atI_get he
  obtain ⟨w, ew, rw'⟩ := r.get h2
  have hl := r.length
  have hn := line63
  have fin : EP X pins σ Q w s := ⟨z, H, I, rw', q⟩
  exact subscriptTail_builtinR (x := w) pl.typeIs slot_tuple_getitem.lookup
    (getItem_tuple (j := j) (Q := fun r s' => r = w ∧ EP X pins σ Q r s') pl (by omega) (by omega) (by rw [List.size_toArray, ← hl]; exact h1) (by simpa using ew) ⟨rfl, fin⟩) hs
theorem Inv.lst {pins : List (Addr × Obj)} {σ : St} {H : Hp} {s : Shared} {p : Addr} {xs : List V} (I : Inv X pins σ H s) (h : H p = some (.lst xs)) :
    ∃ (its : List Value) (n : Nat), Vals xs its ∧ s.heap.get? p = some { cls := .type "list", data := .seq its.toArray n } ∧ xs.length ≤ sizeLine := by
  obtain ⟨z, its, n, r, e⟩ := I.hok p _ h
  exact ⟨its, n, r, e, z⟩
noncomputable def flatV : V → Bool
  | .non => true
  | .bl _ => true
  | .int _ => true
  | .str _ => true
  | _ => false
noncomputable def eqV : V → V → Bool
  | .non, .non => true
  | .bl a, .bl b => a == b
  | .bl a, .int b => (if a then 1 else 0) == b
  | .int a, .bl b => a == (if b then 1 else 0)
  | .int a, .int b => a == b
  | .str a, .str b => a == b
  | _, _ => false
theorem eqAt_V {A : Around} {s : Shared} {y x : V} {u v : Value} (ry : RelV y u) (rx : RelV x v) (fy : flatV y = true) (fx : flatV x = true) : SeqAt.EqAt A s u v (eqV y x) := by
  cases y with
  | non =>
    cases ry
    cases x with
    | non => cases rx; exact SeqAt.EqAt.same _
    | bl b => cases rx; exact SeqAt.EqAt.none_bool b
    | int b => obtain ⟨t, rfl⟩ := rx; exact SeqAt.EqAt.none_int b t
    | str b => obtain ⟨t, rfl⟩ := rx; exact SeqAt.EqAt.none_str b t
    | _ => exact absurd (show false = true from fx) Bool.false_ne_true
  | bl a =>
    cases ry
    cases x with
    | non => cases rx; exact SeqAt.EqAt.bool_none a
    | bl b => cases rx; exact SeqAt.EqAt.bool_bool a b
    | int b => obtain ⟨t, rfl⟩ := rx; exact SeqAt.EqAt.bool_int a b t
    | str b => obtain ⟨t, rfl⟩ := rx; exact SeqAt.EqAt.bool_str a b t
    | _ => exact absurd (show false = true from fx) Bool.false_ne_true
  | int a =>
    obtain ⟨t', rfl⟩ := ry
    cases x with
    | non => cases rx; exact SeqAt.EqAt.int_none a t'
    | bl b => cases rx; exact SeqAt.EqAt.int_bool a t' b
    | int b => obtain ⟨t, rfl⟩ := rx; exact SeqAt.EqAt.int_int a t' b t
    | str b => obtain ⟨t, rfl⟩ := rx; exact SeqAt.EqAt.int_str a t' b t
    | _ => exact absurd (show false = true from fx) Bool.false_ne_true
  | str a =>
    obtain ⟨t', rfl⟩ := ry
    cases x with
    | non => cases rx; exact SeqAt.EqAt.str_none a t'
    | bl b => cases rx; exact SeqAt.EqAt.str_bool a t' b
    | int b => obtain ⟨t, rfl⟩ := rx; exact SeqAt.EqAt.str_int a t' b t
    | str b => obtain ⟨t, rfl⟩ := rx; exact SeqAt.EqAt.str_str a t' b t
    | _ => exact absurd (show false = true from fx) Bool.false_ne_true
  | _ => exact absurd (show false = true from fy) Bool.false_ne_true
noncomputable def eqU (x : V) (u : Value) : Bool := match u with
  | .none => eqV .non x
  | .bool b => eqV (.bl b) x
  | .int i _ => eqV (.int i) x
  | .str z _ => eqV (.str z) x
  | _ => false
theorem eqU_of {x y : V} {u : Value} (r : RelV y u) (f : flatV y = true) : eqU x u = eqV y x := by
  cases y with
  | non => cases r; rfl
  | bl b => cases r; rfl
  | int i => obtain ⟨t, rfl⟩ := r; rfl
  | str z => obtain ⟨t, rfl⟩ := r; rfl
  | _ => exact absurd (show false = true from f) Bool.false_ne_true
theorem any_eqU {x : V} : ∀ {xs : List V} {us : List Value}, Vals xs us → xs.all flatV = true → us.any (eqU x) = xs.any fun y => eqV y x
  | _, _, .nil, _ => rfl
  | y :: xs, u :: us, .cons r t, f => by
    rw [List.all_cons, Bool.and_eq_true] at f
    rw [List.any_cons, List.any_cons, eqU_of r f.1, any_eqU t f.2]
theorem mem_eqAt {A : Around} {s : Shared} {x : V} {v : Value} (rx : RelV x v) (fx : flatV x = true) : ∀ {xs : List V} {us : List Value}, Vals xs us → xs.all flatV = true → ∀ u ∈ us, SeqAt.EqAt A s u v (eqU x u)
  | _, _, .nil, _ => fun u hu => by cases hu
  | y :: xs, u :: us, .cons r t, f => fun u' hu => by
    rw [List.all_cons, Bool.and_eq_true] at f
    rcases List.mem_cons.mp hu with rfl | hu
    · rw [eqU_of r f.1]; exact eqAt_V r rx f.1 fx
    · exact mem_eqAt rx fx t f.2 u' hu
noncomputable def inV (x : V) (xs : List V) : Bool := xs.any fun y => eqV y x
noncomputable def rIn (K : PySem.W.Frag) (neg : Bool) : R2 := fun x y H Q => ∃ p xs, y = .ref p ∧ (SqL K H p xs ∨ SqT K H p xs) ∧ flatV x = true ∧ xs.all flatV = true ∧ Q (.bl (if neg then !inV x xs else inV x xs)) H
theorem op_notIn_seq : OpR X (compareOp .NotIn) (rIn X.K true) := by
  intro pins s σ H x y v u Q I rx ry h
  obtain ⟨p, xs, rfl, hq, fx, fs, q⟩ := h
  cases ry
  rcases hq with hq | hq
  · obtain ⟨its, r, pl, hz⟩ := I.list hq
    refine SeqAt.notIn_listAt (eqU x) pl.isList (fun w hw => mem_eqAt rx fx r fs w (by simpa using hw)) ⟨.bl _, H, I, rfl, ?_⟩
    rw [show its.toArray.any (eqU x) = its.any (eqU x) by simp, any_eqU r fs]
    exact q
  · obtain ⟨its, r, pl, hz⟩ := I.tuple hq
    refine SeqAt.notIn_tupleAt (eqU x) pl (fun w hw => mem_eqAt rx fx r fs w (by simpa using hw)) ⟨.bl _, H, I, rfl, ?_⟩
    rw [show its.toArray.any (eqU x) = its.any (eqU x) by simp, any_eqU r fs]
    exact q
theorem call_len_seq : CallR X (.builtin "len") (fun xs H Q => ∃ p ys, xs = [.ref p] ∧ (SqL X.K H p ys ∨ SqT X.K H p ys) ∧ Q (.int ys.length) H) := by
  intro pins s σ H xs us Q I r h
  obtain ⟨p, ys, rfl, hq, q⟩ := h
  obtain ⟨u, rfl, rx⟩ := vals1 r
  cases rx
  have hn := line63
  rcases hq with hq | hq
  · obtain ⟨its, r', pl, hz⟩ := I.list hq
    have hlen := r'.length
    exact Calls.call_len_list pl.isList (by simp only [List.size_toArray] <;> omega) ⟨.int ys.length, H, I.tok _, ⟨s.toks + 1, by rw [List.size_toArray, hlen]⟩, q⟩
  · obtain ⟨its, r', pl, hz⟩ := I.tuple hq
    have hlen := r'.length
    exact len_tuple pl (by simp only [List.size_toArray] <;> omega) ⟨.int ys.length, H, I.tok _, ⟨s.toks + 1, by rw [List.size_toArray, hlen]⟩, q⟩
theorem call_list_of : CallR X (.type "list") (fun xs H Q => ∃ p ys, xs = [.ref p] ∧ (SqL X.K H p ys ∨ SqT X.K H p ys) ∧ ∀ l, H l = none → Q (.ref l) (upd H l (.lst ys))) := by
  intro pins s σ H xs us Q I r h
  obtain ⟨p, ys, rfl, hq, q⟩ := h
  obtain ⟨u, rfl, rx⟩ := vals1 r
  cases rx
  have fin : ∀ (its : List Value), Vals ys its → ys.length ≤ sizeLine → ∀ (h' : Heap) (c' : Nat), (∀ b o', s.heap.get? b = some o' → h'.get? b = some o') →
      h'.get? s.heap.objs.size = some { cls := .type "list", dict := none, data := .seq its.toArray c', slots := #[] } → EP X pins σ Q (.ref s.heap.objs.size) { s with heap := h' } := fun its r' hz h' c' kp e =>
    ⟨.ref s.heap.objs.size, _, I.laid (t' := s.toks) kp (Nat.le_refl _) (show ObjOk X.prog X.w _ h' _ (.lst ys) from ⟨hz, its, c', r', e⟩), rfl, q _ (I.hok.fresh (Nat.le_refl _))⟩
  rcases hq with hq | hq
  · obtain ⟨its, r', pl, hz⟩ := I.list hq
    have hlen := r'.length
    obtain ⟨o, ho, hc, n, hd⟩ := pl.isList
    exact call_list_seq p (.inl rfl) ho hc hd (fun h' c' kp e => fin its r' hz h' c' kp e) (by simp only [List.size_toArray] <;> omega)
  · obtain ⟨its, r', pl, hz⟩ := I.tuple hq
    have hlen := r'.length
    obtain ⟨o, ho, hc, n, hd⟩ := pl
    exact call_list_seq p (.inr rfl) ho hc hd (fun h' c' kp e => fin its r' hz h' c' kp e) (by simp only [List.size_toArray] <;> omega)
noncomputable def tyV (K : PySem.W.Frag) (T : String) (x : V) (H : Hp) : Prop := match x with
  | .str _ => T = "str"
  | .int _ => T = "int"
  | .ref p => (T = "list" ∧ ∃ xs, SqL K H p xs) ∨ (T = "tuple" ∧ ∃ o, K.lookup p = some o ∧ o.cls = .type "tuple" ∧ o.dict = none) ∨
      (T = "dict" ∧ ((∃ kvs, H p = some (.dK kvs)) ∨ ∃ kvs, H p = some (.dT kvs))) ∨ (T = "set" ∧ ∃ S n, H p = some (.set S n))
  | _ => False
theorem tyV_is {pins : List (Addr × Obj)} {σ : St} {H : Hp} {s : Shared} {T : String} {x : V} {v : Value} (I : Inv X pins σ H s) (r : RelV x v) (ty : tyV X.K T x H) :
    s.TypeIs v T ∧ ∀ a, v = .ref a → ∃ ob, s.heap.get? a = some ob ∧ ob.dict = none := by
  cases x with
  | str z =>
    obtain ⟨t, rfl⟩ := r
    cases (show T = "str" from ty)
    exact ⟨typeIs_str s z t, fun _ e => nomatch e⟩
  | int i =>
    obtain ⟨t, rfl⟩ := r
    cases (show T = "int" from ty)
    exact ⟨typeIs_int s i t, fun _ e => nomatch e⟩
  | ref p =>
    cases r
    rcases ty with ⟨rfl, xs, hq⟩ | ⟨rfl, o, hk, hc, hd⟩ | ⟨rfl, hk⟩ | ⟨rfl, S, n, hk⟩
    · obtain ⟨its, _, pl, _⟩ := I.list hq
      refine ⟨pl.isList.typeIs, fun a e => ?_⟩
      cases e
      obtain ⟨o, n, e, c, hd, _⟩ := pl
      exact ⟨o, e, hd⟩
    · refine ⟨⟨o, I.kIn p o hk, hc⟩, fun a e => ?_⟩
      cases e
      exact ⟨o, I.kIn _ o hk, hd⟩
    · have z : ∃ o, s.heap.get? p = some o ∧ o.ExactDict := by
        rcases hk with ⟨kvs, hk⟩ | ⟨kvs, hk⟩
        · obtain ⟨_, _, _, _, o, _, _, e, ex, _⟩ := I.hok p _ hk
          exact ⟨o, e, ex⟩
        · obtain ⟨_, _, _, _, o, _, _, e, ex, _⟩ := I.hok p _ hk
          exact ⟨o, e, ex⟩
      obtain ⟨o, e, ex⟩ := z
      refine ⟨⟨o, e, ex.1⟩, fun a e2 => ?_⟩
      cases e2
      exact ⟨o, e, ex.2.1⟩
    · obtain ⟨o, _, _, _, e, ex, _⟩ := I.hok p _ hk
      refine ⟨⟨o, e, ex.1⟩, fun a e2 => ?_⟩
      cases e2
      exact ⟨o, e, ex.2.1⟩
  | _ => exact False.elim ty
noncomputable def tBM (K : PySem.W.Frag) (T : String) (r : V → List V → Hp → VK → Prop) (to : TE) (t : TA) : TE := fun σ H Q => to σ H fun x H1 => tyV K T x H1 ∧ t σ H1 fun xs H2 => r x xs H2 Q
variable {o e : Expr} {es : List Expr} {to : TE} {t : TA} {name : Str} {apos cpos : Pos} {T id : String} {r : V → List V → Hp → VK → Prop}
theorem pe_bm (pa : PlainAttrs T) (slot : Slot T name id) (hty : typeOf (.builtin id) = pure (.type "method_descriptor")) (hm : MtR X id r) (ho : PE X o to) (ha : PA X (e :: es) t)
    (hbase : attributeBase o name X.env (eval o X.env) = eval o X.env := by rfl)
    (hfew : ((backTo cpos (starEach (e :: es) X.env)).all (fun x => !x.1) && (backToKw cpos (keywordEach [] X.env)).all (fun x => x.1.isSome)
      && decide ((e :: es).length + ([] : List Keyword).length + (if ([] : List Keyword).isEmpty then 0 else 1) < 30)) = true := by rfl)
    (hline : (apos.endLine == cpos.line) = true := by rfl) (hs : starEach (e :: es) X.env = (false, eval e X.env) :: starEach es X.env := by rfl) (hplain : (backTo cpos (starEach es X.env)).any (·.1) = false := by rfl) :
    PE X (.Call (.Attribute o name apos) (e :: es) [] cpos) (tBM X.K T r to t) := by
  intro pins s σ H Q I h
  refine wpAny_Call_method_late hbase hfew hline rfl (thn (ho pins s σ H _ I h) fun v s1 ⟨x, H1, I1, r1, ty, q1⟩ => ?_)
  obtain ⟨h1, h2⟩ := tyV_is I1 r1 ty
  refine ⟨T, id, pa, slot, hty, h1, h2, ?_⟩
  have hA := ha cpos pins s1 σ H1 _ I1 q1
  rw [hs] at hA ⊢
  refine Calls.callWith_builtin (by show (false || (backTo cpos (starEach es X.env)).any (·.1)) = false; rw [hplain] <;> rfl) (Calls.evalArgs_plain ?_)
  exact thn hA fun us s2 ⟨vs, H2, I2, r2, q2⟩ => hm pins s2 σ H2 x vs v us Q I2 r1 r2 q2
end
end L2
namespace L2
open PySem PySem.Spec PyProof.Rows
noncomputable def MtM (X : Cx) (id : String) (r : V → List V → Hp → VK → Prop) : Prop :=
  ∀ (pins : List (Addr × Obj)) (s : Shared) (σ : St) (H : Hp) (x : V) (xs : List V) (v : Value) (us : List Value) (Q : VK), Inv X pins σ H s → RelV x v → Vals xs us → r x xs H Q →
    wpAny (model X.prog X.w) X.A (call (.builtin id) (v :: us)) (EP X pins σ Q) X.xe s
theorem Vals.one : ∀ {x : V} {us : List Value}, Vals [x] us → ∃ u, us = [u] ∧ RelV x u
  | _, _, .cons r .nil => ⟨_, rfl, r⟩
theorem Vals.two : ∀ {x y : V} {us : List Value}, Vals [x, y] us → ∃ u v, us = [u, v] ∧ RelV x u ∧ RelV y v
  | _, _, _, .cons r (.cons q .nil) => ⟨_, _, rfl, r, q⟩
theorem Vals.zero : ∀ {us : List Value}, Vals [] us → us = []
  | _, .nil => rfl
theorem Vals.reverse {xs : List V} {us : List Value} (h : Vals xs us) : Vals xs.reverse us.reverse := by
  induction h with
  | nil => exact .nil
  | cons r t ih => rw [List.reverse_cons, List.reverse_cons]; exact Vals.append ih (.cons r .nil)
section
variable {X : Cx} {pins : List (Addr × Obj)} {σ : St} {H : Hp} {s : Shared} {l b : Addr} {xs ys zs : List V}
theorem Inv.lset {its its' : List Value} {n : Nat} {f : Array Value → Array Value} {t' : Nat} (I : Inv X pins σ H s) (hH : H l = some (.lst xs))
    (e : s.heap.get? l = some { cls := .type "list", data := .seq its.toArray n }) (hf : f its.toArray = its'.toArray) (hv : Vals ys its') (hz : ys.length ≤ sizeLine) :
    Inv X pins σ (upd H l (.lst ys)) { s with heap := s.heap.update l (Obj.mapSeq f), toks := t' } := by
  have q := PySem.IsL.update e f
  rw [hf] at q
  refine I.write (x := l) (e := l) (by rw [hH]; exact trivial) (.inl rfl) (fun b' u hb hu => (Heap.get?_update_other s.heap (Obj.mapSeq f) (Ne.symm hb)).trans hu) ⟨_, q⟩ ?_
  exact ⟨hz, its', _, hv, q⟩
theorem Inv.lnew {its : List Value} {t' : Nat} (I : Inv X pins σ H s) (hv : Vals ys its) (hz : ys.length ≤ sizeLine) :
    Inv X pins σ (upd H s.heap.objs.size (.lst ys)) { s with heap := s.heap.push { cls := .type "list", data := .seq its.toArray }, toks := t' } :=
  I.laid (fun _ _ q => Heap.get?_push_of_some _ q) (Nat.le_refl _) ⟨hz, its, 0, hv, Heap.get?_push_size _ rfl⟩
theorem Inv.fresh (I : Inv X pins σ H s) : H s.heap.objs.size = none := I.hok.fresh (Nat.le_refl _)
theorem Inv.lstM (I : Inv X pins σ H s) (hH : H l = some (.lst xs)) : xs.length ≤ sizeLine ∧ ∃ (its : List Value) (n : Nat), Vals xs its ∧ xs.length = its.length ∧ s.heap.get? l = some { cls := .type "list", data := .seq its.toArray n } := by
  obtain ⟨z, its, n, r, e⟩ := I.hok l _ hH
  exact ⟨z, its, n, r, r.length, e⟩
theorem notLongL {n : Nat} (h : n ≤ sizeLine) : Builtin.List.listTooLong n = false := by
  unfold Builtin.List.listTooLong
  exact decide_eq_false (by omega)
end
section
variable {X : Cx}
noncomputable def rAppend : V → List V → Hp → VK → Prop := fun x vs H Q => ∃ l xs y, x = .ref l ∧ vs = [y] ∧ H l = some (.lst xs) ∧ xs.length < sizeLine ∧ Q .non (upd H l (.lst (xs ++ [y])))
theorem mt_append : MtM X "list.append" rAppend := by
  intro pins s σ H x vs v us Q I rx rv h
  obtain ⟨l, xs, y, rfl, rfl, hH, hz, q⟩ := h
  cases rx
  obtain ⟨u, rfl, ru⟩ := rv.one
  obtain ⟨z, its, n, r, hl, e⟩ := I.lstM hH
  refine call_meets F.slot_list_append ⟨_, e, rfl⟩ F.entry_list_append (F.args_list_append_2 _ _) (PySem.list_append l its.toArray n u (by rw [List.size_toArray]; omega)) ⟨e, ?_⟩
  refine ⟨.non, _, I.lset (its' := its ++ [u]) hH e (by simp) (r.append (.cons ru .nil)) ?_, rfl, q⟩
  rw [List.length_append, List.length_singleton]
  omega
noncomputable def rExtend : V → List V → Hp → VK → Prop := fun x vs H Q => ∃ l b xs zs, x = .ref l ∧ vs = [.ref b] ∧ H l = some (.lst xs) ∧ H b = some (.lst zs) ∧ xs.length + zs.length ≤ sizeLine ∧ Q .non (upd H l (.lst (xs ++ zs)))
theorem mt_extend : MtM X "list.extend" rExtend := by
  intro pins s σ H x vs v us Q I rx rv h
  obtain ⟨l, b, xs, zs, rfl, rfl, hH, hB, hz, q⟩ := h
  cases rx
  obtain ⟨u, rfl, ru⟩ := rv.one
  cases ru
  obtain ⟨z, its, n, r, hl, e⟩ := I.lstM hH
  obtain ⟨z2, its2, n2, r2, hl2, e2⟩ := I.lstM hB
  have hsz : its.toArray.size + its2.toArray.size ≤ sizeLine := by rw [List.size_toArray, List.size_toArray]; omega
  have hlong : ¬ (!its.toArray.isEmpty && Builtin.List.listTooLong (its.toArray.size + its2.toArray.size)) = true := by
    rw [notLongL hsz, Bool.and_false]
    exact Bool.false_ne_true
  refine call_meets F.slot_list_extend ⟨_, e, rfl⟩ F.entry_list_extend (F.args_list_extend_2 _ _)
    (AutoSeq1.list_extend_list_list_0 l its.toArray n b its2.toArray n2 hlong (by rw [List.size_toArray]; omega) (by omega)) ⟨e, e2, ?_⟩
  refine ⟨.non, _, I.lset (its' := its ++ its2) hH e (by simp) (r.append r2) ?_, rfl, q⟩
  rw [List.length_append]
  omega
noncomputable def rCat : R2 := fun x y H Q => ∃ l b xs zs, x = .ref l ∧ y = .ref b ∧ H l = some (.lst xs) ∧ H b = some (.lst zs) ∧ xs.length + zs.length ≤ sizeLine ∧ ∀ p, H p = none → Q (.ref p) (upd H p (.lst (xs ++ zs)))
theorem op_cat : OpR X (binaryOp .Add) rCat := by
  intro pins s σ H x y v u Q I rx ry h
  obtain ⟨l, b, xs, zs, rfl, rfl, hH, hB, hz, q⟩ := h
  cases rx
  cases ry
  obtain ⟨z, its, n, r, hl, e⟩ := I.lstM hH
  obtain ⟨z2, its2, n2, r2, hl2, e2⟩ := I.lstM hB
  refine PySem.P.add_list e e2 ?_ (by rw [List.size_toArray, List.size_toArray]; omega)
  have ea : its.toArray ++ its2.toArray = (its ++ its2).toArray := by simp
  rw [ea]
  exact ⟨.ref _, _, I.lnew (t' := s.toks) (r.append r2) (by rw [List.length_append]; omega), rfl, q _ I.fresh⟩
end
section
variable {prog : Program} {w : World} {A : Around} {E : Value → Shared → Prop} {s : Shared}
end
section
variable {X : Cx}
end
end L2
namespace Att
open PySem PySem.W PySem.Calls PyProof.Rows
theorem ints_of_wellAll {P : Params} {h : Heap} : ∀ (ns : List Int) (vs : List Value), WellAll P h vs (ns.map WData.int) → IntsAre vs ns := by
  intro ns
  induction ns with
  | nil =>
    intro vs w
    rw [List.map_nil] at w
    cases w
    exact .nil
  | cons n ns ih =>
    intro vs w
    rw [List.map_cons] at w
    cases w with
    | cons a b =>
      cases a
      exact .cons _ _ (ih _ b)
theorem script_of {l : OpenLaw} {n : Nat} (hn : l.most = some n) {P : Params} {h : Heap} {args : List WData} {vals : List Value}
    (hpre : l.row.toRowW.claim.pre args = true) (hwl : WellAll P h vals args) :
    ∃ a vs ns, vals = [Value.ref a] ∧ args = [WData.list (ns.map WData.int)] ∧ h.get? a = some { cls := .type "list", data := .seq vs.toArray } ∧ IntsAre vs ns ∧ ns.length ≤ n := by
  have hsh : WShape.hasAll [] args [.list .int] = true := (pre_splitW hpre).1
  have hc : l.pre.holds [] { args := args } = true := (pre_splitW hpre).2
  obtain ⟨d, r, rfl, h1, h2⟩ := hasAllW_cons hsh
  obtain rfl := hasAllW_nil h2
  obtain ⟨xs, rfl, h3⟩ := hasW_list h1
  obtain ⟨ns, rfl⟩ := items_int h3
  have hlen : ns.length ≤ n := by
    unfold OpenLaw.pre at hc
    have h4 : (WTm.not (.lt (.lit (.int (n : Int))) (.len (.arg 0)))).holds [] { args := [.list (ns.map .int)] } = true := by
      have h4 := (holds_andW hc).1
      rw [hn] at h4
      exact h4
    have h5 := condW_of h4 (w_not (w_lt w_lit (w_len_list (w_arg rfl))))
    rw [List.length_map] at h5
    refine Nat.le_of_not_lt fun q => ?_
    have q' : (n : Int) < ((ns.length : Nat) : Int) := by omega
    first
      | (rw [decide_eq_true q'] at h5; exact absurd h5 (by decide))
      | (simp at h5; omega)
  cases hwl with
  | cons w1 w2 =>
    cases w2
    cases w1 with
    | list ho hall => exact ⟨_, _, ns, rfl, rfl, ho, ints_of_wellAll ns _ hall, hlen⟩
theorem post_true (l : OpenLaw) (args : List WData) : l.row.toRowW.claim.post args (.bool true) args = true :=
  postW_of (r := l.row.toRowW) (X := (true == true))
    (show WShape.has [] (.bool true) .bool = true by first | rfl | decide | simp [WShape.has, WShape.arms, WShape.armsAll])
    (show (WTm.eq .res (.lit (.bool true))).value [] { args := args, res := some (.bool true), after := args } = some (.bool (true == true)) from w_eq_bool (w_res rfl) w_lit) rfl
section
variable {prog : Program} {w : World} {A : Around} {E : Value → Shared → Prop} {s : Shared} {K : Frag}
end
end Att
namespace L2
open PySem PySem.Spec PyProof.Rows
theorem vals_ints : ∀ {vs : List Value} {ns : List Int}, IntsAre vs ns → Vals (ns.map V.int) vs
  | _, _, .nil => .nil
  | _, _, .cons n t h => .cons ⟨t, rfl⟩ (vals_ints h)
noncomputable def Only (H : Hp) : Prop := ∀ b, H b = none ∨ ∃ o xs, H b = some (.frz o (.lst xs))
theorem law_call {P : Program} {w : World} {K : PySem.W.Frag} {mg mb : Str → Option Value} {CX : CXT} {k : Nat} {fa a : Addr} {fd : FuncData} {x : Str} {sp : Sp} {s₁ : Shared} {vs : List Value} {ns : List Int}
    (KX : K.In s₁.heap) (hns : s₁.heap.Ns mainGlobals mg) (hb : s₁.heap.Ns builtinsNs mb) (hbb : ∀ x : Str, x ≠ "__name__" → mb x = bootBuiltins x) (hlim : s₁.heap.NoLimit) (hg : s₁.gens = #[])
    (ha : s₁.heap.get? a = some { cls := .type "list", data := .seq vs.toArray }) (hi : IntsAre vs ns) (hl : ns.length ≤ sizeLine) (hr : Room k callerA)
    (F : ∀ base : Heap, K.In base → base.Ns mainGlobals mg → FnOk P w K mg base CX k fa fd [x] sp) (hbind : ∀ (s : Shared) (u : Value), BindsTo s fd ⟨[u], []⟩ [(x, u)])
    (hsp : ∀ H : Hp, Only H → SqL K H a (ns.map V.int) → sp [.ref a] H (fun v _ => v = .bl true) fun _ _ _ => False)
    (hCX : ∀ H e s', CX [] H s₁ (fun _ _ _ => False) e s' → False) :
    codeAny (model P w) callerA (.call (.ref fa) ⟨[.ref a], []⟩) (fun r s' => r = .ok (.ret (.bool true)) ∧ OldK s₁.heap s'.heap ∧ s'.os = s₁.os ∧ AllBare s'.gens) s₁ := by
  have rv := vals_ints hi
  have lenV := hi.length
  have core : ∀ H : Hp, Only H → SqL K H a (ns.map V.int) → HOk P w H s₁.heap → (∀ b, H b ≠ none → b = a) → (H a ≠ none → K.lookup a = none) →
      codeAny (model P w) callerA (.call (.ref fa) ⟨[.ref a], []⟩) (fun r s' => r = .ok (.ret (.bool true)) ∧ OldK s₁.heap s'.heap ∧ s'.os = s₁.os ∧ AllBare s'.gens) s₁ := by
    intro H hO hS hok hA hK
    have base_of : ∀ {b : Addr} {o : Obj}, s₁.heap.get? b = some o → H b = none → (hidT s₁.heap H).get? b = some o := fun e n => hidT_get e n
    have noA : ∀ {b : Addr} {o : Obj} {es : Array DictEntry} {ep : Nat}, s₁.heap.get? b = some o → o.data = .dict es ep → H b = none := fun {b o es ep} e d => by
      cases q : H b with
      | none => rfl
      | some u =>
        have e' : b = a := hA b (by rw [q]; simp)
        subst e'
        rw [ha] at e; cases e
        have d' : Data.seq vs.toArray _ = Data.dict es ep := d
        cases d'
    have nsK : ∀ {b : Addr} {m : Str → Option Value}, s₁.heap.Ns b m → (hidT s₁.heap H).Ns b m := fun {b m} ⟨o, es, ep, e, d, r⟩ => ⟨o, es, ep, base_of e (noA e d), d, r⟩
    have hKb : K.In (hidT s₁.heap H) := fun b o e => base_of (KX b o e) (by
      cases q : H b with
      | none => rfl
      | some u =>
        have e' : b = a := hA b (by rw [q]; simp)
        subst e'
        rw [hK (by rw [q]; simp)] at e; cases e)
    have hM : Mod K mg (hidT s₁.heap H) := ⟨hKb, nsK hns, ⟨mb, nsK hb, hbb⟩, let ⟨mc, h1, h2⟩ := hlim; ⟨mc, nsK h1, h2⟩⟩
    have e0 : Env0 P w K mg (hidT s₁.heap H) callerA [] s₁ H := ⟨rfl, hM, fun b o e => of_hidT e, Nat.le_of_eq (hidT_size _ _), trivial, fun b hb => absurd (show b ∈ ([] : List Addr) from hb) (by simp), hok, .of_eq hg⟩
    refine codeAny_mono ((F _ hKb (nsK hns)).run callerA [] s₁ H ⟨[.ref a], []⟩ [.ref a] [.ref a] _ _ hr e0 (hbind s₁ (.ref a)) (.cons rfl .nil) (hsp H hO hS)) fun r s' h => ?_
    cases r with
    | error e => exact (hCX H e s' h).elim
    | ok fl =>
      cases fl with
      | next => exact False.elim h
      | brk => exact False.elim h
      | cont => exact False.elim h
      | ret u =>
        obtain ⟨v, H', os, bare, un, hok', r', q⟩ := h
        have q' : v = .bl true := q
        subst q'
        obtain rfl : u = Value.bool true := r'
        refine ⟨rfl, OldK.of_keep fun b o e => ?_, os, bare⟩
        cases q : H b with
        | none => exact un.keep b o e q (by intro z; exact absurd (show b ∈ ([] : List Addr) from z) (by simp)) (by simp)
        | some u =>
          rcases hO b with z | ⟨ob, xs, z⟩
          · rw [q] at z; cases z
          · have z2 := un.frzs b ob _ z
            obtain ⟨e1, _⟩ := hok b _ z
            obtain ⟨e2, _⟩ := hok' b _ z2
            rw [e] at e1; cases e1
            exact e2
  cases hk : K.lookup a with
  | some o =>
    have e := KX a o hk
    rw [ha] at e
    cases e
    refine core (fun _ => none) (fun _ => .inl rfl) (.inr ⟨_, vs.toArray, _, hk, rfl, rfl, rfl, by rw [List.size_toArray, lenV]; exact hl, by simpa using rv⟩) (fun b u z => by have z' : (none : Option HO) = some u := z; cases z') (fun b z => absurd rfl z) fun z => absurd rfl z
  | none =>
    refine core (fun b => if b = a then some (.frz { cls := .type "list", data := .seq vs.toArray } (.lst (ns.map V.int))) else none) (fun b => ?_) (.inl (.inr ⟨{ cls := .type "list", data := .seq vs.toArray }, if_pos rfl⟩)) (fun b u z => ?_) (fun b z => ?_) fun _ => hk
    · by_cases hb : b = a
      · exact .inr ⟨_, _, if_pos hb⟩
      · exact .inl (if_neg hb)
    · by_cases hb : b = a
      · have z' := (if_pos hb).symm.trans z
        cases z'
        subst hb
        exact ⟨ha, by rw [List.length_map]; exact hl, vs, _, rv, ha⟩
      · have z' := (if_neg hb).symm.trans z
        cases z'
    · by_cases hb : b = a
      · exact hb
      · exact absurd (if_neg hb) z
end L2
namespace L2
open PySem PySem.Spec PyProof.Rows
end L2
namespace L2
open PySem PySem.Spec PyProof.Rows
noncomputable def defArgs (s : Stmt) : Arguments := match s with
  | .FunctionDef _ a _ _ _ _ _ _ _ _ => a
  | _ => { posonlyargs := [], args := [], vararg := none, kwonlyargs := [], kw_defaults := [], kwarg := none, defaults := [] }
noncomputable def defBody (s : Stmt) : List Stmt := match s with
  | .FunctionDef _ _ b _ _ _ _ _ _ _ => b
  | _ => []
noncomputable def defScope (s : Stmt) : Scope := match s with
  | .FunctionDef _ _ _ _ _ _ sc _ _ _ => sc
  | _ => { kind := .function, names := [], isGenerator := false, isCoroutine := false }
noncomputable abbrev CX0 : CXT := fun _ _ _ _ _ _ => False
noncomputable abbrev E0 : XK := fun _ _ _ => False
theorem pass0 {X : Cx} : Passes CX0 X E0 := fun _ _ _ _ _ _ _ h => h.elim
structure Fun (K : PySem.W.Frag) (x qual : Str) (st : Stmt) (f : Addr) (fd : FuncData) : Prop where
  ex : ∃ (oc : Value) (od : Option Addr) (kV doc pm : Value) (an : Option Addr) (cdv ct : Value) (osl : Array (Option Value)),
    fd = PySem.W.fnOf x qual (defArgs st) (defBody st) (defScope st) .none kV doc pm an cdv ct ∧ K.lookup f = some ⟨oc, od, .func fd, osl⟩ ∧ PySem.W.codeIn K cdv qual = true
  kp : PySem.W.keepIn K (.ref f) = true
section
variable {P : Program} {w : World} {K : PySem.W.Frag} {mg : Str → Option Value} {base : Heap}
theorem Fun.ok {x qual : Str} {st : Stmt} {f : Addr} {fd : FuncData} {N ps : List Str} {k : Nat} {sp : Sp} (F : Fun K x qual st f fd) (S : FnScope N ps (defScope st)) (len : ∀ vs H Q E, sp vs H Q E → vs.length = ps.length)
    (hbody : ∀ (cdv : Value) (A : Around) (outer : List Env) (s : Shared) (H : Hp) (vs : List V) (Q : VK) (E : XK), Room k (A.deeper (envOfC qual (defScope st) s.heap.objs.size f cdv)) → sp vs H Q E →
      ∃ t, PSs (cxOf CX0 P w K mg base N qual (defScope st) f cdv A outer s H E).nox (defBody st) t ∧ t { nx := fun _ H' => Q .non H', rt := Q } (start N vs) H) : FnOk P w K mg base CX0 (k + 1) f fd ps sp := by
  obtain ⟨oc, od, kV, doc, pm, an, cdv, ct, osl, rfl, lk, hcd⟩ := F.ex
  refine fn_of lk hcd S len fun A outer s H vs Q E hr hsp => ?_
  obtain ⟨t, h, q⟩ := hbody cdv A outer s H vs Q E hr hsp
  exact ⟨t, h.nox, q⟩
theorem Fun.binds {x qual : Str} {st : Stmt} {f : Addr} {fd : FuncData} {ps : List Str} (F : Fun K x qual st f fd)
    (h : ∀ (kV doc pm : Value) (an : Option Addr) (cdv ct : Value) (us : List Value), us.length = ps.length → bindArgs (PySem.W.fnOf x qual (defArgs st) (defBody st) (defScope st) .none kV doc pm an cdv ct) ⟨us, []⟩ = pure (ps.zip us)) : Binds K fd ps [] := by
  obtain ⟨oc, od, kV, doc, pm, an, cdv, ct, osl, rfl, lk, hcd⟩ := F.ex
  exact .all (h kV doc pm an cdv ct)
theorem fun_mk {x qual : Str} {st : Stmt} {f : Addr} {oc : Value} {od an : Option Addr} {osl : Array (Option Value)} {kV doc pm cdv ct : Value} (l : K.lookup f = some ⟨oc, od, .func (PySem.W.fnOf x qual (defArgs st) (defBody st) (defScope st) .none kV doc pm an cdv ct), osl⟩)
    (c : PySem.W.codeIn K cdv qual = true) (k : PySem.W.keepIn K (.ref f) = true) : Fun K x qual st f (PySem.W.fnOf x qual (defArgs st) (defBody st) (defScope st) .none kV doc pm an cdv ct) := ⟨⟨oc, od, kV, doc, pm, an, cdv, ct, osl, rfl, l, c⟩, k⟩
end
theorem small1000 {n : Nat} (h : n ≤ 1000) : n < sizeLine := Nat.lt_of_le_of_lt h (by decide)
section
variable {X : Cx}
theorem pv (i : Nat) {x : Str} {pos : Pos} (hN : X.N[i]? = some x := by rfl) (hv : Vis X.env.scope x := by first | exact Or.inl rfl | exact Or.inr (Or.inl rfl) | exact Or.inr (Or.inr rfl)) (hd : (x == ("__debug__" : Str)) = false := by decide)
    (hcd : (x == ("__classdict__" : Str)) = false := by decide) : PE X (.Name x pos) (tVar i) := pe_var hN hv hd hcd
end
theorem iteF {A B : Prop} (h : B) : if false = true then A else B := by
  rw [if_neg Bool.false_ne_true]
  exact h
theorem iteT {A B : Prop} (h : A) : if true = true then A else B := by
  rw [if_pos rfl]
  exact h
noncomputable def Same (H H' : Hp) : Prop := ∀ b o, H b = some o → H' b = some o
theorem Same.refl (H : Hp) : Same H H := fun _ _ h => h
theorem Same.trans {H H1 H2 : Hp} (a : Same H H1) (b : Same H1 H2) : Same H H2 := fun c o h => b c o (a c o h)
theorem Same.free {H H' : Hp} (e : Same H H') {l : Addr} (h : H' l = Option.none) : H l = Option.none := by
  cases q : H l with
  | none => rfl
  | some o =>
    rw [e l o q] at h
    cases h
theorem Same.seq {K : PySem.W.Frag} {H H' : Hp} {a : Addr} {xs : List V} (e : Same H H') (h : SqL K H a xs) : SqL K H' a xs := by
  rcases h with (h | ⟨o, h⟩) | h
  · exact .inl (.inl (e _ _ h))
  · exact .inl (.inr ⟨o, e _ _ h⟩)
  · exact .inr h
end L2
set_option Elab.async false
set_option linter.all false
set_option maxRecDepth 100000
namespace L2
open PySem PySem.Spec PyProof.Rows
section
variable {κ : Type} [DecidableEq κ]
noncomputable def valV (kvs : List (κ × V)) (k : κ) : Option V := (kvs.find? fun kv => decide (kv.1 = k)).map (·.2)
noncomputable def putK (kvs : List (κ × V)) (k : κ) (v : V) : List (κ × V) :=
  if (kvs.any fun kv => decide (kv.1 = k)) = true then kvs.map (fun kv => if kv.1 = k then (kv.1, v) else kv) else kvs ++ [(k, v)]
noncomputable def dropK (kvs : List (κ × V)) (k : κ) : List (κ × V) := kvs.filter fun kv => decide (kv.1 ≠ k)
theorem valV_pos {p : κ × V} {r : List (κ × V)} {k : κ} (e : p.1 = k) : valV (p :: r) k = some p.2 := by simp [valV, List.find?_cons, e]
theorem valV_neg {p : κ × V} {r : List (κ × V)} {k : κ} (e : ¬ p.1 = k) : valV (p :: r) k = valV r k := by simp [valV, List.find?_cons, e]
theorem RelO.getD {o : Option V} {u : Option Value} {d : V} {d' : Value} (r : RelO o u) (rd : RelV d d') : RelV (o.getD d) (u.getD d') := by
  cases o with
  | none => cases u with
    | none => exact rd
    | some _ => exact (show False from r).elim
  | some _ => cases u with
    | none => exact (show False from r).elim
    | some _ => exact r
theorem KV.val {kvs : List (κ × V)} {vs : List (κ × Value)} (r : KV kvs vs) (k : κ) : RelO (valV kvs k) (valueAt vs k) := by
  unfold KV at r
  induction r with
  | nil => exact True.intro
  | @cons p q ps qs h t ih =>
    obtain ⟨h1, h2⟩ := h
    by_cases e : p.1 = k
    · have e' : q.1 = k := h1.symm.trans e
      have b : valueAt (q :: qs) k = some q.2 := by simp [valueAt, List.find?_cons, e']
      rw [valV_pos e, b]; exact h2
    · have e' : ¬ q.1 = k := fun z => e (h1.trans z)
      have b : valueAt (q :: qs) k = valueAt qs k := by simp [valueAt, List.find?_cons, e']
      rw [valV_neg e, b]; exact ih
theorem KV.any {kvs : List (κ × V)} {vs : List (κ × Value)} (r : KV kvs vs) (k : κ) : (kvs.any fun kv => decide (kv.1 = k)) = vs.any fun kv => decide (kv.1 = k) := by
  unfold KV at r
  induction r with
  | nil => rfl
  | cons h t ih => rw [List.any_cons, List.any_cons, ih, h.1]
theorem KV.drop {kvs : List (κ × V)} {vs : List (κ × Value)} (r : KV kvs vs) (k : κ) : KV (dropK kvs k) (without vs k) := by
  unfold KV at r ⊢
  unfold dropK without
  induction r with
  | nil => exact .nil
  | @cons p q ps qs h t ih =>
    obtain ⟨h1, h2⟩ := h
    rw [List.filter_cons, List.filter_cons]
    by_cases e : p.1 = k
    · have a : ¬ decide (p.1 ≠ k) = true := by simp [e]
      have b : ¬ decide (q.1 ≠ k) = true := by simp [h1.symm.trans e]
      rw [if_neg a, if_neg b]; exact ih
    · have e' : ¬ q.1 = k := fun z => e (h1.trans z)
      have a : decide (p.1 ≠ k) = true := by simp [e]
      have b : decide (q.1 ≠ k) = true := by simp [e']
      rw [if_pos a, if_pos b]; exact .cons ⟨h1, h2⟩ ih
theorem KV.keys {kvs : List (κ × V)} {vs : List (κ × Value)} (r : KV kvs vs) : kvs.map (·.1) = vs.map (·.1) := by
  unfold KV at r
  induction r with
  | nil => rfl
  | cons h t ih => rw [List.map_cons, List.map_cons, ih, h.1]
theorem KV.length {kvs : List (κ × V)} {vs : List (κ × Value)} (r : KV kvs vs) : kvs.length = vs.length := Paired.length r
end
theorem kV_is {P : Program} {w : World} {k : Key} {u : Value} (r : RelV (kV k) u) : (mixKind P w).is k u = true := by
  cases k with
  | inl i => obtain ⟨t, e⟩ := (show ∃ t, u = Value.int i t from r); subst e; exact mixKind_int P w i t
  | inr x => obtain ⟨t, e⟩ := (show ∃ t, u = Value.str x t from r); subst e; exact mixKind_str P w x t
theorem items_are {P : Program} {w : World} : ∀ {ks : List Key} {us : List Value}, Vals (ks.map kV) us → ItemsAre (mixKind P w) ks us
  | [], _, r => by rw [List.map_nil] at r; cases r; exact .nil
  | k :: ks, _, r => by
    rw [List.map_cons] at r
    cases r with
    | cons h t => exact .cons (kV_is h) (items_are t)
noncomputable abbrev KT (H : Hp) : List (List Key × V) → List (List Key × Addr × Value) → Prop := Paired fun p q => p.1 = q.1 ∧ H q.2.1 = some (.tup (p.1.map kV)) ∧ RelV p.2 q.2.2
theorem KT.val {H : Hp} {kvs : List (List Key × V)} {xs : List (List Key × Addr × Value)} (r : KT H kvs xs) (k : List Key) : RelO (valV kvs k) ((atKey xs k).map (·.2)) := by
  induction r with
  | nil => exact True.intro
  | @cons p q ps qs h t ih =>
    obtain ⟨h1, _, h2⟩ := h
    by_cases e : p.1 = k
    · have e' : q.1 = k := h1.symm.trans e
      have b : atKey (q :: qs) k = some q.2 := by simp [atKey, List.find?_cons, e']
      rw [valV_pos e, b]; exact h2
    · have e' : ¬ q.1 = k := fun z => e (h1.trans z)
      have b : atKey (q :: qs) k = atKey qs k := by simp [atKey, List.find?_cons, e']
      rw [valV_neg e, b]; exact ih
theorem KT.keeps {H H' : Hp} {kvs : List (List Key × V)} {xs : List (List Key × Addr × Value)} (r : KT H kvs xs) (ht : ∀ b ys, H b = some (.tup ys) → H' b = some (.tup ys)) : KT H' kvs xs :=
  Paired.mapP r fun _ _ z => ⟨z.1, ht _ _ z.2.1, z.2.2⟩
section
variable {P : Program} {w : World} {H : Hp} {h : Heap} {a : Addr}
theorem rd_of {u : HO} (ok : HOk P w H h) (e : Rd H a u) : ObjOk P w H h a u := e.ok ok
theorem dk_rd {kvs : List (Key × V)} (ok : HOk P w H h) (e : Rd H a (.dK kvs)) : kvs.length ≤ sizeLine ∧ (a == sysModules) = false ∧ ∃ vs, KV kvs vs ∧ h.DictOf (mixKind P w) a vs :=
  show ObjOk P w H h a (.dK kvs) from rd_of ok e
theorem key_of {ks : List Key} (ok : HOk P w H h) (e : H a = some (.tup (ks.map kV))) : (tupleKind (mixKind P w)).is h ks a := by
  obtain ⟨_, its, r, o, h1, h2, n, h3⟩ := (show ObjOk P w H h a (.tup (ks.map kV)) from ok a _ e)
  exact ⟨o, its.toArray, n, h1, h2, h3, by simpa using items_are r⟩
theorem dt_rd {kvs : List (List Key × V)} (ok : HOk P w H h) (e : Rd H a (.dT kvs)) : kvs.length ≤ sizeLine ∧ (a == sysModules) = false ∧
    ∃ xs, KT H kvs xs ∧ h.DictOfH (tupleKind (mixKind P w)) a xs := by
  obtain ⟨z, y, xs, r, o, es, ep, h1, h2, h3, h4, h5⟩ := (show ObjOk P w H h a (.dT kvs) from rd_of ok e)
  refine ⟨z, y, xs, r, o, es, ep, h1, h2, h3, h4, fun x hx => ?_, h5⟩
  have all : ∀ {l : List (List Key × V)} {m : List (List Key × Addr × Value)}, KT H l m → ∀ x ∈ m, (tupleKind (mixKind P w)).is h x.1 x.2.1 := by
    intro l m q
    induction q with
    | nil => intro x hx; exact nomatch hx
    | @cons p q ps qs hq t ih =>
      intro x hx
      rcases List.mem_cons.mp hx with e | hx
      · subst e
        exact key_of ok (by rw [← hq.1]; exact hq.2.1)
      · exact ih x hx
  exact all r x hx
end
noncomputable def DGet (H : Hp) (a : Addr) (y : V) (r : Option V) : Prop :=
  (∃ kvs k, Rd H a (.dK kvs) ∧ y = kV k ∧ r = valV kvs k) ∨ ∃ kvs k b, Rd H a (.dT kvs) ∧ y = .ref b ∧ H b = some (.tup (k.map kV)) ∧ r = valV kvs k
noncomputable def DPut (H : Hp) (a : Addr) (y v : V) (H' : Hp) : Prop :=
  (∃ kvs k, H a = some (.dK kvs) ∧ y = kV k ∧ kvs.length < sizeLine ∧ H' = upd H a (.dK (putK kvs k v))) ∨
  ∃ kvs k b, H a = some (.dT kvs) ∧ y = .ref b ∧ H b = some (.tup (k.map kV)) ∧ kvs.length < sizeLine ∧ H' = upd H a (.dT (putK kvs k v))
theorem DGet.k {H : Hp} {a : Addr} {kvs : List (Key × V)} {k : Key} (e : H a = some (.dK kvs)) : DGet H a (kV k) (valV kvs k) := .inl ⟨kvs, k, .inl e, rfl, rfl⟩
theorem DGet.t {H : Hp} {a b : Addr} {kvs : List (List Key × V)} {k : List Key} (e : H a = some (.dT kvs)) (eb : H b = some (.tup (k.map kV))) : DGet H a (.ref b) (valV kvs k) := .inr ⟨kvs, k, b, .inl e, rfl, eb, rfl⟩
theorem DPut.k {H : Hp} {a : Addr} {kvs : List (Key × V)} {k : Key} {v : V} (e : H a = some (.dK kvs)) (hl : kvs.length < sizeLine) : DPut H a (kV k) v (upd H a (.dK (putK kvs k v))) := .inl ⟨kvs, k, e, rfl, hl, rfl⟩
theorem DPut.t {H : Hp} {a b : Addr} {kvs : List (List Key × V)} {k : List Key} {v : V} (e : H a = some (.dT kvs)) (eb : H b = some (.tup (k.map kV))) (hl : kvs.length < sizeLine) :
    DPut H a (.ref b) v (upd H a (.dT (putK kvs k v))) := .inr ⟨kvs, k, b, e, rfl, eb, hl, rfl⟩
section
variable {X : Cx} {pins : List (Addr × Obj)} {σ : St} {H : Hp} {s : Shared} {a : Addr} {y v : V} {u r : Value} {o : Option V} {A : Around} {E : Value → Shared → Prop}
end
section
variable {X : Cx} {pins : List (Addr × Obj)} {σ : St} {H : Hp} {s : Shared} {a : Addr} {kvs : List (Key × V)} {k : Key} {u : Value} {A : Around} {E : Value → Shared → Prop}
end
section
variable {X : Cx} {o i e value : Expr} {pos pos' tpos : Pos} {td ty tv : TE}
end
section
variable {X : Cx} {pos : Pos}
end
section
variable {X : Cx} {pins : List (Addr × Obj)} {σ : St} {H : Hp} {s : Shared} {a : Addr} {y d : V} {u r : Value} {o : Option V} {A : Around} {E : Value → Shared → Prop}
end
section
variable {X : Cx} {o e f : Expr} {apos cpos : Pos} {td ty tx : TE}
end
section
variable {X : Cx} {pins : List (Addr × Obj)} {σ : St} {H : Hp} {s : Shared} {a : Addr} {kvs : List (Key × V)} {A : Around} {E : Value → Shared → Prop}
end
section
variable {X : Cx} {pins : List (Addr × Obj)} {σ : St} {H : Hp} {s : Shared} {a : Addr} {y : V} {u : Value} {A : Around} {E : Value → Shared → Prop}
theorem d_missing {Q : Value → Shared → Prop} (hu : A.units + 1 < cLine) (hh : A.handled = none) (I : Inv X pins σ H s) (g : DGet H a y none) (ry : RelV y u)
    (h : ∀ h' e t', Heap.NewExc s.heap h' e "KeyError" → E (.ref e) { s with heap := h', toks := t' }) : wpAny (model X.prog X.w) A (getItem (.ref a) u) Q E s := by
  rcases g with ⟨kvs, k, e, ey, l⟩ | ⟨kvs, k, b, e, ey, eb, l⟩
  · subst ey
    obtain ⟨z, hd, vs, rel, dd⟩ := dk_rd I.hok e
    have hn : valueAt vs k = none := RelO.none_of (by rw [l]; exact rel.val k)
    exact wpAny_getItem_missing_of (kV_is ry) hd hh dd.mapOf hn fun h' ex ne => h h' ex _ ne
  · subst ey
    cases (show u = Value.ref b from ry)
    obtain ⟨z, hd, xs, rel, dd⟩ := dt_rd I.hok e
    have hn : (atKey xs k).map (·.2) = none := RelO.none_of (by rw [l]; exact rel.val k)
    exact wpAny_getItem_missing_heap (tupleKind_room_in1 hu) (key_of I.hok eb) hd hh dd (Option.map_eq_none_iff.mp hn) fun h' ex ne => h h' ex _ ne
end
end L2
set_option Elab.async false
set_option linter.all false
set_option maxRecDepth 100000
set_option maxHeartbeats 4000000
namespace L2
open PySem PySem.Spec PyProof.Rows
section
variable {X : Cx}
theorem lt_two {n : Nat} {k : Int} (h0 : 0 < k) (h : k < 2 ^ 400) : k.natAbs.log2 < 9000 := by
  have hne : k.natAbs ≠ 0 := by omega
  have : k.natAbs.log2 < 400 := (Nat.log2_lt hne).mpr (by omega)
  omega
noncomputable def CDivB (_ j : Int) : Prop := 0 < j ∧ j < 2 ^ 400
theorem op_fdivB : OpR X (binaryOp .FloorDiv) (rI CDivB fun i j => .int (i / j)) := opI fun i j _ _ _ _ _ hc q => by
  have h1 : (0 : Int) < j := hc.1
  exact floordiv_int (by omega) (by rw [Int.fdiv_eq_ediv_of_nonneg i (by omega)]; exact q) (.inl (PyProof.noPylong_of_log2 (lt_two (n := 0) hc.1 hc.2)))
noncomputable def CMulB (i j : Int) : Prop := IntMulOk i j
theorem op_mulB : OpR X (binaryOp .Mult) (rI CMulB fun i j => .int (i * j)) := opI fun _ _ _ _ _ _ _ hc q => mul_int q hc
theorem mul_l {i j : Int} (h1 : -(2 ^ 64) < i) (h2 : i < 2 ^ 64) : CMulB i j := IntMulOk.of_left (intBits_le_64 h1 h2)
theorem mul_r {i j : Int} (h1 : -(2 ^ 64) < j) (h2 : j < 2 ^ 64) : CMulB i j := IntMulOk.of_right (intBits_le_64 h1 h2)
noncomputable def TyS (K : PySem.W.Frag) (H : Hp) (x : V) (t : Value) : Prop := TyOf K H x t ∨ (∃ a xs, x = .ref a ∧ SqT K H a xs ∧ t = .type "tuple") ∨ (∃ a xs, x = .ref a ∧ SqL K H a xs ∧ t = .type "list")
theorem TyS.tup {K : PySem.W.Frag} {H : Hp} {a : Addr} {xs : List V} (h : SqT K H a xs) : TyS K H (.ref a) (.type "tuple") := .inr (.inl ⟨a, xs, rfl, h, rfl⟩)
theorem TyS.lst {K : PySem.W.Frag} {H : Hp} {a : Addr} {xs : List V} (h : SqL K H a xs) : TyS K H (.ref a) (.type "list") := .inr (.inr ⟨a, xs, rfl, h, rfl⟩)
theorem TyS.int {K : PySem.W.Frag} {H : Hp} {i : Int} : TyS K H (.int i) (.type "int") := .inl (.int i)
theorem TyS.bl {K : PySem.W.Frag} {H : Hp} {i : Bool} : TyS K H (.bl i) (.type "bool") := .inl (.bl i)
theorem TyS.str {K : PySem.W.Frag} {H : Hp} {i : Str} : TyS K H (.str i) (.type "str") := .inl (.str i)
theorem call_isinst : CallR X (.builtin "isinstance") (fun xs H Q => ∃ x c t b, xs = [x, .ty c] ∧ TyS X.K H x t ∧ PySem.W.kitOne X.K t (.type c) = some b ∧ Q (.bl b) H) := by
  intro pins s σ H xs us Q I r h
  obtain ⟨x, c, t, b, rfl, ty, e, q⟩ := h
  obtain ⟨u, v, rfl, rx, rc⟩ := Vals.two r
  cases (show v = Value.type c from rc)
  have fin : ∀ tk, EP X pins σ Q (.bool b) { s with toks := tk } := fun tk => ⟨.bl b, H, I.tok _, rfl, q⟩
  rcases ty with ty | ⟨a, xs, rfl, hT, rfl⟩ | ⟨a, xs, rfl, hL, rfl⟩
  · exact isinst_ok I rx ty e fin
  · cases (show u = Value.ref a from rx)
    obtain ⟨its, _, p, _⟩ := I.tuple hT
    obtain ⟨o, h1, h2, _⟩ := p
    exact PySem.W.kia_one PySem.W.kitx_tuple I.kIn ⟨o, h1, h2⟩ e (fun z => nomatch z) fin
  · cases (show u = Value.ref a from rx)
    obtain ⟨its, _, p, _⟩ := I.list hL
    obtain ⟨o, _, h1, h2, _⟩ := p
    exact PySem.W.kia_one PySem.W.kitx_list I.kIn ⟨o, h1, h2⟩ e (fun z => nomatch z) fin
theorem boot_max : bootBuiltins "max" = some (.builtin "max") := by decide +kernel
theorem boot_min : bootBuiltins "min" = some (.builtin "min") := by decide +kernel
theorem boot_isinstance : bootBuiltins "isinstance" = some (.builtin "isinstance") := by decide +kernel
theorem boot_ty_int : bootBuiltins "int" = some (.type "int") := by decide +kernel
theorem boot_ty_bool : bootBuiltins "bool" = some (.type "bool") := by decide +kernel
theorem boot_ty_str : bootBuiltins "str" = some (.type "str") := by decide +kernel
theorem boot_ty_tuple : bootBuiltins "tuple" = some (.type "tuple") := by decide +kernel
theorem boot_ty_list : bootBuiltins "list" = some (.type "list") := by decide +kernel
theorem kit_int_int {K : PySem.W.Frag} : PySem.W.kitOne K (.type "int") (.type "int") = some true := rfl
theorem kit_int_bool {K : PySem.W.Frag} : PySem.W.kitOne K (.type "int") (.type "bool") = some false := by first | rfl | with_unfolding_all rfl
theorem kit_tup_tup {K : PySem.W.Frag} : PySem.W.kitOne K (.type "tuple") (.type "tuple") = some true := rfl
theorem kit_lst_lst {K : PySem.W.Frag} : PySem.W.kitOne K (.type "list") (.type "list") = some true := rfl
theorem kit_str_str {K : PySem.W.Frag} : PySem.W.kitOne K (.type "str") (.type "str") = some true := rfl
end
theorem Same.seqT {K : PySem.W.Frag} {H H' : Hp} {a : Addr} {xs : List V} (e : Same H H') (h : SqT K H a xs) : SqT K H' a xs := by
  rcases h with (h | ⟨o, h⟩) | h
  · exact .inl (.inl (e _ _ h))
  · exact .inl (.inr ⟨o, e _ _ h⟩)
  · exact .inr h
theorem same_new {H : Hp} {p : Addr} (h : H p = none) (o : HO) : Same H (upd H p o) := fun b u q => by rw [upd_ne (ne_of_none q h)]; exact q
theorem small' {n : Nat} (h : n ≤ 1000) : n ≤ sizeLine := Nat.le_of_lt (small1000 h)
section
variable {X : Cx} {es : List Expr} {t : TA} {pos : Pos}
noncomputable def tTupO (t : TA) : TE := fun σ H Q => t σ H fun xs H1 => xs.length ≤ sizeLine ∧ ∀ p H2, H1 p = none → Same H1 H2 → H2 p = some (.tup xs) → Q (.ref p) H2
noncomputable def tLstO (t : TA) : TE := fun σ H Q => t σ H fun xs H1 => xs.length ≤ sizeLine ∧ ∀ p H2, H1 p = none → Same H1 H2 → H2 p = some (.lst xs) → Q (.ref p) H2
theorem pe_tupO {x1} (h : PA X es t) : PE X (.Tuple es x1 pos) (tTupO t) := by
  intro pins s σ H Q I hq
  refine wpAny_Tuple_spliced (thn (h pos pins s σ H _ I hq) fun us s1 ⟨xs, H1, I1, r, z, q⟩ => ⟨by rw [← r.length]; exact z, ?_⟩)
  have hf : H1 s1.heap.objs.size = none := I1.hok.fresh (Nat.le_refl _)
  refine ⟨.ref s1.heap.objs.size, upd H1 s1.heap.objs.size (.tup xs), I1.laid (t' := s1.toks) (fun b u e => Heap.get?_push_of_some _ e) (Nat.le_refl _) ?_, rfl, q _ _ hf (same_new hf _) upd_same⟩
  exact ⟨z, us, r, ⟨_, Heap.get?_push_size _ rfl, rfl, _, rfl⟩⟩
theorem pe_lstO (h : PA X es t) : PE X (.List es pos) (tLstO t) := by
  intro pins s σ H Q I hq
  refine wpAny_List_spliced (thn (h pos pins s σ H _ I hq) fun us s1 ⟨xs, H1, I1, r, z, q⟩ => ⟨by rw [← r.length]; exact z, ?_⟩)
  have hf : H1 s1.heap.objs.size = none := I1.hok.fresh (Nat.le_refl _)
  refine ⟨.ref s1.heap.objs.size, upd H1 s1.heap.objs.size (.lst xs), I1.laid (t' := s1.toks) (fun b u e => Heap.get?_push_of_some _ e) (Nat.le_refl _) ?_, rfl, q _ _ hf (same_new hf _) upd_same⟩
  exact ⟨z, us, 0, r, Heap.get?_push_size _ rfl⟩
end
section
variable {env : Env} {es : List Expr}
theorem star_Name {x p} : starEach (.Name x p :: es) env = (false, eval (.Name x p) env) :: starEach es env := by first | rfl | with_unfolding_all rfl
theorem star_Constant {x j p} : starEach (.Constant x j p :: es) env = (false, eval (.Constant x j p) env) :: starEach es env := by first | rfl | with_unfolding_all rfl
theorem star_BinOp {a o b p} : starEach (.BinOp a o b p :: es) env = (false, eval (.BinOp a o b p) env) :: starEach es env := by first | rfl | with_unfolding_all rfl
theorem star_Compare {a o b p} : starEach (.Compare a o b p :: es) env = (false, eval (.Compare a o b p) env) :: starEach es env := by first | rfl | with_unfolding_all rfl
theorem star_Call {a o b p} : starEach (.Call a o b p :: es) env = (false, eval (.Call a o b p) env) :: starEach es env := by first | rfl | with_unfolding_all rfl
theorem star_Subscript {a o p} : starEach (.Subscript a o p :: es) env = (false, eval (.Subscript a o p) env) :: starEach es env := by first | rfl | with_unfolding_all rfl
end
theorem plain_Name {x p} : PlainIx (.Name x p) := fun _ _ => rfl
theorem plain_Constant {x j p} : PlainIx (.Constant x j p) := fun _ _ => rfl
theorem plain_BinOp {a o b p} : PlainIx (.BinOp a o b p) := fun _ _ => rfl
theorem plain_UnaryOp {o b p} : PlainIx (.UnaryOp o b p) := fun _ _ => rfl
section
variable {X : Cx} {pos : Pos}
noncomputable def gN (i : Nat) : TG := fun v σ H Q => ∀ σ', σ' = σ.set i (some v) → Q σ' H
theorem pg_nameN {i : Nat} {x : Str} {pos' : Pos} (hN : X.N.Nodup) (hi : X.N[i]? = some x) (hx : Loc X.env.scope x) (hf : X.fn x = true ∨ X.env.scope.names.lookup x = some .local := by first | exact .inl rfl | exact .inr rfl | assumption) : PG X (.Name x pos') (gN i) := by
  intro pins s σ H v u Q I r h
  exact pg_name hN hi hx hf pins s σ H v u Q I r (h _ rfl)
theorem ps_setN {i : Nat} {x : Str} {e : Expr} {te : TE} {pos' : Pos} (hN : X.N.Nodup) (hi : X.N[i]? = some x) (hx : Loc X.env.scope x) (he : PE X e te) (hs : swapsWith e (some (.Name x pos')) pos.line X.env = pure false := by rfl) (hf : X.fn x = true ∨ X.env.scope.names.lookup x = some .local := by first | exact .inl rfl | exact .inr rfl | assumption) :
    PS X (.Assign [.Name x pos'] e pos) (tAsg te (gN i)) := by
  intro pins s σ H D I h
  exact wpAny_Assign_Name (thn (he pins s σ H _ I h) fun u s1 ⟨v, H1, I1, r1, q1⟩ => store_ok I1 hN hi hx r1 (fun s2 I2 => ⟨_, H1, I2, q1 _ rfl⟩) hf) hs
end
structure CxIs (X : Cx) (N : List Str) (sc : Scope) : Prop where
  n : X.N = N
  s : X.env.scope = sc
  calm : X.calm = true
  own : PassesOwn (model X.prog X.w) X.A X.env X.xe
section
variable {X : Cx} {N : List Str} {sc : Scope} {pos : Pos}
theorem xv (c : CxIs X N sc) {i : Nat} {x : Str} (hi : N[i]? = some x) (hv : sc.names.lookup x = some .local) (hd : (x == ("__debug__" : Str)) = false) (hcd : (x == ("__classdict__" : Str)) = false) : PE X (.Name x pos) (tVar i) :=
  pe_var (by rw [c.n]; exact hi) (Or.inl (by rw [c.s]; exact hv)) hd hcd
theorem xs (c : CxIs X N sc) (nd : N.Nodup) {i : Nat} {x : Str} {e : Expr} {te : TE} {pos' : Pos} (hi : N[i]? = some x) (hv : sc.names.lookup x = some .local) (he : PE X e te) (hs : swapsWith e (some (.Name x pos')) pos.line X.env = pure false) :
    PS X (.Assign [.Name x pos'] e pos) (tAsg te (gN i)) :=
  ps_setN (by rw [c.n]; exact nd) (by rw [c.n]; exact hi) (Or.inl (by rw [c.s]; exact hv)) he hs (Or.inr (by rw [c.s]; exact hv))
theorem xt (c : CxIs X N sc) (nd : N.Nodup) {i : Nat} {x : Str} (hi : N[i]? = some x) (hv : sc.names.lookup x = some .local) : PG X (.Name x pos) (gN i) :=
  pg_nameN (by rw [c.n]; exact nd) (by rw [c.n]; exact hi) (Or.inl (by rw [c.s]; exact hv)) (Or.inr (by rw [c.s]; exact hv))
theorem xg (c : CxIs X N sc) {x : Str} (hv : sc.names.lookup x = some .globalImplicit) : Gl X x := by
  show X.env.scope.names.lookup x = _
  rw [c.s]; exact hv
end
structure WE (X : Cx) (e : Expr) (t : TE) : Prop where
  h : PE X e t
structure WT (X : Cx) (e : Expr) (t : TT) : Prop where
  h : PT X e t
structure WW (X : Cx) (e : Expr) (t : TT) : Prop where
  h : PW X e t
structure WA (X : Cx) (e : List Expr) (t : TA) : Prop where
  h : PA X e t
structure WS (X : Cx) (e : Stmt) (t : TS) : Prop where
  h : PS X e t
structure WSs (X : Cx) (e : List Stmt) (t : TS) : Prop where
  h : PSs X e t
structure WG (X : Cx) (e : Expr) (t : TG) : Prop where
  h : PG X e t
structure WI (X : Cx) (tg e : Expr) (t : TI) : Prop where
  h : PI X tg e t
theorem WW.pt {X : Cx} {e : Expr} {t : TT} (h : WW X e t) : WT X e t := ⟨h.h.pt⟩
section
variable {X : Cx} {a b c e o : Expr} {es rest : List Expr} {ta tb tc te to : TE} {tA tB' tC' : TT} {t : TA} {pos p apos cpos p2 pos' : Pos} {st : Stmt} {sts bd ob : List Stmt} {u v : TS} {x : Str} {lo hi : Option Expr} {tl th : TO} {tg : Expr}
theorem we_int {i j} : WE X (.Constant (.int i) j pos) (tC (.int i)) := ⟨pe_int⟩
theorem we_bl {i j} : WE X (.Constant (.bool i) j pos) (tC (.bl i)) := ⟨pe_bl⟩
theorem we_non {j} : WE X (.Constant .none j pos) (tC .non) := ⟨pe_non⟩
theorem we_str {i j} : WE X (.Constant (.str i) j pos) (tC (.str i)) := ⟨pe_str⟩
theorem we_bltn {v : V} {u : Value} (hg : Gl X x) (hm : X.mg x = none) (hv : bootBuiltins x = some u) (r : RelV v u) (hn : x ≠ "__name__" := by decide) (hd : (x == ("__debug__" : Str)) = false := by decide) : WE X (.Name x pos) (tC v) := ⟨pe_bltn hg hm hv r hn hd⟩
theorem we_op {op : Operator} {r : R2} (ho : OpR X (binaryOp op) r) (ha : WE X a ta) (hb : WE X b tb) : WE X (.BinOp a op b pos) (tOp r ta tb) := ⟨pe_op ho ha.h hb.h⟩
theorem we_un {op : UnaryOp} {r : V → Hp → VK → Prop} (ho : UnR X (unaryOp op) r) (ha : WE X a ta) : WE X (.UnaryOp op a pos) (tUn r ta) := ⟨pe_un ho ha.h⟩
theorem we_one {op} (h : WE X a ta) : WE X (.BoolOp op [a] pos) ta := ⟨pe_one h.h⟩
theorem we_and (ha : WE X a ta) (hb : WE X (.BoolOp .And (b :: rest) pos) tb) : WE X (.BoolOp .And (a :: b :: rest) pos) (tAndV ta tb) := ⟨pe_and ha.h hb.h⟩
theorem we_cmpR {op : CmpOp} {r : R2} (ho : OpR X (compareOp op) r) (ha : WE X a ta) (hb : WE X b tb) (hm : behindInMarks op b = false) : WE X (.Compare a [op] [b] pos) (tOp r ta tb) := ⟨pe_cmpR ho ha.h hb.h hm⟩
theorem wt_cmpR {op : CmpOp} {r : R2} (ho : OpR X (compareOp op) r) (ha : WE X a ta) (hb : WE X b tb) (hm : behindInMarks op b = false) : WT X (.Compare a [op] [b] pos) (tTest (tOp r ta tb)) := ⟨pt_cmpR ho ha.h hb.h hm⟩
theorem wt_not (ha : WT X a tA) : WT X (.UnaryOp .Not a pos) (tNot tA) := ⟨pt_not ha.h⟩
theorem ww_and (ha : WT X a tA) (hb : WW X (.BoolOp .And (b :: rest) pos) tB') : WW X (.BoolOp .And (a :: b :: rest) pos) (tAnd tA tB') := ⟨pw_and ha.h hb.h⟩
theorem ww_or (ha : WT X a tA) (hb : WW X (.BoolOp .Or (b :: rest) pos) tB') : WW X (.BoolOp .Or (a :: b :: rest) pos) (tOr tA tB') := ⟨pw_or ha.h hb.h⟩
theorem ww_and1 (ha : WT X a tA) : WW X (.BoolOp .And [a] pos) tA := ⟨pw_and1 ha.h⟩
theorem ww_or1 (ha : WT X a tA) : WW X (.BoolOp .Or [a] pos) tA := ⟨pw_or1 ha.h⟩
theorem wt_val (h : WE X e te) (he : ∀ whole, isTrue e X.env whole = (do let v ← whole; standAt e.pos; holding [v] (truthy v)) := by intro _; rfl) : WT X e (tB te) := ⟨pt_val h.h he⟩
theorem wa_nil : WA X [] tNil := ⟨pa_nil⟩
theorem wa_cons (ha : WE X e te) (hr : WA X es t) (hs : starEach (e :: es) X.env = (false, eval e X.env) :: starEach es X.env) : WA X (e :: es) (tCons te t) := ⟨pa_cons ha.h hr.h hs⟩
theorem we_lstO (h : WA X es t) : WE X (.List es pos) (tLstO t) := ⟨pe_lstO h.h⟩
theorem we_tupO {x1} (h : WA X es t) : WE X (.Tuple es x1 pos) (tTupO t) := ⟨pe_tupO h.h⟩
theorem we_ix {r : R2} (hr : IxR X r) (ha : WE X a ta) (hb : WE X b tb) (hs : PlainIx b) : WE X (.Subscript a b pos) (tOp r ta tb) := ⟨pe_ix hr ha.h hb.h hs⟩
section
variable {CX : CXT} {k : Nat} {f C : Addr} {fd : FuncData} {ps : List Str} {sp : Sp} {dvs : List V} {ds : List Value} {E : XK} {m : Str} {id T : String} {r : List V → Hp → VK → Prop}
theorem we_call (F : FnOk X.prog X.w X.K X.mg X.base CX k f fd ps sp) (hr : Room k X.A) (hg : Gl X x) (hm : X.mg x = some (.ref f)) (hk : PySem.W.keepIn X.K (.ref f) = true) (hb : Binds X.K fd ps ds) (hd : Vals dvs ds) (hx : Passes CX X E)
    (ha : WA X (e :: es) t) (hdb : (x == ("__debug__" : Str)) = false := by decide) (he : starEach (e :: es) X.env = (false, eval e X.env) :: starEach es X.env := by rfl) (hpl : (backTo pos (starEach es X.env)).any (·.1) = false := by rfl) :
    WE X (.Call (.Name x p) (e :: es) [] pos) (tCall sp dvs E t) := ⟨pe_call F hr hg hm hk hb hd hx ha.h hdb he hpl⟩
theorem we_callB (hc : CallR X (.builtin id) r) (hg : Gl X x) (hm : X.mg x = none) (hv : bootBuiltins x = some (.builtin id)) (ha : WA X (e :: es) t) (hn : x ≠ "__name__" := by decide) (hdb : (x == ("__debug__" : Str)) = false := by decide)
    (he : starEach (e :: es) X.env = (false, eval e X.env) :: starEach es X.env := by rfl) (hpl : (backTo pos (starEach es X.env)).any (·.1) = false := by rfl) : WE X (.Call (.Name x p) (e :: es) [] pos) (tCB r t) := ⟨pe_callB hc hg hm hv ha.h hn hdb he hpl⟩
theorem we_callTy (hc : CallR X (.type T) r) (hg : Gl X x) (hm : X.mg x = none) (hv : bootBuiltins x = some (.type T)) (ha : WA X (e :: es) t) (hn : x ≠ "__name__" := by decide) (hdb : (x == ("__debug__" : Str)) = false := by decide)
    (he : starEach (e :: es) X.env = (false, eval e X.env) :: starEach es X.env := by rfl) (hpl : (backTo pos (starEach es X.env)).any (·.1) = false := by rfl) : WE X (.Call (.Name x p) (e :: es) [] pos) (tCB r t) := ⟨pe_callTy hc hg hm hv ha.h hn hdb he hpl⟩
end
section
variable {name : Str} {T id : String} {r : V → List V → Hp → VK → Prop}
theorem we_bm (pa : PlainAttrs T) (slot : Slot T name id) (hty : typeOf (.builtin id) = pure (.type "method_descriptor")) (hm : MtR X id r) (ho : WE X o to) (ha : WA X (e :: es) t)
    (hbase : attributeBase o name X.env (eval o X.env) = eval o X.env := by rfl)
    (hfew : ((backTo cpos (starEach (e :: es) X.env)).all (fun x => !x.1) && (backToKw cpos (keywordEach [] X.env)).all (fun x => x.1.isSome)
      && decide ((e :: es).length + ([] : List Keyword).length + (if ([] : List Keyword).isEmpty then 0 else 1) < 30)) = true := by rfl)
    (hline : (apos.endLine == cpos.line) = true := by rfl) (hs : starEach (e :: es) X.env = (false, eval e X.env) :: starEach es X.env := by rfl) (hplain : (backTo cpos (starEach es X.env)).any (·.1) = false := by rfl) :
    WE X (.Call (.Attribute o name apos) (e :: es) [] cpos) (tBM X.K T r to t) := ⟨pe_bm pa slot hty hm ho.h ha.h hbase hfew hline hs hplain⟩
end
section
variable {f : Str} {tv : TE} {value : Expr}
end
section
variable {CX : CXT} {k : Nat} {f C : Addr} {fd : FuncData} {ps : List Str} {sp : Sp} {dvs : List V} {ds : List Value} {E : XK} {m : Str}
end
theorem wss_nil : WSs X [] tNext := ⟨pss_nil⟩
theorem wss_cons (h1 : WS X st u) (h2 : WSs X sts v) : WSs X (st :: sts) (tSeq u v) := ⟨pss_cons h1.h h2.h⟩
theorem wss_one (h1 : WS X st u) : WSs X [st] u := ⟨pss_one h1.h⟩
theorem ws_never : WS X st tNever := ⟨ps_never⟩
theorem ws_if (hc : WT X c tA) (ha : WSs X bd u) (hb : WSs X ob v) : WS X (.If c bd ob pos) (tIfS tA u v) := ⟨ps_if hc.h ha.h hb.h⟩
theorem ws_ret (he : WE X e te) : WS X (.Return (some e) pos) (tRet te) := ⟨ps_ret he.h⟩
theorem ws_expr (he : WE X e te) (hs : swapsWith e none pos.line X.env = pure false := by rfl) : WS X (.Expr e pos) (tDrop te) := ⟨ps_expr he.h hs⟩
theorem ws_while (hp : PassesOwn (model X.prog X.w) X.A X.env X.xe) (hc : WT X c tA) (hb : WSs X bd u) : WS X (.While c bd [] pos) (tWhile tA u) := ⟨ps_while hp hc.h hb.h⟩
theorem ws_for {iter : Expr} {wi : TI} {g : TG} (hp : PassesOwn (model X.prog X.w) X.A X.env X.xe) (hc : X.calm = true) (hi : WI X tg iter wi) (hg : WG X tg g) (hb : WSs X bd u)
    (hs : ∀ x, foldedSetIterable iter X.env x = pure x := by intro _; rfl) : WS X (.For tg iter bd [] pos) (tFor wi g u) := ⟨ps_for hp hc hi.h hg.h hb.h hs⟩
theorem wi_list (hl : WE X e te) : WI X tg e (iList X.K te) := ⟨pi_list hl.h⟩
theorem wi_range1 (hg : Gl X "range") (hm : X.mg "range" = none) (ha : WA X [a] t) (hs : starEach [a] X.env = [(false, eval a X.env)] := by rfl) : WI X tg (.Call (.Name "range" p) [a] [] pos) (iRng1 t) := ⟨pi_range1 hg hm ha.h hs⟩
end
section
variable {X : Cx} {N : List Str} {sc : Scope} {pos : Pos}
theorem wxv (c : CxIs X N sc) {i : Nat} {x : Str} (hi : N[i]? = some x) (hv : sc.names.lookup x = some .local) (hd : (x == ("__debug__" : Str)) = false) (hcd : (x == ("__classdict__" : Str)) = false) : WE X (.Name x pos) (tVar i) := ⟨xv c hi hv hd hcd⟩
theorem wxs (c : CxIs X N sc) (nd : N.Nodup) {i : Nat} {x : Str} {e : Expr} {te : TE} {pos' : Pos} (hi : N[i]? = some x) (hv : sc.names.lookup x = some .local) (he : WE X e te) (hs : swapsWith e (some (.Name x pos')) pos.line X.env = pure false) :
    WS X (.Assign [.Name x pos'] e pos) (tAsg te (gN i)) := ⟨xs c nd hi hv he.h hs⟩
theorem wxt (c : CxIs X N sc) (nd : N.Nodup) {i : Nat} {x : Str} (hi : N[i]? = some x) (hv : sc.names.lookup x = some .local) : WG X (.Name x pos) (gN i) := ⟨xt c nd hi hv⟩
end
theorem unW {X : Cx} {b : List Stmt} {D : Ends} {σ : St} {H : Hp} (h : ∃ t, WSs X b t ∧ t D σ H) : ∃ t, PSs X b t ∧ t D σ H := let ⟨t, h1, h2⟩ := h; ⟨t, h1.h, h2⟩
noncomputable def Cal (P : Program) (w : World) (K : PySem.W.Frag) (mg : Str → Option Value) (base : Heap) (x : Str) (k : Nat) (ps : List Str) (sp : Sp) : Prop :=
  ∃ (f : Addr) (fd : FuncData), FnOk P w K mg base CX0 k f fd ps sp ∧ Binds K fd ps [] ∧ PySem.W.keepIn K (.ref f) = true ∧ mg x = some (.ref f)
noncomputable def clsAt (K : PySem.W.Frag) (x : Str) : Addr := match PySem.W.nsIn K mainGlobals x with
  | some (some (.ref a)) => a
  | _ => 0
theorem ifT {c A B : Prop} [Decidable c] (hc : c) (h : A) : if decide c = true then A else B := by rw [decide_eq_true hc]; exact iteT h
theorem ifF {c A B : Prop} [Decidable c] (hc : ¬ c) (h : B) : if decide c = true then A else B := by rw [decide_eq_false hc]; exact iteF h
theorem if2 {c A B : Prop} [Decidable c] (h1 : c → A) (h2 : ¬ c → B) : if decide c = true then A else B := by
  by_cases h : c
  · exact ifT h (h1 h)
  · exact ifF h (h2 h)
theorem ifnF {c A B : Prop} [Decidable c] (hc : c) (h : B) : if (!decide c) = true then A else B := by rw [decide_eq_true hc]; exact iteF h
theorem inj_int {i j : Int} (h : i = j) : V.int i = V.int j := by rw [h]
theorem ne_int {i j : Int} (h : ¬ i = j) : ¬ V.int i = V.int j := fun e => h (V.int.inj e)
theorem of_not_int {i j : Int} (h : ¬ V.int i = V.int j) : ¬ i = j := fun e => h (by rw [e])
theorem of_int {i j : Int} (h : V.int i = V.int j) : i = j := V.int.inj h
end L2
namespace L2
open PySem PySem.W PySem.Calls PyProof.Rows
theorem attach_callB {l : PySem.W.OpenLaw} {n : Nat} {q : Program} {loose : List Str} {XP : (Str → Option Value) → Heap → Prop} {YP : World → Heap → Prop} {d : DefRec}
    (hn : l.most = some n) (hdf : d.params.defaults = [])
    (call : ∀ (w : World) (s₀ s₁ : Shared) (mg mb : Str → Option Value) (fa : Addr) (o : Obj) (pm cd doc : Value) (a : Addr) (vs : List Value) (ns : List Int),
      Ground q loose [] XP w s₀ mg mb s₁.heap → YP w s₁.heap →
      s₁.heap.get? fa = some o → o.data = .func (docDef d.name d.params d.body d.scope pm cd doc) → s₁.heap.CodeRec cd d.name → mg d.name = some (.ref fa) →
      s₁.heap.get? a = some { cls := .type "list", data := .seq vs.toArray } → IntsAre vs ns → ns.length ≤ n → (∀ z ∈ ns, Builtin.Int.intBits z ≤ 1048576) → s₁.gens = #[] →
      codeAny (model l.prog w) callerA (.call (.ref fa) ⟨[.ref a], []⟩) (fun r s' => r = .ok (.ret (.bool true)) ∧ OldK s₁.heap s'.heap ∧ s'.os = s₁.os ∧ AllBare s'.gens) s₁) :
    PySem.W.WalkO q loose XP YP l.row.toRowW d [] (fun f vs => PySem.call f vs) := by
  intro w s₀ s₁ mg mb G Y fa o pm cd doc dV kV ho hd hcd hD hmg hg args vals as hpre hlay hrd hwl hlo
  obtain rfl : dV = .none := PySem.W.Dflts.none hD hdf
  obtain rfl : kV = .none := PySem.W.Dflts.noKw hD
  obtain ⟨a, vs, ns, rfl, rfl, hobj, hints, hlen⟩ := Att.script_of hn hpre hwl
  have hbits : ∀ z ∈ ns, Builtin.Int.intBits z ≤ 1048576 := fun z hz => by
    have h1 := PySem.W.layableW_arg hlay _ (List.mem_singleton.mpr rfl)
    have h2 := PySem.W.layableW_item h1 (.int z) (List.mem_map.mpr ⟨z, hz, rfl⟩)
    exact intBits_le_of_layable (show PyData.layable0 (.int z) = true from h2)
  refine PySem.W.enter_call (codeAny_mono (call w s₀ s₁ mg mb fa o pm cd doc a vs ns G Y ho (PySem.W.fd_plain hd) hcd hmg hobj hints hlen hbits hg) fun r s' hq => ?_)
  obtain ⟨rfl, h2, h3, h4⟩ := hq
  exact ⟨.inl ⟨.bool true, .bool true, [], rfl, fun _ => rfl, .bool true, Att.post_true l _, fun _ => ⟨List.Pairwise.nil, fun _ hm => (nomatch hm)⟩⟩, h2, h3, h4⟩
theorem walk_ofB {l : PySem.W.OpenLaw} {n k : Nat} {q : Program} {loose : List Str} {XP : (Str → Option Value) → Heap → Prop} {YP : World → Heap → Prop} {d : DefRec} {K : Params → PySem.W.Frag} {CX : World → CXT} {sp : World → Sp} {x : Str}
    (hn : l.most = some n) (hn2 : n ≤ sizeLine) (hdf : d.params.defaults = []) (hr : Room k callerA)
    (hY : ∀ (w : World) (h : Heap), YP w h → (K w.params).In h)
    (F : ∀ (w : World) (mg : Str → Option Value) (fa : Addr) (h : Heap), (K w.params).In h → h.Ns mainGlobals mg → mg d.name = some (.ref fa) →
      ∃ fd : FuncData, (∀ (s : Shared) (u : Value), BindsTo s fd ⟨[u], []⟩ [(x, u)]) ∧
        ∀ base : Heap, (K w.params).In base → base.Ns mainGlobals mg → FnOk l.prog w (K w.params) mg base (CX w) k fa fd [x] (sp w))
    (hsp : ∀ (w : World) (H : Hp) (a : Addr) (ns : List Int), ns.length ≤ n → (∀ z ∈ ns, Builtin.Int.intBits z ≤ 1048576) → Only H → SqL (K w.params) H a (ns.map V.int) → sp w [.ref a] H (fun v _ => v = .bl true) fun _ _ _ => False)
    (hCX : ∀ (w : World) (H : Hp) (s : Shared) (e : Value) (s' : Shared), CX w [] H s (fun _ _ _ => False) e s' → False) :
    PySem.W.WalkO q loose XP YP l.row.toRowW d [] (fun f vs => PySem.call f vs) := by
  refine attach_callB hn hdf fun w s₀ s₁ mg mb fa o pm cd doc a vs ns G Y ho hd hcd hmg hobj hints hlen hbits hg => ?_
  have KX := hY w _ Y
  obtain ⟨fd, hb, hF⟩ := F w mg fa _ KX G.T.g hmg
  exact law_call KX G.T.g G.T.b G.T.builtins G.T.nolimit hg hobj hints (Nat.le_trans hlen hn2) hr hF hb (fun H hO hS => hsp w H a ns hlen hbits hO hS) fun H e s' => hCX w H s₁ e s'
noncomputable def pick2 {α : Type} (i : Int) (a b : α) : α := if i = 0 then a else b
noncomputable def pick3 {α : Type} (i : Int) (a b c : α) : α := if i = 0 then a else if i = 1 then b else c
noncomputable def pick4 {α : Type} (i : Int) (a b c d : α) : α := if i = 0 then a else if i = 1 then b else if i = 2 then c else d
theorem at3 {a b c : V} {i : Int} (h0 : 0 ≤ i) (h1 : i < 3) : atI [a, b, c] i = some (pick3 i a b c) := by
  rcases (by omega : i = 0 ∨ i = 1 ∨ i = 2) with rfl | rfl | rfl <;> rfl
theorem at2i {a b i : Int} (h0 : 0 ≤ i) (h1 : i < 2) : atI [V.int a, V.int b] i = some (.int (pick2 i a b)) := by
  rcases (by omega : i = 0 ∨ i = 1) with rfl | rfl <;> rfl
theorem at4i {a b c d i : Int} (h0 : 0 ≤ i) (h1 : i < 4) : atI [V.int a, V.int b, V.int c, V.int d] i = some (.int (pick4 i a b c d)) := by
  rcases (by omega : i = 0 ∨ i = 1 ∨ i = 2 ∨ i = 3) with rfl | rfl | rfl | rfl <;> rfl
theorem at3s {a b c : Str} {i : Int} (h0 : 0 ≤ i) (h1 : i < 3) : atI [V.str a, V.str b, V.str c] i = some (.str (pick3 i a b c)) := by
  rcases (by omega : i = 0 ∨ i = 1 ∨ i = 2) with rfl | rfl | rfl <;> rfl
theorem pick2_of {α : Type} {P : α → Prop} {i : Int} {a b : α} (ha : P a) (hb : P b) : P (pick2 i a b) := by
  unfold pick2; split <;> assumption
theorem pick3_of {α : Type} {P : α → Prop} {i : Int} {a b c : α} (ha : P a) (hb : P b) (hc : P c) : P (pick3 i a b c) := by
  unfold pick3; split; assumption; split <;> assumption
theorem pick4_of {α : Type} {P : α → Prop} {i : Int} {a b c d : α} (ha : P a) (hb : P b) (hc : P c) (hd : P d) : P (pick4 i a b c d) := by
  unfold pick4; split; assumption; split; assumption; split <;> assumption
theorem md0 {x : Int} {n : Int} (h : 0 < n) : 0 ≤ x % n := Int.emod_nonneg x (by omega)
theorem md1 {x : Int} {n : Int} (h : 0 < n) : x % n < n := Int.emod_lt_of_pos x h
theorem qT {Q : VK} {H : Hp} {c : Prop} [Decidable c] (q : Q (.bl true) H) (h : c) : Q (.bl (decide c)) H := by rw [decide_eq_true h]; exact q
theorem gcd_turn {x y : Int} (hx : 0 ≤ x) (hy : 0 < y) : Int.gcd y (x % y) = Int.gcd x y := by
  obtain ⟨m, rfl⟩ := Int.eq_ofNat_of_zero_le hx
  obtain ⟨n, rfl⟩ := Int.eq_ofNat_of_zero_le (Int.le_of_lt hy)
  show Nat.gcd n ((m : Int) % (n : Int)).natAbs = Nat.gcd m n
  have e : ((m : Int) % (n : Int)).natAbs = m % n := by
    rw [← Int.natCast_emod]; rfl
  rw [e, Nat.gcd_comm n, Nat.gcd_comm m n]
  exact (Nat.gcd_rec n m).symm
theorem gcd_end {x y : Int} (hx : 0 ≤ x) (hy : y = 0) : x = ((Int.gcd x y : Nat) : Int) := by
  subst hy
  rw [Int.gcd_zero_right]; omega
theorem gcd_pos {x y : Int} (hy : 0 < y) : 0 < ((Int.gcd x y : Nat) : Int) := by
  have : 0 < Int.gcd x y := Int.gcd_pos_of_ne_zero_right x (by omega)
  omega
theorem gcd_le {x y : Int} (hy : 0 < y) : ((Int.gcd x y : Nat) : Int) ≤ y := Int.le_of_dvd hy (Int.gcd_dvd_right x y)
structure StepD where
  w : Str
  n : Int
  d : Int
  p : Int
  y : Str
  u : Int
noncomputable def StepD.vals (st : StepD) : List V := [.str st.w, .int st.n, .int st.d, .int st.p, .str st.y, .int st.u]
structure StepD.Ok (st : StepD) : Prop where
  w : st.w = "times" ∨ st.w = "add" ∨ st.w = "off"
  n0 : 1 ≤ st.n
  n1 : st.n ≤ 100
  d0 : 1 ≤ st.d
  d1 : st.d ≤ 100
  off : st.w = "off" → st.n < st.d
  p0 : 0 ≤ st.p
  p1 : st.p ≤ 10 ^ 30
  y : st.y = "down" ∨ st.y = "up" ∨ st.y = "near"
  u0 : 1 ≤ st.u
  u1 : st.u ≤ 100
noncomputable def StepD.num (st : StepD) : Int := if st.w = "add" then st.d + st.n else if st.w = "off" then st.d - st.n else st.n
theorem StepD.Ok.num0 {st : StepD} (h : st.Ok) : 1 ≤ st.num := by
  have := h.n0; have := h.d0; have := h.off
  unfold StepD.num
  split
  · omega
  · split
    · rename_i q; have := h.off q; omega
    · omega
theorem StepD.Ok.num1 {st : StepD} (h : st.Ok) : st.num ≤ 200 := by
  have := h.n0; have := h.d0; have := h.n1; have := h.d1
  unfold StepD.num
  split
  · omega
  · split <;> omega
noncomputable def StepD.g (st : StepD) : Int := ((Int.gcd st.num st.d : Nat) : Int)
noncomputable def StepD.sn (st : StepD) : Int := st.num / st.g
noncomputable def StepD.sd (st : StepD) : Int := st.d / st.g
theorem low_mul {x y g : Int} (hg : g = ((Int.gcd x y : Nat) : Int)) : x / g * g = x ∧ y / g * g = y := by
  subst hg
  exact ⟨Int.ediv_mul_cancel (Int.gcd_dvd_left x y), Int.ediv_mul_cancel (Int.gcd_dvd_right x y)⟩
theorem low_cross {x y g : Int} (hg : g = ((Int.gcd x y : Nat) : Int)) (hp : 0 < g) : x / g * y = x * (y / g) := by
  obtain ⟨a, b⟩ := low_mul hg
  have e1 : x / g * y = x / g * (y / g * g) := by rw [b]
  have e2 : x * (y / g) = x / g * g * (y / g) := by rw [a]
  rw [e1, e2, Int.mul_assoc, Int.mul_comm g]
theorem low_gcd {x y : Int} (hy : 0 < y) : Int.gcd (x / ((Int.gcd x y : Nat) : Int)) (y / ((Int.gcd x y : Nat) : Int)) = 1 := by
  have h : 0 < Int.gcd x y := Int.gcd_pos_of_ne_zero_right x (by omega)
  exact Int.gcd_ediv_gcd_ediv_gcd h
theorem low_pos {x y : Int} (hx : 0 < x) (hy : 0 < y) : 1 ≤ x / ((Int.gcd x y : Nat) : Int) := by
  have hg := gcd_pos (x := x) hy
  obtain ⟨a, _⟩ := low_mul (x := x) (y := y) rfl
  have : 0 < x / ((Int.gcd x y : Nat) : Int) := by
    refine Int.not_le.mp fun c => ?_
    have := Int.mul_le_mul_of_nonneg_right c (Int.le_of_lt hg)
    omega
  omega
theorem low_pos' {x y : Int} (hy : 0 < y) : 1 ≤ y / ((Int.gcd x y : Nat) : Int) := by
  have hg := gcd_pos (x := x) hy
  obtain ⟨_, a⟩ := low_mul (x := x) (y := y) rfl
  have : 0 < y / ((Int.gcd x y : Nat) : Int) := by
    refine Int.not_le.mp fun c => ?_
    have := Int.mul_le_mul_of_nonneg_right c (Int.le_of_lt hg)
    omega
  omega
theorem div_le' {x g : Int} (hx : 0 ≤ x) (hg : 0 < g) : x / g ≤ x := Int.ediv_le_self g hx
theorem StepD.Ok.g0 {st : StepD} (h : st.Ok) : 0 < st.g := gcd_pos (by have := h.d0; omega)
theorem StepD.Ok.sn0 {st : StepD} (h : st.Ok) : 1 ≤ st.sn := low_pos (by have := h.num0; omega) (by have := h.d0; omega)
theorem StepD.Ok.sn1 {st : StepD} (h : st.Ok) : st.sn ≤ 200 := Int.le_trans (div_le' (by have := h.num0; omega) h.g0) h.num1
theorem StepD.Ok.sd0 {st : StepD} (h : st.Ok) : 1 ≤ st.sd := low_pos' (by have := h.d0; omega)
theorem StepD.Ok.sd1 {st : StepD} (h : st.Ok) : st.sd ≤ 100 := Int.le_trans (div_le' (by have := h.d0; omega) h.g0) h.d1
theorem StepD.Ok.cross {st : StepD} (h : st.Ok) : st.sn * st.d = st.num * st.sd := low_cross rfl h.g0
theorem StepD.Ok.m1 {st : StepD} (h : st.Ok) : CMulB st.sn st.d := mul_r (by have := h.d0; omega) (by have := h.d1; omega)
theorem StepD.Ok.m2 {st : StepD} (h : st.Ok) : CMulB st.num st.sd := mul_r (by have := h.sd0; omega) (by have := h.sd1; omega)
theorem StepD.Ok.low {st : StepD} (h : st.Ok) : Int.gcd st.sn st.sd = 1 := low_gcd (by have := h.d0; omega)
theorem gen_max {R : Int → Prop} {i j : Int} (h : ∀ z, i ≤ z → j ≤ z → (z = i ∨ z = j) → R z) : R (if j > i then j else i) := by
  by_cases c : j > i
  · rw [if_pos c]; exact h j (by omega) (by omega) (.inr rfl)
  · rw [if_neg c]; exact h i (by omega) (by omega) (.inl rfl)
theorem mul_bits {i j : Int} (h : Builtin.Int.intBits i + Builtin.Int.intBits j ≤ 2 ^ 27) : CMulB i j := by
  have e : Builtin.Int.intTooBig ((Builtin.Int.intBits i : Int) + (Builtin.Int.intBits j : Int)) = false := by
    unfold Builtin.Int.intTooBig
    refine decide_eq_false ?_
    have : ((bitsLine : Nat) : Int) = 2 ^ 27 := by decide
    omega
  unfold CMulB IntMulOk
  rw [e]; simp
theorem bits_div {x c : Int} (hc : 0 < c) {m : Nat} (h : Builtin.Int.intBits x ≤ m) : Builtin.Int.intBits (x / c) ≤ m := by
  refine intBits_le_of_natAbs ?_ h
  by_cases hx : 0 ≤ x
  · have h1 := Int.ediv_nonneg hx (Int.le_of_lt hc)
    have h2 := Int.ediv_le_self c hx
    omega
  · have h1 : x / c < 0 := Int.ediv_neg_of_neg_of_pos (by omega) hc
    have h2 : x ≤ x / c := by
      have h3 : x * c ≤ x := by
        have := Int.mul_le_mul_of_nonpos_left (a := x) (by omega) (show (1 : Int) ≤ c by omega)
        omega
      exact (Int.le_ediv_iff_mul_le hc).mpr h3
    omega
theorem StepD.gn (st : StepD) : st.sn * st.g = st.num := (low_mul (x := st.num) (y := st.d) rfl).1
theorem StepD.gd (st : StepD) : st.sd * st.g = st.d := (low_mul (x := st.num) (y := st.d) rfl).2
noncomputable def roundI (num den unit : Int) (way : Str) : Int :=
  if way = "down" then num / (den * unit) * unit else if way = "up" then (num + den * unit - 1) / (den * unit) * unit else (2 * num + den * unit) / (2 * (den * unit)) * unit
theorem fl {x c : Int} (h : 0 < c) : c * (x / c) ≤ x ∧ x < c * (x / c) + c := ⟨Int.mul_ediv_self_le (by omega), Int.lt_mul_ediv_self_add h⟩
theorem told_eq (z den unit : Int) : z * unit * den = den * unit * z := by rw [Int.mul_assoc, Int.mul_comm unit den, Int.mul_comm]
theorem round_down {num den unit : Int} {way : Str} (hp : 0 < den * unit) (hw : way = "down") : roundI num den unit way * den ≤ num ∧ num < roundI num den unit way * den + den * unit := by
  have e : roundI num den unit way = num / (den * unit) * unit := if_pos hw
  have f := fl (x := num) hp
  rw [e, told_eq]
  exact f
theorem round_up {num den unit : Int} {way : Str} (hp : 0 < den * unit) (hn : ¬ way = "down") (hw : way = "up") : num ≤ roundI num den unit way * den ∧ roundI num den unit way * den < num + den * unit := by
  have e : roundI num den unit way = (num + den * unit - 1) / (den * unit) * unit := by unfold roundI; rw [if_neg hn, if_pos hw]
  have f := fl (x := num + den * unit - 1) hp
  rw [e, told_eq]
  omega
theorem round_near {num den unit : Int} {way : Str} (hp : 0 < den * unit) (hn : ¬ way = "down") (hw : ¬ way = "up") : 2 * (roundI num den unit way * den) ≤ 2 * num + den * unit ∧ 2 * num < 2 * (roundI num den unit way * den) + den * unit := by
  have e : roundI num den unit way = (2 * num + den * unit) / (2 * (den * unit)) * unit := by unfold roundI; rw [if_neg hn, if_neg hw]
  have f := fl (x := 2 * num + den * unit) (c := 2 * (den * unit)) (by omega)
  rw [Int.mul_assoc] at f
  rw [e, told_eq]
  omega
noncomputable def afterI (st : StepD) (m : Int) : Int := roundI (m * st.sn + st.p * st.sd) st.sd st.u st.y
theorem exact_g (st : StepD) (m : Int) : (m * st.sn + st.p * st.sd) * st.g = m * st.num + st.p * st.d := by
  rw [Int.add_mul, Int.mul_assoc, Int.mul_assoc, st.gn, st.gd]
theorem wide_g (st : StepD) : st.sd * st.u * st.g = st.d * st.u := by rw [Int.mul_right_comm, st.gd]
theorem sc_le {a b g : Int} (hg : 0 < g) (h : a ≤ b) : a * g ≤ b * g := Int.mul_le_mul_of_nonneg_right h (Int.le_of_lt hg)
theorem sc_lt {a b g : Int} (hg : 0 < g) (h : a < b) : a * g < b * g := Int.mul_lt_mul_of_pos_right h hg
theorem su_pos {st : StepD} (h : st.Ok) : 0 < st.sd * st.u := Int.mul_pos (by have := h.sd0; omega) (by have := h.u0; omega)
theorem ediv_is {a c z : Int} (hc : 0 < c) (h1 : z * c ≤ a) (h2 : a < z * c + c) : a / c = z := by
  have l1 : z ≤ a / c := (Int.le_ediv_iff_mul_le hc).mpr h1
  have l2 : a / c < z + 1 := (Int.ediv_lt_iff_lt_mul hc).mpr (by rw [Int.add_mul, Int.one_mul]; exact h2)
  omega
noncomputable def StepD.wide (st : StepD) : Int := st.d * st.u
noncomputable def StepD.exact (st : StepD) (m : Int) : Int := m * st.num + st.p * st.d
noncomputable def StepD.many (st : StepD) (m : Int) : Int :=
  if st.y = "up" ∧ 0 < st.exact m - st.exact m / st.wide * st.wide then st.exact m / st.wide + 1
  else if st.y = "near" ∧ st.wide ≤ 2 * (st.exact m - st.exact m / st.wide * st.wide) then st.exact m / st.wide + 1 else st.exact m / st.wide
theorem StepD.Ok.wide0 {st : StepD} (h : st.Ok) : 0 < st.wide := Int.mul_pos (by have := h.d0; omega) (by have := h.u0; omega)
theorem StepD.Ok.wide1 {st : StepD} (h : st.Ok) : st.wide ≤ 10000 := by
  have h1 : st.d * st.u ≤ st.d * 100 := Int.mul_le_mul_of_nonneg_left h.u1 (by have := h.d0; omega)
  have := h.d1
  unfold StepD.wide; omega
theorem StepD.Ok.y_up {st : StepD} (h : st.y = "up") : ¬ st.y = "down" ∧ ¬ st.y = "near" := by rw [h]; decide
theorem StepD.Ok.y_near {st : StepD} (h : st.y = "near") : ¬ st.y = "down" ∧ ¬ st.y = "up" := by rw [h]; decide
theorem StepD.Ok.y_down {st : StepD} (h : st.y = "down") : ¬ st.y = "up" ∧ ¬ st.y = "near" := by rw [h]; decide
theorem after_many {st : StepD} (h : st.Ok) (m : Int) : afterI st m = st.many m * st.u := by
  have hB := su_pos h
  have hg := h.g0
  have hE : st.exact m = (m * st.sn + st.p * st.sd) * st.g := (exact_g st m).symm
  have hW : st.wide = st.sd * st.u * st.g := (wide_g st).symm
  generalize hX : m * st.sn + st.p * st.sd = X at hE
  have eA : afterI st m = roundI X st.sd st.u st.y := by unfold afterI; rw [hX]
  rw [eA]
  generalize hb : st.sd * st.u = B at hB hW
  have hq : st.exact m / st.wide = X / B := by rw [hE, hW]; exact Int.mul_ediv_mul_of_pos_left X B hg
  have hl : st.exact m - st.exact m / st.wide * st.wide = (X - X / B * B) * st.g := by
    rw [hq, hE, hW, Int.sub_mul, Int.mul_assoc (X / B)]
  have f := fl (x := X) hB
  rw [Int.mul_comm B] at f
  unfold StepD.many roundI
  rw [hl, hq, hb, hW]
  generalize hqq : X / B = q at f
  rcases h.y with y | y | y
  · obtain ⟨n1, n2⟩ := StepD.Ok.y_down y
    rw [if_pos y, if_neg (fun z => n1 z.1), if_neg (fun z => n2 z.1)]
  · obtain ⟨n1, n2⟩ := StepD.Ok.y_up y
    rw [if_neg n1, if_pos y]
    by_cases c : 0 < X - q * B
    · have c' : 0 < (X - q * B) * st.g := Int.mul_pos c hg
      rw [if_pos ⟨y, c'⟩, ediv_is (z := q + 1) hB (by rw [Int.add_mul]; omega) (by rw [Int.add_mul]; omega)]
    · have c' : ¬ 0 < (X - q * B) * st.g := by
        have : X - q * B = 0 := by omega
        rw [this, Int.zero_mul]; decide
      rw [if_neg (fun z => c' z.2), if_neg (fun z => n2 z.1), ediv_is (z := q) hB (by omega) (by omega)]
  · obtain ⟨n1, n2⟩ := StepD.Ok.y_near y
    rw [if_neg n1, if_neg n2, if_neg (fun z => n2 z.1)]
    have hB2 : 0 < 2 * B := by omega
    have e2 : ∀ z : Int, z * (2 * B) = 2 * (z * B) := fun z => by rw [← Int.mul_assoc, Int.mul_comm z 2, Int.mul_assoc]
    by_cases c : B ≤ 2 * (X - q * B)
    · have c' : B * st.g ≤ 2 * ((X - q * B) * st.g) := by rw [← Int.mul_assoc]; exact sc_le hg c
      rw [if_pos ⟨y, c'⟩, ediv_is (z := q + 1) hB2 (by rw [e2, Int.add_mul]; omega) (by rw [e2, Int.add_mul]; omega)]
    · have c' : ¬ B * st.g ≤ 2 * ((X - q * B) * st.g) := by
        rw [← Int.mul_assoc]
        have := sc_lt hg (Int.not_le.mp c)
        omega
      rw [if_neg (fun z => c' z.2), ediv_is (z := q) hB2 (by rw [e2]; omega) (by rw [e2]; omega)]
noncomputable def StepD.cg (st : StepD) : Int := ((Int.gcd st.num st.wide : Nat) : Int)
noncomputable def StepD.cyc (st : StepD) : Int := st.wide / st.cg
noncomputable def StepD.kk (st : StepD) : Int := st.num / st.cg
theorem StepD.Ok.cg0 {st : StepD} (h : st.Ok) : 0 < st.cg := gcd_pos h.wide0
theorem StepD.Ok.cyc0 {st : StepD} (h : st.Ok) : 1 ≤ st.cyc := low_pos' h.wide0
theorem StepD.Ok.cyc1 {st : StepD} (h : st.Ok) : st.cyc ≤ 10000 := Int.le_trans (div_le' (Int.le_of_lt h.wide0) h.cg0) h.wide1
theorem StepD.Ok.kk0 {st : StepD} (h : st.Ok) : 1 ≤ st.kk := low_pos (by have := h.num0; omega) h.wide0
theorem StepD.Ok.cyc_num {st : StepD} (h : st.Ok) : st.cyc * st.num = st.wide * st.kk := by
  have e := low_cross (x := st.num) (y := st.wide) (g := st.cg) rfl h.cg0
  show st.wide / st.cg * st.num = st.wide * (st.num / st.cg)
  rw [Int.mul_comm, ← e, Int.mul_comm]
theorem StepD.Ok.many_cyc {st : StepD} (h : st.Ok) (m : Int) : st.many (m + st.cyc) = st.many m + st.kk := by
  have hW := h.wide0
  have e : st.exact (m + st.cyc) = st.exact m + st.wide * st.kk := by
    unfold StepD.exact; rw [Int.add_mul, h.cyc_num]; omega
  have eq : st.exact (m + st.cyc) / st.wide = st.exact m / st.wide + st.kk := by
    rw [e, Int.add_mul_ediv_left _ _ (by omega)]
  have el : st.exact (m + st.cyc) - st.exact (m + st.cyc) / st.wide * st.wide = st.exact m - st.exact m / st.wide * st.wide := by
    rw [eq, e, Int.add_mul, Int.mul_comm st.kk]; omega
  unfold StepD.many
  rw [el, eq]
  split
  · omega
  · split <;> omega
structure Chn (K : PySem.W.Frag) (H : Hp) (l : Addr) (as : List Addr) (sts : List StepD) : Prop where
  lst : SqL K H l (as.map V.ref)
  len : as.length = sts.length
  item : ∀ (i : Nat) (a : Addr) (st : StepD), as[i]? = some a → sts[i]? = some st → SqT K H a st.vals
  ok : ∀ st ∈ sts, st.Ok
theorem Chn.same {K : PySem.W.Frag} {H H' : Hp} {l : Addr} {as : List Addr} {sts : List StepD} (c : Chn K H l as sts) (s : Same H H') : Chn K H' l as sts :=
  ⟨s.seq c.lst, c.len, fun i a st h1 h2 => s.seqT (c.item i a st h1 h2), c.ok⟩
theorem Chn.get {K : PySem.W.Frag} {H : Hp} {l : Addr} {as : List Addr} {sts : List StepD} (c : Chn K H l as sts) {i : Nat} {x : V} (h : (as.map V.ref)[i]? = some x) :
    ∃ a st, x = .ref a ∧ as[i]? = some a ∧ sts[i]? = some st ∧ SqT K H a st.vals ∧ st.Ok := by
  rw [List.getElem?_map] at h
  cases e : as[i]? with
  | none => rw [e] at h; cases h
  | some a =>
    rw [e] at h
    have hx : x = .ref a := (Option.some.inj h).symm
    have hi : i < sts.length := by rw [← c.len]; exact (List.getElem?_eq_some_iff.mp e).1
    have es : sts[i]? = some sts[i] := List.getElem?_eq_getElem hi
    exact ⟨a, sts[i], hx, rfl, es, c.item i a _ e es, c.ok _ (List.getElem_mem hi)⟩
theorem take_snoc {α : Type} {l : List α} {i : Nat} {x : α} (h : l[i]? = some x) : l.take (i + 1) = l.take i ++ [x] := by
  obtain ⟨hi, e⟩ := List.getElem?_eq_some_iff.mp h
  rw [← e, List.take_append_getElem hi]
theorem SqT.updL {K : PySem.W.Frag} {H : Hp} {a p : Addr} {xs ys : List V} {o : HO} (h : SqT K H a xs) (hp : H p = some (.lst ys)) : SqT K (upd H p o) a xs := by
  rcases h with (h | ⟨o', h⟩) | h
  · exact .inl (.inl (by rw [upd_ne (ne_of h hp (by intro z; cases z))]; exact h))
  · exact .inl (.inr ⟨o', by rw [upd_ne (ne_of h hp (by intro z; cases z))]; exact h⟩)
  · exact .inr h
noncomputable def prodI (sts : List StepD) : Int := sts.foldl (fun z st => z * st.cyc) 1
theorem prodI_snoc (sts : List StepD) (st : StepD) : prodI (sts ++ [st]) = prodI sts * st.cyc := by
  unfold prodI; rw [List.foldl_append]; rfl
noncomputable def endI (sts : List StepD) (m : Int) : Int := sts.foldl (fun z st => st.many z * st.u) m
theorem endI_snoc (sts : List StepD) (st : StepD) (m : Int) : endI (sts ++ [st]) m = st.many (endI sts m) * st.u := by
  unfold endI; rw [List.foldl_append]; rfl
theorem Same.drop {H H0 H1 : Hp} {p : Addr} {o : HO} (h : Same H H0) (hn : H p = none) (e : H1 = upd H0 p o) : Same H H1 := fun b u q => by
  rw [e, upd_ne (ne_of_none q hn)]; exact h b u q
theorem Chn.copy {K : PySem.W.Frag} {H H' : Hp} {l p : Addr} {as : List Addr} {sts : List StepD} (c : Chn K H l as sts) (s : Same H H') (f : H' p = some (.lst (as.map V.ref))) : Chn K H' p as sts :=
  ⟨SqL.of f, c.len, fun i a st h1 h2 => s.seqT (c.item i a st h1 h2), c.ok⟩
noncomputable def lineStep (z : Int × Int) (st : StepD) : Int × Int := (z.1 * st.num + st.p * z.2 * st.d, z.2 * st.d)
noncomputable def lineI (sts : List StepD) (m : Int) : Int × Int := sts.foldl lineStep (m, 1)
theorem lineI_snoc (sts : List StepD) (st : StepD) (m : Int) : lineI (sts ++ [st]) m = lineStep (lineI sts m) st := by
  unfold lineI; rw [List.foldl_append]; rfl
theorem Chn.cat {K : PySem.W.Frag} {H H' : Hp} {l1 l2 l : Addr} {as bs : List Addr} {sts tts : List StepD} (c : Chn K H l1 as sts) (d : Chn K H l2 bs tts) (s : Same H H') (f : H' l = some (.lst ((as ++ bs).map V.ref))) : Chn K H' l (as ++ bs) (sts ++ tts) := by
  refine ⟨SqL.of f, by rw [List.length_append, List.length_append, c.len, d.len], fun i a st h1 h2 => ?_, fun st h => ?_⟩
  · by_cases hi : i < as.length
    · rw [List.getElem?_append_left hi] at h1
      rw [List.getElem?_append_left (by rw [← c.len]; exact hi)] at h2
      exact s.seqT (c.item i a st h1 h2)
    · have hi' : as.length ≤ i := by omega
      rw [List.getElem?_append_right hi'] at h1
      rw [List.getElem?_append_right (by rw [← c.len]; exact hi'), ← c.len] at h2
      exact s.seqT (d.item _ a st h1 h2)
  · rcases List.mem_append.mp h with h | h
    · exact c.ok st h
    · exact d.ok st h
theorem Chn.one {K : PySem.W.Frag} {H : Hp} {l a : Addr} {st : StepD} (f : H l = some (.lst [V.ref a])) (t : SqT K H a st.vals) (o : st.Ok) : Chn K H l [a] [st] := by
  refine ⟨SqL.of f, rfl, fun i b st' h1 h2 => ?_, fun st' h => ?_⟩
  · cases i with
    | zero =>
      have e1 : a = b := Option.some.inj h1
      have e2 : st = st' := Option.some.inj h2
      subst e1 e2; exact t
    | succ i => simp at h1
  · rw [List.mem_singleton.mp h]; exact o
structure IsCyc (sts : List StepD) (c r : Int) : Prop where
  c0 : 1 ≤ c
  r0 : 1 ≤ r
  per : ∀ p, 0 ≤ p → endI sts (p + c) = endI sts p + r
  least : ∀ c' r', 1 ≤ c' → c' < c → ¬ ∀ p, 0 ≤ p → endI sts (p + c') = endI sts p + r'
noncomputable def FlatAt (K : PySem.W.Frag) (H : Hp) (x : Addr) (c r : Int) (es : List Int) : Prop :=
  ∃ dx fs p, H x = some (.ins (clsAt K "Flat") dx fs) ∧ fs.lookup ("cycle" : Str) = some (.int c) ∧ fs.lookup ("rise" : Str) = some (.int r) ∧ fs.lookup ("ends" : Str) = some (.ref p) ∧ fs.lookup ("end" : Str) = none ∧ SqT K H p (es.map V.int)
theorem FlatAt.same {K : PySem.W.Frag} {H H' : Hp} {x : Addr} {c r : Int} {es : List Int} (h : FlatAt K H x c r es) (s : Same H H') : FlatAt K H' x c r es :=
  let ⟨dx, fs, p, h1, h2, h3, h4, h5, h6⟩ := h; ⟨dx, fs, p, s _ _ h1, h2, h3, h4, h5, s.seqT h6⟩
theorem FlatAt.updL {K : PySem.W.Frag} {H : Hp} {x p : Addr} {c r : Int} {es : List Int} {ys : List V} {o : HO} (h : FlatAt K H x c r es) (hp : H p = some (.lst ys)) : FlatAt K (upd H p o) x c r es :=
  let ⟨dx, fs, q, h1, h2, h3, h4, h5, h6⟩ := h; ⟨dx, fs, q, by rw [upd_ne (ne_of h1 hp (by intro z; cases z))]; exact h1, h2, h3, h4, h5, h6.updL hp⟩
theorem FlatAt.ins {K : PySem.W.Frag} {H : Hp} {x : Addr} {c r : Int} {es : List Int} (h : FlatAt K H x c r es) : ∃ dx fs, H x = some (.ins (clsAt K "Flat") dx fs) ∧ fs.lookup ("end" : Str) = none :=
  let ⟨dx, fs, _, h1, _, _, _, h5, _⟩ := h; ⟨dx, fs, h1, h5⟩
theorem prodI_pos : ∀ {sts : List StepD}, (∀ st ∈ sts, st.Ok) → 1 ≤ prodI sts := by
  have key : ∀ (n : Nat) (sts : List StepD), sts.length = n → (∀ st ∈ sts, st.Ok) → 1 ≤ prodI sts := by
    intro n
    induction n with
    | zero => intro sts h _; rw [List.length_eq_zero_iff.mp h]; exact Int.le_refl _
    | succ n ih =>
      intro sts h ok
      rcases List.eq_nil_or_concat sts with e | ⟨t, st, e⟩
      · subst e; simp at h
      · subst e
        rw [List.concat_eq_append] at h ok ⊢
        rw [List.length_append] at h
        have h' : t.length = n := by have : [st].length = 1 := rfl; omega
        have a := ih t h' (fun s hs => ok s (List.mem_append_left _ hs))
        have o := (ok st (List.mem_append_right _ (List.mem_singleton.mpr rfl))).cyc0
        rw [prodI_snoc]
        have := Int.mul_le_mul a o (by decide) (by omega)
        omega
  intro sts ok
  exact key _ sts rfl ok
section
variable {X : Cx}
theorem call_list_ofO : CallR X (.type "list") (fun xs H Q => ∃ p ys, xs = [.ref p] ∧ (SqL X.K H p ys ∨ SqT X.K H p ys) ∧ ∀ l H', H l = none → Same H H' → H' l = some (.lst ys) → Q (.ref l) H') := by
  intro pins s σ H xs us Q I r ⟨p, ys, e, hq, q⟩
  exact call_list_of pins s σ H xs us Q I r ⟨p, ys, e, hq, fun l hl => q l _ hl (same_new hl _) upd_same⟩
theorem op_catO : OpR X (binaryOp .Add) (fun x y H Q => ∃ l b xs zs, x = .ref l ∧ y = .ref b ∧ H l = some (.lst xs) ∧ H b = some (.lst zs) ∧ xs.length + zs.length ≤ sizeLine ∧ ∀ p H', H p = none → Same H H' → H' p = some (.lst (xs ++ zs)) → Q (.ref p) H') := by
  intro pins s σ H x y v u Q I rx ry ⟨l, b, xs, zs, e1, e2, h1, h2, h3, q⟩
  exact op_cat pins s σ H x y v u Q I rx ry ⟨l, b, xs, zs, e1, e2, h1, h2, h3, fun p hp => q p _ hp (same_new hp _) upd_same⟩
end
theorem snoc_ind {P : List StepD → Prop} (h0 : P []) (h1 : ∀ t st, P t → P (t ++ [st])) : ∀ sts, P sts := by
  have key : ∀ (n : Nat) (sts : List StepD), sts.length = n → P sts := by
    intro n
    induction n with
    | zero => intro sts h; rw [List.length_eq_zero_iff.mp h]; exact h0
    | succ n ih =>
      intro sts h
      rcases List.eq_nil_or_concat sts with e | ⟨t, st, e⟩
      · subst e; simp at h
      · subst e
        rw [List.concat_eq_append] at h ⊢
        rw [List.length_append] at h
        have h' : t.length = n := by have : [st].length = 1 := rfl; omega
        exact h1 t st (ih t h')
  exact fun sts => key _ sts rfl
theorem per_n {f : Int → Int} {c r : Int} (hc : 0 ≤ c) (h : ∀ p, 0 ≤ p → f (p + c) = f p + r) : ∀ (n : Nat) (p : Int), 0 ≤ p → f (p + n * c) = f p + n * r := by
  intro n
  induction n with
  | zero => intro p _; simp
  | succ n ih =>
    intro p hp
    have hn : 0 ≤ (n : Int) * c := Int.mul_nonneg (Int.natCast_nonneg n) hc
    have e1 : p + ((n + 1 : Nat) : Int) * c = (p + n * c) + c := by rw [Int.natCast_succ, Int.add_mul, Int.one_mul]; omega
    rw [e1, h _ (by omega), ih p hp, Int.natCast_succ, Int.add_mul, Int.one_mul]; omega
theorem per_z {f : Int → Int} {c r n : Int} (hc : 0 ≤ c) (h : ∀ p, 0 ≤ p → f (p + c) = f p + r) (hn : 0 ≤ n) {p : Int} (hp : 0 ≤ p) : f (p + n * c) = f p + n * r := by
  obtain ⟨k, rfl⟩ := Int.eq_ofNat_of_zero_le hn
  exact per_n hc h k p hp
theorem StepD.Ok.many_n {st : StepD} (h : st.Ok) (n : Nat) (m : Int) : st.many (m + n * st.cyc) = st.many m + n * st.kk := by
  induction n with
  | zero => simp
  | succ n ih =>
    have e1 : m + ((n + 1 : Nat) : Int) * st.cyc = (m + n * st.cyc) + st.cyc := by rw [Int.natCast_succ, Int.add_mul, Int.one_mul]; omega
    rw [e1, h.many_cyc, ih, Int.natCast_succ, Int.add_mul, Int.one_mul]; omega
noncomputable def riseI (sts : List StepD) : Int := sts.foldl (fun z st => z * (st.kk * st.u)) 1
theorem riseI_snoc (sts : List StepD) (st : StepD) : riseI (sts ++ [st]) = riseI sts * (st.kk * st.u) := by
  unfold riseI; rw [List.foldl_append]; rfl
theorem riseI_pos : ∀ (sts : List StepD), (∀ st ∈ sts, st.Ok) → 1 ≤ riseI sts := by
  refine snoc_ind (fun _ => Int.le_refl _) fun t st ih ok => ?_
  have o := ok st (List.mem_append_right _ (List.mem_singleton.mpr rfl))
  have a := ih fun s hs => ok s (List.mem_append_left _ hs)
  have b := Int.mul_le_mul o.kk0 o.u0 (by decide) (by have := o.kk0; omega)
  rw [riseI_snoc]
  have := Int.mul_le_mul a b (by decide) (by omega)
  omega
theorem end_prod : ∀ (sts : List StepD), (∀ st ∈ sts, st.Ok) → ∀ p, 0 ≤ p → endI sts (p + prodI sts) = endI sts p + riseI sts := by
  refine snoc_ind (fun _ p _ => rfl) fun t st ih ok p hp => ?_
  have o := ok st (List.mem_append_right _ (List.mem_singleton.mpr rfl))
  have okt : ∀ s ∈ t, s.Ok := fun s hs => ok s (List.mem_append_left _ hs)
  have a := prodI_pos okt
  have b := riseI_pos t okt
  have c0 := o.cyc0
  rw [prodI_snoc, riseI_snoc, endI_snoc, endI_snoc, Int.mul_comm (prodI t), per_z (by omega) (ih okt) (by omega) hp]
  obtain ⟨k, hk⟩ := Int.eq_ofNat_of_zero_le (show 0 ≤ riseI t by omega)
  rw [Int.mul_comm st.cyc, hk, o.many_n, Int.add_mul, Int.mul_assoc]
theorem cyc_dvd {sts : List StepD} {c r : Int} (h : IsCyc sts c r) : ∀ {c' r' : Int}, 0 ≤ c' → (∀ p, 0 ≤ p → endI sts (p + c') = endI sts p + r') → c ∣ c' := by
  have key : ∀ (n : Nat) (c' r' : Int), c' = n → (∀ p, 0 ≤ p → endI sts (p + c') = endI sts p + r') → c ∣ c' := by
    intro n
    induction n using Nat.strongRecOn with
    | ind n ih =>
      intro c' r' e hp
      by_cases z : c' = 0
      · rw [z]; exact Int.dvd_zero c
      · by_cases hlt : c' < c
        · exact (h.least c' r' (by omega) hlt hp).elim
        · have c0 := h.c0
          have d : c ∣ c' - c := by
            refine ih (c' - c).toNat (by omega) (c' - c) (r' - r) (by omega) fun p pp => ?_
            have a := hp p pp
            have b := h.per (p + (c' - c)) (by omega)
            rw [show p + (c' - c) + c = p + c' by omega] at b
            omega
          have := Int.dvd_add d (Int.dvd_refl c)
          rwa [show c' - c + c = c' by omega] at this
  intro c' r' h0 hp
  exact key c'.toNat c' r' (by omega) hp
theorem rise_pos {sts : List StepD} {c r : Int} (ok : ∀ st ∈ sts, st.Ok) (c0 : 1 ≤ c) (per : ∀ p, 0 ≤ p → endI sts (p + c) = endI sts p + r) (hd : c ∣ prodI sts) : 1 ≤ r := by
  obtain ⟨k, hk⟩ := hd
  have a := prodI_pos ok
  have b := riseI_pos sts ok
  have k0 : 0 ≤ k := by
    refine Int.not_lt.mp fun z => ?_
    have := Int.mul_le_mul_of_nonneg_left (show k ≤ -1 by omega) (show 0 ≤ c by omega)
    omega
  have e1 := per_z (p := 0) (by omega) per k0 (Int.le_refl 0)
  have e2 := end_prod sts ok 0 (Int.le_refl 0)
  rw [Int.mul_comm k c, ← hk, e2] at e1
  have e3 : riseI sts = k * r := by omega
  refine Int.not_lt.mp fun z => ?_
  have := Int.mul_le_mul_of_nonneg_left (show r ≤ 0 by omega) k0
  omega
end L2
namespace L2
open PySem PySem.Spec PyProof.Rows
section
variable {X : Cx} {tg : Expr}
theorem call_range2 : CallR X (.type "range") (fun xs H Q => ∃ i j, xs = [.int i, .int j] ∧ ∀ p H', H p = none → Same H H' → H' p = some (.rng i j) → Q (.ref p) H') := by
  intro pins s σ H xs us Q I r h
  obtain ⟨i, j, rfl, q⟩ := h
  obtain ⟨u, v, rfl, ⟨t, rfl⟩, ⟨t', rfl⟩⟩ := Vals.two r
  have hf : H s.heap.objs.size = none := I.hok.fresh (Nat.le_refl _)
  exact call_range_2 ⟨.ref s.heap.objs.size, upd H s.heap.objs.size (.rng i j), I.laid (t' := s.toks + 1) (fun b u e => Heap.get?_push_of_some _ e) (Nat.le_refl _) ⟨_, _, _, Heap.get?_push_size _ rfl⟩, rfl, q _ _ hf (same_new hf _) upd_same⟩
noncomputable def fromTo (i j : Int) : List Int := (List.range (j - i).toNat).map fun k => i + (k : Nat)
end
theorem boot_ty_range : bootBuiltins "range" = some (.type "range") := by decide +kernel
theorem seq_gen {t u : TS} {D : Ends} {σ : St} {H : Hp} (P : St → Hp → Prop) (h2 : ∀ σ H, P σ H → u D σ H) (h1 : ∀ R : St → Hp → Prop, (∀ σ H, P σ H → R σ H) → t { D with nx := R } σ H) : tSeq t u D σ H := h1 (u D) h2
section
variable {X : Cx}
end
theorem Chn.take {K : PySem.W.Frag} {H H' : Hp} {l p : Addr} {as : List Addr} {sts : List StepD} (c : Chn K H l as sts) (k : Nat) (s : Same H H') (f : H' p = some (.lst ((as.take k).map V.ref))) : Chn K H' p (as.take k) (sts.take k) := by
  refine ⟨SqL.of f, by rw [List.length_take, List.length_take, c.len], fun i a st h1 h2 => ?_, fun st h => c.ok st (List.mem_of_mem_take h)⟩
  have hi : i < k := by
    have := (List.getElem?_eq_some_iff.mp h1).1
    rw [List.length_take] at this; omega
  rw [List.getElem?_take_of_lt hi] at h1 h2
  exact s.seqT (c.item i a st h1 h2)
section
variable {X : Cx}
end
theorem IsCyc.same {sts : List StepD} {c r c' r' : Int} (h : IsCyc sts c r) (h' : IsCyc sts c' r') : c = c' ∧ r = r' := by
  have e : c = c' := by
    rcases Int.lt_trichotomy c c' with l | l | l
    · exact (h'.least c r h.c0 l h.per).elim
    · exact l
    · exact (h.least c' r' h'.c0 l h'.per).elim
  subst e
  have a := h.per 0 (Int.le_refl 0)
  have b := h'.per 0 (Int.le_refl 0)
  exact ⟨rfl, by omega⟩
section
variable {X : Cx}
end
theorem Chn.upd {K : PySem.W.Frag} {H : Hp} {l p : Addr} {as : List Addr} {sts : List StepD} {ys : List V} {o : HO} (c : Chn K H l as sts) (hp : H p = some (.lst ys)) (f : (upd H p o) l = some (.lst (as.map V.ref))) : Chn K (upd H p o) l as sts :=
  ⟨SqL.of f, c.len, fun i a st h1 h2 => (c.item i a st h1 h2).updL hp, c.ok⟩
end L2
set_option Elab.async false
set_option linter.all false
set_option maxRecDepth 100000
set_option maxHeartbeats 4000000
namespace L2
open PySem PySem.Spec PyProof.Rows
theorem low_step {a b A B sn sd n d p : Int} (h : a * B = A * b) (c : sn * d = n * sd) : (a * sn + p * (b * sd)) * (B * d) = (A * n + p * B * d) * (b * sd) := by
  have e1 : a * sn * (B * d) = (a * B) * (sn * d) := by
    simp only [Int.mul_comm, Int.mul_left_comm]
  have e2 : A * n * (b * sd) = (A * b) * (n * sd) := by
    simp only [Int.mul_comm, Int.mul_left_comm]
  have e3 : p * (b * sd) * (B * d) = p * B * d * (b * sd) := by
    simp only [Int.mul_comm, Int.mul_left_comm]
  rw [Int.add_mul, Int.add_mul, e1, e2, e3, h, c]
structure LineL (sts : List StepD) (m a b : Int) : Prop where
  a0 : 0 ≤ a
  b0 : 1 ≤ b
  b1 : b ≤ (lineI sts m).2
  e : a * (lineI sts m).2 = (lineI sts m).1 * b
theorem LineL.nil {m : Int} (h : 0 ≤ m) : LineL [] m m 1 := ⟨h, by decide, Int.le_refl _, rfl⟩
theorem LineL.snoc {sts : List StepD} {st : StepD} {m a b : Int} (l : LineL sts m a b) (o : st.Ok) : LineL (sts ++ [st]) m (a * st.sn + st.p * (b * st.sd)) (b * st.sd) := by
  have s0 := o.sn0
  have d0 := o.sd0
  have p0 := o.p0
  have hd : st.sd ≤ st.d := div_le' (by have := o.d0; omega) o.g0
  have b0 := l.b0
  have b1 := l.b1
  refine ⟨?_, ?_, ?_, ?_⟩
  · have h1 := Int.mul_nonneg l.a0 (show 0 ≤ st.sn by omega)
    have h2 := Int.mul_nonneg p0 (Int.mul_nonneg (show 0 ≤ b by omega) (show 0 ≤ st.sd by omega))
    omega
  · have := Int.mul_le_mul b0 d0 (by decide) (by omega)
    omega
  · rw [lineI_snoc]
    exact Int.mul_le_mul b1 hd (by omega) (by omega)
  · rw [lineI_snoc]
    exact low_step l.e o.cross
end L2
set_option Elab.async false
set_option linter.all false
set_option maxRecDepth 100000
set_option maxHeartbeats 4000000
namespace L2
open PySem PySem.Spec PyProof.Rows
noncomputable def relS (scope sc : Scope) : Scope :=
  { scope with names := scope.names.map fun (n, k) => if (k == .free && sc.kind == .function && sc.names.lookup n == some .cell) then (n, .cell) else (n, k) }
noncomputable abbrev Cx.block (X : Cx) (N : List Str) (s₀ : Shared) (H₀ : Hp) (env : Env) (ex : List Addr) (pn : List (Addr × Obj)) : Cx :=
  { X with N := N, s₀ := s₀, H₀ := H₀, env := env, outer := X.stack, ex := ex, fn := fun _ => false, pn := pn, xe := fun _ _ => False }
theorem clos_go {env : Env} {f : Str × NameKind → List (Str × Addr) → Sem (ForInStep (List (Str × Addr)))}
    (h1 : ∀ n k cs, k ≠ .free → f (n, k) cs = pure (.yield cs)) (h2 : ∀ n c cs, env.cells.lookup n = some c → f (n, .free) cs = pure (.yield ((n, c) :: cs))) :
    ∀ (l : List (Str × NameKind)) (acc : List (Str × Addr)), (∀ n, (n, .free) ∈ l → ∃ c, env.cells.lookup n = some c) → (∀ y c, acc.lookup y = some c → env.cells.lookup y = some c) →
      ∃ cl, forIn l acc f = pure cl ∧ (∀ y c, cl.lookup y = some c → env.cells.lookup y = some c) ∧ (∀ y, (y, .free) ∈ l → ∃ c, cl.lookup y = some c) ∧ ∀ y c, acc.lookup y = some c → ∃ c', cl.lookup y = some c' := by
  intro l
  induction l with
  | nil => intro acc _ h; exact ⟨acc, rfl, h, fun y hy => (List.not_mem_nil hy).elim, fun y c e => ⟨c, e⟩⟩
  | cons x l ih =>
    intro acc hf ha
    obtain ⟨n, k⟩ := x
    by_cases hk : k = .free
    · subst hk
      obtain ⟨c, hc⟩ := hf n List.mem_cons_self
      obtain ⟨cl, e, p1, p2, p3⟩ := ih ((n, c) :: acc) (fun y hy => hf y (List.mem_cons_of_mem _ hy)) fun y c' e => by
        by_cases hy : y = n
        · subst hy
          rw [List.lookup_cons_self] at e
          cases e; exact hc
        · rw [List.lookup_cons, beq_eq_false_iff_ne.mpr hy] at e
          exact ha y c' e
      refine ⟨cl, by rw [List.forIn_cons, h2 n c acc hc, pure_bind]; exact e, p1, fun y hy => ?_, fun y c' e' => ?_⟩
      · rcases List.mem_cons.mp hy with z | z
        · cases z
          exact p3 n c List.lookup_cons_self
        · exact p2 y z
      · by_cases hy : y = n
        · subst hy; exact p3 _ c List.lookup_cons_self
        · exact p3 y c' (by rw [List.lookup_cons, beq_eq_false_iff_ne.mpr hy]; exact e')
    · obtain ⟨cl, e, p1, p2, p3⟩ := ih acc (fun y hy => hf y (List.mem_cons_of_mem _ hy)) ha
      refine ⟨cl, by rw [List.forIn_cons, h1 n k acc hk, pure_bind]; exact e, p1, fun y hy => ?_, p3⟩
      rcases List.mem_cons.mp hy with z | z
      · cases z; exact (hk rfl).elim
      · exact p2 y z
theorem clos_of {scope : Scope} {env : Env} (h : ∀ n, (n, .free) ∈ scope.names → ∃ c, env.cells.lookup n = some c) :
    ∃ cl, closureFor scope env = pure cl ∧ (∀ y c, cl.lookup y = some c → env.cells.lookup y = some c) ∧ ∀ y, (y, .free) ∈ scope.names → ∃ c, cl.lookup y = some c := by
  have key := clos_go (env := env) (f := fun x cs => match x with | (name, kind) => if (kind == .free) = true then do let a ← cellOf env name; pure (.yield ((name, a) :: cs)) else pure (.yield cs))
    (fun n k cs hk => by
      have : (k == NameKind.free) = false := by simpa using hk
      simp only [this, Bool.false_eq_true, if_false]) (fun n c cs hc => by
      simp only [beq_self_eq_true, if_true]
      unfold cellOf
      rw [hc]
      rfl) scope.names [] h (fun y c e => by simp at e)
  obtain ⟨cl, e, p1, p2, _⟩ := key
  refine ⟨cl, ?_, p1, p2⟩
  rw [← e]
  simp only [closureFor]
  exact bind_pure _
structure CompN (X : Cx) (scope : Scope) (x : Str) (fs : List Str) (fr : List Nat) : Prop where
  kind : scope.kind = .function
  cell : ∀ y ∈ scope.names, y.2 ≠ .cell
  names : ∀ y ∈ scope.names, y.2 = .local → scope.names.lookup y.1 = some .local
  lx : scope.names.lookup x = some .local
  nd : (x :: fs).Nodup
  len : fs.length = fr.length
  frees : ∀ n, (n, NameKind.free) ∈ scope.names → X.env.scope.names.lookup n = some .cell
  fin : ∀ y ∈ fs, (y, NameKind.free) ∈ scope.names ∧ (relS scope X.env.scope).names.lookup y = some .cell
  cells : ∀ y, (relS scope X.env.scope).names.lookup y = some .cell ∨ (relS scope X.env.scope).names.lookup y = some .free → (y, NameKind.free) ∈ scope.names
  slot : ∀ (j k : Nat), fr[j]? = some k → X.N[k]? = fs[j]?
section
variable {X : Cx} {elt iter : Expr} {x : Str} {px pos : Pos} {scope : Scope} {fs : List Str} {fr : List Nat} {wi : TI} {te : TE}
end
structure CompS (N : List Str) (sc scope : Scope) (x : Str) (fs : List Str) (fr : List Nat) : Prop where
  kind : scope.kind = .function
  cell : ∀ y ∈ scope.names, y.2 ≠ .cell
  names : ∀ y ∈ scope.names, y.2 = .local → scope.names.lookup y.1 = some .local
  lx : scope.names.lookup x = some .local
  nd : (x :: fs).Nodup
  frees : ∀ y ∈ scope.names, y.2 = .free → sc.names.lookup y.1 = some .cell
  fin : ∀ y ∈ fs, (y, NameKind.free) ∈ scope.names ∧ (relS scope sc).names.lookup y = some .cell
  cells : ∀ y ∈ (relS scope sc).names, y.2 = .cell ∨ y.2 = .free → (y.1, NameKind.free) ∈ scope.names
  slot : fr.map (fun k => N[k]?) = fs.map some
theorem mem_of_lookup {α : Type} : ∀ {l : List (Str × α)} {y : Str} {k : α}, l.lookup y = some k → (y, k) ∈ l
  | (n, v) :: r, y, k, h => by
    by_cases e : y = n
    · subst e
      rw [List.lookup_cons_self] at h
      cases h; exact List.mem_cons_self
    · rw [List.lookup_cons, beq_eq_false_iff_ne.mpr e] at h
      exact List.mem_cons_of_mem _ (mem_of_lookup h)
theorem CompS.of {X : Cx} {N : List Str} {sc scope : Scope} {x : Str} {fs : List Str} {fr : List Nat} (c : CxIs X N sc) (h : CompS N sc scope x fs fr) : CompN X scope x fs fr := by
  have hl : fs.length = fr.length := by
    have := congrArg List.length h.slot
    rw [List.length_map, List.length_map] at this
    exact this.symm
  refine ⟨h.kind, h.cell, h.names, h.lx, h.nd, hl, fun n hn => by rw [c.s]; exact h.frees _ hn rfl, fun y hy => by rw [c.s]; exact h.fin y hy, fun y hy => ?_, fun j k e => ?_⟩
  · rw [c.s] at hy
    rcases hy with hy | hy
    · exact h.cells _ (mem_of_lookup hy) (.inl rfl)
    · exact h.cells _ (mem_of_lookup hy) (.inr rfl)
  · rw [c.n]
    have := congrArg (fun l => l[j]?) h.slot
    simp only [List.getElem?_map, e, Option.map_some] at this
    cases q : fs[j]? with
    | none => rw [q] at this; cases this
    | some y => rw [q] at this; simpa using this
noncomputable instance {N sc scope x fs fr} : Decidable (CompS N sc scope x fs fr) :=
  decidable_of_iff (scope.kind = .function ∧ (∀ y ∈ scope.names, y.2 ≠ .cell) ∧ (∀ y ∈ scope.names, y.2 = .local → scope.names.lookup y.1 = some .local) ∧ scope.names.lookup x = some .local ∧ (x :: fs).Nodup ∧ (∀ y ∈ scope.names, y.2 = .free → sc.names.lookup y.1 = some .cell) ∧
    (∀ y ∈ fs, (y, NameKind.free) ∈ scope.names ∧ (relS scope sc).names.lookup y = some .cell) ∧ (∀ y ∈ (relS scope sc).names, y.2 = .cell ∨ y.2 = .free → (y.1, NameKind.free) ∈ scope.names) ∧ fr.map (fun k => N[k]?) = fs.map some)
    ⟨fun ⟨a, b, c, d, e, f, g, h, i⟩ => ⟨a, b, c, d, e, f, g, h, i⟩, fun ⟨a, b, c, d, e, f, g, h, i⟩ => ⟨a, b, c, d, e, f, g, h, i⟩⟩
section
variable {X : Cx} {elt iter : Expr} {x : Str} {px pos : Pos} {scope sc : Scope} {N fs : List Str} {fr : List Nat} {wi : TI} {te : TE}
end
end L2
namespace L2
open PySem PySem.Spec PyProof.Rows
section
variable {X : Cx} {N : List Str} {sc : Scope} {pos : Pos} {i : Nat} {x : Str}
theorem wxvC (c : CxIs X N sc) (hi : N[i]? = some x) (hv : sc.names.lookup x = some .cell) (hd : (x == ("__debug__" : Str)) = false) (hcd : (x == ("__classdict__" : Str)) = false) : WE X (.Name x pos) (tVar i) :=
  ⟨pe_var (by rw [c.n]; exact hi) (.inr (.inl (by rw [c.s]; exact hv))) hd hcd⟩
theorem wxsC (c : CxIs X N sc) (hf : ∀ x, X.fn x = true) (nd : N.Nodup) {e : Expr} {te : TE} {pos' : Pos} (hi : N[i]? = some x) (hv : sc.names.lookup x = some .cell) (he : WE X e te) (hs : swapsWith e (some (.Name x pos')) pos.line X.env = pure false) :
    WS X (.Assign [.Name x pos'] e pos) (tAsg te (gN i)) :=
  ⟨ps_setN (by rw [c.n]; exact nd) (by rw [c.n]; exact hi) (Or.inr (by rw [c.s]; exact hv)) he.h hs (Or.inl (hf x))⟩
end
end L2
set_option Elab.async false
set_option linter.all false
set_option maxRecDepth 100000
set_option maxHeartbeats 4000000
namespace L2
open PySem PySem.Spec PyProof.Rows
noncomputable def Prm (p : Int) : Prop := 2 ≤ p ∧ ∀ d, 1 < d → d < p → ¬ d ∣ p
noncomputable def prodL : List Int → Int
  | [] => 1
  | p :: r => p * prodL r
theorem prodL_snoc : ∀ (l : List Int) (p : Int), prodL (l ++ [p]) = prodL l * p
  | [], p => by show p * 1 = 1 * p; omega
  | q :: r, p => by show q * prodL (r ++ [p]) = q * prodL r * p; rw [prodL_snoc r p, Int.mul_assoc]
noncomputable def Per (sts : List StepD) (c r : Int) : Prop := ∀ p, 0 ≤ p → endI sts (p + c) = endI sts p + r
theorem dvd_least {sts : List StepD} {c r : Int} (c0 : 1 ≤ c) (hp : Per sts c r) (hl : ∀ c' r', 1 ≤ c' → c' < c → ¬ Per sts c' r') : ∀ {c' r' : Int}, 0 ≤ c' → Per sts c' r' → c ∣ c' := by
  have key2 : ∀ (m : Nat) (c' r' : Int), c' = m → Per sts c' r' → c ∣ c' := by
    intro m
    induction m using Nat.strongRecOn with
    | ind m ihm =>
      intro c' r' e' hp'
      by_cases z : c' = 0
      · rw [z]; exact Int.dvd_zero c
      · by_cases hlt : c' < c
        · exact (hl c' r' (by omega) hlt hp').elim
        · have d : c ∣ c' - c := by
            refine ihm (c' - c).toNat (by omega) (c' - c) (r' - r) (by omega) fun p pp => ?_
            have a := hp' p pp
            have b := hp (p + (c' - c)) (by omega)
            rw [show p + (c' - c) + c = p + c' by omega] at b
            omega
          have := Int.dvd_add d (Int.dvd_refl c)
          rwa [show c' - c + c = c' by omega] at this
  intro c' r' h0 hp'
  exact key2 c'.toNat c' r' (by omega) hp'
theorem least_ex {sts : List StepD} (ok : ∀ st ∈ sts, st.Ok) : ∃ c r, IsCyc sts c r := by
  have pr := prodI_pos ok
  have key : ∀ (n : Nat) (c r : Int), c = n → 1 ≤ c → Per sts c r → ∃ c r, IsCyc sts c r := by
    intro n
    induction n using Nat.strongRecOn with
    | ind n ih =>
      intro c r e c0 hp
      by_cases hex : ∃ c' r', 1 ≤ c' ∧ c' < c ∧ Per sts c' r'
      · obtain ⟨c', r', a, b, d⟩ := hex
        exact ih c'.toNat (by omega) c' r' (by omega) a d
      · have hl : ∀ c' r', 1 ≤ c' → c' < c → ¬ Per sts c' r' := fun c' r' a b d => hex ⟨c', r', a, b, d⟩
        exact ⟨c, r, c0, rise_pos ok c0 hp (dvd_least c0 hp hl (by omega) (end_prod sts ok)), hp, hl⟩
  exact key (prodI sts).toNat (prodI sts) (riseI sts) (by omega) (by omega) (end_prod sts ok)
theorem Per.inj {sts : List StepD} {c r r' : Int} (h : Per sts c r) (h' : Per sts c r') : r = r' := by
  have a := h 0 (Int.le_refl 0)
  have b := h' 0 (Int.le_refl 0)
  omega
structure Down (sts : List StepD) (c r : Int) (rest : List Int) : Prop where
  c0 : 1 ≤ c
  per : Per sts c r
  left : prodL rest ∣ c
  way : ∃ L rL k, IsCyc sts L rL ∧ c = k * L ∧ k ∣ prodL rest
theorem Down.start {sts : List StepD} {c r : Int} {l : List Int} (ok : ∀ st ∈ sts, st.Ok) (c0 : 1 ≤ c) (per : Per sts c r) (hl : prodL l = c) : Down sts c r l := by
  obtain ⟨L, rL, h⟩ := least_ex ok
  obtain ⟨k, hk⟩ := cyc_dvd h (show 0 ≤ c by omega) per
  exact ⟨c0, per, by rw [hl]; exact Int.dvd_refl c, L, rL, k, h, by rw [hk, Int.mul_comm], by rw [hl, hk]; exact Int.dvd_mul_left L k⟩
theorem Down.fin {sts : List StepD} {c r : Int} (d : Down sts c r []) : IsCyc sts c r := by
  obtain ⟨L, rL, k, h, e, hk⟩ := d.way
  have c0 := d.c0
  have L0 := h.c0
  have hk1 : k = 1 := by
    have hk' : k ∣ 1 := hk
    have : 0 < k := by
      refine Int.not_le.mp fun z => ?_
      have := Int.mul_le_mul_of_nonneg_right z (show 0 ≤ L by omega)
      omega
    exact Int.eq_one_of_dvd_one (by omega) hk'
  subst hk1
  rw [Int.one_mul] at e
  subst e
  rw [Per.inj d.per h.per]
  exact h
theorem many_nn {st : StepD} (o : st.Ok) {m : Int} (hm : 0 ≤ m) : 0 ≤ st.many m := by
  have e0 : 0 ≤ st.exact m := by
    unfold StepD.exact
    have h1 := Int.mul_nonneg hm (show 0 ≤ st.num by have := o.num0; omega)
    have h2 := Int.mul_nonneg o.p0 (show 0 ≤ st.d by have := o.d0; omega)
    omega
  have d0 := Int.ediv_nonneg e0 (Int.le_of_lt o.wide0)
  unfold StepD.many
  split
  · omega
  · split <;> omega
theorem endI_nn : ∀ (sts : List StepD), (∀ st ∈ sts, st.Ok) → ∀ p, 0 ≤ p → 0 ≤ endI sts p := by
  refine snoc_ind (fun _ p hp => hp) fun t st ih ok p hp => ?_
  have o := ok st (List.mem_append_right _ (List.mem_singleton.mpr rfl))
  rw [endI_snoc]
  exact Int.mul_nonneg (many_nn o (ih (fun s hs => ok s (List.mem_append_left _ hs)) p hp)) (by have := o.u0; omega)
structure Fac (n0 n q : Int) (fs : List Int) : Prop where
  n1 : 1 ≤ n
  q2 : 2 ≤ q
  prm : ∀ p ∈ fs, Prm p
  prod : prodL fs * n = n0
  none : ∀ d, 1 < d → d < q → ¬ d ∣ n
  len : (fs.length : Int) ≤ n0 - n
theorem Fac.start {n : Int} (h : 1 ≤ n) : Fac n n 2 [] := ⟨h, by omega, fun p hp => (List.not_mem_nil hp).elim, by show 1 * n = n; omega, fun d h1 h2 => by omega, by show ((0 : Nat) : Int) ≤ n - n; omega⟩
theorem Fac.hit {n0 n q : Int} {fs : List Int} (f : Fac n0 n q fs) (hq : q ∣ n) : Fac n0 (n / q) q (fs ++ [q]) ∧ n / q < n ∧ Prm q := by
  have q2 := f.q2
  have n1 := f.n1
  have e : n / q * q = n := Int.ediv_mul_cancel hq
  have h1 : 1 ≤ n / q := by
    refine Int.not_lt.mp fun z => ?_
    have := Int.mul_le_mul_of_nonneg_right (show n / q ≤ 0 by omega) (show 0 ≤ q by omega)
    omega
  have lt : n / q < n := by
    have := Int.mul_le_mul_of_nonneg_left q2 (show 0 ≤ n / q by omega)
    omega
  have pq : Prm q := ⟨q2, fun d h1 h2 hd => f.none d h1 h2 (Int.dvd_trans hd hq)⟩
  refine ⟨⟨h1, q2, fun p hp => ?_, ?_, fun d h1 h2 hd => f.none d h1 h2 (Int.dvd_trans hd ⟨q, e.symm⟩), ?_⟩, lt, pq⟩
  · rcases List.mem_append.mp hp with z | z
    · exact f.prm p z
    · rw [List.mem_singleton.mp z]; exact pq
  · rw [prodL_snoc, Int.mul_assoc, Int.mul_comm q, e, f.prod]
  · have := f.len
    rw [List.length_append, List.length_singleton]
    omega
theorem Fac.miss {n0 n q : Int} {fs : List Int} (f : Fac n0 n q fs) (hq : ¬ q ∣ n) : Fac n0 n (q + 1) fs :=
  ⟨f.n1, by have := f.q2; omega, f.prm, f.prod, fun d h1 h2 hd => by
    by_cases e : d = q
    · rw [e] at hd; exact hq hd
    · exact f.none d h1 (by omega) hd, f.len⟩
theorem Fac.last {n0 n q : Int} {fs : List Int} (f : Fac n0 n q fs) (h : n < q * q) (hn : 1 < n) : Prm n ∧ prodL (fs ++ [n]) = n0 := by
  refine ⟨⟨by omega, fun d h1 h2 hd => ?_⟩, by rw [prodL_snoc]; exact f.prod⟩
  have q2 := f.q2
  by_cases hlt : d < q
  · exact f.none d h1 hlt hd
  · obtain ⟨e, he⟩ := hd
    have e1 : 1 < e := by
      refine Int.not_le.mp fun z => ?_
      have := Int.mul_le_mul_of_nonneg_left z (show 0 ≤ d by omega)
      omega
    have e2 : e < q := by
      refine Int.not_le.mp fun z => ?_
      have := Int.mul_le_mul (show q ≤ d by omega) z (by omega) (by omega)
      omega
    exact f.none e e1 e2 ⟨d, by rw [he, Int.mul_comm]⟩
theorem Fac.one {n0 n q : Int} {fs : List Int} (f : Fac n0 n q fs) (hn : ¬ 1 < n) : prodL fs = n0 := by
  have n1 := f.n1
  have e : n = 1 := by omega
  have := f.prod
  rw [e, Int.mul_one] at this
  exact this
section
variable {X : Cx}
end
end L2
set_option Elab.async false
set_option linter.all false
set_option maxRecDepth 100000
set_option maxHeartbeats 4000000
namespace L2
open PySem PySem.Spec PyProof.Rows
section
variable {X : Cx}
end
section
variable {X : Cx} {tg : Expr}
end
section
variable {X : Cx} {a b : Expr} {rest : List Expr} {ta tb : TE} {pos : Pos}
end
noncomputable abbrev TJ := Str → St → Hp → VK → Prop
section
variable {X : Cx} {e v1 v2 : Expr} {es : List Expr} {te : TE} {t : TJ} {pos : Pos}
end
section
variable {env : Env} {es : List Expr}
end
end L2
set_option Elab.async false
set_option linter.all false
set_option maxRecDepth 100000
set_option maxHeartbeats 4000000
namespace L2
open PySem PySem.Spec PyProof.Rows PySem.NumText
noncomputable def numS (v : Int) : Str := Str.ofString (toString v)
noncomputable instance (l : List Nat) : Decidable (AllDigits l) := inferInstanceAs (Decidable (∀ c ∈ l, 48 ≤ c ∧ c ≤ 57))
noncomputable def numT (t : Str) (low high : Int) : Option Int :=
  if t = "" ∨ (numS high).length < t.length then none
  else if ¬ AllDigits t.cps.toList then none
  else if t.cps.toList.head? = some 48 ∧ ¬ t = "0" then none
  else if ((digitsVal t.cps.toList : Nat) : Int) < low ∨ high < ((digitsVal t.cps.toList : Nat) : Int) then none else some ((digitsVal t.cps.toList : Nat) : Int)
noncomputable def fracT (t w : Str) : Option (Int × Int) :=
  match (Txt.split t "/").map fun p => numT p 1 100 with
  | [some n, some d] => if w = "off" ∧ d ≤ n then none else some (n, d)
  | _ => none
noncomputable def partW (ws : List Str) (k : Nat) (al : List Str) : Option Str := if k + 1 < ws.length ∧ ws.getD k "" ∈ al then some (ws.getD k "") else none
noncomputable def sA (ws : List Str) : Option Str → Option (Int × Int) × Nat
  | none => (some (1, 1), 0)
  | some x => (fracT (ws.getD 1 "") x, 2)
noncomputable def sB (ws : List Str) (k : Nat) : Option Str → Option Int × Nat
  | none => (some 0, k)
  | some _ => (numT (ws.getD (k + 1) "") 0 (10 ^ 30), k + 2)
noncomputable def sC (ws : List Str) (k : Nat) : Option Str → Option Int × Nat
  | none => (some 1, k)
  | some _ => (numT (ws.getD (k + 1) "") 1 100, k + 2)
noncomputable def sD (w y : Option Str) : Option (Int × Int) → Option Int → Option Int → Option StepD
  | some (n, d), some pn, some un => some ⟨w.getD "times", n, d, pn, y.getD "near", un⟩
  | _, _, _ => none
noncomputable def wordsA : List Str := ["times", "add", "off"]
noncomputable def waysA : List Str := ["down", "up", "near"]
noncomputable def stepE (ws : List Str) (w y : Option Str) (f : Option (Int × Int)) (p u : Option Int) (k : Nat) : Option StepD := if k < ws.length then none else sD w y f p u
noncomputable def stepV (ws : List Str) (w pl y : Option Str) (f : Option (Int × Int) × Nat) (p u : Option Int × Nat) (r : Option StepD) : Prop :=
  w = partW ws 0 wordsA ∧ f = sA ws w ∧ pl = partW ws f.2 ["plus"] ∧ p = sB ws f.2 pl ∧ y = partW ws p.2 waysA ∧ u = sC ws p.2 y ∧ r = stepE ws w y f.1 p.1 u.1 u.2
noncomputable def stepW (ws : List Str) : Option StepD :=
  let w := partW ws 0 wordsA
  let f := sA ws w
  let p := sB ws f.2 (partW ws f.2 ["plus"])
  let y := partW ws p.2 waysA
  let u := sC ws p.2 y
  stepE ws w y f.1 p.1 u.1 u.2
theorem stepV.eq {ws : List Str} {w pl y : Option Str} {f : Option (Int × Int) × Nat} {p u : Option Int × Nat} {r : Option StepD} (h : stepV ws w pl y f p u r) : stepW ws = r := by
  obtain ⟨e1, e2, e3, e4, e5, e6, e7⟩ := h
  unfold stepW
  rw [e7, e6, e5, e4, e3, e2, e1]
theorem chn_push {K : PySem.W.Frag} {H : Hp} {l p : Addr} {as : List Addr} {sts : List StepD} {st : StepD} (c : Chn K H l as sts) (hl : H l = some (.lst (as.map V.ref))) (hT : SqT K H p st.vals) (hO : st.Ok) :
    Chn K (upd H l (.lst ((as ++ [p]).map V.ref))) l (as ++ [p]) (sts ++ [st]) := by
  refine ⟨SqL.of upd_same, by rw [List.length_append, List.length_append, c.len]; rfl, fun i a s' h1 h2 => ?_, fun s' h => ?_⟩
  · by_cases hi : i < as.length
    · rw [List.getElem?_append_left hi] at h1
      rw [List.getElem?_append_left (by rw [← c.len]; exact hi)] at h2
      exact (c.item i a s' h1 h2).updL hl
    · have hi1 := (List.getElem?_eq_some_iff.mp h1).1
      rw [List.length_append, List.length_singleton] at hi1
      have e : i = as.length := by omega
      subst e
      rw [List.getElem?_append_right (Nat.le_refl _), Nat.sub_self] at h1
      rw [c.len, List.getElem?_append_right (Nat.le_refl _), Nat.sub_self] at h2
      cases h1
      cases h2
      exact hT.updL hl
  · rcases List.mem_append.mp h with h | h
    · exact c.ok s' h
    · rw [List.mem_singleton.mp h]; exact hO
section
variable {X : Cx}
end
section
variable {X : Cx} {K : PySem.W.Frag}
theorem ix_listK (h : X.K = K) : IxR X (rIxL K) := by subst h; exact ix_list
theorem op_notIn_seqK (h : X.K = K) : OpR X (compareOp .NotIn) (rIn K true) := by subst h; exact op_notIn_seq
end
end L2
set_option Elab.async false
set_option linter.all false
set_option maxRecDepth 100000
set_option maxHeartbeats 4000000
namespace L2
open PySem PySem.Spec PyProof.Rows
theorem roundI_mono {x y den unit : Int} {way : Str} (h : x ≤ y) (hd : 0 < den * unit) (hu : 0 ≤ unit) : roundI x den unit way ≤ roundI y den unit way := by
  unfold roundI
  split
  · exact Int.mul_le_mul_of_nonneg_right (Int.ediv_le_ediv hd h) hu
  · split
    · exact Int.mul_le_mul_of_nonneg_right (Int.ediv_le_ediv hd (by omega)) hu
    · exact Int.mul_le_mul_of_nonneg_right (Int.ediv_le_ediv (by omega) (by omega)) hu
theorem afterI_mono {st : StepD} (o : st.Ok) {x y : Int} (h : x ≤ y) : afterI st x ≤ afterI st y := by
  unfold afterI
  refine roundI_mono ?_ (su_pos o) (by have := o.u0; omega)
  have := Int.mul_le_mul_of_nonneg_right h (show 0 ≤ st.sn by have := o.sn0; omega)
  omega
theorem endI_mono : ∀ (sts : List StepD), (∀ st ∈ sts, st.Ok) → ∀ x y, x ≤ y → endI sts x ≤ endI sts y := by
  refine snoc_ind (fun _ x y h => h) fun t st ih ok x y h => ?_
  have o := ok st (List.mem_append_right _ (List.mem_singleton.mpr rfl))
  rw [endI_snoc, endI_snoc, ← after_many o, ← after_many o]
  exact afterI_mono o (ih (fun s hs => ok s (List.mem_append_left _ hs)) x y h)
structure Low (sts : List StepD) (e m : Int) : Prop where
  m0 : 0 ≤ m
  ge : e ≤ endI sts m
  lt : ∀ p, 0 ≤ p → p < m → endI sts p < e
theorem Low.uniq {sts : List StepD} {e m m' : Int} (h : Low sts e m) (h' : Low sts e m') : m = m' := by
  rcases Int.lt_trichotomy m m' with l | l | l
  · have := h'.lt m h.m0 l
    have := h.ge
    omega
  · exact l
  · have := h.lt m' h'.m0 l
    have := h'.ge
    omega
theorem Low.le {sts : List StepD} {e m p : Int} (h : Low sts e m) (hp : 0 ≤ p) (he : e ≤ endI sts p) : m ≤ p := Int.not_lt.mp fun z => by
  have := h.lt p hp z
  omega
structure From (sts : List StepD) (e first last : Int) : Prop where
  a : Low sts e first
  he : endI sts first = e
  b : Low sts (e + 1) (last + 1)
theorem From.le {sts : List StepD} {e f l : Int} (h : From sts e f l) : f ≤ l := by
  have h1 := h.a.le h.b.m0 (by have := h.b.ge; omega)
  have h2 : f ≠ l + 1 := fun z => by
    have := h.b.ge
    have := h.he
    rw [z] at this
    omega
  omega
theorem From.mid {sts : List StepD} {e f l p : Int} (h : From sts e f l) (ok : ∀ st ∈ sts, st.Ok) (h1 : f ≤ p) (h2 : p ≤ l) : endI sts p = e := by
  have a := endI_mono sts ok f p h1
  have f0 := h.a.m0
  have b := h.b.lt p (by omega) (by omega)
  have := h.he
  omega
theorem From.has {sts : List StepD} {e f l p : Int} (h : From sts e f l) (ok : ∀ st ∈ sts, st.Ok) (hp : 0 ≤ p) (he : endI sts p = e) : f ≤ p ∧ p ≤ l := by
  refine ⟨h.a.le hp (by omega), Int.not_lt.mp fun z => ?_⟩
  have a := endI_mono sts ok (l + 1) p (by omega)
  have := h.b.ge
  omega
theorem Low.hit {sts : List StepD} {m p : Int} (ok : ∀ st ∈ sts, st.Ok) (h : Low sts (endI sts p) m) (hp : 0 ≤ p) : endI sts m = endI sts p := by
  have a := h.le hp (Int.le_refl _)
  have b := endI_mono sts ok m p a
  have := h.ge
  omega
section
variable {X : Cx} {e : Expr} {es : List Expr} {t : TG} {u : TGs} {pos : Pos}
end
noncomputable def Part (s1 s2 : List StepD) : Option Int → Prop
  | none => ∀ p, 0 ≤ p → endI s1 p = endI s2 p
  | some m => 0 ≤ m ∧ ¬ endI s1 m = endI s2 m ∧ ∀ p, 0 ≤ p → p < m → endI s1 p = endI s2 p
theorem Part.uniq {s1 s2 : List StepD} {r r' : Option Int} (h : Part s1 s2 r) (h' : Part s1 s2 r') : r = r' := by
  cases r with
  | none =>
    cases r' with
    | none => rfl
    | some m => exact (h'.2.1 (h m h'.1)).elim
  | some m =>
    cases r' with
    | none => exact (h.2.1 (h' m h.1)).elim
    | some m' =>
      rcases Int.lt_trichotomy m m' with l | l | l
      · exact (h.2.1 (h'.2.2 m h.1 l)).elim
      · rw [l]
      · exact (h'.2.1 (h.2.2 m' h'.1 l)).elim
theorem Part.symm {s1 s2 : List StepD} {r : Option Int} (h : Part s1 s2 r) : Part s2 s1 r := by
  cases r with
  | none => exact fun p hp => (h p hp).symm
  | some m => exact ⟨h.1, fun z => h.2.1 z.symm, fun p a b => (h.2.2 p a b).symm⟩
structure SameStep (a b : StepD) : Prop where
  num : b.num = a.num
  d : b.d = a.d
  p : b.p = a.p
  y : b.y = a.y
  u : b.u = a.u
theorem SameStep.many {a b : StepD} (h : SameStep a b) (m : Int) : b.many m = a.many m := by
  unfold StepD.many StepD.exact StepD.wide
  rw [h.num, h.d, h.p, h.y, h.u]
theorem SameStep.cyc {a b : StepD} (h : SameStep a b) : b.cyc = a.cyc := by
  unfold StepD.cyc StepD.cg StepD.wide
  rw [h.num, h.d, h.u]
theorem prd_of {α β : Type} {F : α → β → Prop} : ∀ {a : List α} {c : List β}, a.length = c.length → (∀ (i : Nat) x y, a[i]? = some x → c[i]? = some y → F x y) → Paired F a c
  | [], [], _, _ => .nil
  | x :: a, y :: c, h, f => .cons (f 0 x y rfl rfl) (prd_of (by simpa using h) fun i x' y' h1 h2 => f (i + 1) x' y' (by simpa using h1) (by simpa using h2))
theorem fromTo_get {i j : Int} {k : Nat} {x : V} (h : ((L2.fromTo i j).map V.int)[k]? = some x) : ∃ z, x = .int z ∧ i ≤ z ∧ z < j := by
  unfold L2.fromTo at h
  rw [List.getElem?_map, List.getElem?_map] at h
  by_cases hk : k < (j - i).toNat
  · rw [List.getElem?_range hk] at h
    exact ⟨i + (k : Nat), (Option.some.inj h).symm, by omega, by omega⟩
  · rw [List.getElem?_eq_none (by rw [List.length_range]; omega)] at h
    cases h
theorem fromTo_len (i j : Int) : (L2.fromTo i j).length = (j - i).toNat := by unfold L2.fromTo; rw [List.length_map, List.length_range]
theorem Same.none {H H' : Hp} {p : Addr} (s : Same H H') (h : H' p = none) : H p = none := by
  cases z : H p with
  | none => rfl
  | some o => have := s _ _ z; rw [h] at this; cases this
theorem line_den : ∀ (sts : List StepD) (m : Int), (lineI sts m).2 = (lineI sts 0).2 := by
  intro sts m
  revert sts
  refine snoc_ind rfl fun t st ih => ?_
  rw [lineI_snoc, lineI_snoc]
  show (lineI t m).2 * st.d = (lineI t 0).2 * st.d
  rw [ih]
noncomputable def denI (sts : List StepD) : Int := (lineI sts 0).2
noncomputable def addI (sts : List StepD) (p : Int) : Int := endI sts p * (lineI sts p).2 - (lineI sts p).1
end L2
set_option Elab.async false
set_option linter.all false
set_option maxRecDepth 100000
set_option maxHeartbeats 4000000
namespace L2
open PySem PySem.Spec PyProof.Rows
section
variable {X : Cx}
theorem num_is {its : List Value} {ns : List Int} {xs : Array (Int × Tok)} (rv : Vals (ns.map V.int) its) (e : its.toArray = intItems xs) {i : Nat} (hi : i < ns.length) : numAt xs i = ns[i] := by
  obtain ⟨u, hu, t, rfl⟩ := rv.get (i := i) (x := .int ns[i]) (by rw [List.getElem?_map, List.getElem?_eq_getElem hi]; rfl)
  have h : (intItems xs)[i]? = some (Value.int ns[i] t) := by rw [← e]; simpa using hu
  obtain ⟨t', e'⟩ := intItems_at h
  injection e' with e1 _
  exact e1.symm
theorem items_len {its : List Value} {ns : List Int} {xs : Array (Int × Tok)} (rv : Vals (ns.map V.int) its) (e : its.toArray = intItems xs) : xs.size = ns.length := by
  have h1 := rv.length
  rw [List.length_map] at h1
  have h2 := congrArg Array.size e
  rw [List.size_toArray] at h2
  have h3 : (intItems xs).size = xs.size := by unfold intItems; exact Array.size_map ..
  omega
theorem call_maxL (hc : X.calm = true) : CallR X (.builtin "max") (fun xs H Q => ∃ (p : Addr) (ns : List Int), xs = [.ref p] ∧ SqL X.K H p (ns.map V.int) ∧ 0 < ns.length ∧ ∀ M, M ∈ ns → (∀ a ∈ ns, a ≤ M) → Q (.int M) H) := by
  intro pins s σ H xs us Q I r h
  obtain ⟨p, ns, rfl, hL, hne, q⟩ := h
  obtain ⟨u, rfl, rx⟩ := vals1 r
  cases rx
  obtain ⟨its, rv, pl, hz⟩ := I.list hL
  obtain ⟨ys, e⟩ := (intsAre_of rv).allInts.items
  have hs := items_len rv e
  have hl : s.heap.IsList p (intItems ys) := by rw [← e]; exact pl.isList
  refine max_intList (I.ok.hd hc) hl (by omega) fun v h' tk hv hk => ?_
  obtain ⟨t, rfl⟩ := intItems_at hv
  obtain ⟨b1, b2⟩ := argBest_gt (numAt ys) (ys.size - 1)
  refine ⟨.int _, H, I.kept (t' := tk) hk, ⟨t, rfl⟩, q _ ?_ fun a ha => ?_⟩
  · rw [num_is rv e (by omega)]; exact List.getElem_mem _
  · obtain ⟨j, hj, rfl⟩ := List.mem_iff_getElem.mp ha
    have := b2 j (by omega)
    rw [num_is rv e hj] at this
    exact this
end
theorem denI_snoc (sts : List StepD) (st : StepD) : denI (sts ++ [st]) = denI sts * st.d := by unfold denI; rw [lineI_snoc]; rfl
end L2
set_option Elab.async false
set_option linter.all false
set_option maxRecDepth 100000
set_option maxHeartbeats 4000000
namespace L2
open PySem PySem.Spec PyProof.Rows
section
variable {prog : Program} {w : World} {A : Around} {E : Value → Shared → Prop} {s : Shared}
theorem long_extend {R : Result → Shared → Prop} {r : Addr} {a b c : Int} {t u v : Tok} {n : Nat} (hh : A.handled = none) (hr : IsRange s.heap r a b c t u v) (hbig : Builtin.Range.small a b c = false)
    (hn : Builtin.Range.rangeSize a b c = n) (hlen : n ≤ 2 ^ 24) (S : Addr) (c₀ : Nat) (hS : s.heap.get? S = some { cls := .type "list", data := .seq #[] c₀ })
    (hR : ∀ h' tk acc' c', (∀ b o, b ≠ S → s.heap.get? b = some o → h'.get? b = some o) → h'.get? S = some { cls := .type "list", dict := none, data := .seq acc' c', slots := #[] } →
      ItemsOf (fun i v => ∃ t, v = .int (a + i * c) t) acc' n → R (.ok (.ret .none)) { s with heap := h', toks := tk }) :
    wpAny (model prog w) A.in1 (Builtin.List.listExtendWith (.ref S) (.ref r) .none)
      (fun fin s' => match fin with | .done f => R (.ok f) s' | .again c' => c'.quiet = true ∧ codeAny (model prog w) A c' R s') (fun e s' => R (.error e) s') s := by
  have nSr : S ≠ r := fun e => by rw [e, hr] at hS; simp at hS
  have lt : S < s.heap.objs.size := Heap.lt_size hS
  have nSI : S ≠ s.heap.objs.size := Nat.ne_of_lt lt
  have W := (Walks.longrange (prog := prog) (w := w) (A := A.in1) hh s.heap.objs.size a c n).toS
  have run : ∀ (h : Heap) (c₁ tk : Nat), IsLongIter h s.heap.objs.size (a + ((0 : Nat) : Int) * c) ((n : Int) - ((0 : Nat) : Int)) c → (∀ b o, b ≠ S → s.heap.get? b = some o → h.get? b = some o) →
      h.get? S = some { cls := .type "list", data := .seq #[] c₁ } → codeAny (model prog w) A (.builtin "list.extend.loop" ⟨[.ref S, .ref s.heap.objs.size, .none], []⟩) R { s with heap := h, toks := tk } := fun h c₁ tk it kp hS₁ => by
    have hsz : n ≤ sizeLine := hlen
    refine codeAny_extend_loopS W hsz S (fun hm => nSI (List.mem_singleton.mp hm)) .none n 0 _ #[] c₁ rfl (Nat.zero_le _) it hS₁ (ItemsOf.nil _) fun s' acc' c' hm hS' hacc => ?_
    rw [Moved.eq_with hm]
    refine hR s'.heap s'.toks acc' c' (fun b o hb e => hm.heap b o (fun hmem => ?_) (kp b o hb e)) hS' hacc
    rcases List.mem_cons.mp hmem with z | z
    · exact hb z
    · exact absurd (Heap.lt_size e) (by rw [List.mem_singleton.mp z]; exact Nat.lt_irrefl _)
  unfold Builtin.List.listExtendWith
  refine wpAny_bind (wpAny_typeOf (T := "range") ⟨_, hr, rfl⟩ ?_)
  have g1 : Builtin.List.listSameRef (.ref S) (.ref r) = false := by simp [Builtin.List.listSameRef, nSr]
  have g2 : (Value.type "range" == Value.type "list") = false := by decide
  have g3 : (Value.type "range" == Value.type "tuple") = false := by decide
  simp only [g1, g2, g3, Bool.or_false, Bool.false_eq_true, if_false]
  refine wpAny_bind (wpAny_pyIter_longrange hr hbig ?_)
  refine wpAny_bind (wpAny_holding (wpAny_hint_range (n := n) (Heap.get?_push_of_some _ hr) hn hlen ?_))
  have it₁ : IsLongIter (s.heap.push { cls := .type "longrange_iterator", data := .fields #[rawInt a, rawInt (Builtin.Range.rangeSize a b c), rawInt c] }) s.heap.objs.size (a + ((0 : Nat) : Int) * c) ((n : Int) - ((0 : Nat) : Int)) c := by
    show IsLongIter _ _ _ _ _
    rw [hn]
    simpa using Heap.get?_push_size _ rfl
  have hS₁ := Heap.get?_push_of_some { cls := .type "longrange_iterator", data := .fields #[rawInt a, rawInt (Builtin.Range.rangeSize a b c), rawInt c] } hS
  refine wpAny_ite_split (fun _ => ?_) (fun _ => wpAny_pure ⟨plainId_quiet F.plain_extend_loop _, run _ c₀ _ it₁ (fun b o _ e => Heap.get?_push_of_some _ e) hS₁⟩)
  refine wpAny_bind (wpAny_rule (wpAny_bind ?_))
  show wpAny _ _ (updateSeq S (·.push .none) >>= fun _ => updateSeq S (·.pop)) _ _ _
  refine wpAny_bind (wpAny_updateSeq hS₁ rfl ?_)
  have hS₂ := Heap.get?_update_self (Obj.mapSeq (·.push Value.none)) hS₁ rfl
  refine wpAny_updateSeq (hz := by seq_fits) hS₂ rfl ?_
  have hS₃ := Heap.get?_update_self (Obj.mapSeq (·.pop)) hS₂ rfl
  have oth : ∀ b' (o : Obj) (h : Heap) (f : Obj → Obj), b' ≠ S → h.get? b' = some o → (h.update S f).get? b' = some o := fun b' o h f hb e => (Heap.get?_update_other _ _ (Ne.symm hb)).trans e
  exact wpAny_pure ⟨plainId_quiet F.plain_extend_loop _, run _ _ _ (oth _ _ _ _ (Ne.symm nSI) (oth _ _ _ _ (Ne.symm nSI) it₁)) (fun b' o hb e => oth _ _ _ _ hb (oth _ _ _ _ hb (Heap.get?_push_of_some _ e))) hS₃⟩
theorem long_list {Q : Value → Shared → Prop} {r : Addr} {a b c : Int} {t u v : Tok} {n : Nat} (hh : A.handled = none) (hr : IsRange s.heap r a b c t u v) (hbig : Builtin.Range.small a b c = false)
    (hn : Builtin.Range.rangeSize a b c = n) (hlen : n ≤ 2 ^ 24)
    (hQ : ∀ h' tk acc' c', (∀ b o, s.heap.get? b = some o → h'.get? b = some o) →
      h'.get? s.heap.objs.size = some { cls := .type "list", dict := none, data := .seq acc' c', slots := #[] } → ItemsOf (fun i v => ∃ t, v = .int (a + i * c) t) acc' n → Q (.ref s.heap.objs.size) { s with heap := h', toks := tk }) :
    wpAny (model prog w) A (call (.type "list") [.ref r]) Q E s := by
  refine callType_codes (Q₁ := fun obj s₁ => obj = .ref s.heap.objs.size ∧ s₁ = { s with heap := s.heap.push { cls := .type "list", data := .seq #[] } }) F.called_list (F.typeCall_list_1 _) F.entry_list_init (code_list_new _ ⟨rfl, rfl⟩) fun obj s₁ h₁ => ?_
  obtain ⟨rfl, rfl⟩ := h₁
  have hS : (s.heap.push { cls := .type "list", data := .seq #[] }).get? s.heap.objs.size = some { cls := .type "list", data := .seq #[] } := Heap.get?_push_size _ rfl
  have hr₁ := Heap.get?_push_of_some { cls := .type "list", data := .seq #[] } hr
  have nSr : s.heap.objs.size ≠ r := fun e => by rw [e] at hS; rw [hS] at hr₁; simp at hr₁
  refine ⟨⟨_, hS, rfl⟩, F.args_list_init_2 _ _, ?_⟩
  show wpAny _ _ (do let old ← Builtin.List.listItems (.ref s.heap.objs.size); Builtin.List.listUpdate (.ref s.heap.objs.size) (fun _ => #[]); letGo old.toList.reverse; Builtin.List.listExtendWith (.ref s.heap.objs.size) (.ref r) .none) _ _ _
  refine wpAny_bind ?_
  unfold Builtin.List.listItems
  refine wpAny_bind (wpAny_seqItems hS rfl (wpAny_pure ?_))
  show wpAny _ _ (updateSeq s.heap.objs.size (fun _ => #[]) >>= fun _ => letGo (#[] : Array Value).toList.reverse >>= fun _ => Builtin.List.listExtendWith (.ref s.heap.objs.size) (.ref r) .none) _ _ _
  refine wpAny_bind (wpAny_updateSeq hS rfl ?_)
  have hS₂ := Heap.get?_update_self (Obj.mapSeq (fun _ => (#[] : Array Value))) hS rfl
  have oth : ∀ b' (o : Obj), b' ≠ s.heap.objs.size → (s.heap.push { cls := .type "list", data := .seq #[] }).get? b' = some o → ((s.heap.push { cls := .type "list", data := .seq #[] }).update s.heap.objs.size (Obj.mapSeq (fun _ => (#[] : Array Value)))).get? b' = some o :=
    fun b' o hb e => (Heap.get?_update_other _ _ (Ne.symm hb)).trans e
  refine wpAny_bind (wpAny_letGo ?_)
  refine long_extend (A := A.in1) hh (oth r _ (Ne.symm nSr) hr₁) hbig hn hlen _ _ hS₂ fun h' tk acc' c' hk hS' hacc => ?_
  exact ⟨rfl, hQ h' tk acc' c' (fun b' o e => hk b' o (Nat.ne_of_lt (Heap.lt_size e)) (oth b' o (Nat.ne_of_lt (Heap.lt_size e)) (Heap.get?_push_of_some _ e))) hS' hacc⟩
end
theorem ints_of {i : Int} {n : Nat} {acc : Array Value} (it : ItemsOf (fun k v => ∃ t, v = Value.int (i + k * 1) t) acc n) : Vals (((List.range n).map fun k => i + (k : Nat)).map V.int) acc.toList := by
  obtain ⟨sz, ev⟩ := it
  refine prd_of (F := RelV) (by rw [List.length_map, List.length_map, List.length_range, Array.length_toList]; exact sz.symm) fun k x y hx hy => ?_
  rw [List.getElem?_map, List.getElem?_map] at hx
  have hk : k < n := by
    refine Nat.lt_of_not_le fun z => ?_
    rw [List.getElem?_eq_none (by rw [List.length_range]; exact z)] at hx
    cases hx
  rw [List.getElem?_range hk] at hx
  obtain ⟨t, e⟩ := ev k y (by rw [← Array.getElem?_toList]; exact hy)
  rw [← Option.some.inj hx, e]
  exact ⟨t, by rw [Int.mul_one]⟩
theorem call_list_rngL {X : Cx} (hc : X.calm = true) : CallR X (.type "list") (fun xs H Q => ∃ p i j, xs = [.ref p] ∧ H p = some (.rng i j) ∧ (j - i).toNat ≤ 1000000 ∧ ∀ l H', H l = none → Same H H' → H' l = some (.lst ((L2.fromTo i j).map V.int)) → Q (.ref l) H') := by
  intro pins s σ H xs us Q I r h
  obtain ⟨p, i, j, rfl, hp, hz, q⟩ := h
  obtain ⟨u, rfl, rx⟩ := vals1 r
  cases rx
  obtain ⟨t, u, v, e⟩ := (show ObjOk X.prog X.w H s.heap p (.rng i j) from I.hok p _ hp)
  have hn : Builtin.Range.rangeSize i j 1 = ((j - i).toNat : Nat) := by rw [rangeSize_one]; split <;> omega
  have hf : H s.heap.objs.size = none := I.hok.fresh (Nat.le_refl _)
  have fin : ∀ h' tk acc' c', (∀ b o, s.heap.get? b = some o → h'.get? b = some o) → h'.get? s.heap.objs.size = some { cls := .type "list", dict := none, data := .seq acc' c', slots := #[] } →
      ItemsOf (fun k v => ∃ t, v = Value.int (i + k * 1) t) acc' (j - i).toNat → EP X pins σ Q (.ref s.heap.objs.size) { s with heap := h', toks := tk } := fun h' tk acc' c' kp e' it => by
    have hv : Vals ((L2.fromTo i j).map V.int) acc'.toList := ints_of it
    refine ⟨.ref s.heap.objs.size, L2.upd H s.heap.objs.size (.lst ((L2.fromTo i j).map V.int)), I.laid (t' := tk) kp (Nat.le_refl _) (show ObjOk X.prog X.w _ h' _ (.lst _) from ⟨?_, acc'.toList, c', hv, by simpa using e'⟩), rfl, q _ _ hf (same_new hf _) upd_same⟩
    rw [List.length_map, fromTo_len]
    exact Nat.le_trans hz (by decide)
  cases hs : Builtin.Range.small i j 1 with
  | true => exact call_list_range (I.ok.hd hc) e hs hn (by omega) fin
  | false => exact long_list (I.ok.hd hc) e hs hn (by omega) fin
noncomputable def Hit (sts : List StepD) (e : Int) : Prop := ∃ p, 0 ≤ p ∧ endI sts p = e
open Classical in
noncomputable def goneI (sts : List StepD) (low hi : Int) : List Int := (L2.fromTo low hi).filter fun e => decide (¬ Hit sts e)
structure Next (sts : List StepD) (p m : Int) : Prop where
  lt : p < m
  ne : ¬ endI sts m = endI sts p
  same : ∀ j, p ≤ j → j < m → endI sts j = endI sts p
theorem Next.low {sts : List StepD} {p m : Int} (h : Next sts p m) (ok : ∀ st ∈ sts, st.Ok) (p0 : 0 ≤ p) : Low sts (endI sts p + 1) m := by
  have a := endI_mono sts ok p m (by have := h.lt; omega)
  have n := h.ne
  refine ⟨by have := h.lt; omega, by omega, fun j j0 j1 => ?_⟩
  by_cases hj : p ≤ j
  · rw [h.same j hj j1]; omega
  · have := endI_mono sts ok j p (by omega)
    omega
theorem fromTo_split {a b c : Int} (h1 : a ≤ b) (h2 : b ≤ c) : L2.fromTo a c = L2.fromTo a b ++ L2.fromTo b c := by
  unfold L2.fromTo
  have e : (c - a).toNat = (b - a).toNat + (c - b).toNat := by omega
  rw [e, List.range_add, List.map_append, List.map_map]
  congr 1
  refine List.map_congr_left fun k _ => ?_
  show a + (((b - a).toNat + k : Nat) : Int) = b + (k : Nat)
  omega
theorem fromTo_one (a : Int) : L2.fromTo a (a + 1) = [a] := by
  unfold L2.fromTo
  rw [show (a + 1 - a).toNat = 1 by omega]
  show [a + ((0 : Nat) : Int)] = [a]
  rw [Int.natCast_zero, Int.add_zero]
theorem fromTo_nil {a b : Int} (h : b ≤ a) : L2.fromTo a b = [] := by
  unfold L2.fromTo
  rw [show (b - a).toNat = 0 by omega]
  rfl
theorem mem_fromTo {a b x : Int} (h : x ∈ L2.fromTo a b) : a ≤ x ∧ x < b := by
  obtain ⟨k, hk⟩ := List.getElem?_of_mem h
  obtain ⟨y, ey, h1, h2⟩ := fromTo_get (i := a) (j := b) (k := k) (x := .int x) (by rw [List.getElem?_map, hk]; rfl)
  cases ey
  exact ⟨h1, h2⟩
open Classical in
theorem gone_step {sts : List StepD} {low e p hi : Int} (ok : ∀ st ∈ sts, st.Ok) (h : Low sts e p) (h0 : low ≤ e) (he : e ≤ hi) :
    goneI sts low (min (endI sts p + 1) hi) = goneI sts low e ++ L2.fromTo e (min (endI sts p) hi) := by
  have ge := h.ge
  have miss : ∀ x, e ≤ x → x < endI sts p → ¬ Hit sts x := fun x x0 x1 ⟨j, j0, ej⟩ => by
    by_cases hj : j < p
    · have := h.lt j j0 hj; omega
    · have := endI_mono sts ok p j (by omega); omega
  have f1 : (L2.fromTo e (min (endI sts p) hi)).filter (fun e => decide (¬ Hit sts e)) = L2.fromTo e (min (endI sts p) hi) := by
    refine List.filter_eq_self.mpr fun x hx => ?_
    obtain ⟨x0, x1⟩ := mem_fromTo hx
    exact decide_eq_true (miss x x0 (by omega))
  unfold goneI
  by_cases hh : hi ≤ endI sts p
  · rw [show min (endI sts p + 1) hi = min (endI sts p) hi by omega, fromTo_split (b := e) h0 (by omega), List.filter_append, f1]
  · rw [show min (endI sts p + 1) hi = endI sts p + 1 by omega, fromTo_split (b := e) h0 (by omega), fromTo_split (a := e) (b := endI sts p) ge (by omega), fromTo_one, List.filter_append, List.filter_append]
    rw [show min (endI sts p) hi = endI sts p by omega] at f1 ⊢
    rw [f1]
    have : ([endI sts p] : List Int).filter (fun e => decide (¬ Hit sts e)) = [] := by
      rw [List.filter_cons, if_neg, List.filter_nil]
      intro z
      exact of_decide_eq_true z ⟨p, h.m0, rfl⟩
    rw [this, List.append_nil]
theorem gone_len (sts : List StepD) (low hi : Int) : (goneI sts low hi).length ≤ (hi - low).toNat := by
  unfold goneI
  refine Nat.le_trans (List.length_filter_le _ _) ?_
  rw [fromTo_len]
  exact Nat.le_refl _
theorem gone_nil (sts : List StepD) {low hi : Int} (h : hi ≤ low) : goneI sts low hi = [] := by
  unfold goneI
  rw [fromTo_nil h]
  rfl
end L2
set_option Elab.async false
set_option linter.all false
set_option maxRecDepth 100000
set_option maxHeartbeats 4000000
namespace L2
open PySem PySem.Spec PyProof.Rows
noncomputable def Itv (K : PySem.W.Frag) (a : Addr) (n : Nat) : It :=
  ⟨fun i H => ∃ xs x, SqL K H a xs ∧ xs.length = n ∧ i < n ∧ xs[n - 1 - i]? = some x, fun i H x H' => H' = H ∧ ∀ xs, SqL K H a xs → xs[n - 1 - i]? = some x, fun i H => n ≤ i⟩
theorem turn_rev {P : Program} {w : World} {K : PySem.W.Frag} {tg : Expr} (a it : Addr) (n : Nat) : Turn P w K tg (Itv K a n) [it] it (fun i h => i ≤ n ∧ h.IsRevIter it a ((n : Int) - 1 - (i : Int))) where
  mem := by simp
  obj := fun i h st b hb => by
    have e : b = it := by simpa using hb
    subst e
    obtain ⟨_, o, e, c, d⟩ := st
    exact ⟨o, e, fun v z => by rw [d] at z; cases z⟩
  keep := fun i h h' st k => ⟨st.1, st.2.at fun o e => k it (by simp) o e⟩
  item := by
    intro X hP hw hK hc i pins s σ H E I hf st hg
    subst hP hw hK
    obtain ⟨xs, x, hq, hn, hi, hx⟩ := hg
    obtain ⟨its, rv, p, hz⟩ := I.list hq
    obtain ⟨u, hu, ru⟩ := rv.get hx
    obtain ⟨f0, f1, f2, f3, f4, f5⟩ := hf it (by simp)
    have st2 := st.2
    rw [show (n : Int) - 1 - (i : Int) = ((n - 1 - i : Nat) : Int) by omega] at st2
    refine wpAny_pyNext_rev_item st2 p.isList (x := u) (by simpa using hu) fun h' st' sb => ?_
    have I1 : Inv X pins σ H { s with heap := h' } := I.turned (t' := s.toks) (fun b o hb e => (sb.2 b hb).trans e) f0 f1 f3 f4 f5
    obtain ⟨o, e, c, d⟩ := id st'
    refine ⟨u, rfl, go_of (s := { s with heap := h' }) e c d (by decide) ⟨x, H, I1, ru, ⟨rfl, fun ys hy => by rw [I.list_inj hy hq]; exact hx⟩, ⟨by omega, ?_⟩, fun b hb => (hf b hb).1⟩⟩
    rw [show ((n - 1 - i : Nat) : Int) - 1 = (n : Int) - 1 - ((i + 1 : Nat) : Int) by omega] at st'
    exact st'
  done := by
    intro X hP hw hK hc i pins s σ H E I hf st hg
    subst hP hw hK
    obtain ⟨f0, f1, f2, f3, f4, f5⟩ := hf it (by simp)
    have hg' : n ≤ i := hg
    have st2 := st.2
    rw [show (n : Int) - 1 - (i : Int) = -1 by have := st.1; omega] at st2
    exact wpAny_pyNext_rev_end (I.ok.hd hc) st2 fun h' eb => ⟨rfl, I.turned (t' := s.toks) (fun b o hb e => eb b o hb e) f0 f1 f3 f4 f5⟩
  self := fun _ _ _ _ _ st h => wpAny_pyIter_revIter st.2 h
section
variable {X : Cx} {tg : Expr}
theorem boot_ty_reversed : bootBuiltins "reversed" = some (.type "reversed") := by decide +kernel
noncomputable def iRev (K : PySem.W.Frag) (ta : TA) : TI := fun σ H R => ta σ H fun vs H1 => ∃ a xs, vs = [.ref a] ∧ SqL K H1 a xs ∧ R (Itv K a xs.length) H1
theorem pi_rev {a : Expr} {ta : TA} {p pos : Pos} (hg : Gl X "reversed") (hm : X.mg "reversed" = none) (ha : PA X [a] ta) (hs : starEach [a] X.env = [(false, eval a X.env)] := by rfl) : PI X tg (.Call (.Name "reversed" p) [a] [] pos) (iRev X.K ta) := by
  intro pins s σ H R I h
  refine Call_ (ld_blt I hg hm boot_ty_reversed (PyProof.Rows.callWith_type1 (thn (ha pos pins s σ H _ I h) fun us s1 ⟨vs, H1, I1, r1, q1⟩ => ?_) hs rfl))
  obtain ⟨l, xs, e, hq, q⟩ := q1
  subst e
  cases r1 with
  | cons r rr =>
    cases rr
    cases r
    obtain ⟨its, rv, p, hz⟩ := I1.list hq
    have hl := rv.length
    have I2 : Inv X pins σ H1 { s1 with heap := s1.heap.push (revObj l ((its.toArray.size : Int) - 1)) } := I1.kept (t' := s1.toks) fun b o e => Heap.get?_push_of_some _ e
    have st0 : Heap.IsRevIter (s1.heap.push (revObj l ((its.toArray.size : Int) - 1))) s1.heap.objs.size l ((its.toArray.size : Int) - 1) := ⟨_, Heap.get?_push_size _ rfl, rfl, rfl⟩
    refine call_reversed_list p.isList (wpAny_pyIter_revIter st0 ⟨s1.heap.objs.size, [s1.heap.objs.size], _, _, H1, rfl, I2, turn_rev l _ xs.length, ⟨Nat.zero_le _, ?_⟩, fun b hb => ?_, q⟩)
    · rw [List.size_toArray, ← hl] at st0
      rw [show (xs.length : Int) - 1 - ((0 : Nat) : Int) = (xs.length : Int) - 1 by omega]
      rw [List.size_toArray, ← hl]
      exact st0
    · have e : b = s1.heap.objs.size := by simpa using hb
      subst e
      exact I1.fpOk (Nat.le_refl _) (I1.hok.fresh (Nat.le_refl _))
theorem wi_rev {a : Expr} {t : TA} {p pos : Pos} (hg : Gl X "reversed") (hm : X.mg "reversed" = none) (ha : WA X [a] t) (hs : starEach [a] X.env = [(false, eval a X.env)] := by rfl) : WI X tg (.Call (.Name "reversed" p) [a] [] pos) (iRev X.K t) := ⟨pi_rev hg hm ha.h hs⟩
end
theorem for_rev {K : PySem.W.Frag} {a : Addr} {xs : List V} {g : TG} {tb : TS} {D : Ends} {σ : St} {H : Hp} (Pv : Nat → St → Hp → Prop) (h0 : Pv 0 σ H) (hl : ∀ i σ H, i ≤ xs.length → Pv i σ H → SqL K H a xs)
    (hs : ∀ i x σ H, i < xs.length → xs[xs.length - 1 - i]? = some x → Pv i σ H → g x σ H fun σ2 H2 => tb { D with nx := Pv (i + 1), ct := Pv (i + 1), bk := D.nx } σ2 H2) (hd : ∀ σ H, Pv xs.length σ H → D.nx σ H) :
    ∃ W : Nat → Nat → St → Hp → Prop, (∃ m, W 0 m σ H) ∧ ∀ i m σ H, W i m σ H →
      ((Itv K a xs.length).stop i H ∧ D.nx σ H) ∨ ((Itv K a xs.length).go i H ∧ ∃ N : St → Hp → Prop, (∀ σ' H', N σ' H' → ∃ m', m' < m ∧ W (i + 1) m' σ' H') ∧ ∀ x H', (Itv K a xs.length).yld i H x H' → g x σ H' fun σ2 H2 => tb { D with nx := N, ct := N, bk := D.nx } σ2 H2) := by
  refine ⟨fun i m σ H => m = xs.length - i ∧ i ≤ xs.length ∧ Pv i σ H, ⟨xs.length, by simp, Nat.zero_le _, h0⟩, ?_⟩
  rintro i m σ H ⟨rfl, hi, p⟩
  have q := hl i σ H hi p
  by_cases hlt : i < xs.length
  · have e : xs[xs.length - 1 - i]? = some xs[xs.length - 1 - i] := List.getElem?_eq_getElem (by omega)
    refine .inr ⟨⟨xs, _, q, rfl, hlt, e⟩, Pv (i + 1), fun σ' H' p' => ⟨xs.length - (i + 1), by omega, rfl, hlt, p'⟩, fun x H' y => ?_⟩
    obtain ⟨e, y⟩ := y
    subst e
    exact hs i x σ _ hlt (y xs q) p
  · have e : i = xs.length := by omega
    subst e
    exact .inl ⟨Nat.le_refl _, hd σ H p⟩
noncomputable def Thr (sts : List StepD) (e m : Int) : Prop := 0 ≤ m ∧ ∀ q, 0 ≤ q → (e ≤ endI sts q ↔ m ≤ q)
theorem Thr.low {sts : List StepD} {e m : Int} (h : Thr sts e m) : Low sts e m :=
  ⟨h.1, (h.2 m h.1).mpr (Int.le_refl _), fun p p0 p1 => Int.not_le.mp fun z => by have := (h.2 p p0).mp z; omega⟩
theorem Thr.nil {e : Int} : Thr [] e (if 0 > e then 0 else e) := by
  refine ⟨by split <;> omega, fun q q0 => ?_⟩
  show e ≤ q ↔ _
  split <;> omega
theorem endI_cons (st : StepD) (t : List StepD) (m : Int) : endI (st :: t) m = endI t (st.many m * st.u) := rfl
theorem after_nn {st : StepD} (o : st.Ok) {m : Int} (h : 0 ≤ m) : 0 ≤ afterI st m := by
  rw [after_many o]
  have := endI_nn [st] (fun s hs => by rw [List.mem_singleton.mp hs]; exact o) m h
  exact this
theorem Thr.cons {st : StepD} {t : List StepD} {e m m' : Int} (o : st.Ok) (h : Thr t e m) (h0 : 0 ≤ m') (hs : ∀ q, 0 ≤ q → (m ≤ afterI st q ↔ m' ≤ q)) : Thr (st :: t) e m' := by
  refine ⟨h0, fun q q0 => ?_⟩
  rw [endI_cons, ← after_many o, h.2 _ (after_nn o q0)]
  exact hs q q0
theorem ceil_le {num den q : Int} (hd : 0 < den) : (num + den - 1) / den ≤ q ↔ num ≤ q * den := by
  have f := fl (x := num + den - 1) hd
  constructor
  · intro h
    have := Int.mul_le_mul_of_nonneg_left h (Int.le_of_lt hd)
    rw [Int.mul_comm q]
    omega
  · intro h
    refine Int.not_lt.mp fun z => ?_
    have := Int.mul_le_mul_of_nonneg_left (show q + 1 ≤ (num + den - 1) / den by omega) (Int.le_of_lt hd)
    rw [Int.mul_add, Int.mul_comm den q] at this
    omega
theorem floor_lt {num den q : Int} (hd : 0 < den) : num / den + 1 ≤ q ↔ num < q * den := by
  have f := fl (x := num) hd
  constructor
  · intro h
    have := Int.mul_le_mul_of_nonneg_left h (Int.le_of_lt hd)
    rw [Int.mul_comm q, ]
    rw [Int.mul_add] at this
    omega
  · intro h
    refine Int.not_lt.mp fun z => ?_
    have := Int.mul_le_mul_of_nonneg_left (show q ≤ num / den by omega) (Int.le_of_lt hd)
    rw [Int.mul_comm den q] at this
    omega
theorem goal_le {e u k : Int} (hu : 0 < u) : e ≤ k * u ↔ roundI e 1 u "up" ≤ k * u := by
  have r : roundI e 1 u "up" = (e + u - 1) / u * u := by
    unfold roundI; rw [if_neg (by decide), if_pos rfl, Int.one_mul]
  rw [r]
  have c := ceil_le (num := e) (den := u) (q := k) hu
  constructor
  · intro h
    exact Int.mul_le_mul_of_nonneg_right (c.mpr h) (Int.le_of_lt hu)
  · intro h
    have := Int.le_of_mul_le_mul_right h hu
    exact c.mp this
theorem goal_mul {e u : Int} : ∃ k, roundI e 1 u "up" = k * u := by
  refine ⟨(e + u - 1) / u, ?_⟩
  unfold roundI; rw [if_neg (by decide), if_pos rfl, Int.one_mul]
noncomputable def boundI (st : StepD) (e : Int) : Int := if st.y = "up" then 2 * roundI e 1 st.u "up" - 2 * st.u else if st.y = "near" then 2 * roundI e 1 st.u "up" - st.u else 2 * roundI e 1 st.u "up"
theorem after_mul {st : StepD} (o : st.Ok) (q : Int) : ∃ k, afterI st q = k * st.u := ⟨st.many q, after_many o q⟩
theorem step_reach {st : StepD} (o : st.Ok) {e q : Int} (hy : ¬ st.y = "up") : e ≤ afterI st q ↔ (boundI st e - 2 * st.p) * st.sd ≤ q * (2 * st.sn) := by
  have u0 := o.u0
  have d0 := o.sd0
  have sp := su_pos o
  obtain ⟨k, hk⟩ := after_mul o q
  obtain ⟨g, hg⟩ := goal_mul (e := e) (u := st.u)
  have e1 : e ≤ afterI st q ↔ g ≤ k := by
    rw [hk, goal_le (by omega), hg]
    exact ⟨fun h => Int.le_of_mul_le_mul_right h (by omega), fun h => Int.mul_le_mul_of_nonneg_right h (by omega)⟩
  rw [e1]
  unfold boundI
  rw [if_neg hy, hg]
  have E : q * (2 * st.sn) = 2 * (q * st.sn + st.p * st.sd) - 2 * (st.p * st.sd) := by
    rw [← Int.mul_assoc, Int.mul_comm q 2, Int.mul_assoc]; omega
  rw [E]
  generalize hX : q * st.sn + st.p * st.sd = X
  have hA : afterI st q = roundI X st.sd st.u st.y := by unfold afterI; rw [hX]
  have ms : ∀ z : Int, z * st.u * st.sd = z * (st.sd * st.u) := fun z => by rw [Int.mul_assoc, Int.mul_comm st.u]
  rcases o.y with y | y | y
  · have r := round_down (num := X) sp y
    rw [← hA, hk, ms] at r
    rw [if_neg (by rw [y]; decide), Int.sub_mul, Int.mul_assoc 2 (g * st.u), ms, Int.mul_assoc 2 st.p]
    constructor
    · intro h
      have := Int.mul_le_mul_of_nonneg_right h (Int.le_of_lt sp)
      omega
    · intro h
      refine Int.not_lt.mp fun z => ?_
      have := Int.mul_le_mul_of_nonneg_right (show k + 1 ≤ g by omega) (Int.le_of_lt sp)
      rw [Int.add_mul, Int.one_mul] at this
      omega
  · exact (hy y).elim
  · have r := round_near (num := X) sp (StepD.Ok.y_near y).1 (StepD.Ok.y_near y).2
    rw [← hA, hk, ms] at r
    rw [if_pos y, Int.sub_mul, Int.sub_mul, Int.mul_assoc 2 (g * st.u), ms, Int.mul_assoc 2 st.p, Int.mul_comm st.u]
    constructor
    · intro h
      have := Int.mul_le_mul_of_nonneg_right h (Int.le_of_lt sp)
      omega
    · intro h
      refine Int.not_lt.mp fun z => ?_
      have := Int.mul_le_mul_of_nonneg_right (show k + 1 ≤ g by omega) (Int.le_of_lt sp)
      rw [Int.add_mul, Int.one_mul] at this
      omega
theorem step_reach_up {st : StepD} (o : st.Ok) {e q : Int} (hy : st.y = "up") : e ≤ afterI st q ↔ (boundI st e - 2 * st.p) * st.sd < q * (2 * st.sn) := by
  have u0 := o.u0
  have d0 := o.sd0
  have sp := su_pos o
  obtain ⟨k, hk⟩ := after_mul o q
  obtain ⟨g, hg⟩ := goal_mul (e := e) (u := st.u)
  have e1 : e ≤ afterI st q ↔ g ≤ k := by
    rw [hk, goal_le (by omega), hg]
    exact ⟨fun h => Int.le_of_mul_le_mul_right h (by omega), fun h => Int.mul_le_mul_of_nonneg_right h (by omega)⟩
  rw [e1]
  unfold boundI
  rw [if_pos hy, hg]
  have E : q * (2 * st.sn) = 2 * (q * st.sn + st.p * st.sd) - 2 * (st.p * st.sd) := by
    rw [← Int.mul_assoc, Int.mul_comm q 2, Int.mul_assoc]; omega
  rw [E]
  generalize hX : q * st.sn + st.p * st.sd = X
  have hA : afterI st q = roundI X st.sd st.u st.y := by unfold afterI; rw [hX]
  have ms : ∀ z : Int, z * st.u * st.sd = z * (st.sd * st.u) := fun z => by rw [Int.mul_assoc, Int.mul_comm st.u]
  have r := round_up (num := X) sp (StepD.Ok.y_up hy).1 hy
  rw [← hA, hk, ms] at r
  rw [Int.sub_mul, Int.sub_mul, Int.mul_assoc 2 (g * st.u), ms, Int.mul_assoc 2 st.p, Int.mul_assoc 2 st.u, Int.mul_comm st.u]
  constructor
  · intro h
    have := Int.mul_le_mul_of_nonneg_right h (Int.le_of_lt sp)
    omega
  · intro h
    refine Int.not_lt.mp fun z => ?_
    have := Int.mul_le_mul_of_nonneg_right (show k + 1 ≤ g by omega) (Int.le_of_lt sp)
    rw [Int.add_mul, Int.one_mul] at this
    omega
structure LineT (sts : List StepD) (t mo d : Int) : Prop where
  t0 : 1 ≤ t
  t1 : t ≤ 200 ^ sts.length
  m0 : 0 ≤ mo
  d0 : 1 ≤ d
  d1 : d ≤ denI sts
  e : ∀ m, (m * t + mo) * (lineI sts m).2 = (lineI sts m).1 * d
theorem LineT.nil : LineT [] 1 0 1 := ⟨by decide, by decide, by decide, by decide, Int.le_refl _, fun m => by show (m * 1 + 0) * 1 = m * 1; omega⟩
theorem LineT.snoc {sts : List StepD} {st : StepD} {t mo d : Int} (l : LineT sts t mo d) (o : st.Ok) : LineT (sts ++ [st]) (t * st.sn) (mo * st.sn + st.p * (d * st.sd)) (d * st.sd) := by
  have s0 := o.sn0
  have s1 := o.sn1
  have d0 := o.sd0
  have p0 := o.p0
  have hd : st.sd ≤ st.d := div_le' (by have := o.d0; omega) o.g0
  have b0 := l.d0
  have b1 := l.d1
  have t0 := l.t0
  have m0 := l.m0
  refine ⟨?_, ?_, ?_, ?_, ?_, fun m => ?_⟩
  · have := Int.mul_le_mul t0 s0 (by decide) (by omega)
    omega
  · rw [List.length_append, List.length_singleton, Int.pow_succ]
    exact Int.mul_le_mul l.t1 s1 (by omega) (Int.le_trans (show (0 : Int) ≤ t by omega) l.t1)
  · have h1 := Int.mul_nonneg m0 (show 0 ≤ st.sn by omega)
    have h2 := Int.mul_nonneg p0 (Int.mul_nonneg (show 0 ≤ d by omega) (show 0 ≤ st.sd by omega))
    omega
  · have := Int.mul_le_mul b0 d0 (by decide) (by omega)
    omega
  · rw [denI_snoc]
    exact Int.mul_le_mul b1 hd (by omega) (by omega)
  · have e1 : m * (t * st.sn) + (mo * st.sn + st.p * (d * st.sd)) = (m * t + mo) * st.sn + st.p * (d * st.sd) := by rw [Int.add_mul, ← Int.mul_assoc]; omega
    rw [e1, lineI_snoc]
    exact low_step (l.e m) o.cross
theorem LineT.t6 {sts : List StepD} {t mo d : Int} (l : LineT sts t mo d) (h : sts.length ≤ 6) : t ≤ 10 ^ 14 := by
  have e : (200 : Int) ^ sts.length ≤ 200 ^ 6 := by
    have : (200 : Nat) ^ sts.length ≤ 200 ^ 6 := Nat.pow_le_pow_right (by decide) h
    exact_mod_cast this
  have := l.t1
  omega
noncomputable def adjI (sts : List StepD) (t mo d p : Int) : Int := endI sts p * d - (p * t + mo)
theorem LineT.adj {sts : List StepD} {t mo d : Int} (l : LineT sts t mo d) (p : Int) : adjI sts t mo d p * denI sts = addI sts p * d := by
  have e := l.e p
  unfold adjI addI
  rw [line_den sts p] at e ⊢
  show (endI sts p * d - (p * t + mo)) * (lineI sts 0).2 = _
  rw [Int.sub_mul, Int.sub_mul, e, Int.mul_right_comm]
theorem LineT.le {sts : List StepD} {t mo d : Int} (l : LineT sts t mo d) (D0 : 1 ≤ denI sts) {p q : Int} : adjI sts t mo d p ≤ adjI sts t mo d q ↔ addI sts p ≤ addI sts q := by
  have a := l.adj p
  have b := l.adj q
  have d0 := l.d0
  constructor
  · intro h
    have := Int.mul_le_mul_of_nonneg_right h (show 0 ≤ denI sts by omega)
    rw [a, b] at this
    exact Int.le_of_mul_le_mul_right this (by omega)
  · intro h
    have := Int.mul_le_mul_of_nonneg_right h (show 0 ≤ d by omega)
    rw [← a, ← b] at this
    exact Int.le_of_mul_le_mul_right this (by omega)
end L2
set_option Elab.async false
set_option linter.all false
set_option maxRecDepth 100000
set_option maxHeartbeats 4000000
namespace L2
open PySem PySem.Spec PyProof.Rows
section
variable {sts : List StepD} {c r n : Int}
end
end L2
set_option Elab.async false
set_option linter.all false
set_option maxRecDepth 100000
set_option maxHeartbeats 4000000
namespace L2
open PySem PySem.Spec PyProof.Rows
noncomputable def Trc (B h : Heap) (e : Addr) (cls : Value) (od : Option Addr) (fl : Value) : Prop :=
  ∃ oe vs T oT ts, h.get? e = some oe ∧ (oe.cls = cls ∧ oe.dict = od) ∧ oe.data = .fields vs ∧ vs[1]? = some (.ref T) ∧ B.get? T = none ∧ T ≠ e ∧ h.get? T = some oT ∧ oT.data = .fields ts ∧ ts[3]? = some fl
section
variable {M : Model} {A : Around} {E : Value → Shared → Prop} {s : Shared} {B : Heap} {env : Env} {outer : List Env} {L e : Addr}
end
section
variable {P : Program} {w : World} {K : PySem.W.Frag} {mg : Str → Option Value} {base : Heap} {N : List Str} {qual : Str} {scope : Scope} {f : Addr} {cd : Value} {A : Around} {outer : List Env} {s : Shared} {H : Hp} {E : XK}
end
section
variable {X : Cx} {CX : CXT} {k : Nat} {f C : Addr} {fd : FuncData} {ps : List Str} {sp : Sp} {dvs : List V} {ds : List Value} {E : St → XK} {x m : Str} {p pos apos : Pos} {e o : Expr} {es : List Expr} {ta : TE} {t : TA}
end
end L2
set_option Elab.async false
set_option linter.all false
set_option maxRecDepth 100000
set_option maxHeartbeats 4000000
namespace L2
open PySem PySem.Spec PyProof.Rows
section
variable {X : Cx} {pins pl : List (Addr × Obj)} {σ : St} {H H' : Hp} {s : Shared} {ea : Addr} {oe : Obj} {E : Value → Shared → Prop}
end
structure Cau (X : Cx) (pins : List (Addr × Obj)) (σ : St) (H : Hp) (ea : Addr) (cls : Value) (od : Option Addr) (s : Shared) (B : Heap) : Prop where
  inv : ∀ g, B.StaysIn g → s.heap.UpToSlots g → Inv X pins σ H { s with heap := g }
  st : B.StaysIn s.heap
  ff : s.heap.FunFrames B X.stack
  tr : Trc B s.heap ea cls od .none
  fe : H ea = none
theorem Cau.nofr {X : Cx} {pins : List (Addr × Obj)} {σ : St} {H : Hp} {ea : Addr} {cls : Value} {od : Option Addr} {s : Shared} {B : Heap} (c : Cau X pins σ H ea cls od s B) : ea ∉ frs X.stack := fun z => by
  obtain ⟨oe, vs, T, oT, ts, ge, _, de, _⟩ := c.tr
  obtain ⟨_, o, q, n⟩ := c.ff.mem z
  rw [ge] at q
  cases q
  exact n vs de
noncomputable abbrev TH := Addr → Value → Option Addr → TS
section
variable {X : Cx} {C : Addr} {x : Str} {np hpos : Pos} {b₀ : Stmt} {su : List Stmt} {rest : List ExceptHandler} {ts tr : TH}
theorem Trc.look {M : Model} {B h : Heap} {e : Addr} {cls : Value} {od : Option Addr} {fl : Value} (t : Trc B h e cls od fl) : PySem.W.Looks M h (typeOf (.ref e)) cls := by
  obtain ⟨oe, vs, T, oT, ts, ge, ⟨hc, _⟩, _⟩ := t
  exact hc ▸ (PySem.W.Looks.ld ge).andThen .now
end
section
variable {X : Cx} {N : List Str} {sc : Scope} {pos : Pos} {i : Nat} {x : Str}
end
section
variable {prog : Program} {w : World} {A : Around} {E : Value → Shared → Prop} {s : Shared} {K : PySem.W.Frag} {x D : Addr} {ox : Obj} {odo : Option Obj}
end
section
variable {X : Cx} {ea : Addr} {oe : Obj} {cls : Value} {od : Option Addr}
end
end L2
set_option Elab.async false
set_option linter.all false
set_option maxRecDepth 100000
set_option maxHeartbeats 4000000
namespace L2
open PySem PySem.Spec PyProof.Rows
noncomputable def CompRT (J : It) (tt : TT) (te : TE) (τ : List (Option V)) (Q : VK) (H1 : Hp) : Prop := ∀ p H0, H1 p = none → Same H1 H0 → H0 p = some (.lst []) →
  ∃ W : Nat → Nat → List V → Hp → Prop, (∃ m, W 0 m [] H0) ∧ ∀ i m ys H, W i m ys H → H p = some (.lst ys) →
    (J.stop i H ∧ Q (.ref p) H) ∨ (J.go i H ∧ ys.length < sizeLine ∧ ∀ x H', J.yld i H x H' → tt (some x :: τ) H' fun b H2 =>
      if b = true then te (some x :: τ) H2 fun y H3 => H3 p = some (.lst ys) ∧ ∃ m', m' < m ∧ W (i + 1) m' (ys ++ [y]) (upd H3 p (.lst (ys ++ [y])))
      else H2 p = some (.lst ys) ∧ ∃ m', m' < m ∧ W (i + 1) m' ys H2)
noncomputable def tCompT (wi : TI) (fr : List Nat) (tt : TT) (te : TE) : TE := fun σ H Q => wi σ H fun J H1 => CompRT J tt te (fr.map fun k => σ.getD k none) Q H1
section
variable {X : Cx} {elt iter tst : Expr} {x : Str} {px pos : Pos} {scope : Scope} {fs : List Str} {fr : List Nat} {wi : TI} {te : TE} {tt : TT}
theorem comp_coreT {pins : List (Addr × Obj)} {s : Shared} {σ : St} {H : Hp} {Q : VK} {cl : List (Str × Addr)} {RR : Value → Addr → Result → Shared → Prop} (n : CompN X scope x fs fr) (hc : X.calm = true) (hi : PI X (.Name x px) iter wi)
    (helt : ∀ s₀ H₀ env ex pn, CxIs (X.block (x :: fs) s₀ H₀ env ex pn) (x :: fs) (relS scope X.env.scope) → PE (X.block (x :: fs) s₀ H₀ env ex pn) elt te)
    (htst : ∀ s₀ H₀ env ex pn, CxIs (X.block (x :: fs) s₀ H₀ env ex pn) (x :: fs) (relS scope X.env.scope) → PT (X.block (x :: fs) s₀ H₀ env ex pn) tst tt)
    (hcl1 : ∀ y c, cl.lookup y = some c → X.env.cells.lookup y = some c) (hcl2 : ∀ y, (y, NameKind.free) ∈ scope.names → ∃ c, cl.lookup y = some c)
    (I : Inv X pins σ H s) (h : tCompT wi fr tt te σ H Q) (hRR : ∀ p C m H' s', Inv X pins σ H' s' → s'.heap.Ns C m → FpOk X pins H' C → Q (.ref p) H' → RR (.ref p) C (.ok .next) s') :
    wpAny (model X.prog X.w) X.A (eval iter X.env) (fun xv s₁ => wpAny (model X.prog X.w) X.A (pyIter xv) (fun it s₂ => wpAny (model X.prog X.w) X.A (newList []) (fun acc s₃ =>
      wpAny (model X.prog X.w) X.A (newFunctionEnv scope X.env.globals cl [] X.env.qual none .none (some X.env)) (fun cenv s₄ =>
        codeAny (model X.prog X.w) X.A (.compStart (.ListComp elt [⟨.Name x px, iter, [tst], 0⟩] scope pos) 0 it acc { cenv with scope := relabel scope X.env }) (RR acc cenv.locals) s₄) X.xe s₃) X.xe s₂) X.xe s₁) X.xe s := by
  refine thn (hi pins s σ H _ I h) fun v s1 h1 => thn h1 fun itv s2 h2 => ?_
  obtain ⟨it, fp, tn, J, H2, e, I2, T, st2, f2, q2⟩ := h2
  subst e
  refine wpAny_newObj_type (wpAny_newFunctionEnv n.cell (by intro y hy; simp at hy) (fun h₁ hns₁ hsb₁ => ?_) n.kind)
  dsimp only at hns₁ hsb₁ ⊢
  generalize hH3 : s2.heap.push { cls := .type "list", dict := none, data := .seq ([] : List Value).toArray } = h3 at hns₁ hsb₁ ⊢
  have hC : h3.objs.size = s2.heap.objs.size + 1 := by rw [← hH3, Heap.size_push]
  have k3 : ∀ b o, s2.heap.get? b = some o → h3.get? b = some o := fun b o e => by rw [← hH3]; exact Heap.get?_push_of_some _ e
  have hf : H2 s2.heap.objs.size = none := I2.hok.fresh (Nat.le_refl _)
  have I3 : Inv X pins σ (upd H2 s2.heap.objs.size (.lst [])) { s2 with heap := h3 } := I2.laid (t' := s2.toks) k3 (Nat.le_refl _) ⟨Nat.zero_le _, [], 0, .nil, by rw [← hH3]; exact Heap.get?_push_size _ rfl⟩
  obtain ⟨W, ⟨m0, w0⟩, turn⟩ := q2 s2.heap.objs.size _ hf (same_new hf _) upd_same
  have k4 : ∀ b o, h3.get? b = some o → h₁.get? b = some o := fun b o e => hsb₁.extBut b o (Nat.ne_of_lt (Heap.lt_size e)) (Heap.get?_push_of_some _ e)
  have hCf : h3.objs.size ∉ frs X.stack := fun z => by
    rcases List.mem_cons.mp (I3.stkSub _ z) with z | z
    · exact absurd I3.lt (by rw [← z]; exact Nat.lt_irrefl _)
    · exact I3.nofs (Nat.le_refl _) z
  have fpst : ∀ b ∈ fp, b ∉ frs X.stack := fun b hb z => by
    obtain ⟨_, f1, f2', _⟩ := f2 b hb
    rcases List.mem_cons.mp (I2.stkSub _ z) with z | z
    · exact f1 z
    · exact f2' z
  have fplt : ∀ b ∈ fp, b < s2.heap.objs.size := fun b hb => by
    obtain ⟨o, e, _⟩ := T.obj _ _ st2 b hb
    exact Heap.lt_size e
  let Y : Cx := X.block (x :: fs) { s2 with heap := h3 } (upd H2 s2.heap.objs.size (.lst [])) (compEnvC scope cl h3.objs.size X.env) fp (X.pn ++ pins)
  have hscope : Y.env.scope = relS scope X.env.scope := rfl
  have hx0 : Y.env.scope.names.lookup x = some .local := lookup_relabel_local n.lx
  have ok : Y.Ok := by
    refine ⟨I2.ok.mod, n.kind, I2.ok.glob, I2.ok.blt, Nat.le_refl _, fun y z c e1 e2 => I2.ok.inj y z c (hcl1 y c e1) (hcl1 z c e2), fun y hy => hcl2 y (n.cells y hy), (fun _ _ z _ => absurd z Bool.false_ne_true), I2.ok.hd, I2.ok.frames, .inl rfl,
      fun b hb => ⟨Nat.ne_of_lt (by rw [show Y.env.locals = h3.objs.size from rfl, hC]; exact Nat.lt_succ_of_lt (fplt b hb)), fun y c e => (f2 b hb).2.2.2.2.1 y c (hcl1 y c e)⟩,
      fun b o e => ⟨I3.bk b o e, (I3.bs b o e).2⟩, Nat.le_trans I2.ok.bsz I3.sz, fun b o e hb => ?_, fpst, I3.stack, fun b hb => I3.stkFree b hb⟩
    obtain ⟨_, _, _, f3, _⟩ := f2 b hb
    rcases f3 with z | z
    · exact I2.ok.noex b o e z
    · exact absurd (Nat.lt_of_lt_of_le (Heap.lt_size e) (Nat.le_trans I2.ok.bsz z)) (Nat.lt_irrefl _)
  have hlen : ∀ o : Option V, (o :: fr.map fun k => σ.getD k none).length = Y.N.length := fun o => by
    show _ = (x :: fs).length
    simp [n.len]
  have I4 : Inv Y [] (none :: fr.map fun k => σ.getD k none) (upd H2 s2.heap.objs.size (.lst [])) { s2 with heap := h₁, toks := s2.toks + ([] : List (Str × Value)).length } := by
    refine ⟨ok, rfl, I2.bare, Un.kept k4, ⟨_, hns₁, fun i y v e1 e2 e3 => ?_⟩, fun y c e => ?_, ?_, fun y c e => I3.freeC y c (hcl1 y c e), fun p hp => ?_, I3.hok.kept k4, hlen none⟩
    · cases i with
      | zero => simp at e2
      | succ j =>
        rw [List.getElem?_cons_succ, List.getElem?_map] at e2
        have e1' : fs[j]? = some y := by rw [← List.getElem?_cons_succ (a := x)]; exact e1
        cases hk : fr[j]? with
        | none => rw [hk] at e2; simp at e2
        | some k =>
          rw [hk] at e2
          have e2' : σ.getD k none = some v := by simpa using e2
          have e2'' : σ[k]? = some (some v) := by
            rw [List.getD_eq_getElem?_getD] at e2'
            cases q : σ[k]? with
            | none => rw [q] at e2'; simp at e2'
            | some o => rw [q] at e2'; simp at e2'; rw [e2']
          have hy : y ∈ fs := List.mem_of_getElem? e1'
          obtain ⟨hfree, hrel⟩ := n.fin y hy
          have hcell := n.frees y hfree
          obtain ⟨m, _, hl⟩ := I3.loc
          obtain ⟨u, r, l⟩ := hl k y v ((n.slot j k hk).trans e1') e2'' (.inr (.inl hcell))
          refine ⟨u, r, .inr ⟨.inl hrel, ?_⟩⟩
          rcases l with ⟨l, _⟩ | ⟨_, c, ec, hcv⟩
          · have : some NameKind.local = some NameKind.cell := l.symm.trans hcell
            cases this
          · obtain ⟨c', ec'⟩ := hcl2 y hfree
            have := hcl1 y c' ec'
            rw [ec] at this; cases this
            obtain ⟨o, ho, hd⟩ := hcv
            exact ⟨c, ec', o, k4 _ _ ho, hd⟩
    · obtain ⟨v, o, ho, hd⟩ := I3.cell y c (hcl1 y c e)
      exact ⟨v, o, k4 _ _ ho, hd⟩
    · exact I3.hok.fresh (Nat.le_refl _)
    · have hp' : p ∈ X.pn ++ pins := by rw [List.append_nil] at hp; exact hp
      obtain ⟨e, nn, ne, nf, d⟩ := I3.pin p hp'
      refine ⟨k4 _ _ e, nn, Nat.ne_of_lt (Heap.lt_size e), fun z => ?_, d⟩
      rcases List.mem_cons.mp (I3.stkSub _ z) with z | z
      · exact ne z
      · exact nf z
  have stat : ∀ {H' : Hp}, (∀ b ∈ fp, H' b = none) → ∀ b ∈ fp, FpOk Y [] H' b := fun hn b hb => by
    obtain ⟨_, _, _, _, f4, f5⟩ := f2 b hb
    exact ⟨hn b hb, (ok.exf b hb).1, fpst b hb, .inl hb, fun y c e => f4 y c (hcl1 y c e), fun p hp => f5 p (by rw [List.append_nil] at hp; exact hp)⟩
  have st4 : tn 0 h₁ := T.keep _ _ _ st2 fun b _ o e => k4 b o (k3 b o e)
  have fr4 : ∀ b ∈ fp, upd H2 s2.heap.objs.size (.lst []) b = none := fun b hb => by rw [upd_ne (Nat.ne_of_lt (fplt b hb))]; exact (f2 b hb).1
  have cis : CxIs Y (x :: fs) (relS scope X.env.scope) := ⟨rfl, rfl, hc, PassesOwn.never⟩
  have hE := helt _ _ _ _ _ cis
  have hT := htst _ _ _ _ _ cis
  have loop : ∀ s₃ : Shared, s₃ = { s2 with heap := h₁, toks := s2.toks + ([] : List (Str × Value)).length } →
      codeAny (model X.prog X.w) X.A (.compLoop (.ListComp elt [⟨.Name x px, iter, [tst], 0⟩] scope pos) 0 (.ref it) (.ref s2.heap.objs.size) (compEnvC scope cl h3.objs.size X.env)) (RR (.ref s2.heap.objs.size) h3.objs.size) s₃ := by
    rintro s₃ rfl
    refine codeAny_loop rfl (fun m s' => ∃ i ys o H', Inv Y [] (o :: fr.map fun k => σ.getD k none) H' s' ∧ tn i s'.heap ∧ (∀ b ∈ fp, H' b = none) ∧ H' s2.heap.objs.size = some (.lst ys) ∧ W i m ys H') (fun m s' hI => ?_) m0 ⟨0, [], none, _, I4, st4, fr4, upd_same, w0⟩
    obtain ⟨i, ys, o, H5, I5, st5, fr5, hp5, w5⟩ := hI
    show wpAny _ _ ((compTurn (.ListComp elt [⟨.Name x px, iter, [tst], 0⟩] scope pos) 0 (.ref it) (.ref s2.heap.objs.size) Y.env).onRaise (fun x => do noteFrame x Y.env; theTreesLotGoes x)) _ _ s'
    refine wpAny_noted ?_
    rw [compTurn_list]
    refine wpAny_bind (wpAny_standAt (wpAny_bind ?_))
    rcases turn i m ys H5 w5 hp5 with ⟨stop, qn⟩ | ⟨go, hz, step⟩
    · refine thn (T.done Y rfl rfl rfl hc i [] s' _ H5 _ I5 (stat fr5) st5 stop) fun r s6 ⟨hr, I6⟩ => ?_
      subst hr
      refine wpAny_pure ?_
      obtain ⟨mm, hn, _⟩ := I6.loc
      have u : Un (frs X.stack) fp H2 H5 s2.heap s6.heap := (Un.laid k3 (Nat.le_refl _) hf).trans I6.base
      have I7 : Inv X pins σ H5 s6 := I2.call' (ch := fp) I6.os u I6.hok I6.bare fun b hb => by
        obtain ⟨_, g1, _, g3, g4, g5⟩ := f2 b hb
        exact ⟨g3, g1, g4, g5⟩
      exact hRR _ _ mm H5 s6 I7 hn (I2.fpOk (by rw [hC]; exact Nat.le_succ _) I6.free) qn
    · refine thn (T.item Y rfl rfl rfl hc i [] s' _ H5 _ I5 (stat fr5) st5 go) fun r s6 ⟨u, hr, h6⟩ => ?_
      subst hr
      refine wpAny_bind (thn h6 fun _ s7 ⟨xv, H7, I7, r7, y7, st7, fr7⟩ => ?_)
      have I7' := I7.pinned (stat fr7) (T.obj _ _ st7)
      refine wpAny_bind (wpAny_assign_Name (store_ok (i := 0) I7' n.nd rfl (.inl hx0) r7 (fun s8 I8 => ?_) (.inr hx0)))
      refine wpAny_bind (wpAny_tests_one (wpAny_mono (hT _ s8 _ H7 _ I8 (step xv H7 y7)) (fun bv s8' h8 => ?_) fun _ _ z => z.elim))
      obtain ⟨H8, I8', q8⟩ := h8
      cases bv with
      | false =>
        rw [if_neg Bool.false_ne_true] at q8
        obtain ⟨hp8, m', hm, w8⟩ := q8
        refine wpAny_pure ⟨rfl, m', hm, i + 1, ys, some xv, H8, I8'.unpinned (pins := []), T.keep _ _ _ st7 fun b hb o e => (I8'.pin (b, o) (List.mem_append_right _ (List.mem_append_right _ (mem_pinsAt hb e)))).1, fun b hb => ?_, hp8, w8⟩
        obtain ⟨o, e, d⟩ := T.obj _ _ st7 b hb
        exact (I8'.pin (b, o) (List.mem_append_right _ (List.mem_append_right _ (mem_pinsAt hb e)))).2.1
      | true =>
        rw [if_pos rfl] at q8
        refine wpAny_bind (wpAny_bind (wpAny_mono (hE _ s8' _ H8 _ I8' q8) (fun yv s9 h9 => ?_) fun _ _ z => z.elim))
        obtain ⟨y, H9, I9, r9, hp9, m', hm, w9⟩ := h9
        refine wpAny_bind (wpAny_mono (mt_append (X := Y) _ s9 _ H9 (.ref s2.heap.objs.size) [y] (.ref s2.heap.objs.size) [yv] (fun _ H' => H' = upd H9 s2.heap.objs.size (.lst (ys ++ [y]))) I9 rfl (.cons r9 .nil) ⟨_, ys, y, rfl, rfl, hp9, hz, rfl⟩) (fun _ s10 h10 => ?_) fun _ _ z => z.elim)
        obtain ⟨_, H10, I10, _, e10⟩ := h10
        subst e10
        refine wpAny_pure (wpAny_pure ⟨rfl, m', hm, i + 1, ys ++ [y], some xv, _, I10.unpinned (pins := []), T.keep _ _ _ st7 fun b hb o e => (I10.pin (b, o) (List.mem_append_right _ (List.mem_append_right _ (mem_pinsAt hb e)))).1, fun b hb => ?_, upd_same, w9⟩)
        obtain ⟨o, e, d⟩ := T.obj _ _ st7 b hb
        exact (I10.pin (b, o) (List.mem_append_right _ (List.mem_append_right _ (mem_pinsAt hb e)))).2.1
  exact codeAny_compStart_list (loop _ rfl) (T.self _ 0 _ _ _ st4 (loop _ rfl))
theorem ps_compT {y : Str} {py spos : Pos} {i : Nat} (n : CompN X scope x fs fr) (hc : X.calm = true) (hN : X.N.Nodup) (hiy : X.N[i]? = some y) (hy : X.env.scope.names.lookup y = some .local) (hi : PI X (.Name x px) iter wi)
    (helt : ∀ s₀ H₀ env ex pn, CxIs (X.block (x :: fs) s₀ H₀ env ex pn) (x :: fs) (relS scope X.env.scope) → PE (X.block (x :: fs) s₀ H₀ env ex pn) elt te)
    (htst : ∀ s₀ H₀ env ex pn, CxIs (X.block (x :: fs) s₀ H₀ env ex pn) (x :: fs) (relS scope X.env.scope) → PT (X.block (x :: fs) s₀ H₀ env ex pn) tst tt)
    (hsw : swapsWith (.ListComp elt [⟨.Name x px, iter, [tst], 0⟩] scope pos) (some (.Name y py)) spos.line X.env = pure true)
    (hs : ∀ x, foldedSetIterable iter X.env x = pure x := by intro _; rfl) : PS X (.Assign [.Name y py] (.ListComp elt [⟨.Name x px, iter, [tst], 0⟩] scope pos) spos) (tAsg (tCompT wi fr tt te) (gN i)) := by
  intro pins s σ H D I h
  obtain ⟨cl, e, p1, p2⟩ := clos_of fun y hy => I.ok.has y (.inl (n.frees y hy))
  rw [exec_Assign_Name_used _ _ _ _ hsw]
  refine wpAny_bind (wpAny_standAt (wpAny_bind ?_))
  show wpAny _ X.A (do let _ ← comprehension (.ListComp elt [⟨.Name x px, iter, [tst], 0⟩] scope pos) scope X.env _ (newList []) false (eval iter X.env) (some (assign (.Name y py) X.env))) _ _ s
  refine wpAny_bind (wpAny_mono (wpAny_comprehension_free (use := some (assign (.Name y py) X.env)) (Q := fun _ s' => SP X pins D .next s') rfl hs e n.kind n.names
    (comp_coreT (RR := fun acc C => compPost (model X.prog X.w) X.A X.xe (some (assign (.Name y py) X.env)) (fun _ s' => SP X pins D .next s') acc C) n hc hi helt htst p1 p2 I h fun p C m H' s' I' hn hf q => ?_)) (fun _ s' hq => wpAny_pure (wpAny_pure hq)) fun _ _ e => e)
  obtain ⟨g0, g1, g2, g3, g4, g5⟩ := hf
  show wpAny _ X.A (assign (.Name y py) X.env (.ref p)) _ _ _
  refine wpAny_assign_Name (store_ok2 (v := .ref p) I' hN hiy (.inl hy) rfl (fun s'' I'' ⟨a, sb, ha⟩ => ⟨m, hn.sameBut sb ?_, fun h' sb' => ⟨_, H', I''.turned (t' := s''.toks) (fun b o hb e => (sb'.2 b hb).trans e) g0 g1 g3 g4 g5, q _ rfl⟩⟩) (.inr hy))
  rcases ha with z | z
  · rw [z]; exact g1
  · exact fun w => g4 _ _ z w.symm
end
section
variable {X : Cx} {elt iter tst : Expr} {x : Str} {px pos : Pos} {scope sc : Scope} {N fs : List Str} {fr : List Nat} {wi : TI} {te : TE} {tt : TT}
theorem ws_compT {y : Str} {py spos : Pos} {i : Nat} (c : CxIs X N sc) (nd : N.Nodup) (n : CompS N sc scope x fs fr) (hiy : N[i]? = some y) (hy : sc.names.lookup y = some .local) (hi : WI X (.Name x px) iter wi)
    (helt : ∀ s₀ H₀ env ex pn, CxIs (X.block (x :: fs) s₀ H₀ env ex pn) (x :: fs) (relS scope sc) → WE (X.block (x :: fs) s₀ H₀ env ex pn) elt te)
    (htst : ∀ s₀ H₀ env ex pn, CxIs (X.block (x :: fs) s₀ H₀ env ex pn) (x :: fs) (relS scope sc) → WT (X.block (x :: fs) s₀ H₀ env ex pn) tst tt)
    (hk : sc.kind = .function) (hln : py.line = pos.line) (hnx : (scope.names.any fun (n, k) => n == y && (k == .local || k == .cell)) = false)
    (hs : ∀ x, foldedSetIterable iter X.env x = pure x := by intro _; rfl) : WS X (.Assign [.Name y py] (.ListComp elt [⟨.Name x px, iter, [tst], 0⟩] scope pos) spos) (tAsg (tCompT wi fr tt te) (gN i)) := by
  refine ⟨ps_compT (n.of c) c.calm (by rw [c.n]; exact nd) (by rw [c.n]; exact hiy) (by rw [c.s]; exact hy) hi.h (fun s₀ H₀ env ex pn cc => (helt s₀ H₀ env ex pn (by rw [c.s] at cc; exact cc)).h) (fun s₀ H₀ env ex pn cc => (htst s₀ H₀ env ex pn (by rw [c.s] at cc; exact cc)).h) ?_ hs⟩
  show (pure _ : Sem Bool) = pure true
  congr 1
  have h1 : (X.env.blockKind == ScopeKind.function) = true := by
    unfold Env.blockKind
    rw [c.s, hk]; rfl
  have h2 : (X.env.kindOf y == some NameKind.local) = true := by
    show (X.env.scope.names.lookup y == _) = true
    rw [c.s, hy]; rfl
  rw [h1, h2, hnx]
  show (true && true && (py.line == pos.line) && !false) = true
  rw [hln]
  simp
end
theorem comp_rngT {lo : Int} {n : Nat} {P : Nat → Bool} {f : Nat → V} {tt : TT} {te : TE} {τ : List (Option V)} {Q : VK} {H1 : Hp} (hz : n ≤ sizeLine)
    (test : ∀ (i : Nat) H, i < n → Same H1 H → ∀ R : Bool → Hp → Prop, (∀ H2, Same H H2 → R (P i) H2) → tt (some (.int (lo + (i : Nat))) :: τ) H R)
    (step : ∀ (i : Nat) H, i < n → P i = true → Same H1 H → ∀ R : VK, (∀ H2, Same H H2 → R (f i) H2) → te (some (.int (lo + (i : Nat))) :: τ) H R)
    (fin : ∀ p H', H1 p = none → Same H1 H' → H' p = some (.lst (((List.range n).filter P).map f)) → Q (.ref p) H') : CompRT (Itr lo n) tt te τ Q H1 := by
  intro p H0 hp s0 f0
  refine ⟨fun i m zs H => m = n - i ∧ i ≤ n ∧ Same H1 H ∧ zs = ((List.range i).filter P).map f, ⟨n, by simp, Nat.zero_le _, s0, rfl⟩, ?_⟩
  rintro i m zs H ⟨rfl, hi, s, rfl⟩ hH
  by_cases hlt : i < n
  · have hlen : (((List.range i).filter P).map f).length ≤ i := by
      rw [List.length_map]
      exact Nat.le_trans (List.length_filter_le _ _) (by rw [List.length_range]; exact Nat.le_refl _)
    refine .inr ⟨hlt, by omega, fun x H' y => ?_⟩
    obtain ⟨e, y⟩ := y
    subst e y
    refine test i _ hlt s _ fun H2 s2 => ?_
    have snoc : (List.range (i + 1)).filter P = (List.range i).filter P ++ (if P i = true then [i] else []) := by
      rw [List.range_succ, List.filter_append]
      congr 1
      cases hP : P i <;> simp [hP]
    cases hP : P i with
    | true =>
      rw [if_pos rfl]
      refine step i H2 hlt hP (s.trans s2) _ fun H3 s3 => ⟨s3 _ _ (s2 _ _ hH), n - (i + 1), by omega, rfl, hlt, ((s.trans s2).trans s3).drop hp rfl, ?_⟩
      rw [snoc, hP, if_pos rfl, List.map_append]
      rfl
    | false =>
      rw [if_neg Bool.false_ne_true]
      refine ⟨s2 _ _ hH, n - (i + 1), by omega, rfl, hlt, s.trans s2, ?_⟩
      rw [snoc, hP, if_neg Bool.false_ne_true, List.append_nil]
  · have e : i = n := by omega
    subst e
    exact .inl ⟨Nat.le_refl _, fin p H hp s hH⟩
section
variable {X : Cx} {o i value : Expr} {pos pos' : Pos} {td ty tv : TE}
end
end L2
set_option Elab.async false
set_option linter.all false
set_option maxRecDepth 100000
set_option maxHeartbeats 4000000
namespace L2
open PySem PySem.Spec PyProof.Rows
structure Rd3 (y : Str) (e w k : Int) : Prop where
  dn : y = "down" → k * w ≤ e ∧ e < k * w + w
  up : y = "up" → k * w - w < e ∧ e ≤ k * w
  nr : y = "near" → 2 * (k * w) - w ≤ 2 * e ∧ 2 * e < 2 * (k * w) + w
theorem rd3_lt {w k k' : Int} (hw : 0 < w) (h : k < k') : k * w + w ≤ k' * w := by
  have := Int.mul_le_mul_of_nonneg_right (show k + 1 ≤ k' by omega) (Int.le_of_lt hw)
  rw [Int.add_mul, Int.one_mul] at this
  exact this
theorem Rd3.uniq {y : Str} {e w k k' : Int} (hy : y = "down" ∨ y = "up" ∨ y = "near") (hw : 0 < w) (a : Rd3 y e w k) (b : Rd3 y e w k') : k = k' := by
  rcases Int.lt_trichotomy k k' with h | h | h
  · have := rd3_lt hw h
    rcases hy with z | z | z
    · have := a.dn z; have := b.dn z; omega
    · have := a.up z; have := b.up z; omega
    · have := a.nr z; have := b.nr z; omega
  · exact h
  · have := rd3_lt hw h
    rcases hy with z | z | z
    · have := a.dn z; have := b.dn z; omega
    · have := a.up z; have := b.up z; omega
    · have := a.nr z; have := b.nr z; omega
theorem endI_app (a b : List StepD) (m : Int) : endI (a ++ b) m = endI b (endI a m) := by unfold endI; rw [List.foldl_append]
noncomputable def StEq (a b : List StepD) : Prop := ∀ m, endI a m = endI b m
theorem StEq.mid {a b : List StepD} (h : StEq a b) (l r : List StepD) : StEq (l ++ a ++ r) (l ++ b ++ r) := fun m => by
  rw [endI_app, endI_app, endI_app, endI_app, h]
theorem StEq.trans {a b c : List StepD} (h : StEq a b) (k : StEq b c) : StEq a c := fun m => (h m).trans (k m)
section
variable {X : Cx}
end
end L2
set_option Elab.async false
set_option linter.all false
set_option maxRecDepth 100000
set_option maxHeartbeats 4000000
namespace L2
open PySem PySem.Spec PyProof.Rows
noncomputable def LongAt (it : Addr) (lo : Int) (n i : Nat) (h : Heap) : Prop := IsLongIter h it (lo + (i : Nat) * 1) ((n : Int) - (i : Nat)) 1
theorem turn_long {P : Program} {w : World} {K : PySem.W.Frag} {tg : Expr} (it : Addr) (lo : Int) (n : Nat) :
    Turn P w K tg (Itr lo n) [it] it (LongAt it lo n) where
  mem := List.mem_singleton.mpr rfl
  obj := fun i h q b hb => by
    cases List.mem_singleton.mp hb
    exact ⟨_, q, fun v z => nomatch (show Data.fields _ = Data.cell v from z)⟩
  keep := fun i h h' q k => k it (List.mem_singleton.mpr rfl) _ q
  item := by
    intro X e1 e2 e3 hc i pins s σ H E I fp q go
    cases e1; cases e2; cases e3
    obtain ⟨a0, a1, _, a3, a4, a5⟩ := fp it (List.mem_singleton.mpr rfl)
    refine (Walks.longrange (prog := X.prog) (w := X.w) (I.ok.hd hc) it lo 1 n).item i s _ _ go q fun v h' tk ⟨t, hv⟩ q' kk => ?_
    cases hv
    have J : Inv X pins σ H { s with heap := h', toks := tk } := I.turned (fun b o hb e => kk b o (fun z => hb (List.mem_singleton.mp z)) e) a0 a1 a3 a4 a5
    refine ⟨_, rfl, go_of (n := "longrange_iterator") (s := { s with heap := h', toks := tk }) q' rfl rfl (by decide) ⟨.int (lo + i), H, J, ?_, ⟨rfl, rfl⟩, q', fun b hb => (fp b hb).1⟩⟩
    exact ⟨t, by rw [Int.mul_one]⟩
  done := by
    intro X e1 e2 e3 hc i pins s σ H E I fp q go
    cases e1; cases e2; cases e3
    obtain ⟨a0, a1, _, a3, a4, a5⟩ := fp it (List.mem_singleton.mpr rfl)
    have le : n ≤ i := go
    refine wpAny_pyNext_long_end (I.ok.hd hc) q (by omega) fun h' eb => ⟨rfl, ?_⟩
    exact I.turned (t' := s.toks) (fun b o hb e => eb b o hb e) a0 a1 a3 a4 a5
  self := fun _ _ _ _ _ q h => wpAny_pyIter_longiter q h
section
variable {X : Cx} {tg : Expr}
theorem range_any {pins : List (Addr × Obj)} {σ : St} {H : Hp} {s : Shared} {R : It → Hp → Prop} {E : Value → Shared → Prop} {lo hi : Int} {t u v : Tok} {tk : Nat} (I : Inv X pins σ H s) (q : R (Itr lo (hi - lo).toNat) H) :
    wpAny (model X.prog X.w) X.A (pyIter (.ref s.heap.objs.size)) (PIE X pins σ tg R) E
      { s with heap := s.heap.push { cls := .type "range", data := .fields #[.int lo t, .int hi u, .int 1 v] }, toks := tk } := by
  have I1 : Inv X pins σ H { s with heap := s.heap.push { cls := .type "range", data := .fields #[.int lo t, .int hi u, .int 1 v] }, toks := tk } := I.kept fun _ _ e => Heap.get?_push_of_some _ e
  have e1 : lo + ((0 : Nat) : Int) * 1 = lo := by omega
  have e2 : (((hi - lo).toNat : Nat) : Int) - ((0 : Nat) : Int) = Builtin.Range.rangeSize lo hi 1 := by
    rw [rangeSize_one]
    split <;> omega
  have fp : ∀ b ∈ [(s.heap.push { cls := .type "range", data := .fields #[.int lo t, .int hi u, .int 1 v] }).objs.size], FpOk X pins H b := fun b hb => by
    cases List.mem_singleton.mp hb
    exact I1.fpOk (Nat.le_refl _) (I1.hok.fresh (Nat.le_refl _))
  cases hs : Builtin.Range.small lo hi 1 with
  | true =>
    refine wpAny_pyIter_range (IsRange.new ..) hs ⟨_, _, _, _, H, rfl, I1.kept (t' := tk) fun _ _ e => Heap.get?_push_of_some _ e, turn_range _ lo (hi - lo).toNat, ?_, fp, q⟩
    show IsRangeIter _ _ (lo + ((0 : Nat) : Int) * 1) _ 1
    rw [e1, e2]
    exact Heap.get?_push_size _ rfl
  | false =>
    refine wpAny_pyIter_longrange (IsRange.new ..) hs ⟨_, _, _, _, H, rfl, I1.kept (t' := tk) fun _ _ e => Heap.get?_push_of_some _ e, turn_long _ lo (hi - lo).toNat, ?_, fp, q⟩
    show IsLongIter _ _ (lo + ((0 : Nat) : Int) * 1) _ 1
    rw [e1, e2]
    exact Heap.get?_push_size _ rfl
noncomputable def iRngL (ta : TA) : TI := fun σ H R => ta σ H fun vs H1 => ∃ i j : Int, vs = [.int i, .int j] ∧ R (Itr i (j - i).toNat) H1
theorem wi_rangeL {a b : Expr} {ta : TA} {p pos : Pos} (hg : Gl X "range") (hm : X.mg "range" = none) (ha : WA X [a, b] ta) (hs : starEach [a, b] X.env = [(false, eval a X.env), (false, eval b X.env)] := by rfl) (hs2 : starEach [b] X.env = [(false, eval b X.env)] := by rfl) :
    WI X tg (.Call (.Name "range" p) [a, b] [] pos) (iRngL ta) := by
  refine ⟨fun pins s σ H R I h => ?_⟩
  refine Call_ (ld_blt I hg hm boot_range (callWith_type1 (thn (ha.h pos pins s σ H _ I h) fun us s1 ⟨vs, H1, I1, r1, i, j, e, q⟩ => ?_) (by rw [hs, hs2]) (by rw [hs2]; rfl)))
  subst e
  obtain ⟨x, y, rfl, ⟨t, rfl⟩, ⟨t', rfl⟩⟩ := Vals.two r1
  exact call_range_2 (range_any I1 q)
end
theorem op_eqE {X : Cx} (hu : X.A.units < cLine) : OpR X (compareOp .Eq) (fun x y H Q => ∃ (a b : Addr) (xs : List V), x = .ref a ∧ y = .ref b ∧ SqL X.K H a xs ∧ SqL X.K H b [] ∧ Q (.bl xs.isEmpty) H) := by
  intro pins s σ H x y v u Q I rx ry h
  obtain ⟨a, b, xs, rfl, rfl, ha, hb, q⟩ := h
  cases rx
  cases ry
  obtain ⟨its, r1, ⟨o1, n1, e1, c1, _, d1⟩, _⟩ := I.list ha
  obtain ⟨jts, r2, ⟨o2, n2, e2, c2, _, d2⟩, _⟩ := I.list hb
  have l1 := r1.length
  have l2 := r2.length
  cases r2
  have L1 : s.heap.IsList a its.toArray := ⟨_, e1, c1, n1, d1⟩
  have L2 : s.heap.IsList b (#[] : Array Value) := ⟨_, e2, c2, n2, d2⟩
  cases r1 with
  | nil => exact SeqAt.eq_listAt (e := fun _ => true) L1 L2 rfl hu (fun j h1 _ => absurd h1 (Nat.not_lt_zero _)) ⟨.bl true, H, I, rfl, q⟩
  | cons r rr => exact SeqAt.eq_list_lengthsAt L1 L2 rfl hu ⟨.bl false, H, I, rfl, q⟩
theorem op_neE {X : Cx} (hu : X.A.units < cLine) : OpR X (compareOp .NotEq) (fun x y H Q => ∃ (a b : Addr) (xs : List V), x = .ref a ∧ y = .ref b ∧ SqL X.K H a xs ∧ SqL X.K H b [] ∧ Q (.bl (!xs.isEmpty)) H) := by
  intro pins s σ H x y v u Q I rx ry h
  obtain ⟨a, b, xs, rfl, rfl, ha, hb, q⟩ := h
  cases rx
  cases ry
  obtain ⟨its, r1, ⟨o1, n1, e1, c1, _, d1⟩, _⟩ := I.list ha
  obtain ⟨jts, r2, ⟨o2, n2, e2, c2, _, d2⟩, _⟩ := I.list hb
  cases r2
  have L1 : s.heap.IsList a its.toArray := ⟨_, e1, c1, n1, d1⟩
  have L2 : s.heap.IsList b (#[] : Array Value) := ⟨_, e2, c2, n2, d2⟩
  cases r1 with
  | nil => exact SeqAt.RcNeAt.lists (e := fun _ => true) L1 L2 rfl hu (fun j h1 _ => absurd h1 (Nat.not_lt_zero _)) _ _ _ _ ⟨.bl false, H, I, rfl, q⟩
  | cons r rr => exact SeqAt.RcNeAt.lists_lengths L1 L2 rfl hu _ _ _ _ ⟨.bl true, H, I, rfl, q⟩
theorem comp_lstT {K : PySem.W.Frag} {a : Addr} {ns : List Int} {P : Int → Bool} {tt : TT} {te : TE} {τ : List (Option V)} {Q : VK} {H1 : Hp} (hz : ns.length ≤ sizeLine) (hL : SqL K H1 a (ns.map V.int))
    (test : ∀ z, z ∈ ns → ∀ H, Same H1 H → ∀ R : Bool → Hp → Prop, (∀ H2, Same H H2 → R (P z) H2) → tt (some (.int z) :: τ) H R)
    (step : ∀ z, z ∈ ns → ∀ H, Same H1 H → ∀ R : VK, (∀ H2, Same H H2 → R (.int z) H2) → te (some (.int z) :: τ) H R)
    (fin : ∀ p H', H1 p = none → Same H1 H' → H' p = some (.lst ((ns.filter P).map V.int)) → Q (.ref p) H') : CompRT (Itl K a) tt te τ Q H1 := by
  intro p H0 hp s0 f0
  refine ⟨fun i m zs H => m = ns.length - i ∧ i ≤ ns.length ∧ Same H1 H ∧ zs = ((ns.take i).filter P).map V.int, ⟨ns.length, by simp, Nat.zero_le _, s0, rfl⟩, ?_⟩
  rintro i m zs H ⟨rfl, hi, s, rfl⟩ hH
  by_cases hlt : i < ns.length
  · have hlen : (((ns.take i).filter P).map V.int).length ≤ i := by
      rw [List.length_map]
      exact Nat.le_trans (List.length_filter_le _ _) (by rw [List.length_take]; exact Nat.min_le_left _ _)
    have hx : (ns.map V.int)[i]? = some (.int ns[i]) := by rw [List.getElem?_map, List.getElem?_eq_getElem hlt]; rfl
    have mem : ns[i] ∈ ns := List.getElem_mem hlt
    refine .inr ⟨⟨_, _, s.seq hL, hx⟩, by omega, fun x H' ⟨e, y⟩ => ?_⟩
    subst e
    have ex := y _ (s.seq hL)
    rw [hx] at ex
    cases ex
    have snoc : (ns.take (i + 1)).filter P = (ns.take i).filter P ++ (if P ns[i] = true then [ns[i]] else []) := by
      rw [List.take_succ, List.getElem?_eq_getElem hlt, List.filter_append]
      congr 1
      cases hP : P ns[i] <;> simp [hP]
    refine test _ mem _ s _ fun H2 s2 => ?_
    cases hP : P ns[i] with
    | true =>
      rw [if_pos rfl]
      refine step _ mem H2 (s.trans s2) _ fun H3 s3 => ⟨s3 _ _ (s2 _ _ hH), ns.length - (i + 1), by omega, rfl, hlt, ((s.trans s2).trans s3).drop hp rfl, ?_⟩
      rw [snoc, hP, if_pos rfl, List.map_append]
      rfl
    | false =>
      rw [if_neg Bool.false_ne_true]
      refine ⟨s2 _ _ hH, ns.length - (i + 1), by omega, rfl, hlt, s.trans s2, ?_⟩
      rw [snoc, hP, if_neg Bool.false_ne_true, List.append_nil]
  · have e : i = ns.length := by omega
    subst e
    rw [List.take_length] at hH
    exact .inl ⟨⟨_, s.seq hL, by rw [List.length_map]; exact Nat.le_refl _⟩, fin p H hp s hH⟩
end L2
set_option Elab.async false
set_option linter.all false
set_option maxRecDepth 100000
set_option maxHeartbeats 4000000
namespace My
open PySem L2
noncomputable def top (i : Nat) : Stmt := PySem.Challenge.pw_roundprice_k34_whole_backwards.main.body.getD i (.Pass ⟨0, 0, 0, 0⟩)
noncomputable abbrev s_common_divisor : Stmt := top 1
theorem sc_common_divisor : FnScope ["one", "other", "rest"] ["one", "other"] (defScope s_common_divisor) := ⟨rfl, rfl, rfl, by decide +kernel, rfl, by decide +kernel, by decide +kernel⟩
noncomputable abbrev s_lowest : Stmt := top 2
theorem sc_lowest : FnScope ["num", "den", "divisor"] ["num", "den"] (defScope s_lowest) := ⟨rfl, rfl, rfl, by decide +kernel, rfl, by decide +kernel, by decide +kernel⟩
noncomputable abbrev s_share : Stmt := top 4
theorem sc_share : FnScope ["step", "word", "n", "d"] ["step"] (defScope s_share) := ⟨rfl, rfl, rfl, by decide +kernel, rfl, by decide +kernel, by decide +kernel⟩
noncomputable abbrev s_rounded : Stmt := top 5
theorem sc_rounded : FnScope ["num", "den", "unit", "way", "block"] ["num", "den", "unit", "way"] (defScope s_rounded) := ⟨rfl, rfl, rfl, by decide +kernel, rfl, by decide +kernel, by decide +kernel⟩
noncomputable abbrev s_after : Stmt := top 6
theorem sc_after : FnScope ["step", "amount", "pennies", "way", "unit", "part", "num"] ["step", "amount"] (defScope s_after) := ⟨rfl, rfl, rfl, by decide +kernel, rfl, by decide +kernel, by decide +kernel⟩
noncomputable abbrev s_check_price : Stmt := top 11
theorem sc_check_price : FnScope ["price"] ["price"] (defScope s_check_price) := ⟨rfl, rfl, rfl, by decide +kernel, rfl, by decide +kernel, by decide +kernel⟩
noncomputable abbrev s_end_of : Stmt := top 13
theorem sc_end_of : FnScope ["chain", "price"] ["chain", "price"] (defScope s_end_of) := ⟨rfl, rfl, rfl, by decide +kernel, rfl, by decide +kernel, by decide +kernel⟩
noncomputable abbrev s_run : Stmt := top 14
theorem sc_run : FnScope ["chain", "amount", "step"] ["chain", "amount"] (defScope s_run) := ⟨rfl, rfl, rfl, by decide +kernel, rfl, by decide +kernel, by decide +kernel⟩
noncomputable abbrev s_origin : Stmt := top 16
theorem sc_origin : FnScope ["chain", "end", "first", "reached", "below"] ["chain", "end"] (defScope s_origin) := ⟨rfl, rfl, rfl, by decide +kernel, rfl, by decide +kernel, by decide +kernel⟩
noncomputable abbrev s_missing : Stmt := top 17
theorem sc_missing : FnScope ["chain", "low", "high", "found", "number", "reached"] ["chain", "low", "high"] (defScope s_missing) := ⟨rfl, rfl, rfl, by decide +kernel, rfl, by decide +kernel, by decide +kernel⟩
noncomputable abbrev s_first_reaching : Stmt := top 18
theorem sc_first_reaching : FnScope ["chain", "end", "amount", "step"] ["chain", "end"] (defScope s_first_reaching) := ⟨rfl, rfl, rfl, by decide +kernel, rfl, by decide +kernel, by decide +kernel⟩
noncomputable abbrev s_least_ahead : Stmt := top 19
theorem sc_least_ahead : FnScope ["step", "amount", "pennies", "way", "unit", "part", "goal", "bound", "num", "den"] ["step", "amount"] (defScope s_least_ahead) := ⟨rfl, rfl, rfl, by decide +kernel, rfl, by decide +kernel, by decide +kernel⟩
noncomputable abbrev s_law_at : Stmt := top 21
theorem sc_law_at : FnScope ["_law_script", "_law_k"] ["_law_script", "_law_k"] (defScope s_law_at) := ⟨rfl, rfl, rfl, by decide +kernel, rfl, by decide +kernel, by decide +kernel⟩
noncomputable abbrev s_law_draw : Stmt := top 22
theorem sc_law_draw : FnScope ["_law_script", "_law_k", "_law_cell"] ["_law_script", "_law_k"] (defScope s_law_draw) := ⟨rfl, rfl, rfl, by decide +kernel, rfl, by decide +kernel, by decide +kernel⟩
noncomputable abbrev s_law_whole : Stmt := top 23
theorem sc_law_whole : FnScope ["_law_found"] ["_law_found"] (defScope s_law_whole) := ⟨rfl, rfl, rfl, by decide +kernel, rfl, by decide +kernel, by decide +kernel⟩
noncomputable abbrev s_law_gcd : Stmt := top 24
theorem sc_law_gcd : FnScope ["_law_one", "_law_other"] ["_law_one", "_law_other"] (defScope s_law_gcd) := ⟨rfl, rfl, rfl, by decide +kernel, rfl, by decide +kernel, by decide +kernel⟩
noncomputable abbrev s_law_step : Stmt := top 25
theorem sc_law_step : FnScope ["_law_cell", "_law_size", "_law_most", "_law_units", "_law_word", "_law_left", "_law_bottom", "_law_top", "_law_unit", "_law_way", "_law_pennies"] ["_law_cell", "_law_size"] (defScope s_law_step) := ⟨rfl, rfl, rfl, by decide +kernel, rfl, by decide +kernel, by decide +kernel⟩
noncomputable abbrev s_law_num : Stmt := top 26
theorem sc_law_num : FnScope ["_law_step_here"] ["_law_step_here"] (defScope s_law_num) := ⟨rfl, rfl, rfl, by decide +kernel, rfl, by decide +kernel, by decide +kernel⟩
noncomputable abbrev s_law_own : Stmt := top 27
theorem sc_law_own : FnScope ["_law_step_here", "_law_wide"] ["_law_step_here"] (defScope s_law_own) := ⟨rfl, rfl, rfl, by decide +kernel, rfl, by decide +kernel, by decide +kernel⟩
noncomputable abbrev s_law_product : Stmt := top 28
theorem sc_law_product : FnScope ["_law_steps", "_law_wide", "_law_step_here"] ["_law_steps"] (defScope s_law_product) := ⟨rfl, rfl, rfl, by decide +kernel, rfl, by decide +kernel, by decide +kernel⟩
noncomputable abbrev s_law_chain : Stmt := top 29
theorem sc_law_chain : FnScope ["_law_script", "_law_base", "_law_many", "_law_limit", "_law_size", "_law_steps", "_law_k", "_law_cell", "_law_step_here"] ["_law_script", "_law_base", "_law_many", "_law_limit"] (defScope s_law_chain) := ⟨rfl, rfl, rfl, by decide +kernel, rfl, by decide +kernel, by decide +kernel⟩
noncomputable abbrev s_law_after : Stmt := top 30
theorem sc_law_after : FnScope ["_law_step_here", "_law_amount", "_law_wide", "_law_exact", "_law_many", "_law_left"] ["_law_step_here", "_law_amount"] (defScope s_law_after) := ⟨rfl, rfl, rfl, by decide +kernel, rfl, by decide +kernel, by decide +kernel⟩
noncomputable abbrev s_law_end : Stmt := top 31
theorem sc_law_end : FnScope ["_law_steps", "_law_amount", "_law_step_here"] ["_law_steps", "_law_amount"] (defScope s_law_end) := ⟨rfl, rfl, rfl, by decide +kernel, rfl, by decide +kernel, by decide +kernel⟩
noncomputable abbrev s_law_price : Stmt := top 32
theorem sc_law_price : FnScope ["_law_cell", "_law_left"] ["_law_cell"] (defScope s_law_price) := ⟨rfl, rfl, rfl, by decide +kernel, rfl, by decide +kernel, by decide +kernel⟩
noncomputable abbrev s_law_same_row : Stmt := top 33
theorem sc_law_same_row : FnScope ["_law_found", "_law_due", "_law_k"] ["_law_found", "_law_due"] (defScope s_law_same_row) := ⟨rfl, rfl, rfl, by decide +kernel, rfl, by decide +kernel, by decide +kernel⟩
noncomputable abbrev s_law_same_origin : Stmt := top 34
theorem sc_law_same_origin : FnScope ["_law_found", "_law_due"] ["_law_found", "_law_due"] (defScope s_law_same_origin) := ⟨rfl, rfl, rfl, by decide +kernel, rfl, by decide +kernel, by decide +kernel⟩
noncomputable abbrev s_law_last : Stmt := top 35
theorem sc_law_last : FnScope ["_law_cell", "_law_way"] ["_law_cell"] (defScope s_law_last) := ⟨rfl, rfl, rfl, by decide +kernel, rfl, by decide +kernel, by decide +kernel⟩
noncomputable abbrev s_law_is : Stmt := top 36
theorem sc_law_is : FnScope ["_law_found", "_law_due"] ["_law_found", "_law_due"] (defScope s_law_is) := ⟨rfl, rfl, rfl, by decide +kernel, rfl, by decide +kernel, by decide +kernel⟩
noncomputable abbrev s_law_stretch : Stmt := top 37
theorem sc_law_stretch : FnScope ["_law_found", "_law_steps", "_law_price_here", "_law_end_here"] ["_law_found", "_law_steps", "_law_price_here"] (defScope s_law_stretch) := ⟨rfl, rfl, rfl, by decide +kernel, rfl, by decide +kernel, by decide +kernel⟩
noncomputable abbrev s_law_walked : Stmt := top 38
theorem sc_law_walked : FnScope ["_law_steps", "_law_base", "_law_ends", "_law_p", "_law_found"] ["_law_steps", "_law_base"] (defScope s_law_walked) := ⟨rfl, rfl, rfl, by decide +kernel, rfl, by decide +kernel, by decide +kernel⟩
noncomputable abbrev s_law_shown : Stmt := top 39
theorem sc_law_shown : FnScope ["_law_ends", "_law_base", "_law_end_here", "_law_places", "_law_below", "_law_above"] ["_law_ends", "_law_base", "_law_end_here"] (defScope s_law_shown) := ⟨rfl, rfl, rfl, by decide +kernel, rfl, by decide +kernel, by decide +kernel⟩
noncomputable abbrev s_law_in_order : Stmt := top 40
theorem sc_law_in_order : FnScope ["_law_steps", "_law_one", "_law_other", "_law_low", "_law_high", "_law_first", "_law_second", "_law_here", "_law_there"] ["_law_steps", "_law_one", "_law_other"] (defScope s_law_in_order) := ⟨rfl, rfl, rfl, by decide +kernel, rfl, by decide +kernel, by decide +kernel⟩
noncomputable abbrev s_law : Stmt := top 41
theorem sc_law : FnScope ["_law_script", "_law_steps", "_law_last_here", "_law_cell", "_law_base", "_law_ends", "_law_one", "_law_low", "_law_high", "_law_gone", "_law_wide", "_law_k", "_law_end_here", "_law_due", "_law_open_left"] ["_law_script"] (defScope s_law) := ⟨rfl, rfl, rfl, by decide +kernel, rfl, by decide +kernel, by decide +kernel⟩
theorem gcd_turnZ {x y : Int} (hy : 0 < y) : Int.gcd y (x % y) = Int.gcd x y := by
  rw [Int.gcd_comm x y]
  have e : x % y = x - y * (x / y) := Int.emod_def x y
  refine Nat.dvd_antisymm ?_ ?_
  · have a := Int.gcd_dvd_left y (x % y)
    have b := Int.gcd_dvd_right y (x % y)
    have b' : ((Int.gcd y (x % y) : Nat) : Int) ∣ x % y + y * (x / y) := Int.dvd_add b (Int.dvd_mul_of_dvd_left a)
    rw [Int.emod_add_mul_ediv] at b'
    exact Int.dvd_gcd a b'
  · have a := Int.gcd_dvd_left y x
    have b := Int.gcd_dvd_right y x
    refine Int.dvd_gcd a ?_
    rw [e]
    exact Int.dvd_sub b (Int.dvd_mul_of_dvd_left a)
noncomputable def sp_common_divisor (K : PySem.W.Frag) : Sp := fun vs H Q _ => ∃ (x y : Int), vs = [.int x, .int y] ∧ (0 ≤ x ∨ 0 < y) ∧ 0 ≤ y ∧ Q (.int ((Int.gcd x y : Nat) : Int)) H
theorem cal_common_divisor {P : Program} {w : World} {K : PySem.W.Frag} {mg : Str → Option Value} {base : Heap} {f : Addr} {fd : FuncData} (F : Fun K "common_divisor" "common_divisor" s_common_divisor f fd) (b : Binds K fd ["one", "other"] []) (m : mg "common_divisor" = some (.ref f))  : Cal P w K mg base "common_divisor" 1 ["one", "other"] (sp_common_divisor K) := by
  refine ⟨f, fd, F.ok sc_common_divisor (fun vs H Q E h => ?_) (fun cdv A outer s H vs Q E hr h => ?_), b, F.kp, m⟩
  · first | (obtain ⟨_, rfl, _⟩ := h; rfl) | (obtain ⟨_, _, rfl, _⟩ := h; rfl) | (obtain ⟨_, _, _, rfl, _⟩ := h; rfl) | (obtain ⟨_, _, _, _, rfl, _⟩ := h; rfl) | (obtain ⟨_, _, _, _, _, rfl, _⟩ := h; rfl) | (obtain ⟨_, _, _, _, _, _, rfl, _⟩ := h; rfl) | (obtain ⟨_, _, _, _, _, _, _, rfl, _⟩ := h; rfl) | (obtain ⟨_, _, _, _, _, _, _, _, rfl, _⟩ := h; rfl) | (obtain ⟨_, _, _, _, _, _, _, _, _, rfl, _⟩ := h; rfl)
  · obtain ⟨x0, y0, rfl, h1, h2, q⟩ := h
    refine ⟨_, (pss_cons (ps_while PassesOwn.never (pt_cmpR op_gt (pv 1) pe_int (nomark _))
      (pss_cons (ps_set (i := 2) sc_common_divisor.nd rfl (Or.inl rfl) (pe_op op_mod (pv 0) (pv 1)))
      (pss_cons (ps_set (i := 0) sc_common_divisor.nd rfl (Or.inl rfl) (pv 1))
      (pss_one (ps_set (i := 1) sc_common_divisor.nd rfl (Or.inl rfl) (pv 2))))))
      (pss_one (ps_ret (pv 0)))), ?_⟩
    refine while_by (fun σ H' => ∃ x y r, σ = [some (.int x), some (.int y), r] ∧ H' = H ∧ (0 ≤ x ∨ 0 < y) ∧ 0 ≤ y ∧ Int.gcd x y = Int.gcd x0 y0)
      (fun σ _ => match σ with | (_ :: some (.int y) :: _) => y.toNat | _ => 0) ⟨x0, y0, _, rfl, rfl, h1, h2, rfl⟩ ?_ ?_
    · rintro σ H' ⟨x, y, _, rfl, rfl, hx, hy, hg⟩
      refine ⟨_, rfl, _, _, rfl, rfl, _, rfl, ?_⟩
      refine if2 (fun c => ?_) (fun c => ?_)
      · have hm0 := md0 (x := x) c
        have hm1 := md1 (x := x) c
        refine ⟨_, rfl, _, rfl, _, _, rfl, rfl, c, _, rfl, _, rfl, ?_⟩
        refine ⟨⟨y, x % y, _, rfl, rfl, .inl hy, hm0, by rw [gcd_turnZ c]; exact hg⟩, ?_⟩
        show (x % y).toNat < y.toNat
        omega
      · have e := gcd_end (x := x) (y := y) (by omega) (by omega)
        rw [← hg, ← e] at q
        exact ⟨_, rfl, q⟩
    · rintro σ H' R R' hq ⟨v, e, i, j, e1, e2, k, e3, h⟩
      exact ⟨v, e, i, j, e1, e2, k, e3, hq _ _ h⟩
noncomputable def sp_rounded (K : PySem.W.Frag) : Sp := fun vs H Q _ => ∃ (num den unit : Int) (way : Str), vs = [.int num, .int den, .int unit, .str way] ∧ 1 ≤ den ∧ den < 2 ^ 300 ∧ 1 ≤ unit ∧ unit ≤ 100 ∧ Q (.int (roundI num den unit way)) H
theorem cal_rounded {P : Program} {w : World} {K : PySem.W.Frag} {mg : Str → Option Value} {base : Heap} {f : Addr} {fd : FuncData} (F : Fun K "rounded" "rounded" s_rounded f fd) (b : Binds K fd ["num", "den", "unit", "way"] []) (m : mg "rounded" = some (.ref f))  : Cal P w K mg base "rounded" 1 ["num", "den", "unit", "way"] (sp_rounded K) := by
  refine ⟨f, fd, F.ok sc_rounded (fun vs H Q E h => ?_) (fun cdv A outer s H vs Q E hr h => ?_), b, F.kp, m⟩
  · first | (obtain ⟨_, rfl, _⟩ := h; rfl) | (obtain ⟨_, _, rfl, _⟩ := h; rfl) | (obtain ⟨_, _, _, rfl, _⟩ := h; rfl) | (obtain ⟨_, _, _, _, rfl, _⟩ := h; rfl) | (obtain ⟨_, _, _, _, _, rfl, _⟩ := h; rfl) | (obtain ⟨_, _, _, _, _, _, rfl, _⟩ := h; rfl) | (obtain ⟨_, _, _, _, _, _, _, rfl, _⟩ := h; rfl) | (obtain ⟨_, _, _, _, _, _, _, _, rfl, _⟩ := h; rfl) | (obtain ⟨_, _, _, _, _, _, _, _, _, rfl, _⟩ := h; rfl)
  · obtain ⟨num, den, unit, way, rfl, h1, h2, h3, h4, q⟩ := h
    have p0 : 0 < den * unit := Int.mul_pos (by omega) (by omega)
    have p1 : den * unit ≤ den * 100 := Int.mul_le_mul_of_nonneg_left h4 (by omega)
    have p2 : den * unit < 2 ^ 310 := by omega
    have u1 : ∀ z, CMulB z unit := fun z => mul_r (by omega) (by omega)
    refine ⟨_, (pss_cons (ps_set (i := 4) sc_rounded.nd rfl (Or.inl rfl) (pe_op op_mulB (pv 1) (pv 2)))
      (pss_cons (ps_if (pt_cmpR op_eq (pv 3) pe_str (nomark _))
      (pss_one (ps_ret (pe_op op_mulB (pe_op op_fdivB (pv 0) (pv 4)) (pv 2))))
      pss_nil)
      (pss_cons (ps_if (pt_cmpR op_eq (pv 3) pe_str (nomark _))
      (pss_one (ps_ret (pe_op op_mulB (pe_op op_fdivB (pe_op op_sub (pe_op op_add (pv 0) (pv 4)) pe_int) (pv 4)) (pv 2))))
      pss_nil)
      (pss_one (ps_ret (pe_op op_mulB (pe_op op_fdivB (pe_op op_add (pe_op op_mulB pe_int (pv 0)) (pv 4)) (pe_op op_mulB pe_int (pv 4))) (pv 2))))))), ?_⟩
    refine ⟨_, rfl, _, rfl, _, _, rfl, rfl, u1 _, _, rfl, rfl, _, rfl, ?_⟩
    refine if2 (fun c => ?_) (fun c => ?_)
    · have e : roundI num den unit way = num / (den * unit) * unit := if_pos (V.str.inj c)
      rw [e] at q
      exact ⟨_, rfl, _, rfl, _, _, rfl, rfl, ⟨p0, by omega⟩, _, rfl, _, _, rfl, rfl, u1 _, q⟩
    refine ⟨_, rfl, rfl, _, rfl, ?_⟩
    have c' : ¬ way = "down" := fun z => c (by rw [z])
    refine if2 (fun d => ?_) (fun d => ?_)
    · have e : roundI num den unit way = (num + den * unit - 1) / (den * unit) * unit := by unfold roundI; rw [if_neg c', if_pos (V.str.inj d)]
      rw [e] at q
      exact ⟨_, rfl, _, rfl, _, _, rfl, rfl, _, _, rfl, rfl, _, rfl, _, _, rfl, rfl, ⟨p0, by omega⟩, _, rfl, _, _, rfl, rfl, u1 _, q⟩
    · have d' : ¬ way = "up" := fun z => d (by rw [z])
      have e : roundI num den unit way = (2 * num + den * unit) / (2 * (den * unit)) * unit := by unfold roundI; rw [if_neg c', if_neg d']
      rw [e] at q
      exact ⟨_, rfl, _, _, rfl, rfl, mul_l (by decide) (by decide), _, rfl, _, _, rfl, rfl, _, rfl, _, _, rfl, rfl, mul_l (by decide) (by decide), _, _, rfl, rfl, ⟨by omega, by omega⟩, _, rfl, _, _, rfl, rfl, u1 _, q⟩
theorem lk_check_price_0 : (defScope s_check_price).names.lookup ("price" : Str) = some .local := by decide +kernel
theorem pv_check_price_0 {X : Cx} (c : CxIs X ["price"] (defScope s_check_price)) {pos : Pos} : WE X (.Name "price" pos) (tVar 0) := wxv c rfl lk_check_price_0 (by decide) (by decide)
theorem st_check_price (v0 : V) : L2.start ["price"] [v0] = [some v0] := rfl
noncomputable def sp_check_price (K : PySem.W.Frag) : Sp := fun vs H Q _ => ∃ (m : Int), vs = [.int m] ∧ 0 ≤ m ∧ m ≤ 10 ^ 30 ∧ Q .non H
theorem body_check_price {X : Cx} (c : CxIs X ["price"] (defScope s_check_price)) (hr : Room 0 X.A) {E : XK}   {vs : List V} {H : Hp} {Q : VK} (h : sp_check_price X.K vs H Q E) : ∃ t, WSs X (defBody s_check_price) t ∧ t { nx := fun _ H' => Q .non H', rt := Q } (L2.start ["price"] vs) H := by
  · obtain ⟨m, rfl, h0, h1, q⟩ := h
    refine ⟨_, (wss_one (ws_if (WW.pt (ww_or (wt_cmpR op_lt (pv_check_price_0 c) we_int (nomark _)) (ww_or1 (wt_cmpR op_gt (pv_check_price_0 c) (we_op op_pow we_int we_int) (nomark _)))))
      (wss_one ws_never)
      wss_nil)), ?_⟩
    rw [st_check_price]
    refine ⟨_, rfl, _, _, rfl, rfl, _, rfl, ?_⟩
    refine ifF (by omega) ?_
    refine ⟨_, rfl, _, _, rfl, rfl, ⟨by decide, by decide, by decide⟩, _, _, rfl, rfl, _, rfl, ?_⟩
    refine ifF (by rw [show Int.toNat 30 = 30 from rfl]; omega) ?_
    exact q
theorem cal_check_price {P : Program} {w : World} {K : PySem.W.Frag} {mg : Str → Option Value} {base : Heap} {f : Addr} {fd : FuncData} (F : Fun K "check_price" "check_price" s_check_price f fd) (b : Binds K fd ["price"] []) (m : mg "check_price" = some (.ref f))  : Cal P w K mg base "check_price" 1 ["price"] (sp_check_price K) :=
  ⟨f, fd, F.ok sc_check_price (fun vs H Q E h => by first | (obtain ⟨_, rfl, _⟩ := h; rfl) | (obtain ⟨_, _, rfl, _⟩ := h; rfl) | (obtain ⟨_, _, _, rfl, _⟩ := h; rfl) | (obtain ⟨_, _, _, _, rfl, _⟩ := h; rfl) | (obtain ⟨_, _, _, _, _, rfl, _⟩ := h; rfl) | (obtain ⟨_, _, _, _, _, _, rfl, _⟩ := h; rfl) | (obtain ⟨_, _, _, _, _, _, _, rfl, _⟩ := h; rfl) | (obtain ⟨_, _, _, _, _, _, _, _, rfl, _⟩ := h; rfl) | (obtain ⟨_, _, _, _, _, _, _, _, _, rfl, _⟩ := h; rfl)) (fun cdv A outer s H vs Q E hr h => unW (body_check_price (X := (cxOf CX0 P w K mg base ["price"] "check_price" (defScope s_check_price) f cdv A outer s H E).nox) ⟨rfl, rfl, rfl, PassesOwn.never⟩ hr  h)), b, F.kp, m⟩
noncomputable def cell (ns : List Int) (k : Int) : Int := ns.getD k.toNat 0
noncomputable def sp_law_at (K : PySem.W.Frag) : Sp := fun vs H Q _ => ∃ (a : Addr) (ns : List Int) (k : Int), vs = [.ref a, .int k] ∧ SqL K H a (ns.map V.int) ∧ 0 ≤ k ∧ Q (.int (cell ns k)) H
theorem cal_law_at {P : Program} {w : World} {K : PySem.W.Frag} {mg : Str → Option Value} {base : Heap} {f : Addr} {fd : FuncData} (F : Fun K "_law_at" "_law_at" s_law_at f fd) (b : Binds K fd ["_law_script", "_law_k"] []) (m : mg "_law_at" = some (.ref f)) (z_len : mg "len" = none) : Cal P w K mg base "_law_at" 1 ["_law_script", "_law_k"] (sp_law_at K) := by
  refine ⟨f, fd, F.ok sc_law_at (fun vs H Q E h => ?_) (fun cdv A outer s H vs Q E hr h => ?_), b, F.kp, m⟩
  · first | (obtain ⟨_, rfl, _⟩ := h; rfl) | (obtain ⟨_, _, rfl, _⟩ := h; rfl) | (obtain ⟨_, _, _, rfl, _⟩ := h; rfl) | (obtain ⟨_, _, _, _, rfl, _⟩ := h; rfl) | (obtain ⟨_, _, _, _, _, rfl, _⟩ := h; rfl) | (obtain ⟨_, _, _, _, _, _, rfl, _⟩ := h; rfl) | (obtain ⟨_, _, _, _, _, _, _, rfl, _⟩ := h; rfl) | (obtain ⟨_, _, _, _, _, _, _, _, rfl, _⟩ := h; rfl) | (obtain ⟨_, _, _, _, _, _, _, _, _, rfl, _⟩ := h; rfl)
  · obtain ⟨a, ns, k, rfl, hS, h0, q⟩ := h
    have hl : (ns.map V.int).length = ns.length := List.length_map _
    refine ⟨_, (pss_cons (ps_if (pt_cmpR op_lt (pv 1) (pe_callB call_len_seq rfl z_len PySem.boot_len (pa_cons (pv 0) pa_nil)) (nomark _))
      (pss_one (ps_ret (pe_ix ix_list (pv 0) (pv 1) (fun _ _ => rfl))))
      pss_nil)
      (pss_one (ps_ret pe_int))), ?_⟩
    refine ⟨_, rfl, _, rfl, a, _, rfl, .inl hS, _, _, rfl, rfl, _, rfl, ?_⟩
    refine if2 (fun c => ?_) (fun c => ?_)
    · rw [hl] at c
      have hk : k.toNat < ns.length := by omega
      have e : cell ns k = ns[k.toNat] := by unfold cell; simp [List.getD, hk]
      have hv : atI (ns.map V.int) k = some (.int (cell ns k)) := by
        have q := atI_nat (xs := ns.map V.int) (j := k.toNat) (v := .int ns[k.toNat]) (by rw [List.getElem?_map, List.getElem?_eq_getElem hk]; rfl)
        rw [show ((k.toNat : Nat) : Int) = k by omega] at q
        rw [e]; exact q
      exact ⟨_, rfl, _, rfl, a, _, _, _, rfl, rfl, hS, hv, q⟩
    · rw [hl] at c
      have e : cell ns k = 0 := by unfold cell; simp [List.getD, show ns.length ≤ k.toNat by omega]
      rw [e] at q
      exact q
noncomputable def sp_law_whole (K : PySem.W.Frag) : Sp := fun vs H Q _ => ∃ (i : Int), vs = [.int i] ∧ Q (.bl true) H
theorem cal_law_whole {P : Program} {w : World} {K : PySem.W.Frag} {mg : Str → Option Value} {base : Heap} {f : Addr} {fd : FuncData} (F : Fun K "_law_whole" "_law_whole" s_law_whole f fd) (b : Binds K fd ["_law_found"] []) (m : mg "_law_whole" = some (.ref f)) (z_isinstance : mg "isinstance" = none) (z_int : mg "int" = none) (z_bool : mg "bool" = none) : Cal P w K mg base "_law_whole" 1 ["_law_found"] (sp_law_whole K) := by
  refine ⟨f, fd, F.ok sc_law_whole (fun vs H Q E h => ?_) (fun cdv A outer s H vs Q E hr h => ?_), b, F.kp, m⟩
  · first | (obtain ⟨_, rfl, _⟩ := h; rfl) | (obtain ⟨_, _, rfl, _⟩ := h; rfl) | (obtain ⟨_, _, _, rfl, _⟩ := h; rfl) | (obtain ⟨_, _, _, _, rfl, _⟩ := h; rfl) | (obtain ⟨_, _, _, _, _, rfl, _⟩ := h; rfl) | (obtain ⟨_, _, _, _, _, _, rfl, _⟩ := h; rfl) | (obtain ⟨_, _, _, _, _, _, _, rfl, _⟩ := h; rfl) | (obtain ⟨_, _, _, _, _, _, _, _, rfl, _⟩ := h; rfl) | (obtain ⟨_, _, _, _, _, _, _, _, _, rfl, _⟩ := h; rfl)
  · obtain ⟨i, rfl, q⟩ := h
    refine ⟨_, (pss_one (ps_ret (pe_and (pe_callB call_isinst rfl z_isinstance boot_isinstance (pa_cons (pv 0) (pa_cons (pe_bltn (v := .ty "int") rfl z_int boot_ty_int rfl) pa_nil))) (pe_one (pe_not (pe_callB call_isinst rfl z_isinstance boot_isinstance (pa_cons (pv 0) (pa_cons (pe_bltn (v := .ty "bool") rfl z_bool boot_ty_bool rfl) pa_nil)))))))), ?_⟩
    refine ⟨_, rfl, _, _, _, _, rfl, TyS.int, kit_int_int, _, rfl, ?_⟩
    refine iteT ?_
    exact ⟨_, rfl, _, _, _, _, rfl, TyS.int, kit_int_bool, _, rfl, q⟩
noncomputable def sp_law_gcd (K : PySem.W.Frag) : Sp := fun vs H Q _ => ∃ (x y : Int), vs = [.int x, .int y] ∧ 0 ≤ x ∧ 0 ≤ y ∧ Q (.int ((Int.gcd x y : Nat) : Int)) H
theorem cal_law_gcd {P : Program} {w : World} {K : PySem.W.Frag} {mg : Str → Option Value} {base : Heap} {f : Addr} {fd : FuncData} (F : Fun K "_law_gcd" "_law_gcd" s_law_gcd f fd) (b : Binds K fd ["_law_one", "_law_other"] []) (m : mg "_law_gcd" = some (.ref f))  : Cal P w K mg base "_law_gcd" 1 ["_law_one", "_law_other"] (sp_law_gcd K) := by
  refine ⟨f, fd, F.ok sc_law_gcd (fun vs H Q E h => ?_) (fun cdv A outer s H vs Q E hr h => ?_), b, F.kp, m⟩
  · first | (obtain ⟨_, rfl, _⟩ := h; rfl) | (obtain ⟨_, _, rfl, _⟩ := h; rfl) | (obtain ⟨_, _, _, rfl, _⟩ := h; rfl) | (obtain ⟨_, _, _, _, rfl, _⟩ := h; rfl) | (obtain ⟨_, _, _, _, _, rfl, _⟩ := h; rfl) | (obtain ⟨_, _, _, _, _, _, rfl, _⟩ := h; rfl) | (obtain ⟨_, _, _, _, _, _, _, rfl, _⟩ := h; rfl) | (obtain ⟨_, _, _, _, _, _, _, _, rfl, _⟩ := h; rfl) | (obtain ⟨_, _, _, _, _, _, _, _, _, rfl, _⟩ := h; rfl)
  · obtain ⟨x0, y0, rfl, h1, h2, q⟩ := h
    refine ⟨_, (pss_cons (ps_while PassesOwn.never (pt_cmpR op_gt (pv 1) pe_int (nomark _))
      (pss_one (ps_par (i := 0) (j := 1) rfl sc_law_gcd.nd rfl rfl (by decide) rfl rfl (pa_cons (pv 1) (pa_cons (pe_op op_mod (pv 0) (pv 1)) pa_nil)) rfl)))
      (pss_one (ps_ret (pv 0)))), ?_⟩
    refine while_by (fun σ H' => ∃ x y , σ = [some (.int x), some (.int y)] ∧ H' = H ∧ 0 ≤ x ∧ 0 ≤ y ∧ Int.gcd x y = Int.gcd x0 y0)
      (fun σ _ => match σ with | (_ :: some (.int y) :: _) => y.toNat | _ => 0) ⟨x0, y0, rfl, rfl, h1, h2, rfl⟩ ?_ ?_
    · rintro σ H' ⟨x, y, rfl, rfl, hx, hy, hg⟩
      refine ⟨_, rfl, _, _, rfl, rfl, _, rfl, ?_⟩
      refine if2 (fun c => ?_) (fun c => ?_)
      · have hm0 := md0 (x := x) c
        have hm1 := md1 (x := x) c
        refine ⟨_, rfl, _, rfl, _, rfl, _, _, rfl, rfl, c, _, _, rfl, ?_⟩
        refine ⟨⟨y, x % y, rfl, rfl, hy, hm0, by rw [gcd_turn hx c]; exact hg⟩, ?_⟩
        show (x % y).toNat < y.toNat
        omega
      · have e := gcd_end (y := y) hx (by omega)
        rw [← hg, ← e] at q
        exact ⟨_, rfl, q⟩
    · rintro σ H' R R' hq ⟨v, e, i, j, e1, e2, k, e3, h⟩
      exact ⟨v, e, i, j, e1, e2, k, e3, hq _ _ h⟩
theorem lk_law_step_0 : (defScope s_law_step).names.lookup ("_law_cell" : Str) = some .local := by decide +kernel
theorem pv_law_step_0 {X : Cx} (c : CxIs X ["_law_cell", "_law_size", "_law_most", "_law_units", "_law_word", "_law_left", "_law_bottom", "_law_top", "_law_unit", "_law_way", "_law_pennies"] (defScope s_law_step)) {pos : Pos} : WE X (.Name "_law_cell" pos) (tVar 0) := wxv c rfl lk_law_step_0 (by decide) (by decide)
theorem lk_law_step_1 : (defScope s_law_step).names.lookup ("_law_size" : Str) = some .local := by decide +kernel
theorem pv_law_step_1 {X : Cx} (c : CxIs X ["_law_cell", "_law_size", "_law_most", "_law_units", "_law_word", "_law_left", "_law_bottom", "_law_top", "_law_unit", "_law_way", "_law_pennies"] (defScope s_law_step)) {pos : Pos} : WE X (.Name "_law_size" pos) (tVar 1) := wxv c rfl lk_law_step_1 (by decide) (by decide)
theorem lk_law_step_2 : (defScope s_law_step).names.lookup ("_law_most" : Str) = some .local := by decide +kernel
theorem pv_law_step_2 {X : Cx} (c : CxIs X ["_law_cell", "_law_size", "_law_most", "_law_units", "_law_word", "_law_left", "_law_bottom", "_law_top", "_law_unit", "_law_way", "_law_pennies"] (defScope s_law_step)) {pos : Pos} : WE X (.Name "_law_most" pos) (tVar 2) := wxv c rfl lk_law_step_2 (by decide) (by decide)
theorem ss_law_step_2 {X : Cx} (c : CxIs X ["_law_cell", "_law_size", "_law_most", "_law_units", "_law_word", "_law_left", "_law_bottom", "_law_top", "_law_unit", "_law_way", "_law_pennies"] (defScope s_law_step)) {pos pos' : Pos} {e : Expr} {te : TE} (he : WE X e te) (hs : swapsWith e (some (.Name "_law_most" pos')) pos.line X.env = pure false := by rfl) : WS X (.Assign [.Name "_law_most" pos'] e pos) (tAsg te (gN 2)) := wxs c sc_law_step.nd rfl lk_law_step_2 he hs
theorem lk_law_step_3 : (defScope s_law_step).names.lookup ("_law_units" : Str) = some .local := by decide +kernel
theorem pv_law_step_3 {X : Cx} (c : CxIs X ["_law_cell", "_law_size", "_law_most", "_law_units", "_law_word", "_law_left", "_law_bottom", "_law_top", "_law_unit", "_law_way", "_law_pennies"] (defScope s_law_step)) {pos : Pos} : WE X (.Name "_law_units" pos) (tVar 3) := wxv c rfl lk_law_step_3 (by decide) (by decide)
theorem ss_law_step_3 {X : Cx} (c : CxIs X ["_law_cell", "_law_size", "_law_most", "_law_units", "_law_word", "_law_left", "_law_bottom", "_law_top", "_law_unit", "_law_way", "_law_pennies"] (defScope s_law_step)) {pos pos' : Pos} {e : Expr} {te : TE} (he : WE X e te) (hs : swapsWith e (some (.Name "_law_units" pos')) pos.line X.env = pure false := by rfl) : WS X (.Assign [.Name "_law_units" pos'] e pos) (tAsg te (gN 3)) := wxs c sc_law_step.nd rfl lk_law_step_3 he hs
theorem lk_law_step_4 : (defScope s_law_step).names.lookup ("_law_word" : Str) = some .local := by decide +kernel
theorem pv_law_step_4 {X : Cx} (c : CxIs X ["_law_cell", "_law_size", "_law_most", "_law_units", "_law_word", "_law_left", "_law_bottom", "_law_top", "_law_unit", "_law_way", "_law_pennies"] (defScope s_law_step)) {pos : Pos} : WE X (.Name "_law_word" pos) (tVar 4) := wxv c rfl lk_law_step_4 (by decide) (by decide)
theorem ss_law_step_4 {X : Cx} (c : CxIs X ["_law_cell", "_law_size", "_law_most", "_law_units", "_law_word", "_law_left", "_law_bottom", "_law_top", "_law_unit", "_law_way", "_law_pennies"] (defScope s_law_step)) {pos pos' : Pos} {e : Expr} {te : TE} (he : WE X e te) (hs : swapsWith e (some (.Name "_law_word" pos')) pos.line X.env = pure false := by rfl) : WS X (.Assign [.Name "_law_word" pos'] e pos) (tAsg te (gN 4)) := wxs c sc_law_step.nd rfl lk_law_step_4 he hs
theorem lk_law_step_5 : (defScope s_law_step).names.lookup ("_law_left" : Str) = some .local := by decide +kernel
theorem pv_law_step_5 {X : Cx} (c : CxIs X ["_law_cell", "_law_size", "_law_most", "_law_units", "_law_word", "_law_left", "_law_bottom", "_law_top", "_law_unit", "_law_way", "_law_pennies"] (defScope s_law_step)) {pos : Pos} : WE X (.Name "_law_left" pos) (tVar 5) := wxv c rfl lk_law_step_5 (by decide) (by decide)
theorem ss_law_step_5 {X : Cx} (c : CxIs X ["_law_cell", "_law_size", "_law_most", "_law_units", "_law_word", "_law_left", "_law_bottom", "_law_top", "_law_unit", "_law_way", "_law_pennies"] (defScope s_law_step)) {pos pos' : Pos} {e : Expr} {te : TE} (he : WE X e te) (hs : swapsWith e (some (.Name "_law_left" pos')) pos.line X.env = pure false := by rfl) : WS X (.Assign [.Name "_law_left" pos'] e pos) (tAsg te (gN 5)) := wxs c sc_law_step.nd rfl lk_law_step_5 he hs
theorem lk_law_step_6 : (defScope s_law_step).names.lookup ("_law_bottom" : Str) = some .local := by decide +kernel
theorem pv_law_step_6 {X : Cx} (c : CxIs X ["_law_cell", "_law_size", "_law_most", "_law_units", "_law_word", "_law_left", "_law_bottom", "_law_top", "_law_unit", "_law_way", "_law_pennies"] (defScope s_law_step)) {pos : Pos} : WE X (.Name "_law_bottom" pos) (tVar 6) := wxv c rfl lk_law_step_6 (by decide) (by decide)
theorem ss_law_step_6 {X : Cx} (c : CxIs X ["_law_cell", "_law_size", "_law_most", "_law_units", "_law_word", "_law_left", "_law_bottom", "_law_top", "_law_unit", "_law_way", "_law_pennies"] (defScope s_law_step)) {pos pos' : Pos} {e : Expr} {te : TE} (he : WE X e te) (hs : swapsWith e (some (.Name "_law_bottom" pos')) pos.line X.env = pure false := by rfl) : WS X (.Assign [.Name "_law_bottom" pos'] e pos) (tAsg te (gN 6)) := wxs c sc_law_step.nd rfl lk_law_step_6 he hs
theorem lk_law_step_7 : (defScope s_law_step).names.lookup ("_law_top" : Str) = some .local := by decide +kernel
theorem pv_law_step_7 {X : Cx} (c : CxIs X ["_law_cell", "_law_size", "_law_most", "_law_units", "_law_word", "_law_left", "_law_bottom", "_law_top", "_law_unit", "_law_way", "_law_pennies"] (defScope s_law_step)) {pos : Pos} : WE X (.Name "_law_top" pos) (tVar 7) := wxv c rfl lk_law_step_7 (by decide) (by decide)
theorem ss_law_step_7 {X : Cx} (c : CxIs X ["_law_cell", "_law_size", "_law_most", "_law_units", "_law_word", "_law_left", "_law_bottom", "_law_top", "_law_unit", "_law_way", "_law_pennies"] (defScope s_law_step)) {pos pos' : Pos} {e : Expr} {te : TE} (he : WE X e te) (hs : swapsWith e (some (.Name "_law_top" pos')) pos.line X.env = pure false := by rfl) : WS X (.Assign [.Name "_law_top" pos'] e pos) (tAsg te (gN 7)) := wxs c sc_law_step.nd rfl lk_law_step_7 he hs
theorem lk_law_step_8 : (defScope s_law_step).names.lookup ("_law_unit" : Str) = some .local := by decide +kernel
theorem pv_law_step_8 {X : Cx} (c : CxIs X ["_law_cell", "_law_size", "_law_most", "_law_units", "_law_word", "_law_left", "_law_bottom", "_law_top", "_law_unit", "_law_way", "_law_pennies"] (defScope s_law_step)) {pos : Pos} : WE X (.Name "_law_unit" pos) (tVar 8) := wxv c rfl lk_law_step_8 (by decide) (by decide)
theorem ss_law_step_8 {X : Cx} (c : CxIs X ["_law_cell", "_law_size", "_law_most", "_law_units", "_law_word", "_law_left", "_law_bottom", "_law_top", "_law_unit", "_law_way", "_law_pennies"] (defScope s_law_step)) {pos pos' : Pos} {e : Expr} {te : TE} (he : WE X e te) (hs : swapsWith e (some (.Name "_law_unit" pos')) pos.line X.env = pure false := by rfl) : WS X (.Assign [.Name "_law_unit" pos'] e pos) (tAsg te (gN 8)) := wxs c sc_law_step.nd rfl lk_law_step_8 he hs
theorem lk_law_step_9 : (defScope s_law_step).names.lookup ("_law_way" : Str) = some .local := by decide +kernel
theorem pv_law_step_9 {X : Cx} (c : CxIs X ["_law_cell", "_law_size", "_law_most", "_law_units", "_law_word", "_law_left", "_law_bottom", "_law_top", "_law_unit", "_law_way", "_law_pennies"] (defScope s_law_step)) {pos : Pos} : WE X (.Name "_law_way" pos) (tVar 9) := wxv c rfl lk_law_step_9 (by decide) (by decide)
theorem ss_law_step_9 {X : Cx} (c : CxIs X ["_law_cell", "_law_size", "_law_most", "_law_units", "_law_word", "_law_left", "_law_bottom", "_law_top", "_law_unit", "_law_way", "_law_pennies"] (defScope s_law_step)) {pos pos' : Pos} {e : Expr} {te : TE} (he : WE X e te) (hs : swapsWith e (some (.Name "_law_way" pos')) pos.line X.env = pure false := by rfl) : WS X (.Assign [.Name "_law_way" pos'] e pos) (tAsg te (gN 9)) := wxs c sc_law_step.nd rfl lk_law_step_9 he hs
theorem lk_law_step_10 : (defScope s_law_step).names.lookup ("_law_pennies" : Str) = some .local := by decide +kernel
theorem pv_law_step_10 {X : Cx} (c : CxIs X ["_law_cell", "_law_size", "_law_most", "_law_units", "_law_word", "_law_left", "_law_bottom", "_law_top", "_law_unit", "_law_way", "_law_pennies"] (defScope s_law_step)) {pos : Pos} : WE X (.Name "_law_pennies" pos) (tVar 10) := wxv c rfl lk_law_step_10 (by decide) (by decide)
theorem ss_law_step_10 {X : Cx} (c : CxIs X ["_law_cell", "_law_size", "_law_most", "_law_units", "_law_word", "_law_left", "_law_bottom", "_law_top", "_law_unit", "_law_way", "_law_pennies"] (defScope s_law_step)) {pos pos' : Pos} {e : Expr} {te : TE} (he : WE X e te) (hs : swapsWith e (some (.Name "_law_pennies" pos')) pos.line X.env = pure false := by rfl) : WS X (.Assign [.Name "_law_pennies" pos'] e pos) (tAsg te (gN 10)) := wxs c sc_law_step.nd rfl lk_law_step_10 he hs
theorem st_law_step (v0 v1 : V) : L2.start ["_law_cell", "_law_size", "_law_most", "_law_units", "_law_word", "_law_left", "_law_bottom", "_law_top", "_law_unit", "_law_way", "_law_pennies"] [v0, v1] = [some v0, some v1, none, none, none, none, none, none, none, none, none] := rfl
noncomputable def sp_law_step (K : PySem.W.Frag) : Sp := fun vs H Q _ => ∃ (cell size : Int), vs = [.int cell, .int size] ∧ 0 ≤ size ∧ size < 4 ∧ ∀ p (st : StepD) H', Same H H' → SqT K H' p st.vals → st.Ok → Q (.ref p) H'
theorem body_law_step {X : Cx} (c : CxIs X ["_law_cell", "_law_size", "_law_most", "_law_units", "_law_word", "_law_left", "_law_bottom", "_law_top", "_law_unit", "_law_way", "_law_pennies"] (defScope s_law_step)) (hr : Room 0 X.A) {E : XK}   {vs : List V} {H : Hp} {Q : VK} (h : sp_law_step X.K vs H Q E) : ∃ t, WSs X (defBody s_law_step) t ∧ t { nx := fun _ H' => Q .non H', rt := Q } (L2.start ["_law_cell", "_law_size", "_law_most", "_law_units", "_law_word", "_law_left", "_law_bottom", "_law_top", "_law_unit", "_law_way", "_law_pennies"] vs) H := by
  · obtain ⟨cell, size, rfl, h0, h1, q⟩ := h
    refine ⟨_, (wss_cons (ss_law_step_2 c (we_ix ix_list (we_lstO (wa_cons we_int (wa_cons we_int (wa_cons we_int (wa_cons we_int wa_nil star_Constant) star_Constant) star_Constant) star_Constant)) (pv_law_step_1 c) plain_Name))
      (wss_cons (ss_law_step_3 c (we_ix ix_list (we_lstO (wa_cons we_int (wa_cons we_int (wa_cons we_int (wa_cons we_int wa_nil star_Constant) star_Constant) star_Constant) star_Constant)) (pv_law_step_1 c) plain_Name))
      (wss_cons (ss_law_step_4 c (we_ix ix_list (we_lstO (wa_cons we_str (wa_cons we_str (wa_cons we_str wa_nil star_Constant) star_Constant) star_Constant)) (we_op op_mod (pv_law_step_0 c) we_int) plain_BinOp))
      (wss_cons (ss_law_step_5 c (we_op op_fdivB (pv_law_step_0 c) we_int))
      (wss_cons (ss_law_step_6 c (we_op op_add we_int (we_op op_mod (pv_law_step_5 c) (pv_law_step_2 c))))
      (wss_cons (ss_law_step_5 c (we_op op_fdivB (pv_law_step_5 c) (pv_law_step_2 c)))
      (wss_cons (ss_law_step_7 c (we_op op_add we_int (we_op op_mod (pv_law_step_5 c) (pv_law_step_2 c))))
      (wss_cons (ss_law_step_5 c (we_op op_fdivB (pv_law_step_5 c) (pv_law_step_2 c)))
      (wss_cons (ss_law_step_8 c (we_op op_add we_int (we_op op_mod (pv_law_step_5 c) (pv_law_step_3 c))))
      (wss_cons (ss_law_step_5 c (we_op op_fdivB (pv_law_step_5 c) (pv_law_step_3 c)))
      (wss_cons (ss_law_step_9 c (we_ix ix_list (we_lstO (wa_cons we_str (wa_cons we_str (wa_cons we_str wa_nil star_Constant) star_Constant) star_Constant)) (we_op op_mod (pv_law_step_5 c) we_int) plain_BinOp))
      (wss_cons (ss_law_step_5 c (we_op op_fdivB (pv_law_step_5 c) we_int))
      (wss_cons (ss_law_step_10 c (we_ix ix_list (we_lstO (wa_cons we_int (wa_cons (we_op op_mod (we_op op_fdivB (pv_law_step_5 c) we_int) (we_ix ix_list (we_lstO (wa_cons we_int (wa_cons we_int (wa_cons we_int (wa_cons (we_op op_add (we_op op_pow we_int we_int) we_int) wa_nil star_BinOp) star_Constant) star_Constant) star_Constant)) (pv_law_step_1 c) plain_Name)) wa_nil star_BinOp) star_Constant)) (we_op op_mod (pv_law_step_5 c) we_int) plain_BinOp))
      (wss_cons (ws_if (WW.pt (ww_and (wt_cmpR op_eq (pv_law_step_4 c) we_str (nomark _)) (ww_and1 (wt_cmpR op_eq (pv_law_step_6 c) we_int (nomark _)))))
      (wss_one (ss_law_step_4 c we_str))
      wss_nil)
      (wss_cons (ws_if (wt_cmpR op_eq (pv_law_step_4 c) we_str (nomark _))
      (wss_one (ss_law_step_7 c (we_op op_add we_int (we_op op_mod (we_op op_sub (pv_law_step_7 c) we_int) (we_op op_sub (pv_law_step_6 c) we_int)))))
      wss_nil)
      (wss_one (ws_ret (we_tupO (wa_cons (pv_law_step_4 c) (wa_cons (pv_law_step_7 c) (wa_cons (pv_law_step_6 c) (wa_cons (pv_law_step_10 c) (wa_cons (pv_law_step_9 c) (wa_cons (pv_law_step_8 c) wa_nil star_Name) star_Name) star_Name) star_Name) star_Name) star_Name))))))))))))))))))), ?_⟩
    rw [st_law_step]
    have dv3 : ∀ z : Int, CDivB z 3 := fun _ => ⟨by decide, by decide +kernel⟩
    refine ⟨(small' (by decide)), fun p1 H1 _ s1 f1 => ?_⟩
    refine ⟨_, rfl, p1, _, _, _, rfl, rfl, SqL.of f1, at4i h0 h1, fun σ e => ?_⟩
    have hm := pick4_of (P := fun z : Int => 1 ≤ z ∧ z ≤ 100) (i := size) (a := 4) (b := 12) (c := 100) (d := 100) (by decide) (by decide) (by decide) (by decide)
    dsimp only [List.set] at e
    generalize pick4 size (4 : Int) 12 100 100 = most at hm e
    subst e
    refine ⟨(small' (by decide)), fun p2 H2 _ t2 f2 => ?_⟩
    have s2 := s1.trans t2
    refine ⟨_, rfl, p2, _, _, _, rfl, rfl, SqL.of f2, at4i h0 h1, fun σ e => ?_⟩
    have hu := pick4_of (P := fun z : Int => 1 ≤ z ∧ z ≤ 100) (i := size) (a := 3) (b := 10) (c := 100) (d := 100) (by decide) (by decide) (by decide) (by decide)
    dsimp only [List.set] at e
    generalize pick4 size (3 : Int) 10 100 100 = units at hu e
    subst e
    refine ⟨(small' (by decide)), fun p3 H3 _ t3 f3 => ?_⟩
    have s3 := s2.trans t3
    refine ⟨_, rfl, _, _, rfl, rfl, (by decide : (0 : Int) < 3), p3, _, _, _, rfl, rfl, SqL.of f3, at3s (md0 (by decide)) (md1 (by decide)), fun σ e => ?_⟩
    have hw := pick3_of (P := fun z => z = Str.ofString "times" ∨ z = Str.ofString "add" ∨ z = Str.ofString "off") (i := cell % 3) (.inl rfl) (.inr (.inl rfl)) (.inr (.inr rfl))
    dsimp only [List.set] at e
    generalize pick3 (cell % 3) (Str.ofString "times") (Str.ofString "add") (Str.ofString "off") = word at hw e
    subst e
    refine ⟨_, rfl, _, _, rfl, rfl, dv3 _, fun σ e => ?_⟩
    dsimp only [List.set] at e
    generalize cell / 3 = l1 at e
    subst e
    refine ⟨_, rfl, _, rfl, _, _, rfl, rfl, (show 0 < most by omega), _, _, rfl, rfl, fun σ e => ?_⟩
    have b0 := md0 (x := l1) (n := most) (by omega)
    have b1 := md1 (x := l1) (n := most) (by omega)
    dsimp only [List.set] at e
    generalize l1 % most = bot at b0 b1 e
    subst e
    refine ⟨_, rfl, _, rfl, _, _, rfl, rfl, ⟨by omega, by omega⟩, fun σ e => ?_⟩
    dsimp only [List.set] at e
    generalize l1 / most = l2 at e
    subst e
    refine ⟨_, rfl, _, rfl, _, _, rfl, rfl, (show 0 < most by omega), _, _, rfl, rfl, fun σ e => ?_⟩
    have t0 := md0 (x := l2) (n := most) (by omega)
    have t1 := md1 (x := l2) (n := most) (by omega)
    dsimp only [List.set] at e
    generalize l2 % most = top' at t0 t1 e
    subst e
    refine ⟨_, rfl, _, rfl, _, _, rfl, rfl, ⟨by omega, by omega⟩, fun σ e => ?_⟩
    dsimp only [List.set] at e
    generalize l2 / most = l3 at e
    subst e
    refine ⟨_, rfl, _, rfl, _, _, rfl, rfl, (show 0 < units by omega), _, _, rfl, rfl, fun σ e => ?_⟩
    have u0 := md0 (x := l3) (n := units) (by omega)
    have u1 := md1 (x := l3) (n := units) (by omega)
    dsimp only [List.set] at e
    generalize l3 % units = un at u0 u1 e
    subst e
    refine ⟨_, rfl, _, rfl, _, _, rfl, rfl, ⟨by omega, by omega⟩, fun σ e => ?_⟩
    dsimp only [List.set] at e
    generalize l3 / units = l4 at e
    subst e
    refine ⟨(small' (by decide)), fun p4 H4 _ t4 f4 => ?_⟩
    have s4 := s3.trans t4
    refine ⟨_, rfl, _, _, rfl, rfl, (by decide : (0 : Int) < 3), p4, _, _, _, rfl, rfl, SqL.of f4, at3s (md0 (by decide)) (md1 (by decide)), fun σ e => ?_⟩
    have hy := pick3_of (P := fun z => z = Str.ofString "down" ∨ z = Str.ofString "up" ∨ z = Str.ofString "near") (i := l4 % 3) (.inl rfl) (.inr (.inl rfl)) (.inr (.inr rfl))
    dsimp only [List.set] at e
    generalize pick3 (l4 % 3) (Str.ofString "down") (Str.ofString "up") (Str.ofString "near") = way at hy e
    subst e
    refine ⟨_, rfl, _, _, rfl, rfl, dv3 _, fun σ e => ?_⟩
    dsimp only [List.set] at e
    generalize l4 / 3 = l5 at e
    subst e
    refine ⟨_, rfl, _, _, rfl, rfl, ⟨by decide, by decide +kernel⟩, _, _, rfl, rfl, ⟨by decide, by decide, by decide⟩, _, _, rfl, rfl, (small' (by decide)), fun p5 H5 _ t5 f5 => ?_⟩
    have s5 := s4.trans t5
    have hp := pick4_of (P := fun z : Int => 1 ≤ z ∧ z ≤ 10 ^ 30 + 1) (i := size) (a := 6) (b := 60) (c := 1000) (d := 10 ^ Int.toNat 30 + 1) (by decide) (by decide) (by decide) (by decide)
    refine ⟨_, rfl, p5, _, _, _, rfl, rfl, SqL.of f5, at4i h0 h1, _, _, rfl, rfl, Int.lt_of_lt_of_le (by decide) hp.1, (small' (by show 2 ≤ 1000; decide)), fun p6 H6 _ t6 f6 => ?_⟩
    have g0 := md0 (x := l5 / 2) (n := pick4 size (6 : Int) 60 1000 (10 ^ Int.toNat 30 + 1)) (by omega)
    have g1 := md1 (x := l5 / 2) (n := pick4 size (6 : Int) 60 1000 (10 ^ Int.toNat 30 + 1)) (by omega)
    have s6 := s5.trans t6
    refine ⟨_, rfl, _, _, rfl, rfl, (by decide : (0 : Int) < 2), p6, _, _, _, rfl, rfl, SqL.of f6, at2i (md0 (by decide)) (md1 (by decide)), fun σ e => ?_⟩
    have hpen := pick2_of (P := fun z : Int => 0 ≤ z ∧ z ≤ 10 ^ 30) (i := l5 % 2) (a := 0) (b := l5 / 2 % pick4 size (6 : Int) 60 1000 (10 ^ Int.toNat 30 + 1)) (by decide) ⟨g0, by omega⟩
    dsimp only [List.set] at e
    generalize pick2 (l5 % 2) (0 : Int) (l5 / 2 % pick4 size (6 : Int) 60 1000 (10 ^ Int.toNat 30 + 1)) = pen at hpen e
    subst e
    have key : ∀ (x : Str) (n : Int), (x = "times" ∨ x = "add" ∨ x = "off") → 1 ≤ n → n ≤ 100 → (x = "off" → n < 1 + bot) → StepD.Ok ⟨x, n, 1 + bot, pen, way, 1 + un⟩ := fun x n h1 h2 h3 h4 => ⟨h1, h2, h3, by dsimp only; omega, by dsimp only; omega, h4, hpen.1, hpen.2, hy, by dsimp only; omega, by dsimp only; omega⟩
    refine ⟨_, rfl, rfl, _, rfl, ?_⟩
    refine if2 (fun c => ?_) (fun c => ?_)
    · have c' : word = "off" := V.str.inj c
      refine ⟨_, rfl, rfl, _, rfl, ?_⟩
      refine if2 (fun d => ?_) (fun d => ?_)
      · intro σ e
        dsimp only [List.set] at e
        subst e
        refine ⟨_, rfl, rfl, _, rfl, ?_⟩
        refine ifF (by decide) ?_
        refine ⟨_, rfl, _, rfl, _, rfl, _, rfl, _, rfl, _, rfl, (small' (by show 6 ≤ 1000; decide)), fun p7 H7 _ t7 f7 => ?_⟩
        exact q p7 ⟨_, _, _, _, _, _⟩ _ (s6.trans t7) (SqT.of f7) (key _ _ (.inl rfl) (by omega) (by omega) (fun z => absurd z (by decide)))
      · have d' := of_not_int d
        refine ⟨_, rfl, rfl, _, rfl, ?_⟩
        refine ifT c ?_
        have w0 := md0 (x := 1 + top' - 1) (n := 1 + bot - 1) (by omega)
        have w1 := md1 (x := 1 + top' - 1) (n := 1 + bot - 1) (by omega)
        refine ⟨_, rfl, _, _, rfl, rfl, _, rfl, _, _, rfl, rfl, _, _, rfl, rfl, (show 0 < 1 + bot - 1 by omega), _, _, rfl, rfl, fun σ e => ?_⟩
        dsimp only [List.set] at e
        subst e
        refine ⟨_, rfl, _, rfl, _, rfl, _, rfl, _, rfl, _, rfl, (small' (by show 6 ≤ 1000; decide)), fun p7 H7 _ t7 f7 => ?_⟩
        exact q p7 ⟨_, _, _, _, _, _⟩ _ (s6.trans t7) (SqT.of f7) (key _ _ hw (by omega) (by omega) (fun _ => by omega))
    · refine ⟨_, rfl, rfl, _, rfl, ?_⟩
      refine ifF c ?_
      refine ⟨_, rfl, _, rfl, _, rfl, _, rfl, _, rfl, _, rfl, (small' (by show 6 ≤ 1000; decide)), fun p7 H7 _ t7 f7 => ?_⟩
      exact q p7 ⟨_, _, _, _, _, _⟩ _ (s6.trans t7) (SqT.of f7) (key _ _ hw (by omega) (by omega) (fun z => absurd (by rw [z]) c))
theorem cal_law_step {P : Program} {w : World} {K : PySem.W.Frag} {mg : Str → Option Value} {base : Heap} {f : Addr} {fd : FuncData} (F : Fun K "_law_step" "_law_step" s_law_step f fd) (b : Binds K fd ["_law_cell", "_law_size"] []) (m : mg "_law_step" = some (.ref f))  : Cal P w K mg base "_law_step" 1 ["_law_cell", "_law_size"] (sp_law_step K) :=
  ⟨f, fd, F.ok sc_law_step (fun vs H Q E h => by first | (obtain ⟨_, rfl, _⟩ := h; rfl) | (obtain ⟨_, _, rfl, _⟩ := h; rfl) | (obtain ⟨_, _, _, rfl, _⟩ := h; rfl) | (obtain ⟨_, _, _, _, rfl, _⟩ := h; rfl) | (obtain ⟨_, _, _, _, _, rfl, _⟩ := h; rfl) | (obtain ⟨_, _, _, _, _, _, rfl, _⟩ := h; rfl) | (obtain ⟨_, _, _, _, _, _, _, rfl, _⟩ := h; rfl) | (obtain ⟨_, _, _, _, _, _, _, _, rfl, _⟩ := h; rfl) | (obtain ⟨_, _, _, _, _, _, _, _, _, rfl, _⟩ := h; rfl)) (fun cdv A outer s H vs Q E hr h => unW (body_law_step (X := (cxOf CX0 P w K mg base ["_law_cell", "_law_size", "_law_most", "_law_units", "_law_word", "_law_left", "_law_bottom", "_law_top", "_law_unit", "_law_way", "_law_pennies"] "_law_step" (defScope s_law_step) f cdv A outer s H E).nox) ⟨rfl, rfl, rfl, PassesOwn.never⟩ hr  h)), b, F.kp, m⟩
noncomputable def sp_law_num (K : PySem.W.Frag) : Sp := fun vs H Q _ => ∃ (a : Addr) (st : StepD), vs = [.ref a] ∧ SqT K H a st.vals ∧ Q (.int st.num) H
theorem cal_law_num {P : Program} {w : World} {K : PySem.W.Frag} {mg : Str → Option Value} {base : Heap} {f : Addr} {fd : FuncData} (F : Fun K "_law_num" "_law_num" s_law_num f fd) (b : Binds K fd ["_law_step_here"] []) (m : mg "_law_num" = some (.ref f))  : Cal P w K mg base "_law_num" 1 ["_law_step_here"] (sp_law_num K) := by
  refine ⟨f, fd, F.ok sc_law_num (fun vs H Q E h => ?_) (fun cdv A outer s H vs Q E hr h => ?_), b, F.kp, m⟩
  · first | (obtain ⟨_, rfl, _⟩ := h; rfl) | (obtain ⟨_, _, rfl, _⟩ := h; rfl) | (obtain ⟨_, _, _, rfl, _⟩ := h; rfl) | (obtain ⟨_, _, _, _, rfl, _⟩ := h; rfl) | (obtain ⟨_, _, _, _, _, rfl, _⟩ := h; rfl) | (obtain ⟨_, _, _, _, _, _, rfl, _⟩ := h; rfl) | (obtain ⟨_, _, _, _, _, _, _, rfl, _⟩ := h; rfl) | (obtain ⟨_, _, _, _, _, _, _, _, rfl, _⟩ := h; rfl) | (obtain ⟨_, _, _, _, _, _, _, _, _, rfl, _⟩ := h; rfl)
  · obtain ⟨a, st, rfl, hT, q⟩ := h
    refine ⟨_, (pss_cons (ps_if (pt_cmpR op_eq (pe_ix ix_tup (pv 0) pe_int (fun _ _ => rfl)) pe_str (nomark _))
      (pss_one (ps_ret (pe_op op_add (pe_ix ix_tup (pv 0) pe_int (fun _ _ => rfl)) (pe_ix ix_tup (pv 0) pe_int (fun _ _ => rfl)))))
      pss_nil)
      (pss_cons (ps_if (pt_cmpR op_eq (pe_ix ix_tup (pv 0) pe_int (fun _ _ => rfl)) pe_str (nomark _))
      (pss_one (ps_ret (pe_op op_sub (pe_ix ix_tup (pv 0) pe_int (fun _ _ => rfl)) (pe_ix ix_tup (pv 0) pe_int (fun _ _ => rfl)))))
      pss_nil)
      (pss_one (ps_ret (pe_ix ix_tup (pv 0) pe_int (fun _ _ => rfl)))))), ?_⟩
    refine ⟨_, rfl, a, _, _, _, rfl, rfl, hT, rfl, rfl, _, rfl, ?_⟩
    refine if2 (fun c => ?_) (fun c => ?_)
    · have e : st.num = st.d + st.n := if_pos (V.str.inj c)
      rw [e] at q
      exact ⟨_, rfl, a, _, _, _, rfl, rfl, hT, rfl, _, rfl, a, _, _, _, rfl, rfl, hT, rfl, _, _, rfl, rfl, q⟩
    have c' : ¬ st.w = "add" := fun z => c (by rw [z])
    refine ⟨_, rfl, a, _, _, _, rfl, rfl, hT, rfl, rfl, _, rfl, ?_⟩
    refine if2 (fun c2 => ?_) (fun c2 => ?_)
    · have e : st.num = st.d - st.n := by unfold StepD.num; rw [if_neg c', if_pos (V.str.inj c2)]
      rw [e] at q
      exact ⟨_, rfl, a, _, _, _, rfl, rfl, hT, rfl, _, rfl, a, _, _, _, rfl, rfl, hT, rfl, _, _, rfl, rfl, q⟩
    · have c2' : ¬ st.w = "off" := fun z => c2 (by rw [z])
      have e : st.num = st.n := by unfold StepD.num; rw [if_neg c', if_neg c2']
      rw [e] at q
      exact ⟨_, rfl, a, _, _, _, rfl, rfl, hT, rfl, q⟩
noncomputable def sp_law_price (K : PySem.W.Frag) : Sp := fun vs H Q _ => ∃ (cell : Int), vs = [.int cell] ∧ Builtin.Int.intBits cell ≤ 1048576 ∧ ∀ z : Int, 0 ≤ z → z ≤ 10 ^ 30 → Q (.int z) H
theorem cal_law_price {P : Program} {w : World} {K : PySem.W.Frag} {mg : Str → Option Value} {base : Heap} {f : Addr} {fd : FuncData} (F : Fun K "_law_price" "_law_price" s_law_price f fd) (b : Binds K fd ["_law_cell"] []) (m : mg "_law_price" = some (.ref f))  : Cal P w K mg base "_law_price" 1 ["_law_cell"] (sp_law_price K) := by
  refine ⟨f, fd, F.ok sc_law_price (fun vs H Q E h => ?_) (fun cdv A outer s H vs Q E hr h => ?_), b, F.kp, m⟩
  · first | (obtain ⟨_, rfl, _⟩ := h; rfl) | (obtain ⟨_, _, rfl, _⟩ := h; rfl) | (obtain ⟨_, _, _, rfl, _⟩ := h; rfl) | (obtain ⟨_, _, _, _, rfl, _⟩ := h; rfl) | (obtain ⟨_, _, _, _, _, rfl, _⟩ := h; rfl) | (obtain ⟨_, _, _, _, _, _, rfl, _⟩ := h; rfl) | (obtain ⟨_, _, _, _, _, _, _, rfl, _⟩ := h; rfl) | (obtain ⟨_, _, _, _, _, _, _, _, rfl, _⟩ := h; rfl) | (obtain ⟨_, _, _, _, _, _, _, _, _, rfl, _⟩ := h; rfl)
  · obtain ⟨cell, rfl, hb, q⟩ := h
    refine ⟨_, (pss_cons (ps_set (i := 1) sc_law_price.nd rfl (Or.inl rfl) (pe_op op_fdivB (pv 0) pe_int))
      (pss_cons (ps_if (pt_cmpR op_eq (pe_op op_mod (pv 0) pe_int) pe_int (nomark _))
      (pss_one (ps_ret (pe_op op_mod (pv 1) pe_int)))
      pss_nil)
      (pss_cons (ps_if (pt_cmpR op_eq (pe_op op_mod (pv 0) pe_int) pe_int (nomark _))
      (pss_one (ps_ret (pe_op op_mod (pv 1) pe_int)))
      pss_nil)
      (pss_cons (ps_if (pt_cmpR op_eq (pe_op op_mod (pv 0) pe_int) pe_int (nomark _))
      (pss_one (ps_ret (pe_op op_sub (pe_op op_pow pe_int pe_int) (pe_op op_mod (pv 1) pe_int))))
      pss_nil)
      (pss_cons (ps_if (pt_cmpR op_eq (pe_op op_mod (pv 0) pe_int) pe_int (nomark _))
      (pss_one (ps_ret (pe_op op_mod (pe_op op_mulB (pv 1) pe_int) (pe_op op_add (pe_op op_pow pe_int pe_int) pe_int))))
      pss_nil)
      (pss_one (ps_ret (pe_op op_mod (pv 1) (pe_op op_add (pe_op op_pow pe_int pe_int) pe_int))))))))), ?_⟩
    have e3 : (10 : Int) ^ Int.toNat 30 + 1 = 10 ^ 30 + 1 := by decide
    have e4 : (10 : Int) ^ Int.toNat 30 = 10 ^ 30 := by decide
    have p5 : (0 : Int) < 5 := by decide
    refine ⟨_, rfl, _, _, rfl, rfl, ⟨by decide, by decide +kernel⟩, ?_⟩
    refine ⟨_, rfl, _, _, rfl, rfl, p5, rfl, _, rfl, ?_⟩
    refine if2 (fun c => ?_) (fun c => ?_)
    · exact ⟨_, rfl, _, _, rfl, rfl, (by decide : (0 : Int) < 100), q _ (by omega) (by omega)⟩
    refine ⟨_, rfl, _, _, rfl, rfl, p5, rfl, _, rfl, ?_⟩
    refine if2 (fun c => ?_) (fun c => ?_)
    · exact ⟨_, rfl, _, _, rfl, rfl, (by decide : (0 : Int) < 20000), q _ (by omega) (by omega)⟩
    refine ⟨_, rfl, _, _, rfl, rfl, p5, rfl, _, rfl, ?_⟩
    refine if2 (fun c => ?_) (fun c => ?_)
    · exact ⟨_, _, rfl, rfl, ⟨by decide, by decide, by decide⟩, _, rfl, _, _, rfl, rfl, (by decide : (0 : Int) < 100), _, _, rfl, rfl, q _ (by omega) (by omega)⟩
    refine ⟨_, rfl, _, _, rfl, rfl, p5, rfl, _, rfl, ?_⟩
    have hp : (0 : Int) < 10 ^ Int.toNat 30 + 1 := by decide
    refine if2 (fun c => ?_) (fun c => ?_)
    · have hm : CMulB (cell / 5) 465661287307739257812 := mul_bits (Nat.le_trans (Nat.add_le_add (bits_div p5 hb) (show Builtin.Int.intBits 465661287307739257812 ≤ 100 by decide)) (by decide))
      have m0 := md0 (x := cell / 5 * 465661287307739257812) hp
      have m1 := md1 (x := cell / 5 * 465661287307739257812) hp
      exact ⟨_, rfl, _, _, rfl, rfl, hm, _, _, rfl, rfl, ⟨by decide, by decide, by decide⟩, _, _, rfl, rfl, _, _, rfl, rfl, hp, q _ m0 (by omega)⟩
    · have m0 := md0 (x := cell / 5) hp
      have m1 := md1 (x := cell / 5) hp
      exact ⟨_, rfl, _, _, rfl, rfl, ⟨by decide, by decide, by decide⟩, _, _, rfl, rfl, _, _, rfl, rfl, hp, q _ m0 (by omega)⟩
theorem lk_law_last_0 : (defScope s_law_last).names.lookup ("_law_cell" : Str) = some .local := by decide +kernel
theorem pv_law_last_0 {X : Cx} (c : CxIs X ["_law_cell", "_law_way"] (defScope s_law_last)) {pos : Pos} : WE X (.Name "_law_cell" pos) (tVar 0) := wxv c rfl lk_law_last_0 (by decide) (by decide)
theorem lk_law_last_1 : (defScope s_law_last).names.lookup ("_law_way" : Str) = some .local := by decide +kernel
theorem pv_law_last_1 {X : Cx} (c : CxIs X ["_law_cell", "_law_way"] (defScope s_law_last)) {pos : Pos} : WE X (.Name "_law_way" pos) (tVar 1) := wxv c rfl lk_law_last_1 (by decide) (by decide)
theorem ss_law_last_1 {X : Cx} (c : CxIs X ["_law_cell", "_law_way"] (defScope s_law_last)) {pos pos' : Pos} {e : Expr} {te : TE} (he : WE X e te) (hs : swapsWith e (some (.Name "_law_way" pos')) pos.line X.env = pure false := by rfl) : WS X (.Assign [.Name "_law_way" pos'] e pos) (tAsg te (gN 1)) := wxs c sc_law_last.nd rfl lk_law_last_1 he hs
theorem st_law_last (v0 : V) : L2.start ["_law_cell", "_law_way"] [v0] = [some v0, none] := rfl
noncomputable def sp_law_last (K : PySem.W.Frag) : Sp := fun vs H Q _ => ∃ (cell : Int), vs = [.int cell] ∧ ∀ p st H', Same H H' → SqT K H' p (StepD.vals st) → st.Ok → Q (.ref p) H'
theorem body_law_last {X : Cx} (c : CxIs X ["_law_cell", "_law_way"] (defScope s_law_last)) (hr : Room 0 X.A) {E : XK}   {vs : List V} {H : Hp} {Q : VK} (h : sp_law_last X.K vs H Q E) : ∃ t, WSs X (defBody s_law_last) t ∧ t { nx := fun _ H' => Q .non H', rt := Q } (L2.start ["_law_cell", "_law_way"] vs) H := by
  · obtain ⟨cell, rfl, q⟩ := h
    refine ⟨_, (wss_cons (ss_law_last_1 c (we_ix ix_list (we_lstO (wa_cons we_str (wa_cons we_str (wa_cons we_str wa_nil star_Constant) star_Constant) star_Constant)) (we_op op_mod (we_op op_fdivB (pv_law_last_0 c) we_int) we_int) plain_BinOp))
      (wss_one (ws_ret (we_tupO (wa_cons we_str (wa_cons (we_op op_add we_int (we_op op_mod (pv_law_last_0 c) we_int)) (wa_cons we_int (wa_cons (we_op op_mod (we_op op_fdivB (pv_law_last_0 c) we_int) we_int) (wa_cons (pv_law_last_1 c) (wa_cons (we_op op_add we_int (we_op op_mod (we_op op_fdivB (pv_law_last_0 c) we_int) we_int)) wa_nil star_BinOp) star_Name) star_BinOp) star_Constant) star_BinOp) star_Constant))))), ?_⟩
    rw [st_law_last]
    refine ⟨(small' (by decide)), fun p1 H1 _ s1 f1 => ?_⟩
    refine ⟨_, rfl, _, _, rfl, rfl, ⟨by decide, by decide⟩, _, _, rfl, rfl, (by decide : (0 : Int) < 3), p1, _, _, _, rfl, rfl, SqL.of f1, at3s (md0 (by decide)) (md1 (by decide)), fun σ e => ?_⟩
    dsimp only [List.set] at e
    have hy := pick3_of (P := fun z : Str => z = "down" ∨ z = "up" ∨ z = "near") (i := cell / 120 % 3) (a := "down") (b := "up") (c := "near") (.inl rfl) (.inr (.inl rfl)) (.inr (.inr rfl))
    generalize pick3 (cell / 120 % 3) ("down" : Str) "up" "near" = y at e hy
    subst e
    have a0 := md0 (x := cell) (n := 3) (by decide)
    have a1 := md1 (x := cell) (n := 3) (by decide)
    have b0 := md0 (x := cell / 3) (n := 40) (by decide)
    have b1 := md1 (x := cell / 3) (n := 40) (by decide)
    have c0 := md0 (x := cell / 360) (n := 40) (by decide)
    have c1 := md1 (x := cell / 360) (n := 40) (by decide)
    refine ⟨_, rfl, _, _, rfl, rfl, (by decide : (0 : Int) < 3), _, _, rfl, rfl, _, rfl, _, _, rfl, rfl, ⟨by decide, by decide⟩, _, _, rfl, rfl, (by decide : (0 : Int) < 40), _, rfl, _, rfl, _, _, rfl, rfl, ⟨by decide, by decide⟩, _, _, rfl, rfl, (by decide : (0 : Int) < 40), _, _, rfl, rfl, (small' (by show 6 ≤ 1000; decide)), fun p2 H2 _ s2 f2 => ?_⟩
    exact q p2 ⟨"times", 1 + cell % 3, 1, cell / 3 % 40, y, 1 + cell / 360 % 40⟩ H2 (s1.trans s2) (SqT.of f2) ⟨.inl rfl, by dsimp only; omega, by dsimp only; omega, by dsimp only; omega, by dsimp only; omega, fun z => absurd z (by dsimp only; decide), by dsimp only; omega, by dsimp only; omega, hy, by dsimp only; omega, by dsimp only; omega⟩
theorem cal_law_last {P : Program} {w : World} {K : PySem.W.Frag} {mg : Str → Option Value} {base : Heap} {f : Addr} {fd : FuncData} (F : Fun K "_law_last" "_law_last" s_law_last f fd) (b : Binds K fd ["_law_cell"] []) (m : mg "_law_last" = some (.ref f))  : Cal P w K mg base "_law_last" 1 ["_law_cell"] (sp_law_last K) :=
  ⟨f, fd, F.ok sc_law_last (fun vs H Q E h => by first | (obtain ⟨_, rfl, _⟩ := h; rfl) | (obtain ⟨_, _, rfl, _⟩ := h; rfl) | (obtain ⟨_, _, _, rfl, _⟩ := h; rfl) | (obtain ⟨_, _, _, _, rfl, _⟩ := h; rfl) | (obtain ⟨_, _, _, _, _, rfl, _⟩ := h; rfl) | (obtain ⟨_, _, _, _, _, _, rfl, _⟩ := h; rfl) | (obtain ⟨_, _, _, _, _, _, _, rfl, _⟩ := h; rfl) | (obtain ⟨_, _, _, _, _, _, _, _, rfl, _⟩ := h; rfl) | (obtain ⟨_, _, _, _, _, _, _, _, _, rfl, _⟩ := h; rfl)) (fun cdv A outer s H vs Q E hr h => unW (body_law_last (X := (cxOf CX0 P w K mg base ["_law_cell", "_law_way"] "_law_last" (defScope s_law_last) f cdv A outer s H E).nox) ⟨rfl, rfl, rfl, PassesOwn.never⟩ hr  h)), b, F.kp, m⟩
theorem lk_law_shown_0 : (defScope s_law_shown).names.lookup ("_law_ends" : Str) = some .cell := by decide +kernel
theorem pv_law_shown_0 {X : Cx} (c : CxIs X ["_law_ends", "_law_base", "_law_end_here", "_law_places", "_law_below", "_law_above"] (defScope s_law_shown)) {pos : Pos} : WE X (.Name "_law_ends" pos) (tVar 0) := wxvC c rfl lk_law_shown_0 (by decide) (by decide)
theorem lk_law_shown_1 : (defScope s_law_shown).names.lookup ("_law_base" : Str) = some .local := by decide +kernel
theorem pv_law_shown_1 {X : Cx} (c : CxIs X ["_law_ends", "_law_base", "_law_end_here", "_law_places", "_law_below", "_law_above"] (defScope s_law_shown)) {pos : Pos} : WE X (.Name "_law_base" pos) (tVar 1) := wxv c rfl lk_law_shown_1 (by decide) (by decide)
theorem lk_law_shown_3 : (defScope s_law_shown).names.lookup ("_law_places" : Str) = some .local := by decide +kernel
theorem pv_law_shown_3 {X : Cx} (c : CxIs X ["_law_ends", "_law_base", "_law_end_here", "_law_places", "_law_below", "_law_above"] (defScope s_law_shown)) {pos : Pos} : WE X (.Name "_law_places" pos) (tVar 3) := wxv c rfl lk_law_shown_3 (by decide) (by decide)
theorem lk_law_shown_4 : (defScope s_law_shown).names.lookup ("_law_below" : Str) = some .local := by decide +kernel
theorem pv_law_shown_4 {X : Cx} (c : CxIs X ["_law_ends", "_law_base", "_law_end_here", "_law_places", "_law_below", "_law_above"] (defScope s_law_shown)) {pos : Pos} : WE X (.Name "_law_below" pos) (tVar 4) := wxv c rfl lk_law_shown_4 (by decide) (by decide)
theorem lk_law_shown_5 : (defScope s_law_shown).names.lookup ("_law_above" : Str) = some .local := by decide +kernel
theorem pv_law_shown_5 {X : Cx} (c : CxIs X ["_law_ends", "_law_base", "_law_end_here", "_law_places", "_law_below", "_law_above"] (defScope s_law_shown)) {pos : Pos} : WE X (.Name "_law_above" pos) (tVar 5) := wxv c rfl lk_law_shown_5 (by decide) (by decide)
theorem gl_law_shown_range {X : Cx} (c : CxIs X ["_law_ends", "_law_base", "_law_end_here", "_law_places", "_law_below", "_law_above"] (defScope s_law_shown)) : Gl X "range" := xg c (by decide +kernel)
theorem st_law_shown (v0 v1 v2 : V) : L2.start ["_law_ends", "_law_base", "_law_end_here", "_law_places", "_law_below", "_law_above"] [v0, v1, v2] = [some v0, some v1, some v2, none, none, none] := rfl
theorem filt_head {n : Nat} {P : Nat → Bool} {k : Nat} {r : List Nat} (h : (List.range n).filter P = k :: r) : P k = true ∧ k < n ∧ ∀ i, i < k → P i = false := by
  have m : k ∈ (List.range n).filter P := by rw [h]; exact List.mem_cons_self ..
  obtain ⟨a, b⟩ := List.mem_filter.mp m
  refine ⟨b, List.mem_range.mp a, fun i hi => ?_⟩
  cases hP : P i with
  | false => rfl
  | true =>
    have s : List.Pairwise (· < ·) ((List.range n).filter P) := List.Pairwise.filter _ List.pairwise_lt_range
    have mi : i ∈ (List.range n).filter P := List.mem_filter.mpr ⟨List.mem_range.mpr (by have := List.mem_range.mp a; omega), hP⟩
    rw [h] at s mi
    rcases List.mem_cons.mp mi with z | z
    · omega
    · have := (List.pairwise_cons.mp s).1 i z
      omega
theorem filt_last {P : Nat → Bool} {k : Nat} : ∀ {n : Nat}, ((List.range n).filter P).getLast? = some k → P k = true ∧ k < n ∧ ∀ i, k < i → i < n → P i = false
  | 0, h => by simp at h
  | n + 1, h => by
    rw [List.range_succ, List.filter_append] at h
    cases hP : P n with
    | true =>
      have e : [n].filter P = [n] := by simp [hP]
      rw [e, List.getLast?_append] at h
      simp at h
      subst h
      exact ⟨hP, Nat.lt_succ_self _, fun i h1 h2 => by omega⟩
    | false =>
      have e : [n].filter P = [] := by simp [hP]
      rw [e, List.append_nil] at h
      obtain ⟨a, b, c⟩ := filt_last h
      refine ⟨a, by omega, fun i h1 h2 => ?_⟩
      by_cases z : i = n
      · rw [z]; exact hP
      · exact c i h1 (by omega)
theorem atI_first {x : V} {xs : List V} : atI (x :: xs) 0 = some x := atI_nat (j := 0) rfl
theorem atI_end {xs : List V} {x : V} (h : xs.getLast? = some x) : atI xs (-1) = some x := by
  obtain ⟨ys, rfl⟩ := List.getLast?_eq_some_iff.mp h
  exact atI_last _ _
theorem last_some {α : Type} : ∀ {xs : List α}, xs ≠ [] → ∃ x, xs.getLast? = some x
  | [], h => absurd rfl h
  | x :: xs, _ => ⟨_, List.getLast?_eq_some_getLast (List.cons_ne_nil x xs)⟩
noncomputable def sp_law_shown (K : PySem.W.Frag) : Sp := fun vs H Q _ => ∃ (le : Addr) (es : List Int) (b e : Int), vs = [.ref le, .int b, .int e] ∧ SqL K H le (es.map V.int) ∧ es.length = 60 ∧ (∃ z ∈ es, e ≤ z) ∧
  (∀ p (f la : Nat) H', Same H H' → SqT K H' p [.str "from", .int (b + f), .int (b + la)] → es[f]? = some e → es[la]? = some e → (∀ i, i < f → es[i]? ≠ some e) → (∀ i, la < i → es[i]? ≠ some e) → Q (.ref p) H') ∧
  (∀ p (bel : V) ab H', Same H H' → SqT K H' p [.str "none", bel, .int ab] → e ∉ es → ((es.filter fun z => decide (z < e)) = [] ∧ bel = .non ∨ ∃ y, (es.filter fun z => decide (z < e)).getLast? = some y ∧ bel = .int y) → (es.filter fun z => decide (e < z)).head? = some ab → Q (.ref p) H')
theorem body_law_shown {X : Cx} (c : CxIs X ["_law_ends", "_law_base", "_law_end_here", "_law_places", "_law_below", "_law_above"] (defScope s_law_shown)) (hr : Room 0 X.A) {E : XK}  (hf : ∀ x, X.fn x = true) (z_range : X.mg "range" = none) {vs : List V} {H : Hp} {Q : VK} (h : sp_law_shown X.K vs H Q E) : ∃ t, WSs X (defBody s_law_shown) t ∧ t { nx := fun _ H' => Q .non H', rt := Q } (L2.start ["_law_ends", "_law_base", "_law_end_here", "_law_places", "_law_below", "_law_above"] vs) H := by
  · obtain ⟨le, es, b, e, rfl, hL, h60, hge, q1, q2⟩ := h
    refine ⟨_, (wss_cons (ws_compT (fs := ["_law_end_here", "_law_ends"]) (fr := [2, 0]) (i := 3) c sc_law_shown.nd (by decide +kernel) rfl lk_law_shown_3 (wi_range1 (gl_law_shown_range c) z_range (wa_cons we_int wa_nil star_Constant)) (fun _ _ _ _ _ cc => (wxv cc (i := 0) rfl (by decide +kernel) (by decide) (by decide))) (fun _ _ _ _ _ cc => (wt_cmpR op_eq (we_ix (ix_listK (K := X.K) rfl) (wxvC cc (i := 2) rfl (by decide +kernel) (by decide) (by decide)) (wxv cc (i := 0) rfl (by decide +kernel) (by decide) (by decide)) plain_Name) (wxvC cc (i := 1) rfl (by decide +kernel) (by decide) (by decide)) (nomark _))) rfl rfl (by decide +kernel))
      (wss_cons (ws_if (wt_cmpR (op_neE hr.units0) (pv_law_shown_3 c) (we_lstO wa_nil) (nomark _))
      (wss_one (ws_ret (we_tupO (wa_cons we_str (wa_cons (we_op op_add (pv_law_shown_1 c) (we_ix ix_list (pv_law_shown_3 c) we_int plain_Constant)) (wa_cons (we_op op_add (pv_law_shown_1 c) (we_ix ix_list (pv_law_shown_3 c) (we_un un_neg we_int) plain_UnaryOp)) wa_nil star_BinOp) star_BinOp) star_Constant))))
      wss_nil)
      (wss_cons (ws_compT (fs := ["_law_end_here"]) (fr := [2]) (i := 4) c sc_law_shown.nd (by decide +kernel) rfl lk_law_shown_4 (wi_list (pv_law_shown_0 c)) (fun _ _ _ _ _ cc => (wxv cc (i := 0) rfl (by decide +kernel) (by decide) (by decide))) (fun _ _ _ _ _ cc => (wt_cmpR op_lt (wxv cc (i := 0) rfl (by decide +kernel) (by decide) (by decide)) (wxvC cc (i := 1) rfl (by decide +kernel) (by decide) (by decide)) (nomark _))) rfl rfl (by decide +kernel))
      (wss_cons (ws_compT (fs := ["_law_end_here"]) (fr := [2]) (i := 5) c sc_law_shown.nd (by decide +kernel) rfl lk_law_shown_5 (wi_list (pv_law_shown_0 c)) (fun _ _ _ _ _ cc => (wxv cc (i := 0) rfl (by decide +kernel) (by decide) (by decide))) (fun _ _ _ _ _ cc => (wt_cmpR op_gt (wxv cc (i := 0) rfl (by decide +kernel) (by decide) (by decide)) (wxvC cc (i := 1) rfl (by decide +kernel) (by decide) (by decide)) (nomark _))) rfl rfl (by decide +kernel))
      (wss_cons (ws_if (wt_cmpR (op_eqE hr.units0) (pv_law_shown_4 c) (we_lstO wa_nil) (nomark _))
      (wss_one (ws_ret (we_tupO (wa_cons we_str (wa_cons we_non (wa_cons (we_ix ix_list (pv_law_shown_5 c) we_int plain_Constant) wa_nil star_Subscript) star_Constant) star_Constant))))
      wss_nil)
      (wss_one (ws_ret (we_tupO (wa_cons we_str (wa_cons (we_ix ix_list (pv_law_shown_4 c) (we_un un_neg we_int) plain_UnaryOp) (wa_cons (we_ix ix_list (pv_law_shown_5 c) we_int plain_Constant) wa_nil star_Subscript) star_Subscript) star_Constant))))))))), ?_⟩
    rw [st_law_shown]
    refine ⟨60, rfl, by decide, by decide, comp_rngT (P := fun i => decide (es[i]? = some e)) (f := fun i => .int (i : Int)) (by decide) ?_ ?_ ?_⟩
    · intro i H2 hi s2 R hR
      have hi' : i < es.length := by rw [h60]; exact hi
      refine ⟨_, rfl, _, rfl, le, _, _, _, rfl, rfl, s2.seq hL, by rw [Int.zero_add]; exact atI_nat (v := .int es[i]) (by rw [List.getElem?_map, List.getElem?_eq_getElem hi']; rfl), _, rfl, rfl, _, rfl, ?_⟩
      have e1 : decide (V.int es[i] = V.int e) = decide (es[i]? = some e) := by
        rw [List.getElem?_eq_getElem hi']
        exact decide_eq_decide.mpr ⟨fun h => by cases h; rfl, fun h => by cases h; rfl⟩
      rw [e1]
      exact hR H2 (Same.refl _)
    · intro i H2 hi hP s2 R hR
      refine ⟨_, rfl, ?_⟩
      rw [Int.zero_add]
      exact hR H2 (Same.refl _)
    intro p1 H1 n1 s1 f1 σ e'
    dsimp only [List.set] at e'
    subst e'
    change H1 p1 = some (.lst (((List.range 60).filter fun i => decide (es[i]? = some e)).map fun i : Nat => V.int (i : Int))) at f1
    generalize hpl : (List.range 60).filter (fun i => decide (es[i]? = some e)) = pl at f1
    refine ⟨_, rfl, small' (by show 0 ≤ 1000; decide), fun p2 H2 n2 s2 f2 => ?_⟩
    refine ⟨p1, p2, _, rfl, rfl, SqL.of (s2 _ _ f1), SqL.of f2, _, rfl, ?_⟩
    have s02 := s1.trans s2
    have f12 := s2 _ _ f1
    cases pl with
    | cons k r =>
      refine iteT ?_
      obtain ⟨a1, a2, a3⟩ := filt_head hpl
      obtain ⟨m, hm⟩ := last_some (List.cons_ne_nil k r)
      rw [← hpl] at hm
      obtain ⟨c1, c2, c3⟩ := filt_last hm
      rw [hpl] at hm
      have am : atI ((k :: r).map fun i : Nat => V.int (i : Int)) (-1) = some (.int (m : Int)) := atI_end (by rw [List.getLast?_map, hm]; rfl)
      refine ⟨_, rfl, _, rfl, p1, _, _, _, rfl, rfl, SqL.of f12, atI_first, _, _, rfl, rfl, _, rfl, _, rfl, _, rfl, p1, _, _, _, rfl, rfl, SqL.of f12, am, _, _, rfl, rfl, small' (by show 3 ≤ 1000; decide), fun p3 H3 n3 s3 f3 => ?_⟩
      refine q1 p3 k m H3 (s02.trans s3) (SqT.of f3) (of_decide_eq_true a1) (of_decide_eq_true c1) (fun i hi => of_decide_eq_false (a3 i hi)) (fun i hi => ?_)
      by_cases z : i < 60
      · exact of_decide_eq_false (c3 i hi z)
      · rw [List.getElem?_eq_none (by omega)]; exact fun h => nomatch h
    | nil =>
      refine iteF ?_
      have hne : e ∉ es := fun h => by
        obtain ⟨i, hi, hh⟩ := List.getElem_of_mem h
        have : i ∈ (List.range 60).filter (fun i => decide (es[i]? = some e)) := List.mem_filter.mpr ⟨List.mem_range.mpr (by omega), decide_eq_true (by rw [List.getElem?_eq_getElem hi, hh])⟩
        rw [hpl] at this
        exact absurd this (List.not_mem_nil)
      have sz : es.length ≤ sizeLine := by rw [h60]; decide
      refine ⟨_, rfl, le, rfl, ⟨_, s02.seq hL⟩, comp_lstT (P := fun z => decide (z < e)) sz (s02.seq hL) ?_ ?_ ?_⟩
      · intro z hz H3 s3 R hR
        exact ⟨_, rfl, _, rfl, _, _, rfl, rfl, _, rfl, hR H3 (Same.refl _)⟩
      · intro z hz H3 s3 R hR
        exact ⟨_, rfl, hR H3 (Same.refl _)⟩
      intro p4 H4 n4 s4 f4 σ e'
      dsimp only [List.set] at e'
      subst e'
      have s04 := s02.trans s4
      refine ⟨_, rfl, le, rfl, ⟨_, s04.seq hL⟩, comp_lstT (P := fun z => decide (e < z)) sz (s04.seq hL) ?_ ?_ ?_⟩
      · intro z hz H5 s5 R hR
        exact ⟨_, rfl, _, rfl, _, _, rfl, rfl, _, rfl, hR H5 (Same.refl _)⟩
      · intro z hz H5 s5 R hR
        exact ⟨_, rfl, hR H5 (Same.refl _)⟩
      intro p6 H6 n6 s6 f6 σ e'
      dsimp only [List.set] at e'
      subst e'
      have f46 := s6 _ _ f4
      obtain ⟨ab, hab⟩ : ∃ ab, (es.filter fun z => decide (e < z)).head? = some ab := by
        obtain ⟨z, hz, hz2⟩ := hge
        have lt : e < z := by
          rcases Int.lt_or_eq_of_le hz2 with h | h
          · exact h
          · exact absurd (h ▸ hz) hne
        have : z ∈ es.filter fun z => decide (e < z) := List.mem_filter.mpr ⟨hz, decide_eq_true lt⟩
        cases hh : es.filter fun z => decide (e < z) with
        | nil => rw [hh] at this; exact absurd this (List.not_mem_nil)
        | cons a t => exact ⟨a, rfl⟩
      have aab : ∀ xs : List Int, xs.head? = some ab → atI (xs.map V.int) 0 = some (.int ab) := fun xs h => by
        cases xs with
        | nil => cases h
        | cons x t => cases h; exact atI_first
      refine ⟨_, rfl, small' (by show 0 ≤ 1000; decide), fun p7 H7 n7 s7 f7 => ?_⟩
      refine ⟨p4, p7, _, rfl, rfl, SqL.of (s7 _ _ f46), SqL.of f7, _, rfl, ?_⟩
      have s07 := s04.trans (s6.trans s7)
      have f47 := s7 _ _ f46
      have f67 := s7 _ _ f6
      generalize hbl : es.filter (fun z => decide (z < e)) = bl at f47 ⊢
      cases bl with
      | nil =>
        refine iteT ?_
        refine ⟨_, rfl, p6, _, _, _, rfl, rfl, SqL.of f67, aab _ hab, small' (by show 3 ≤ 1000; decide), fun p8 H8 n8 s8 f8 => ?_⟩
        exact q2 p8 .non ab H8 (s07.trans s8) (SqT.of f8) hne (.inl ⟨hbl, rfl⟩) hab
      | cons k r =>
        refine iteF ?_
        obtain ⟨m, hm⟩ := last_some (List.cons_ne_nil k r)
        have am : atI ((k :: r).map V.int) (-1) = some (.int m) := atI_end (by rw [List.getLast?_map, hm]; rfl)
        refine ⟨_, rfl, _, rfl, p4, _, _, _, rfl, rfl, SqL.of f47, am, _, rfl, p6, _, _, _, rfl, rfl, SqL.of f67, aab _ hab, small' (by show 3 ≤ 1000; decide), fun p8 H8 n8 s8 f8 => ?_⟩
        exact q2 p8 (.int m) ab H8 (s07.trans s8) (SqT.of f8) hne (.inr ⟨m, by rw [hbl]; exact hm, rfl⟩) hab
theorem cal_law_shown {P : Program} {w : World} {K : PySem.W.Frag} {mg : Str → Option Value} {base : Heap} {f : Addr} {fd : FuncData} (F : Fun K "_law_shown" "_law_shown" s_law_shown f fd) (b : Binds K fd ["_law_ends", "_law_base", "_law_end_here"] []) (m : mg "_law_shown" = some (.ref f)) (z_range : mg "range" = none) : Cal P w K mg base "_law_shown" 1 ["_law_ends", "_law_base", "_law_end_here"] (sp_law_shown K) :=
  ⟨f, fd, F.ok sc_law_shown (fun vs H Q E h => by first | (obtain ⟨_, rfl, _⟩ := h; rfl) | (obtain ⟨_, _, rfl, _⟩ := h; rfl) | (obtain ⟨_, _, _, rfl, _⟩ := h; rfl) | (obtain ⟨_, _, _, _, rfl, _⟩ := h; rfl) | (obtain ⟨_, _, _, _, _, rfl, _⟩ := h; rfl) | (obtain ⟨_, _, _, _, _, _, rfl, _⟩ := h; rfl) | (obtain ⟨_, _, _, _, _, _, _, rfl, _⟩ := h; rfl) | (obtain ⟨_, _, _, _, _, _, _, _, rfl, _⟩ := h; rfl) | (obtain ⟨_, _, _, _, _, _, _, _, _, rfl, _⟩ := h; rfl)) (fun cdv A outer s H vs Q E hr h => unW (body_law_shown (X := (cxOf CX0 P w K mg base ["_law_ends", "_law_base", "_law_end_here", "_law_places", "_law_below", "_law_above"] "_law_shown" (defScope s_law_shown) f cdv A outer s H E).nox) ⟨rfl, rfl, rfl, PassesOwn.never⟩ hr (fun _ => rfl) z_range h)), b, F.kp, m⟩
noncomputable def sp_lowest (K : PySem.W.Frag) : Sp := fun vs H Q _ => ∃ (x y : Int), vs = [.int x, .int y] ∧ (0 ≤ x ∨ x < 0) ∧ 1 ≤ y ∧ y < 2 ^ 350 ∧ ∀ p H', Same H H' → SqT K H' p [.int (x / ((Int.gcd x y : Nat) : Int)), .int (y / ((Int.gcd x y : Nat) : Int))] → Q (.ref p) H'
theorem cal_lowest {P : Program} {w : World} {K : PySem.W.Frag} {mg : Str → Option Value} {base : Heap} {f : Addr} {fd : FuncData} (F : Fun K "lowest" "lowest" s_lowest f fd) (b : Binds K fd ["num", "den"] []) (m : mg "lowest" = some (.ref f)) (C_common_divisor : Cal P w K mg base "common_divisor" 1 ["one", "other"] (sp_common_divisor K)) : Cal P w K mg base "lowest" 2 ["num", "den"] (sp_lowest K) := by
  obtain ⟨f_common_divisor, d_common_divisor, G_common_divisor, b_common_divisor, k_common_divisor, m_common_divisor⟩ := C_common_divisor
  refine ⟨f, fd, F.ok sc_lowest (fun vs H Q E h => ?_) (fun cdv A outer s H vs Q E hr h => ?_), b, F.kp, m⟩
  · first | (obtain ⟨_, rfl, _⟩ := h; rfl) | (obtain ⟨_, _, rfl, _⟩ := h; rfl) | (obtain ⟨_, _, _, rfl, _⟩ := h; rfl) | (obtain ⟨_, _, _, _, rfl, _⟩ := h; rfl) | (obtain ⟨_, _, _, _, _, rfl, _⟩ := h; rfl) | (obtain ⟨_, _, _, _, _, _, rfl, _⟩ := h; rfl) | (obtain ⟨_, _, _, _, _, _, _, rfl, _⟩ := h; rfl) | (obtain ⟨_, _, _, _, _, _, _, _, rfl, _⟩ := h; rfl) | (obtain ⟨_, _, _, _, _, _, _, _, _, rfl, _⟩ := h; rfl)
  · obtain ⟨x, y, rfl, h1, h2, h3, q⟩ := h
    refine ⟨_, (pss_cons (ps_set (i := 2) sc_lowest.nd rfl (Or.inl rfl) (pe_call (G_common_divisor.mono (by decide)) hr rfl m_common_divisor k_common_divisor b_common_divisor .nil pass0 (pa_cons (pv 0) (pa_cons (pv 1) pa_nil))))
      (pss_one (ps_ret (pe_tup (pa_cons (pe_op op_fdivB (pv 0) (pv 2)) (pa_cons (pe_op op_fdivB (pv 1) (pv 2)) pa_nil)))))), ?_⟩
    have g0 := gcd_pos (x := x) (y := y) (by omega)
    have g1 := gcd_le (x := x) (y := y) (by omega)
    have hd : CDivB 0 ((Int.gcd x y : Nat) : Int) := ⟨g0, by omega⟩
    refine ⟨_, rfl, _, rfl, _, _, rfl, (by omega), (by omega), ?_⟩
    refine ⟨_, rfl, _, rfl, _, _, rfl, rfl, hd, _, rfl, _, rfl, _, _, rfl, rfl, hd, (small' (by show 2 ≤ 1000; decide)), fun p hp => ?_⟩
    exact q p _ (same_new hp _) (SqT.of upd_same)
noncomputable def mixI (c k : Int) : Int := ((c + 7 * k + 1) * 48271 % 2147483647 + k) * 69621 % 2147483647
noncomputable def drawAt (ns : List Int) (k : Int) : Int := if cell ns 0 % 2 = 1 then mixI (cell ns k) k else cell ns k
noncomputable def BitsOk (ns : List Int) : Prop := ∀ z ∈ ns, Builtin.Int.intBits z ≤ 1048576
theorem bits_cell {ns : List Int} (h : BitsOk ns) (k : Int) : Builtin.Int.intBits (cell ns k) ≤ 1048576 := by
  unfold cell
  by_cases hj : k.toNat < ns.length
  · have e : ns.getD k.toNat 0 = ns[k.toNat] := by simp [List.getD, hj]
    rw [e]
    exact h _ (List.getElem_mem hj)
  · have e : ns.getD k.toNat 0 = 0 := by simp [List.getD, Nat.not_lt.mp hj]
    rw [e]
    exact Nat.zero_le _
theorem bits_drawAt {ns : List Int} (h : BitsOk ns) (k : Int) : Builtin.Int.intBits (drawAt ns k) ≤ 1048576 := by
  unfold drawAt
  by_cases c : cell ns 0 % 2 = 1
  · rw [if_pos c]
    refine Nat.le_trans (intBits_le_64 ?_ ?_) (by decide)
    · unfold mixI; omega
    · unfold mixI; omega
  · rw [if_neg c]; exact bits_cell h k
noncomputable def sp_law_draw (K : PySem.W.Frag) : Sp := fun vs H Q _ => ∃ (a : Addr) (ns : List Int) (k : Int), vs = [.ref a, .int k] ∧ SqL K H a (ns.map V.int) ∧ 0 ≤ k ∧ k ≤ 1000 ∧ Q (.int (drawAt ns k)) H
theorem cal_law_draw {P : Program} {w : World} {K : PySem.W.Frag} {mg : Str → Option Value} {base : Heap} {f : Addr} {fd : FuncData} (F : Fun K "_law_draw" "_law_draw" s_law_draw f fd) (b : Binds K fd ["_law_script", "_law_k"] []) (m : mg "_law_draw" = some (.ref f)) (C_law_at : Cal P w K mg base "_law_at" 1 ["_law_script", "_law_k"] (sp_law_at K)) : Cal P w K mg base "_law_draw" 2 ["_law_script", "_law_k"] (sp_law_draw K) := by
  obtain ⟨f_law_at, d_law_at, G_law_at, b_law_at, k_law_at, m_law_at⟩ := C_law_at
  refine ⟨f, fd, F.ok sc_law_draw (fun vs H Q E h => ?_) (fun cdv A outer s H vs Q E hr h => ?_), b, F.kp, m⟩
  · first | (obtain ⟨_, rfl, _⟩ := h; rfl) | (obtain ⟨_, _, rfl, _⟩ := h; rfl) | (obtain ⟨_, _, _, rfl, _⟩ := h; rfl) | (obtain ⟨_, _, _, _, rfl, _⟩ := h; rfl) | (obtain ⟨_, _, _, _, _, rfl, _⟩ := h; rfl) | (obtain ⟨_, _, _, _, _, _, rfl, _⟩ := h; rfl) | (obtain ⟨_, _, _, _, _, _, _, rfl, _⟩ := h; rfl) | (obtain ⟨_, _, _, _, _, _, _, _, rfl, _⟩ := h; rfl) | (obtain ⟨_, _, _, _, _, _, _, _, _, rfl, _⟩ := h; rfl)
  · obtain ⟨a, ns, k, rfl, hS, h0, h1, q⟩ := h
    refine ⟨_, (pss_cons (ps_set (i := 2) sc_law_draw.nd rfl (Or.inl rfl) (pe_call (G_law_at.mono (by decide)) hr rfl m_law_at k_law_at b_law_at .nil pass0 (pa_cons (pv 0) (pa_cons (pv 1) pa_nil))))
      (pss_cons (ps_if (pt_cmpR op_eq (pe_op op_mod (pe_call (G_law_at.mono (by decide)) hr rfl m_law_at k_law_at b_law_at .nil pass0 (pa_cons (pv 0) (pa_cons pe_int pa_nil))) pe_int) pe_int (nomark _))
      (pss_one (ps_set (i := 2) sc_law_draw.nd rfl (Or.inl rfl) (pe_op op_mod (pe_op op_mulB (pe_op op_add (pe_op op_mod (pe_op op_mulB (pe_op op_add (pe_op op_add (pv 2) (pe_op op_mulB pe_int (pv 1))) pe_int) pe_int) pe_int) (pv 1)) pe_int) pe_int)))
      pss_nil)
      (pss_one (ps_ret (pv 2))))), ?_⟩
    refine ⟨_, rfl, _, rfl, a, ns, _, rfl, hS, h0, ?_⟩
    refine ⟨_, rfl, a, ns, _, rfl, hS, by decide, _, _, rfl, rfl, (by decide : (0 : Int) < 2), rfl, _, rfl, ?_⟩
    refine if2 (fun c => ?_) (fun c => ?_)
    · have e : drawAt ns k = mixI (cell ns k) k := if_pos (of_int c)
      rw [e] at q
      exact ⟨_, rfl, _, rfl, _, _, rfl, rfl, mul_l (by decide) (by decide), _, _, rfl, rfl, _, _, rfl, rfl, _, _, rfl, rfl, mul_r (by decide) (by decide), _, _, rfl, rfl, (by decide : (0 : Int) < 2147483647), _, rfl, _, _, rfl, rfl, _, _, rfl, rfl, mul_r (by decide) (by decide), _, _, rfl, rfl, (by decide : (0 : Int) < 2147483647), _, rfl, q⟩
    · have e : drawAt ns k = cell ns k := if_neg fun z => c (inj_int z)
      rw [e] at q
      exact ⟨_, rfl, q⟩
theorem lk_law_own_0 : (defScope s_law_own).names.lookup ("_law_step_here" : Str) = some .local := by decide +kernel
theorem pv_law_own_0 {X : Cx} (c : CxIs X ["_law_step_here", "_law_wide"] (defScope s_law_own)) {pos : Pos} : WE X (.Name "_law_step_here" pos) (tVar 0) := wxv c rfl lk_law_own_0 (by decide) (by decide)
theorem lk_law_own_1 : (defScope s_law_own).names.lookup ("_law_wide" : Str) = some .local := by decide +kernel
theorem pv_law_own_1 {X : Cx} (c : CxIs X ["_law_step_here", "_law_wide"] (defScope s_law_own)) {pos : Pos} : WE X (.Name "_law_wide" pos) (tVar 1) := wxv c rfl lk_law_own_1 (by decide) (by decide)
theorem ss_law_own_1 {X : Cx} (c : CxIs X ["_law_step_here", "_law_wide"] (defScope s_law_own)) {pos pos' : Pos} {e : Expr} {te : TE} (he : WE X e te) (hs : swapsWith e (some (.Name "_law_wide" pos')) pos.line X.env = pure false := by rfl) : WS X (.Assign [.Name "_law_wide" pos'] e pos) (tAsg te (gN 1)) := wxs c sc_law_own.nd rfl lk_law_own_1 he hs
theorem gl_law_own_law_gcd {X : Cx} (c : CxIs X ["_law_step_here", "_law_wide"] (defScope s_law_own)) : Gl X "_law_gcd" := xg c (by decide +kernel)
theorem gl_law_own_law_num {X : Cx} (c : CxIs X ["_law_step_here", "_law_wide"] (defScope s_law_own)) : Gl X "_law_num" := xg c (by decide +kernel)
theorem st_law_own (v0 : V) : L2.start ["_law_step_here", "_law_wide"] [v0] = [some v0, none] := rfl
noncomputable def sp_law_own (K : PySem.W.Frag) : Sp := fun vs H Q _ => ∃ (a : Addr) (st : StepD), vs = [.ref a] ∧ SqT K H a st.vals ∧ st.Ok ∧ Q (.int st.cyc) H
theorem body_law_own {X : Cx} (c : CxIs X ["_law_step_here", "_law_wide"] (defScope s_law_own)) (hr : Room 1 X.A) {E : XK}  (C_law_gcd : Cal X.prog X.w X.K X.mg X.base "_law_gcd" 1 ["_law_one", "_law_other"] (sp_law_gcd X.K)) (C_law_num : Cal X.prog X.w X.K X.mg X.base "_law_num" 1 ["_law_step_here"] (sp_law_num X.K)) {vs : List V} {H : Hp} {Q : VK} (h : sp_law_own X.K vs H Q E) : ∃ t, WSs X (defBody s_law_own) t ∧ t { nx := fun _ H' => Q .non H', rt := Q } (L2.start ["_law_step_here", "_law_wide"] vs) H := by
  obtain ⟨f_law_gcd, d_law_gcd, G_law_gcd, b_law_gcd, k_law_gcd, m_law_gcd⟩ := C_law_gcd
  obtain ⟨f_law_num, d_law_num, G_law_num, b_law_num, k_law_num, m_law_num⟩ := C_law_num
  · obtain ⟨a, st, rfl, hT, hO, q⟩ := h
    refine ⟨_, (wss_cons (ss_law_own_1 c (we_op op_mulB (we_ix ix_tup (pv_law_own_0 c) we_int plain_Constant) (we_ix ix_tup (pv_law_own_0 c) we_int plain_Constant)))
      (wss_one (ws_ret (we_op op_fdivB (pv_law_own_1 c) (we_call (G_law_gcd.mono (by decide)) hr (gl_law_own_law_gcd c) m_law_gcd k_law_gcd b_law_gcd .nil pass0 (wa_cons (we_call (G_law_num.mono (by decide)) hr (gl_law_own_law_num c) m_law_num k_law_num b_law_num .nil pass0 (wa_cons (pv_law_own_0 c) wa_nil star_Name)) (wa_cons (pv_law_own_1 c) wa_nil star_Name) star_Call)))))), ?_⟩
    rw [st_law_own]
    have u0 := hO.u0
    have u1 := hO.u1
    have w0 := hO.wide0
    have w1 := hO.wide1
    have n0 := hO.num0
    have g0 := hO.cg0
    have g1 : st.cg ≤ st.wide := gcd_le w0
    refine ⟨_, rfl, a, _, _, _, rfl, rfl, hT, rfl, _, rfl, a, _, _, _, rfl, rfl, hT, rfl, _, _, rfl, rfl, mul_r (by omega) (by omega), fun σ e => ?_⟩
    dsimp only [List.set] at e
    subst e
    exact ⟨_, rfl, _, rfl, a, st, rfl, hT, _, rfl, _, _, rfl, (by omega), Int.le_of_lt w0, _, _, rfl, rfl, ⟨g0, Int.lt_of_le_of_lt g1 (Int.lt_of_le_of_lt w1 (by decide +kernel))⟩, q⟩
theorem cal_law_own {P : Program} {w : World} {K : PySem.W.Frag} {mg : Str → Option Value} {base : Heap} {f : Addr} {fd : FuncData} (F : Fun K "_law_own" "_law_own" s_law_own f fd) (b : Binds K fd ["_law_step_here"] []) (m : mg "_law_own" = some (.ref f)) (C_law_gcd : Cal P w K mg base "_law_gcd" 1 ["_law_one", "_law_other"] (sp_law_gcd K)) (C_law_num : Cal P w K mg base "_law_num" 1 ["_law_step_here"] (sp_law_num K)) : Cal P w K mg base "_law_own" 2 ["_law_step_here"] (sp_law_own K) :=
  ⟨f, fd, F.ok sc_law_own (fun vs H Q E h => by first | (obtain ⟨_, rfl, _⟩ := h; rfl) | (obtain ⟨_, _, rfl, _⟩ := h; rfl) | (obtain ⟨_, _, _, rfl, _⟩ := h; rfl) | (obtain ⟨_, _, _, _, rfl, _⟩ := h; rfl) | (obtain ⟨_, _, _, _, _, rfl, _⟩ := h; rfl) | (obtain ⟨_, _, _, _, _, _, rfl, _⟩ := h; rfl) | (obtain ⟨_, _, _, _, _, _, _, rfl, _⟩ := h; rfl) | (obtain ⟨_, _, _, _, _, _, _, _, rfl, _⟩ := h; rfl) | (obtain ⟨_, _, _, _, _, _, _, _, _, rfl, _⟩ := h; rfl)) (fun cdv A outer s H vs Q E hr h => unW (body_law_own (X := (cxOf CX0 P w K mg base ["_law_step_here", "_law_wide"] "_law_own" (defScope s_law_own) f cdv A outer s H E).nox) ⟨rfl, rfl, rfl, PassesOwn.never⟩ hr C_law_gcd C_law_num h)), b, F.kp, m⟩
theorem lk_law_after_0 : (defScope s_law_after).names.lookup ("_law_step_here" : Str) = some .local := by decide +kernel
theorem pv_law_after_0 {X : Cx} (c : CxIs X ["_law_step_here", "_law_amount", "_law_wide", "_law_exact", "_law_many", "_law_left"] (defScope s_law_after)) {pos : Pos} : WE X (.Name "_law_step_here" pos) (tVar 0) := wxv c rfl lk_law_after_0 (by decide) (by decide)
theorem lk_law_after_1 : (defScope s_law_after).names.lookup ("_law_amount" : Str) = some .local := by decide +kernel
theorem pv_law_after_1 {X : Cx} (c : CxIs X ["_law_step_here", "_law_amount", "_law_wide", "_law_exact", "_law_many", "_law_left"] (defScope s_law_after)) {pos : Pos} : WE X (.Name "_law_amount" pos) (tVar 1) := wxv c rfl lk_law_after_1 (by decide) (by decide)
theorem lk_law_after_2 : (defScope s_law_after).names.lookup ("_law_wide" : Str) = some .local := by decide +kernel
theorem pv_law_after_2 {X : Cx} (c : CxIs X ["_law_step_here", "_law_amount", "_law_wide", "_law_exact", "_law_many", "_law_left"] (defScope s_law_after)) {pos : Pos} : WE X (.Name "_law_wide" pos) (tVar 2) := wxv c rfl lk_law_after_2 (by decide) (by decide)
theorem ss_law_after_2 {X : Cx} (c : CxIs X ["_law_step_here", "_law_amount", "_law_wide", "_law_exact", "_law_many", "_law_left"] (defScope s_law_after)) {pos pos' : Pos} {e : Expr} {te : TE} (he : WE X e te) (hs : swapsWith e (some (.Name "_law_wide" pos')) pos.line X.env = pure false := by rfl) : WS X (.Assign [.Name "_law_wide" pos'] e pos) (tAsg te (gN 2)) := wxs c sc_law_after.nd rfl lk_law_after_2 he hs
theorem lk_law_after_3 : (defScope s_law_after).names.lookup ("_law_exact" : Str) = some .local := by decide +kernel
theorem pv_law_after_3 {X : Cx} (c : CxIs X ["_law_step_here", "_law_amount", "_law_wide", "_law_exact", "_law_many", "_law_left"] (defScope s_law_after)) {pos : Pos} : WE X (.Name "_law_exact" pos) (tVar 3) := wxv c rfl lk_law_after_3 (by decide) (by decide)
theorem ss_law_after_3 {X : Cx} (c : CxIs X ["_law_step_here", "_law_amount", "_law_wide", "_law_exact", "_law_many", "_law_left"] (defScope s_law_after)) {pos pos' : Pos} {e : Expr} {te : TE} (he : WE X e te) (hs : swapsWith e (some (.Name "_law_exact" pos')) pos.line X.env = pure false := by rfl) : WS X (.Assign [.Name "_law_exact" pos'] e pos) (tAsg te (gN 3)) := wxs c sc_law_after.nd rfl lk_law_after_3 he hs
theorem lk_law_after_4 : (defScope s_law_after).names.lookup ("_law_many" : Str) = some .local := by decide +kernel
theorem pv_law_after_4 {X : Cx} (c : CxIs X ["_law_step_here", "_law_amount", "_law_wide", "_law_exact", "_law_many", "_law_left"] (defScope s_law_after)) {pos : Pos} : WE X (.Name "_law_many" pos) (tVar 4) := wxv c rfl lk_law_after_4 (by decide) (by decide)
theorem ss_law_after_4 {X : Cx} (c : CxIs X ["_law_step_here", "_law_amount", "_law_wide", "_law_exact", "_law_many", "_law_left"] (defScope s_law_after)) {pos pos' : Pos} {e : Expr} {te : TE} (he : WE X e te) (hs : swapsWith e (some (.Name "_law_many" pos')) pos.line X.env = pure false := by rfl) : WS X (.Assign [.Name "_law_many" pos'] e pos) (tAsg te (gN 4)) := wxs c sc_law_after.nd rfl lk_law_after_4 he hs
theorem lk_law_after_5 : (defScope s_law_after).names.lookup ("_law_left" : Str) = some .local := by decide +kernel
theorem pv_law_after_5 {X : Cx} (c : CxIs X ["_law_step_here", "_law_amount", "_law_wide", "_law_exact", "_law_many", "_law_left"] (defScope s_law_after)) {pos : Pos} : WE X (.Name "_law_left" pos) (tVar 5) := wxv c rfl lk_law_after_5 (by decide) (by decide)
theorem ss_law_after_5 {X : Cx} (c : CxIs X ["_law_step_here", "_law_amount", "_law_wide", "_law_exact", "_law_many", "_law_left"] (defScope s_law_after)) {pos pos' : Pos} {e : Expr} {te : TE} (he : WE X e te) (hs : swapsWith e (some (.Name "_law_left" pos')) pos.line X.env = pure false := by rfl) : WS X (.Assign [.Name "_law_left" pos'] e pos) (tAsg te (gN 5)) := wxs c sc_law_after.nd rfl lk_law_after_5 he hs
theorem gl_law_after_law_num {X : Cx} (c : CxIs X ["_law_step_here", "_law_amount", "_law_wide", "_law_exact", "_law_many", "_law_left"] (defScope s_law_after)) : Gl X "_law_num" := xg c (by decide +kernel)
theorem st_law_after (v0 v1 : V) : L2.start ["_law_step_here", "_law_amount", "_law_wide", "_law_exact", "_law_many", "_law_left"] [v0, v1] = [some v0, some v1, none, none, none, none] := rfl
noncomputable def sp_law_after (K : PySem.W.Frag) : Sp := fun vs H Q _ => ∃ (a : Addr) (st : StepD) (m : Int), vs = [.ref a, .int m] ∧ SqT K H a st.vals ∧ st.Ok ∧ Q (.int (st.many m * st.u)) H
theorem body_law_after {X : Cx} (c : CxIs X ["_law_step_here", "_law_amount", "_law_wide", "_law_exact", "_law_many", "_law_left"] (defScope s_law_after)) (hr : Room 1 X.A) {E : XK}  (C_law_num : Cal X.prog X.w X.K X.mg X.base "_law_num" 1 ["_law_step_here"] (sp_law_num X.K)) {vs : List V} {H : Hp} {Q : VK} (h : sp_law_after X.K vs H Q E) : ∃ t, WSs X (defBody s_law_after) t ∧ t { nx := fun _ H' => Q .non H', rt := Q } (L2.start ["_law_step_here", "_law_amount", "_law_wide", "_law_exact", "_law_many", "_law_left"] vs) H := by
  obtain ⟨f_law_num, d_law_num, G_law_num, b_law_num, k_law_num, m_law_num⟩ := C_law_num
  · obtain ⟨a, st, m, rfl, hT, hO, q⟩ := h
    refine ⟨_, (wss_cons (ss_law_after_2 c (we_op op_mulB (we_ix ix_tup (pv_law_after_0 c) we_int plain_Constant) (we_ix ix_tup (pv_law_after_0 c) we_int plain_Constant)))
      (wss_cons (ss_law_after_3 c (we_op op_add (we_op op_mulB (pv_law_after_1 c) (we_call (G_law_num.mono (by decide)) hr (gl_law_after_law_num c) m_law_num k_law_num b_law_num .nil pass0 (wa_cons (pv_law_after_0 c) wa_nil star_Name))) (we_op op_mulB (we_ix ix_tup (pv_law_after_0 c) we_int plain_Constant) (we_ix ix_tup (pv_law_after_0 c) we_int plain_Constant))))
      (wss_cons (ss_law_after_4 c (we_op op_fdivB (pv_law_after_3 c) (pv_law_after_2 c)))
      (wss_cons (ss_law_after_5 c (we_op op_sub (pv_law_after_3 c) (we_op op_mulB (pv_law_after_4 c) (pv_law_after_2 c))))
      (wss_cons (ws_if (WW.pt (ww_and (wt_cmpR op_eq (we_ix ix_tup (pv_law_after_0 c) we_int plain_Constant) we_str (nomark _)) (ww_and1 (wt_cmpR op_gt (pv_law_after_5 c) we_int (nomark _)))))
      (wss_one (ss_law_after_4 c (we_op op_add (pv_law_after_4 c) we_int)))
      wss_nil)
      (wss_cons (ws_if (WW.pt (ww_and (wt_cmpR op_eq (we_ix ix_tup (pv_law_after_0 c) we_int plain_Constant) we_str (nomark _)) (ww_and1 (wt_cmpR op_ge (we_op op_mulB we_int (pv_law_after_5 c)) (pv_law_after_2 c) (nomark _)))))
      (wss_one (ss_law_after_4 c (we_op op_add (pv_law_after_4 c) we_int)))
      wss_nil)
      (wss_one (ws_ret (we_op op_mulB (pv_law_after_4 c) (we_ix ix_tup (pv_law_after_0 c) we_int plain_Constant)))))))))), ?_⟩
    rw [st_law_after]
    have u0 := hO.u0
    have u1 := hO.u1
    have d0 := hO.d0
    have d1 := hO.d1
    have w0 := hO.wide0
    have w1 := hO.wide1
    have n0 := hO.num0
    have n1 := hO.num1
    have mu : ∀ x, CMulB x st.u := fun x => mul_r (by omega) (by omega)
    have mw : ∀ x, CMulB x st.wide := fun x => mul_r (by omega) (by omega)
    have dw : CDivB 0 st.wide := ⟨w0, Int.lt_of_le_of_lt w1 (by decide +kernel)⟩
    refine ⟨_, rfl, a, _, _, _, rfl, rfl, hT, rfl, _, rfl, a, _, _, _, rfl, rfl, hT, rfl, _, _, rfl, rfl, mu _, fun σ e => ?_⟩
    dsimp only [List.set] at e
    rw [show st.d * st.u = st.wide from rfl] at e
    subst e
    refine ⟨_, rfl, _, rfl, a, st, rfl, hT, _, _, rfl, rfl, mul_r (by omega) (by omega), _, rfl, a, _, _, _, rfl, rfl, hT, rfl, _, rfl, a, _, _, _, rfl, rfl, hT, rfl, _, _, rfl, rfl, mul_r (by omega) (by omega), _, _, rfl, rfl, fun σ e => ?_⟩
    dsimp only [List.set] at e
    rw [show m * st.num + st.p * st.d = st.exact m from rfl] at e
    subst e
    refine ⟨_, rfl, _, rfl, _, _, rfl, rfl, dw, fun σ e => ?_⟩
    dsimp only [List.set] at e
    subst e
    refine ⟨_, rfl, _, rfl, _, rfl, _, _, rfl, rfl, mw _, _, _, rfl, rfl, fun σ e => ?_⟩
    dsimp only [List.set] at e
    subst e
    refine ⟨_, rfl, a, _, _, _, rfl, rfl, hT, rfl, rfl, _, rfl, ?_⟩
    have fin : ∀ {z : Int}, st.many m = z → Q (.int (z * st.u)) H := fun hz => by rw [← hz]; exact q
    refine if2 (fun c => ?_) (fun c => ?_)
    · have y : st.y = "up" := V.str.inj c
      obtain ⟨n1, n2⟩ := StepD.Ok.y_up y
      refine ⟨_, rfl, _, _, rfl, rfl, _, rfl, ?_⟩
      refine if2 (fun d => ?_) (fun d => ?_)
      · refine ⟨_, rfl, _, _, rfl, rfl, fun σ e => ?_⟩
        dsimp only [List.set] at e
        subst e
        refine ⟨_, rfl, a, _, _, _, rfl, rfl, hT, rfl, rfl, _, rfl, ?_⟩
        refine ifF (fun z => n2 (V.str.inj z)) ?_
        refine ⟨_, rfl, _, rfl, a, _, _, _, rfl, rfl, hT, rfl, _, _, rfl, rfl, mu _, fin ?_⟩
        exact if_pos ⟨y, d⟩
      · refine ⟨_, rfl, a, _, _, _, rfl, rfl, hT, rfl, rfl, _, rfl, ?_⟩
        refine ifF (fun z => n2 (V.str.inj z)) ?_
        refine ⟨_, rfl, _, rfl, a, _, _, _, rfl, rfl, hT, rfl, _, _, rfl, rfl, mu _, fin ?_⟩
        unfold StepD.many
        rw [if_neg (fun z => d z.2), if_neg (fun z => n2 z.1)]
    · have y : ¬ st.y = "up" := fun z => c (by rw [z])
      refine ⟨_, rfl, a, _, _, _, rfl, rfl, hT, rfl, rfl, _, rfl, ?_⟩
      refine if2 (fun d => ?_) (fun d => ?_)
      · have y2 : st.y = "near" := V.str.inj d
        refine ⟨_, rfl, _, _, rfl, rfl, mul_l (by decide) (by decide), _, rfl, _, _, rfl, rfl, _, rfl, ?_⟩
        refine if2 (fun e => ?_) (fun e => ?_)
        · refine ⟨_, rfl, _, _, rfl, rfl, fun σ e' => ?_⟩
          dsimp only [List.set] at e'
          subst e'
          refine ⟨_, rfl, _, rfl, a, _, _, _, rfl, rfl, hT, rfl, _, _, rfl, rfl, mu _, fin ?_⟩
          unfold StepD.many
          rw [if_neg (fun z => y z.1), if_pos ⟨y2, e⟩]
        · refine ⟨_, rfl, _, rfl, a, _, _, _, rfl, rfl, hT, rfl, _, _, rfl, rfl, mu _, fin ?_⟩
          unfold StepD.many
          rw [if_neg (fun z => y z.1), if_neg (fun z => e z.2)]
      · refine ⟨_, rfl, _, rfl, a, _, _, _, rfl, rfl, hT, rfl, _, _, rfl, rfl, mu _, fin ?_⟩
        unfold StepD.many
        rw [if_neg (fun z => y z.1), if_neg (fun z => d (by rw [z.1]))]
theorem cal_law_after {P : Program} {w : World} {K : PySem.W.Frag} {mg : Str → Option Value} {base : Heap} {f : Addr} {fd : FuncData} (F : Fun K "_law_after" "_law_after" s_law_after f fd) (b : Binds K fd ["_law_step_here", "_law_amount"] []) (m : mg "_law_after" = some (.ref f)) (C_law_num : Cal P w K mg base "_law_num" 1 ["_law_step_here"] (sp_law_num K)) : Cal P w K mg base "_law_after" 2 ["_law_step_here", "_law_amount"] (sp_law_after K) :=
  ⟨f, fd, F.ok sc_law_after (fun vs H Q E h => by first | (obtain ⟨_, rfl, _⟩ := h; rfl) | (obtain ⟨_, _, rfl, _⟩ := h; rfl) | (obtain ⟨_, _, _, rfl, _⟩ := h; rfl) | (obtain ⟨_, _, _, _, rfl, _⟩ := h; rfl) | (obtain ⟨_, _, _, _, _, rfl, _⟩ := h; rfl) | (obtain ⟨_, _, _, _, _, _, rfl, _⟩ := h; rfl) | (obtain ⟨_, _, _, _, _, _, _, rfl, _⟩ := h; rfl) | (obtain ⟨_, _, _, _, _, _, _, _, rfl, _⟩ := h; rfl) | (obtain ⟨_, _, _, _, _, _, _, _, _, rfl, _⟩ := h; rfl)) (fun cdv A outer s H vs Q E hr h => unW (body_law_after (X := (cxOf CX0 P w K mg base ["_law_step_here", "_law_amount", "_law_wide", "_law_exact", "_law_many", "_law_left"] "_law_after" (defScope s_law_after) f cdv A outer s H E).nox) ⟨rfl, rfl, rfl, PassesOwn.never⟩ hr C_law_num h)), b, F.kp, m⟩
theorem lk_law_same_row_0 : (defScope s_law_same_row).names.lookup ("_law_found" : Str) = some .local := by decide +kernel
theorem pv_law_same_row_0 {X : Cx} (c : CxIs X ["_law_found", "_law_due", "_law_k"] (defScope s_law_same_row)) {pos : Pos} : WE X (.Name "_law_found" pos) (tVar 0) := wxv c rfl lk_law_same_row_0 (by decide) (by decide)
theorem lk_law_same_row_1 : (defScope s_law_same_row).names.lookup ("_law_due" : Str) = some .local := by decide +kernel
theorem pv_law_same_row_1 {X : Cx} (c : CxIs X ["_law_found", "_law_due", "_law_k"] (defScope s_law_same_row)) {pos : Pos} : WE X (.Name "_law_due" pos) (tVar 1) := wxv c rfl lk_law_same_row_1 (by decide) (by decide)
theorem lk_law_same_row_2 : (defScope s_law_same_row).names.lookup ("_law_k" : Str) = some .local := by decide +kernel
theorem pv_law_same_row_2 {X : Cx} (c : CxIs X ["_law_found", "_law_due", "_law_k"] (defScope s_law_same_row)) {pos : Pos} : WE X (.Name "_law_k" pos) (tVar 2) := wxv c rfl lk_law_same_row_2 (by decide) (by decide)
theorem sg_law_same_row_2 {X : Cx} (c : CxIs X ["_law_found", "_law_due", "_law_k"] (defScope s_law_same_row)) {pos : Pos} : WG X (.Name "_law_k" pos) (gN 2) := wxt c sc_law_same_row.nd rfl lk_law_same_row_2
theorem gl_law_same_row_law_whole {X : Cx} (c : CxIs X ["_law_found", "_law_due", "_law_k"] (defScope s_law_same_row)) : Gl X "_law_whole" := xg c (by decide +kernel)
theorem gl_law_same_row_range {X : Cx} (c : CxIs X ["_law_found", "_law_due", "_law_k"] (defScope s_law_same_row)) : Gl X "range" := xg c (by decide +kernel)
theorem gl_law_same_row_len {X : Cx} (c : CxIs X ["_law_found", "_law_due", "_law_k"] (defScope s_law_same_row)) : Gl X "len" := xg c (by decide +kernel)
theorem gl_law_same_row_isinstance {X : Cx} (c : CxIs X ["_law_found", "_law_due", "_law_k"] (defScope s_law_same_row)) : Gl X "isinstance" := xg c (by decide +kernel)
theorem gl_law_same_row_list {X : Cx} (c : CxIs X ["_law_found", "_law_due", "_law_k"] (defScope s_law_same_row)) : Gl X "list" := xg c (by decide +kernel)
theorem st_law_same_row (v0 v1 : V) : L2.start ["_law_found", "_law_due", "_law_k"] [v0, v1] = [some v0, some v1, none] := rfl
noncomputable def sp_law_same_row (K : PySem.W.Frag) : Sp := fun vs H Q _ => ∃ (p l : Addr) (zs : List Int), vs = [.ref p, .ref l] ∧ SqL K H p (zs.map V.int) ∧ SqL K H l (zs.map V.int) ∧ zs.length ≤ 2 ^ 60 ∧ Q (.bl true) H
theorem body_law_same_row {X : Cx} (c : CxIs X ["_law_found", "_law_due", "_law_k"] (defScope s_law_same_row)) (hr : Room 1 X.A) {E : XK}  (z_range : X.mg "range" = none) (z_len : X.mg "len" = none) (z_isinstance : X.mg "isinstance" = none) (z_list : X.mg "list" = none) (C_law_whole : Cal X.prog X.w X.K X.mg X.base "_law_whole" 1 ["_law_found"] (sp_law_whole X.K)) {vs : List V} {H : Hp} {Q : VK} (h : sp_law_same_row X.K vs H Q E) : ∃ t, WSs X (defBody s_law_same_row) t ∧ t { nx := fun _ H' => Q .non H', rt := Q } (L2.start ["_law_found", "_law_due", "_law_k"] vs) H := by
  obtain ⟨f_law_whole, d_law_whole, G_law_whole, b_law_whole, k_law_whole, m_law_whole⟩ := C_law_whole
  · obtain ⟨p, l, zs, rfl, hP, hL, h3, q⟩ := h
    refine ⟨_, (wss_cons (ws_if (WW.pt (ww_or (wt_not (wt_val (we_callB call_isinst (gl_law_same_row_isinstance c) z_isinstance boot_isinstance (wa_cons (pv_law_same_row_0 c) (wa_cons (we_bltn (v := .ty "list") (gl_law_same_row_list c) z_list boot_ty_list rfl) wa_nil star_Name) star_Name)))) (ww_or1 (wt_cmpR op_ne (we_callB call_len_seq (gl_law_same_row_len c) z_len PySem.boot_len (wa_cons (pv_law_same_row_0 c) wa_nil star_Name)) (we_callB call_len_seq (gl_law_same_row_len c) z_len PySem.boot_len (wa_cons (pv_law_same_row_1 c) wa_nil star_Name)) (nomark _)))))
      (wss_one (ws_ret we_bl))
      wss_nil)
      (wss_cons (ws_for c.own c.calm (wi_range1 (gl_law_same_row_range c) z_range (wa_cons (we_callB call_len_seq (gl_law_same_row_len c) z_len PySem.boot_len (wa_cons (pv_law_same_row_1 c) wa_nil star_Name)) wa_nil star_Call)) (sg_law_same_row_2 c)
      (wss_one (ws_if (WW.pt (ww_or (wt_not (wt_val (we_call (G_law_whole.mono (by decide)) hr (gl_law_same_row_law_whole c) m_law_whole k_law_whole b_law_whole .nil pass0 (wa_cons (we_ix ix_list (pv_law_same_row_0 c) (pv_law_same_row_2 c) plain_Name) wa_nil star_Subscript)))) (ww_or1 (wt_cmpR op_ne (we_ix ix_list (pv_law_same_row_0 c) (pv_law_same_row_2 c) plain_Name) (we_ix ix_list (pv_law_same_row_1 c) (pv_law_same_row_2 c) plain_Name) (nomark _)))))
      (wss_one (ws_ret we_bl))
      wss_nil)))
      (wss_one (ws_ret we_bl)))), ?_⟩
    rw [st_law_same_row]
    have hl : (zs.map V.int).length = zs.length := List.length_map _
    refine ⟨_, rfl, _, _, _, _, rfl, TyS.lst hP, kit_lst_lst, _, rfl, ?_⟩
    refine iteF ?_
    refine ⟨_, rfl, _, _, rfl, .inl hP, _, rfl, _, _, rfl, .inl hL, rfl, _, rfl, ?_⟩
    refine ifnF (inj_int rfl) ?_
    refine ⟨_, rfl, _, _, rfl, .inl hL, _, rfl, (by rw [hl]; omega), (by rw [hl]; omega), for_range (fun i σ H' => ∃ v, σ = [some (.ref p), some (.ref l), v] ∧ H' = H) ⟨_, rfl, rfl⟩ ?_ ?_⟩
    · rintro i σ H' hi ⟨v, rfl, rfl⟩ σ e
      dsimp only [List.set] at e
      subst e
      rw [hl] at hi
      have hi' : i < zs.length := by omega
      have hv : atI (zs.map V.int) (0 + (i : Int)) = some (.int zs[i]) := by
        rw [Int.zero_add]
        exact atI_nat (by rw [List.getElem?_map, List.getElem?_eq_getElem hi']; rfl)
      refine ⟨_, rfl, _, rfl, p, _, _, _, rfl, rfl, hP, hv, _, rfl, _, rfl, ?_⟩
      refine iteF ?_
      refine ⟨_, rfl, _, rfl, p, _, _, _, rfl, rfl, hP, hv, _, rfl, _, rfl, l, _, _, _, rfl, rfl, hL, hv, rfl, _, rfl, ?_⟩
      refine ifnF rfl ?_
      exact ⟨_, rfl, rfl⟩
    · rintro σ H' ⟨v, rfl, rfl⟩
      exact q
theorem cal_law_same_row {P : Program} {w : World} {K : PySem.W.Frag} {mg : Str → Option Value} {base : Heap} {f : Addr} {fd : FuncData} (F : Fun K "_law_same_row" "_law_same_row" s_law_same_row f fd) (b : Binds K fd ["_law_found", "_law_due"] []) (m : mg "_law_same_row" = some (.ref f)) (z_range : mg "range" = none) (z_len : mg "len" = none) (z_isinstance : mg "isinstance" = none) (z_list : mg "list" = none) (C_law_whole : Cal P w K mg base "_law_whole" 1 ["_law_found"] (sp_law_whole K)) : Cal P w K mg base "_law_same_row" 2 ["_law_found", "_law_due"] (sp_law_same_row K) :=
  ⟨f, fd, F.ok sc_law_same_row (fun vs H Q E h => by first | (obtain ⟨_, rfl, _⟩ := h; rfl) | (obtain ⟨_, _, rfl, _⟩ := h; rfl) | (obtain ⟨_, _, _, rfl, _⟩ := h; rfl) | (obtain ⟨_, _, _, _, rfl, _⟩ := h; rfl) | (obtain ⟨_, _, _, _, _, rfl, _⟩ := h; rfl) | (obtain ⟨_, _, _, _, _, _, rfl, _⟩ := h; rfl) | (obtain ⟨_, _, _, _, _, _, _, rfl, _⟩ := h; rfl) | (obtain ⟨_, _, _, _, _, _, _, _, rfl, _⟩ := h; rfl) | (obtain ⟨_, _, _, _, _, _, _, _, _, rfl, _⟩ := h; rfl)) (fun cdv A outer s H vs Q E hr h => unW (body_law_same_row (X := (cxOf CX0 P w K mg base ["_law_found", "_law_due", "_law_k"] "_law_same_row" (defScope s_law_same_row) f cdv A outer s H E).nox) ⟨rfl, rfl, rfl, PassesOwn.never⟩ hr z_range z_len z_isinstance z_list C_law_whole h)), b, F.kp, m⟩
theorem lk_law_same_origin_0 : (defScope s_law_same_origin).names.lookup ("_law_found" : Str) = some .local := by decide +kernel
theorem pv_law_same_origin_0 {X : Cx} (c : CxIs X ["_law_found", "_law_due"] (defScope s_law_same_origin)) {pos : Pos} : WE X (.Name "_law_found" pos) (tVar 0) := wxv c rfl lk_law_same_origin_0 (by decide) (by decide)
theorem lk_law_same_origin_1 : (defScope s_law_same_origin).names.lookup ("_law_due" : Str) = some .local := by decide +kernel
theorem pv_law_same_origin_1 {X : Cx} (c : CxIs X ["_law_found", "_law_due"] (defScope s_law_same_origin)) {pos : Pos} : WE X (.Name "_law_due" pos) (tVar 1) := wxv c rfl lk_law_same_origin_1 (by decide) (by decide)
theorem gl_law_same_origin_law_whole {X : Cx} (c : CxIs X ["_law_found", "_law_due"] (defScope s_law_same_origin)) : Gl X "_law_whole" := xg c (by decide +kernel)
theorem gl_law_same_origin_isinstance {X : Cx} (c : CxIs X ["_law_found", "_law_due"] (defScope s_law_same_origin)) : Gl X "isinstance" := xg c (by decide +kernel)
theorem gl_law_same_origin_tuple {X : Cx} (c : CxIs X ["_law_found", "_law_due"] (defScope s_law_same_origin)) : Gl X "tuple" := xg c (by decide +kernel)
theorem gl_law_same_origin_len {X : Cx} (c : CxIs X ["_law_found", "_law_due"] (defScope s_law_same_origin)) : Gl X "len" := xg c (by decide +kernel)
theorem gl_law_same_origin_str {X : Cx} (c : CxIs X ["_law_found", "_law_due"] (defScope s_law_same_origin)) : Gl X "str" := xg c (by decide +kernel)
theorem st_law_same_origin (v0 v1 : V) : L2.start ["_law_found", "_law_due"] [v0, v1] = [some v0, some v1] := rfl
noncomputable def sp_law_same_origin (K : PySem.W.Frag) : Sp := fun vs H Q _ => ∃ (p p2 : Addr) (x : Str) (y : V) (z : Int), vs = [.ref p, .ref p2] ∧ SqT K H p [.str x, y, .int z] ∧ SqT K H p2 [.str x, y, .int z] ∧ (y = .non ∨ ∃ i, y = .int i) ∧ Q (.bl true) H
theorem body_law_same_origin {X : Cx} (c : CxIs X ["_law_found", "_law_due"] (defScope s_law_same_origin)) (hr : Room 1 X.A) {E : XK}  (z_isinstance : X.mg "isinstance" = none) (z_tuple : X.mg "tuple" = none) (z_len : X.mg "len" = none) (z_str : X.mg "str" = none) (C_law_whole : Cal X.prog X.w X.K X.mg X.base "_law_whole" 1 ["_law_found"] (sp_law_whole X.K)) {vs : List V} {H : Hp} {Q : VK} (h : sp_law_same_origin X.K vs H Q E) : ∃ t, WSs X (defBody s_law_same_origin) t ∧ t { nx := fun _ H' => Q .non H', rt := Q } (L2.start ["_law_found", "_law_due"] vs) H := by
  obtain ⟨f_law_whole, d_law_whole, G_law_whole, b_law_whole, k_law_whole, m_law_whole⟩ := C_law_whole
  · obtain ⟨p, p2, x, y, z, rfl, hT, hU, hy, q⟩ := h
    refine ⟨_, (wss_cons (ws_if (WW.pt (ww_or (wt_not (wt_val (we_callB call_isinst (gl_law_same_origin_isinstance c) z_isinstance boot_isinstance (wa_cons (pv_law_same_origin_0 c) (wa_cons (we_bltn (v := .ty "tuple") (gl_law_same_origin_tuple c) z_tuple boot_ty_tuple rfl) wa_nil star_Name) star_Name)))) (ww_or (wt_cmpR op_ne (we_callB call_len_seq (gl_law_same_origin_len c) z_len PySem.boot_len (wa_cons (pv_law_same_origin_0 c) wa_nil star_Name)) we_int (nomark _)) (ww_or1 (wt_not (wt_val (we_callB call_isinst (gl_law_same_origin_isinstance c) z_isinstance boot_isinstance (wa_cons (we_ix ix_tup (pv_law_same_origin_0 c) we_int plain_Constant) (wa_cons (we_bltn (v := .ty "str") (gl_law_same_origin_str c) z_str boot_ty_str rfl) wa_nil star_Name) star_Subscript))))))))
      (wss_one (ws_ret we_bl))
      wss_nil)
      (wss_cons (ws_if (WW.pt (ww_or (wt_cmpR op_ne (we_ix ix_tup (pv_law_same_origin_0 c) we_int plain_Constant) (we_ix ix_tup (pv_law_same_origin_1 c) we_int plain_Constant) (nomark _)) (ww_or (wt_not (wt_val (we_call (G_law_whole.mono (by decide)) hr (gl_law_same_origin_law_whole c) m_law_whole k_law_whole b_law_whole .nil pass0 (wa_cons (we_ix ix_tup (pv_law_same_origin_0 c) we_int plain_Constant) wa_nil star_Subscript)))) (ww_or1 (wt_cmpR op_ne (we_ix ix_tup (pv_law_same_origin_0 c) we_int plain_Constant) (we_ix ix_tup (pv_law_same_origin_1 c) we_int plain_Constant) (nomark _))))))
      (wss_one (ws_ret we_bl))
      wss_nil)
      (wss_cons (ws_if (wt_cmpR op_isN (we_ix ix_tup (pv_law_same_origin_1 c) we_int plain_Constant) we_non (nomark _))
      (wss_one (ws_ret (we_cmpR op_isN (we_ix ix_tup (pv_law_same_origin_0 c) we_int plain_Constant) we_non (nomark _))))
      wss_nil)
      (wss_one (ws_ret (we_and (we_call (G_law_whole.mono (by decide)) hr (gl_law_same_origin_law_whole c) m_law_whole k_law_whole b_law_whole .nil pass0 (wa_cons (we_ix ix_tup (pv_law_same_origin_0 c) we_int plain_Constant) wa_nil star_Subscript)) (we_one (we_cmpR op_eq (we_ix ix_tup (pv_law_same_origin_0 c) we_int plain_Constant) (we_ix ix_tup (pv_law_same_origin_1 c) we_int plain_Constant) (nomark _))))))))), ?_⟩
    rw [st_law_same_origin]
    refine ⟨_, rfl, _, _, _, _, rfl, TyS.tup hT, kit_tup_tup, _, rfl, ?_⟩
    refine iteF ?_
    refine ⟨_, rfl, _, _, rfl, .inr hT, rfl, _, rfl, ?_⟩
    refine ifnF rfl ?_
    refine ⟨_, rfl, p, _, _, _, rfl, rfl, hT, rfl, _, _, _, _, rfl, TyS.str, kit_str_str, _, rfl, ?_⟩
    refine iteF ?_
    refine ⟨_, rfl, p, _, _, _, rfl, rfl, hT, rfl, _, rfl, p2, _, _, _, rfl, rfl, hU, rfl, (by simp [scal]), _, rfl, ?_⟩
    refine ifnF rfl ?_
    refine ⟨_, rfl, p, _, _, _, rfl, rfl, hT, rfl, _, rfl, _, rfl, ?_⟩
    refine iteF ?_
    refine ⟨_, rfl, p, _, _, _, rfl, rfl, hT, rfl, _, rfl, p2, _, _, _, rfl, rfl, hU, rfl, rfl, _, rfl, ?_⟩
    refine ifnF rfl ?_
    refine ⟨_, rfl, p2, _, _, _, rfl, rfl, hU, rfl, rfl, _, rfl, ?_⟩
    rcases hy with rfl | ⟨i, rfl⟩
    · refine ifT rfl ?_
      exact ⟨_, rfl, p, _, _, _, rfl, rfl, hT, rfl, rfl, q⟩
    · refine iteF ?_
      refine ⟨_, rfl, p, _, _, _, rfl, rfl, hT, rfl, _, rfl, _, rfl, ?_⟩
      refine iteT ?_
      exact ⟨_, rfl, p, _, _, _, rfl, rfl, hT, rfl, _, rfl, p2, _, _, _, rfl, rfl, hU, rfl, rfl, qT q rfl⟩
theorem cal_law_same_origin {P : Program} {w : World} {K : PySem.W.Frag} {mg : Str → Option Value} {base : Heap} {f : Addr} {fd : FuncData} (F : Fun K "_law_same_origin" "_law_same_origin" s_law_same_origin f fd) (b : Binds K fd ["_law_found", "_law_due"] []) (m : mg "_law_same_origin" = some (.ref f)) (z_isinstance : mg "isinstance" = none) (z_tuple : mg "tuple" = none) (z_len : mg "len" = none) (z_str : mg "str" = none) (C_law_whole : Cal P w K mg base "_law_whole" 1 ["_law_found"] (sp_law_whole K)) : Cal P w K mg base "_law_same_origin" 2 ["_law_found", "_law_due"] (sp_law_same_origin K) :=
  ⟨f, fd, F.ok sc_law_same_origin (fun vs H Q E h => by first | (obtain ⟨_, rfl, _⟩ := h; rfl) | (obtain ⟨_, _, rfl, _⟩ := h; rfl) | (obtain ⟨_, _, _, rfl, _⟩ := h; rfl) | (obtain ⟨_, _, _, _, rfl, _⟩ := h; rfl) | (obtain ⟨_, _, _, _, _, rfl, _⟩ := h; rfl) | (obtain ⟨_, _, _, _, _, _, rfl, _⟩ := h; rfl) | (obtain ⟨_, _, _, _, _, _, _, rfl, _⟩ := h; rfl) | (obtain ⟨_, _, _, _, _, _, _, _, rfl, _⟩ := h; rfl) | (obtain ⟨_, _, _, _, _, _, _, _, _, rfl, _⟩ := h; rfl)) (fun cdv A outer s H vs Q E hr h => unW (body_law_same_origin (X := (cxOf CX0 P w K mg base ["_law_found", "_law_due"] "_law_same_origin" (defScope s_law_same_origin) f cdv A outer s H E).nox) ⟨rfl, rfl, rfl, PassesOwn.never⟩ hr z_isinstance z_tuple z_len z_str C_law_whole h)), b, F.kp, m⟩
theorem lk_law_is_0 : (defScope s_law_is).names.lookup ("_law_found" : Str) = some .local := by decide +kernel
theorem pv_law_is_0 {X : Cx} (c : CxIs X ["_law_found", "_law_due"] (defScope s_law_is)) {pos : Pos} : WE X (.Name "_law_found" pos) (tVar 0) := wxv c rfl lk_law_is_0 (by decide) (by decide)
theorem lk_law_is_1 : (defScope s_law_is).names.lookup ("_law_due" : Str) = some .local := by decide +kernel
theorem pv_law_is_1 {X : Cx} (c : CxIs X ["_law_found", "_law_due"] (defScope s_law_is)) {pos : Pos} : WE X (.Name "_law_due" pos) (tVar 1) := wxv c rfl lk_law_is_1 (by decide) (by decide)
theorem gl_law_is_law_whole {X : Cx} (c : CxIs X ["_law_found", "_law_due"] (defScope s_law_is)) : Gl X "_law_whole" := xg c (by decide +kernel)
theorem st_law_is (v0 v1 : V) : L2.start ["_law_found", "_law_due"] [v0, v1] = [some v0, some v1] := rfl
noncomputable def sp_law_is (K : PySem.W.Frag) : Sp := fun vs H Q _ => ∃ (i : Int), vs = [.int i, .int i] ∧ Q (.bl true) H
theorem body_law_is {X : Cx} (c : CxIs X ["_law_found", "_law_due"] (defScope s_law_is)) (hr : Room 1 X.A) {E : XK}  (C_law_whole : Cal X.prog X.w X.K X.mg X.base "_law_whole" 1 ["_law_found"] (sp_law_whole X.K)) {vs : List V} {H : Hp} {Q : VK} (h : sp_law_is X.K vs H Q E) : ∃ t, WSs X (defBody s_law_is) t ∧ t { nx := fun _ H' => Q .non H', rt := Q } (L2.start ["_law_found", "_law_due"] vs) H := by
  obtain ⟨f_law_whole, d_law_whole, G_law_whole, b_law_whole, k_law_whole, m_law_whole⟩ := C_law_whole
  · obtain ⟨i, rfl, q⟩ := h
    refine ⟨_, (wss_one (ws_ret (we_and (we_call (G_law_whole.mono (by decide)) hr (gl_law_is_law_whole c) m_law_whole k_law_whole b_law_whole .nil pass0 (wa_cons (pv_law_is_0 c) wa_nil star_Name)) (we_one (we_cmpR op_eq (pv_law_is_0 c) (pv_law_is_1 c) (nomark _)))))), ?_⟩
    rw [st_law_is]
    refine ⟨_, rfl, _, rfl, _, rfl, ?_⟩
    refine iteT ?_
    refine ⟨_, rfl, _, rfl, rfl, ?_⟩
    exact qT q rfl
theorem cal_law_is {P : Program} {w : World} {K : PySem.W.Frag} {mg : Str → Option Value} {base : Heap} {f : Addr} {fd : FuncData} (F : Fun K "_law_is" "_law_is" s_law_is f fd) (b : Binds K fd ["_law_found", "_law_due"] []) (m : mg "_law_is" = some (.ref f)) (C_law_whole : Cal P w K mg base "_law_whole" 1 ["_law_found"] (sp_law_whole K)) : Cal P w K mg base "_law_is" 2 ["_law_found", "_law_due"] (sp_law_is K) :=
  ⟨f, fd, F.ok sc_law_is (fun vs H Q E h => by first | (obtain ⟨_, rfl, _⟩ := h; rfl) | (obtain ⟨_, _, rfl, _⟩ := h; rfl) | (obtain ⟨_, _, _, rfl, _⟩ := h; rfl) | (obtain ⟨_, _, _, _, rfl, _⟩ := h; rfl) | (obtain ⟨_, _, _, _, _, rfl, _⟩ := h; rfl) | (obtain ⟨_, _, _, _, _, _, rfl, _⟩ := h; rfl) | (obtain ⟨_, _, _, _, _, _, _, rfl, _⟩ := h; rfl) | (obtain ⟨_, _, _, _, _, _, _, _, rfl, _⟩ := h; rfl) | (obtain ⟨_, _, _, _, _, _, _, _, _, rfl, _⟩ := h; rfl)) (fun cdv A outer s H vs Q E hr h => unW (body_law_is (X := (cxOf CX0 P w K mg base ["_law_found", "_law_due"] "_law_is" (defScope s_law_is) f cdv A outer s H E).nox) ⟨rfl, rfl, rfl, PassesOwn.never⟩ hr C_law_whole h)), b, F.kp, m⟩
noncomputable def sp_share (K : PySem.W.Frag) : Sp := fun vs H Q _ => ∃ (a : Addr) (st : StepD), vs = [.ref a] ∧ SqT K H a st.vals ∧ st.Ok ∧ ∀ p H', Same H H' → SqT K H' p [.int st.sn, .int st.sd] → st.Ok → Q (.ref p) H'
theorem cal_share {P : Program} {w : World} {K : PySem.W.Frag} {mg : Str → Option Value} {base : Heap} {f : Addr} {fd : FuncData} (F : Fun K "share" "share" s_share f fd) (b : Binds K fd ["step"] []) (m : mg "share" = some (.ref f)) (C_lowest : Cal P w K mg base "lowest" 2 ["num", "den"] (sp_lowest K)) : Cal P w K mg base "share" 3 ["step"] (sp_share K) := by
  obtain ⟨f_lowest, d_lowest, G_lowest, b_lowest, k_lowest, m_lowest⟩ := C_lowest
  refine ⟨f, fd, F.ok sc_share (fun vs H Q E h => ?_) (fun cdv A outer s H vs Q E hr h => ?_), b, F.kp, m⟩
  · first | (obtain ⟨_, rfl, _⟩ := h; rfl) | (obtain ⟨_, _, rfl, _⟩ := h; rfl) | (obtain ⟨_, _, _, rfl, _⟩ := h; rfl) | (obtain ⟨_, _, _, _, rfl, _⟩ := h; rfl) | (obtain ⟨_, _, _, _, _, rfl, _⟩ := h; rfl) | (obtain ⟨_, _, _, _, _, _, rfl, _⟩ := h; rfl) | (obtain ⟨_, _, _, _, _, _, _, rfl, _⟩ := h; rfl) | (obtain ⟨_, _, _, _, _, _, _, _, rfl, _⟩ := h; rfl) | (obtain ⟨_, _, _, _, _, _, _, _, _, rfl, _⟩ := h; rfl)
  · obtain ⟨a, st, rfl, hT, hO, q⟩ := h
    refine ⟨_, (pss_cons (ps_set (i := 1) sc_share.nd rfl (Or.inl rfl) (pe_ix ix_tup (pv 0) pe_int (fun _ _ => rfl)))
      (pss_cons (ps_set (i := 2) sc_share.nd rfl (Or.inl rfl) (pe_ix ix_tup (pv 0) pe_int (fun _ _ => rfl)))
      (pss_cons (ps_set (i := 3) sc_share.nd rfl (Or.inl rfl) (pe_ix ix_tup (pv 0) pe_int (fun _ _ => rfl)))
      (pss_cons (ps_if (pt_cmpR op_eq (pv 1) pe_str (nomark _))
      (pss_one (ps_ret (pe_call (G_lowest.mono (by decide)) hr rfl m_lowest k_lowest b_lowest .nil pass0 (pa_cons (pe_op op_add (pv 3) (pv 2)) (pa_cons (pv 3) pa_nil)))))
      pss_nil)
      (pss_cons (ps_if (pt_cmpR op_eq (pv 1) pe_str (nomark _))
      (pss_one (ps_ret (pe_call (G_lowest.mono (by decide)) hr rfl m_lowest k_lowest b_lowest .nil pass0 (pa_cons (pe_op op_sub (pv 3) (pv 2)) (pa_cons (pv 3) pa_nil)))))
      pss_nil)
      (pss_one (ps_ret (pe_call (G_lowest.mono (by decide)) hr rfl m_lowest k_lowest b_lowest .nil pass0 (pa_cons (pv 2) (pa_cons (pv 3) pa_nil)))))))))), ?_⟩
    have n0 := hO.num0
    have d0 := hO.d0
    have d1 := hO.d1
    have dd : st.d < 2 ^ 350 := by omega
    refine ⟨_, rfl, a, _, _, _, rfl, rfl, hT, rfl, ?_⟩
    refine ⟨_, rfl, a, _, _, _, rfl, rfl, hT, rfl, ?_⟩
    refine ⟨_, rfl, a, _, _, _, rfl, rfl, hT, rfl, ?_⟩
    refine ⟨_, rfl, rfl, _, rfl, ?_⟩
    refine if2 (fun c => ?_) (fun c => ?_)
    · have e : st.num = st.d + st.n := if_pos (V.str.inj c)
      refine ⟨_, rfl, _, rfl, _, _, rfl, rfl, _, rfl, _, _, rfl, by omega, d0, dd, fun p H' sH hP => q p H' sH ?_ hO⟩
      unfold StepD.sn StepD.sd StepD.g; rw [e]; exact hP
    have c' : ¬ st.w = "add" := fun z => c (by rw [z])
    refine ⟨_, rfl, rfl, _, rfl, ?_⟩
    refine if2 (fun c2 => ?_) (fun c2 => ?_)
    · have e : st.num = st.d - st.n := by unfold StepD.num; rw [if_neg c', if_pos (V.str.inj c2)]
      refine ⟨_, rfl, _, rfl, _, _, rfl, rfl, _, rfl, _, _, rfl, by omega, d0, dd, fun p H' sH hP => q p H' sH ?_ hO⟩
      unfold StepD.sn StepD.sd StepD.g; rw [e]; exact hP
    · have c2' : ¬ st.w = "off" := fun z => c2 (by rw [z])
      have e : st.num = st.n := by unfold StepD.num; rw [if_neg c', if_neg c2']
      refine ⟨_, rfl, _, rfl, _, _, rfl, by omega, d0, dd, fun p H' sH hP => q p H' sH ?_ hO⟩
      unfold StepD.sn StepD.sd StepD.g; rw [e]; exact hP
theorem lk_law_product_0 : (defScope s_law_product).names.lookup ("_law_steps" : Str) = some .local := by decide +kernel
theorem pv_law_product_0 {X : Cx} (c : CxIs X ["_law_steps", "_law_wide", "_law_step_here"] (defScope s_law_product)) {pos : Pos} : WE X (.Name "_law_steps" pos) (tVar 0) := wxv c rfl lk_law_product_0 (by decide) (by decide)
theorem lk_law_product_1 : (defScope s_law_product).names.lookup ("_law_wide" : Str) = some .local := by decide +kernel
theorem pv_law_product_1 {X : Cx} (c : CxIs X ["_law_steps", "_law_wide", "_law_step_here"] (defScope s_law_product)) {pos : Pos} : WE X (.Name "_law_wide" pos) (tVar 1) := wxv c rfl lk_law_product_1 (by decide) (by decide)
theorem ss_law_product_1 {X : Cx} (c : CxIs X ["_law_steps", "_law_wide", "_law_step_here"] (defScope s_law_product)) {pos pos' : Pos} {e : Expr} {te : TE} (he : WE X e te) (hs : swapsWith e (some (.Name "_law_wide" pos')) pos.line X.env = pure false := by rfl) : WS X (.Assign [.Name "_law_wide" pos'] e pos) (tAsg te (gN 1)) := wxs c sc_law_product.nd rfl lk_law_product_1 he hs
theorem lk_law_product_2 : (defScope s_law_product).names.lookup ("_law_step_here" : Str) = some .local := by decide +kernel
theorem pv_law_product_2 {X : Cx} (c : CxIs X ["_law_steps", "_law_wide", "_law_step_here"] (defScope s_law_product)) {pos : Pos} : WE X (.Name "_law_step_here" pos) (tVar 2) := wxv c rfl lk_law_product_2 (by decide) (by decide)
theorem sg_law_product_2 {X : Cx} (c : CxIs X ["_law_steps", "_law_wide", "_law_step_here"] (defScope s_law_product)) {pos : Pos} : WG X (.Name "_law_step_here" pos) (gN 2) := wxt c sc_law_product.nd rfl lk_law_product_2
theorem gl_law_product_law_own {X : Cx} (c : CxIs X ["_law_steps", "_law_wide", "_law_step_here"] (defScope s_law_product)) : Gl X "_law_own" := xg c (by decide +kernel)
theorem st_law_product (v0 : V) : L2.start ["_law_steps", "_law_wide", "_law_step_here"] [v0] = [some v0, none, none] := rfl
noncomputable def sp_law_product (K : PySem.W.Frag) : Sp := fun vs H Q _ => ∃ (l : Addr) (as : List Addr) (sts : List StepD), vs = [.ref l] ∧ Chn K H l as sts ∧ Q (.int (prodI sts)) H
theorem body_law_product {X : Cx} (c : CxIs X ["_law_steps", "_law_wide", "_law_step_here"] (defScope s_law_product)) (hr : Room 2 X.A) {E : XK}  (C_law_own : Cal X.prog X.w X.K X.mg X.base "_law_own" 2 ["_law_step_here"] (sp_law_own X.K)) {vs : List V} {H : Hp} {Q : VK} (h : sp_law_product X.K vs H Q E) : ∃ t, WSs X (defBody s_law_product) t ∧ t { nx := fun _ H' => Q .non H', rt := Q } (L2.start ["_law_steps", "_law_wide", "_law_step_here"] vs) H := by
  obtain ⟨f_law_own, d_law_own, G_law_own, b_law_own, k_law_own, m_law_own⟩ := C_law_own
  · obtain ⟨l, as, sts, rfl, hC, q⟩ := h
    refine ⟨_, (wss_cons (ss_law_product_1 c we_int)
      (wss_cons (ws_for c.own c.calm (wi_list (pv_law_product_0 c)) (sg_law_product_2 c)
      (wss_one (ss_law_product_1 c (we_op op_mulB (pv_law_product_1 c) (we_call (G_law_own.mono (by decide)) hr (gl_law_product_law_own c) m_law_own k_law_own b_law_own .nil pass0 (wa_cons (pv_law_product_2 c) wa_nil star_Name))))))
      (wss_one (ws_ret (pv_law_product_1 c))))), ?_⟩
    rw [st_law_product]
    intro σ e
    dsimp only [List.set] at e
    subst e
    refine ⟨_, rfl, l, rfl, ⟨_, hC.lst⟩, for_list (K := X.K) (a := l) (xs := as.map V.ref) (fun i σ H' => H' = H ∧ ∃ v, σ = [some (.ref l), some (.int (prodI (sts.take i))), v])
      ⟨rfl, _, rfl⟩ (fun i σ H' _ ⟨e, _⟩ => by rw [e]; exact hC.lst) ?_ ?_⟩
    · rintro i x σ H' hi ⟨rfl, v, rfl⟩ σ e
      obtain ⟨a, st, rfl, h1, h2, hT, hO⟩ := hC.get hi
      dsimp only [List.set] at e
      subst e
      have c0 := hO.cyc0
      have c1 := hO.cyc1
      refine ⟨_, rfl, _, rfl, a, st, rfl, hT, hO, _, _, rfl, rfl, mul_r (by omega) (by omega), fun σ e => ?_⟩
      dsimp only [List.set] at e
      subst e
      exact ⟨rfl, _, by rw [take_snoc h2, prodI_snoc]⟩
    · rintro σ H' ⟨rfl, v, rfl⟩
      refine ⟨_, rfl, ?_⟩
      have e : sts.take (as.map V.ref).length = sts := by rw [List.length_map, hC.len, List.take_length]
      rw [e]
      exact q
theorem cal_law_product {P : Program} {w : World} {K : PySem.W.Frag} {mg : Str → Option Value} {base : Heap} {f : Addr} {fd : FuncData} (F : Fun K "_law_product" "_law_product" s_law_product f fd) (b : Binds K fd ["_law_steps"] []) (m : mg "_law_product" = some (.ref f)) (C_law_own : Cal P w K mg base "_law_own" 2 ["_law_step_here"] (sp_law_own K)) : Cal P w K mg base "_law_product" 3 ["_law_steps"] (sp_law_product K) :=
  ⟨f, fd, F.ok sc_law_product (fun vs H Q E h => by first | (obtain ⟨_, rfl, _⟩ := h; rfl) | (obtain ⟨_, _, rfl, _⟩ := h; rfl) | (obtain ⟨_, _, _, rfl, _⟩ := h; rfl) | (obtain ⟨_, _, _, _, rfl, _⟩ := h; rfl) | (obtain ⟨_, _, _, _, _, rfl, _⟩ := h; rfl) | (obtain ⟨_, _, _, _, _, _, rfl, _⟩ := h; rfl) | (obtain ⟨_, _, _, _, _, _, _, rfl, _⟩ := h; rfl) | (obtain ⟨_, _, _, _, _, _, _, _, rfl, _⟩ := h; rfl) | (obtain ⟨_, _, _, _, _, _, _, _, _, rfl, _⟩ := h; rfl)) (fun cdv A outer s H vs Q E hr h => unW (body_law_product (X := (cxOf CX0 P w K mg base ["_law_steps", "_law_wide", "_law_step_here"] "_law_product" (defScope s_law_product) f cdv A outer s H E).nox) ⟨rfl, rfl, rfl, PassesOwn.never⟩ hr C_law_own h)), b, F.kp, m⟩
theorem lk_law_end_0 : (defScope s_law_end).names.lookup ("_law_steps" : Str) = some .local := by decide +kernel
theorem pv_law_end_0 {X : Cx} (c : CxIs X ["_law_steps", "_law_amount", "_law_step_here"] (defScope s_law_end)) {pos : Pos} : WE X (.Name "_law_steps" pos) (tVar 0) := wxv c rfl lk_law_end_0 (by decide) (by decide)
theorem lk_law_end_1 : (defScope s_law_end).names.lookup ("_law_amount" : Str) = some .local := by decide +kernel
theorem pv_law_end_1 {X : Cx} (c : CxIs X ["_law_steps", "_law_amount", "_law_step_here"] (defScope s_law_end)) {pos : Pos} : WE X (.Name "_law_amount" pos) (tVar 1) := wxv c rfl lk_law_end_1 (by decide) (by decide)
theorem ss_law_end_1 {X : Cx} (c : CxIs X ["_law_steps", "_law_amount", "_law_step_here"] (defScope s_law_end)) {pos pos' : Pos} {e : Expr} {te : TE} (he : WE X e te) (hs : swapsWith e (some (.Name "_law_amount" pos')) pos.line X.env = pure false := by rfl) : WS X (.Assign [.Name "_law_amount" pos'] e pos) (tAsg te (gN 1)) := wxs c sc_law_end.nd rfl lk_law_end_1 he hs
theorem lk_law_end_2 : (defScope s_law_end).names.lookup ("_law_step_here" : Str) = some .local := by decide +kernel
theorem pv_law_end_2 {X : Cx} (c : CxIs X ["_law_steps", "_law_amount", "_law_step_here"] (defScope s_law_end)) {pos : Pos} : WE X (.Name "_law_step_here" pos) (tVar 2) := wxv c rfl lk_law_end_2 (by decide) (by decide)
theorem sg_law_end_2 {X : Cx} (c : CxIs X ["_law_steps", "_law_amount", "_law_step_here"] (defScope s_law_end)) {pos : Pos} : WG X (.Name "_law_step_here" pos) (gN 2) := wxt c sc_law_end.nd rfl lk_law_end_2
theorem gl_law_end_law_after {X : Cx} (c : CxIs X ["_law_steps", "_law_amount", "_law_step_here"] (defScope s_law_end)) : Gl X "_law_after" := xg c (by decide +kernel)
theorem st_law_end (v0 v1 : V) : L2.start ["_law_steps", "_law_amount", "_law_step_here"] [v0, v1] = [some v0, some v1, none] := rfl
noncomputable def sp_law_end (K : PySem.W.Frag) : Sp := fun vs H Q _ => ∃ (l : Addr) (as : List Addr) (sts : List StepD) (m : Int), vs = [.ref l, .int m] ∧ Chn K H l as sts ∧ Q (.int (endI sts m)) H
theorem body_law_end {X : Cx} (c : CxIs X ["_law_steps", "_law_amount", "_law_step_here"] (defScope s_law_end)) (hr : Room 2 X.A) {E : XK}  (C_law_after : Cal X.prog X.w X.K X.mg X.base "_law_after" 2 ["_law_step_here", "_law_amount"] (sp_law_after X.K)) {vs : List V} {H : Hp} {Q : VK} (h : sp_law_end X.K vs H Q E) : ∃ t, WSs X (defBody s_law_end) t ∧ t { nx := fun _ H' => Q .non H', rt := Q } (L2.start ["_law_steps", "_law_amount", "_law_step_here"] vs) H := by
  obtain ⟨f_law_after, d_law_after, G_law_after, b_law_after, k_law_after, m_law_after⟩ := C_law_after
  · obtain ⟨l, as, sts, m, rfl, hC, q⟩ := h
    refine ⟨_, (wss_cons (ws_for c.own c.calm (wi_list (pv_law_end_0 c)) (sg_law_end_2 c)
      (wss_one (ss_law_end_1 c (we_call (G_law_after.mono (by decide)) hr (gl_law_end_law_after c) m_law_after k_law_after b_law_after .nil pass0 (wa_cons (pv_law_end_2 c) (wa_cons (pv_law_end_1 c) wa_nil star_Name) star_Name)))))
      (wss_one (ws_ret (pv_law_end_1 c)))), ?_⟩
    rw [st_law_end]
    refine ⟨_, rfl, l, rfl, ⟨_, hC.lst⟩, for_list (K := X.K) (a := l) (xs := as.map V.ref) (fun i σ H' => H' = H ∧ ∃ v, σ = [some (.ref l), some (.int (endI (sts.take i) m)), v])
      ⟨rfl, _, rfl⟩ (fun i σ H' _ ⟨e, _⟩ => by rw [e]; exact hC.lst) ?_ ?_⟩
    · rintro i x σ H' hi ⟨rfl, v, rfl⟩ σ e
      obtain ⟨a, st, rfl, h1, h2, hT, hO⟩ := hC.get hi
      dsimp only [List.set] at e
      subst e
      refine ⟨_, rfl, _, rfl, a, st, _, rfl, hT, hO, fun σ e => ?_⟩
      dsimp only [List.set] at e
      subst e
      exact ⟨rfl, _, by rw [take_snoc h2, endI_snoc]⟩
    · rintro σ H' ⟨rfl, v, rfl⟩
      refine ⟨_, rfl, ?_⟩
      have e : sts.take (as.map V.ref).length = sts := by rw [List.length_map, hC.len, List.take_length]
      rw [e]
      exact q
theorem cal_law_end {P : Program} {w : World} {K : PySem.W.Frag} {mg : Str → Option Value} {base : Heap} {f : Addr} {fd : FuncData} (F : Fun K "_law_end" "_law_end" s_law_end f fd) (b : Binds K fd ["_law_steps", "_law_amount"] []) (m : mg "_law_end" = some (.ref f)) (C_law_after : Cal P w K mg base "_law_after" 2 ["_law_step_here", "_law_amount"] (sp_law_after K)) : Cal P w K mg base "_law_end" 3 ["_law_steps", "_law_amount"] (sp_law_end K) :=
  ⟨f, fd, F.ok sc_law_end (fun vs H Q E h => by first | (obtain ⟨_, rfl, _⟩ := h; rfl) | (obtain ⟨_, _, rfl, _⟩ := h; rfl) | (obtain ⟨_, _, _, rfl, _⟩ := h; rfl) | (obtain ⟨_, _, _, _, rfl, _⟩ := h; rfl) | (obtain ⟨_, _, _, _, _, rfl, _⟩ := h; rfl) | (obtain ⟨_, _, _, _, _, _, rfl, _⟩ := h; rfl) | (obtain ⟨_, _, _, _, _, _, _, rfl, _⟩ := h; rfl) | (obtain ⟨_, _, _, _, _, _, _, _, rfl, _⟩ := h; rfl) | (obtain ⟨_, _, _, _, _, _, _, _, _, rfl, _⟩ := h; rfl)) (fun cdv A outer s H vs Q E hr h => unW (body_law_end (X := (cxOf CX0 P w K mg base ["_law_steps", "_law_amount", "_law_step_here"] "_law_end" (defScope s_law_end) f cdv A outer s H E).nox) ⟨rfl, rfl, rfl, PassesOwn.never⟩ hr C_law_after h)), b, F.kp, m⟩
noncomputable def sp_after (K : PySem.W.Frag) : Sp := fun vs H Q _ => ∃ (a : Addr) (st : StepD) (m : Int), vs = [.ref a, .int m] ∧ SqT K H a st.vals ∧ st.Ok ∧ ∀ H', Same H H' → Q (.int (afterI st m)) H'
theorem cal_after {P : Program} {w : World} {K : PySem.W.Frag} {mg : Str → Option Value} {base : Heap} {f : Addr} {fd : FuncData} (F : Fun K "after" "after" s_after f fd) (b : Binds K fd ["step", "amount"] []) (m : mg "after" = some (.ref f)) (C_share : Cal P w K mg base "share" 3 ["step"] (sp_share K)) (C_rounded : Cal P w K mg base "rounded" 1 ["num", "den", "unit", "way"] (sp_rounded K)) : Cal P w K mg base "after" 4 ["step", "amount"] (sp_after K) := by
  obtain ⟨f_share, d_share, G_share, b_share, k_share, m_share⟩ := C_share
  obtain ⟨f_rounded, d_rounded, G_rounded, b_rounded, k_rounded, m_rounded⟩ := C_rounded
  refine ⟨f, fd, F.ok sc_after (fun vs H Q E h => ?_) (fun cdv A outer s H vs Q E hr h => ?_), b, F.kp, m⟩
  · first | (obtain ⟨_, rfl, _⟩ := h; rfl) | (obtain ⟨_, _, rfl, _⟩ := h; rfl) | (obtain ⟨_, _, _, rfl, _⟩ := h; rfl) | (obtain ⟨_, _, _, _, rfl, _⟩ := h; rfl) | (obtain ⟨_, _, _, _, _, rfl, _⟩ := h; rfl) | (obtain ⟨_, _, _, _, _, _, rfl, _⟩ := h; rfl) | (obtain ⟨_, _, _, _, _, _, _, rfl, _⟩ := h; rfl) | (obtain ⟨_, _, _, _, _, _, _, _, rfl, _⟩ := h; rfl) | (obtain ⟨_, _, _, _, _, _, _, _, _, rfl, _⟩ := h; rfl)
  · obtain ⟨a, st, m, rfl, hT, hO, q⟩ := h
    refine ⟨_, (pss_cons (ps_set (i := 2) sc_after.nd rfl (Or.inl rfl) (pe_ix ix_tup (pv 0) pe_int (fun _ _ => rfl)))
      (pss_cons (ps_set (i := 3) sc_after.nd rfl (Or.inl rfl) (pe_ix ix_tup (pv 0) pe_int (fun _ _ => rfl)))
      (pss_cons (ps_set (i := 4) sc_after.nd rfl (Or.inl rfl) (pe_ix ix_tup (pv 0) pe_int (fun _ _ => rfl)))
      (pss_cons (ps_set (i := 5) sc_after.nd rfl (Or.inl rfl) (pe_call (G_share.mono (by decide)) hr rfl m_share k_share b_share .nil pass0 (pa_cons (pv 0) pa_nil)))
      (pss_cons (ps_set (i := 6) sc_after.nd rfl (Or.inl rfl) (pe_op op_add (pe_op op_mulB (pv 1) (pe_ix ix_tup (pv 5) pe_int (fun _ _ => rfl))) (pe_op op_mulB (pv 2) (pe_ix ix_tup (pv 5) pe_int (fun _ _ => rfl)))))
      (pss_one (ps_ret (pe_call (G_rounded.mono (by decide)) hr rfl m_rounded k_rounded b_rounded .nil pass0 (pa_cons (pv 6) (pa_cons (pe_ix ix_tup (pv 5) pe_int (fun _ _ => rfl)) (pa_cons (pv 4) (pa_cons (pv 3) pa_nil)))))))))))), ?_⟩
    have n0 := hO.sn0
    have n1 := hO.sn1
    have d0 := hO.sd0
    have d1 := hO.sd1
    refine ⟨_, rfl, a, _, _, _, rfl, rfl, hT, rfl, ?_⟩
    refine ⟨_, rfl, a, _, _, _, rfl, rfl, hT, rfl, ?_⟩
    refine ⟨_, rfl, a, _, _, _, rfl, rfl, hT, rfl, ?_⟩
    refine ⟨_, rfl, _, st, rfl, hT, hO, fun p H' sH hP _ => ?_⟩
    refine ⟨_, rfl, _, rfl, p, _, _, _, rfl, rfl, hP, rfl, _, _, rfl, rfl, mul_r (by omega) (by omega), _, rfl, _, rfl, p, _, _, _, rfl, rfl, hP, rfl, _, _, rfl, rfl, mul_r (by omega) (by omega), _, _, rfl, rfl, ?_⟩
    exact ⟨_, rfl, _, rfl, p, _, _, _, rfl, rfl, hP, rfl, _, rfl, _, rfl, _, _, _, _, rfl, d0, by omega, hO.u0, hO.u1, q H' sH⟩
theorem lk_least_ahead_0 : (defScope s_least_ahead).names.lookup ("step" : Str) = some .local := by decide +kernel
theorem pv_least_ahead_0 {X : Cx} (c : CxIs X ["step", "amount", "pennies", "way", "unit", "part", "goal", "bound", "num", "den"] (defScope s_least_ahead)) {pos : Pos} : WE X (.Name "step" pos) (tVar 0) := wxv c rfl lk_least_ahead_0 (by decide) (by decide)
theorem lk_least_ahead_1 : (defScope s_least_ahead).names.lookup ("amount" : Str) = some .local := by decide +kernel
theorem pv_least_ahead_1 {X : Cx} (c : CxIs X ["step", "amount", "pennies", "way", "unit", "part", "goal", "bound", "num", "den"] (defScope s_least_ahead)) {pos : Pos} : WE X (.Name "amount" pos) (tVar 1) := wxv c rfl lk_least_ahead_1 (by decide) (by decide)
theorem lk_least_ahead_2 : (defScope s_least_ahead).names.lookup ("pennies" : Str) = some .local := by decide +kernel
theorem pv_least_ahead_2 {X : Cx} (c : CxIs X ["step", "amount", "pennies", "way", "unit", "part", "goal", "bound", "num", "den"] (defScope s_least_ahead)) {pos : Pos} : WE X (.Name "pennies" pos) (tVar 2) := wxv c rfl lk_least_ahead_2 (by decide) (by decide)
theorem ss_least_ahead_2 {X : Cx} (c : CxIs X ["step", "amount", "pennies", "way", "unit", "part", "goal", "bound", "num", "den"] (defScope s_least_ahead)) {pos pos' : Pos} {e : Expr} {te : TE} (he : WE X e te) (hs : swapsWith e (some (.Name "pennies" pos')) pos.line X.env = pure false := by rfl) : WS X (.Assign [.Name "pennies" pos'] e pos) (tAsg te (gN 2)) := wxs c sc_least_ahead.nd rfl lk_least_ahead_2 he hs
theorem lk_least_ahead_3 : (defScope s_least_ahead).names.lookup ("way" : Str) = some .local := by decide +kernel
theorem pv_least_ahead_3 {X : Cx} (c : CxIs X ["step", "amount", "pennies", "way", "unit", "part", "goal", "bound", "num", "den"] (defScope s_least_ahead)) {pos : Pos} : WE X (.Name "way" pos) (tVar 3) := wxv c rfl lk_least_ahead_3 (by decide) (by decide)
theorem ss_least_ahead_3 {X : Cx} (c : CxIs X ["step", "amount", "pennies", "way", "unit", "part", "goal", "bound", "num", "den"] (defScope s_least_ahead)) {pos pos' : Pos} {e : Expr} {te : TE} (he : WE X e te) (hs : swapsWith e (some (.Name "way" pos')) pos.line X.env = pure false := by rfl) : WS X (.Assign [.Name "way" pos'] e pos) (tAsg te (gN 3)) := wxs c sc_least_ahead.nd rfl lk_least_ahead_3 he hs
theorem lk_least_ahead_4 : (defScope s_least_ahead).names.lookup ("unit" : Str) = some .local := by decide +kernel
theorem pv_least_ahead_4 {X : Cx} (c : CxIs X ["step", "amount", "pennies", "way", "unit", "part", "goal", "bound", "num", "den"] (defScope s_least_ahead)) {pos : Pos} : WE X (.Name "unit" pos) (tVar 4) := wxv c rfl lk_least_ahead_4 (by decide) (by decide)
theorem ss_least_ahead_4 {X : Cx} (c : CxIs X ["step", "amount", "pennies", "way", "unit", "part", "goal", "bound", "num", "den"] (defScope s_least_ahead)) {pos pos' : Pos} {e : Expr} {te : TE} (he : WE X e te) (hs : swapsWith e (some (.Name "unit" pos')) pos.line X.env = pure false := by rfl) : WS X (.Assign [.Name "unit" pos'] e pos) (tAsg te (gN 4)) := wxs c sc_least_ahead.nd rfl lk_least_ahead_4 he hs
theorem lk_least_ahead_5 : (defScope s_least_ahead).names.lookup ("part" : Str) = some .local := by decide +kernel
theorem pv_least_ahead_5 {X : Cx} (c : CxIs X ["step", "amount", "pennies", "way", "unit", "part", "goal", "bound", "num", "den"] (defScope s_least_ahead)) {pos : Pos} : WE X (.Name "part" pos) (tVar 5) := wxv c rfl lk_least_ahead_5 (by decide) (by decide)
theorem ss_least_ahead_5 {X : Cx} (c : CxIs X ["step", "amount", "pennies", "way", "unit", "part", "goal", "bound", "num", "den"] (defScope s_least_ahead)) {pos pos' : Pos} {e : Expr} {te : TE} (he : WE X e te) (hs : swapsWith e (some (.Name "part" pos')) pos.line X.env = pure false := by rfl) : WS X (.Assign [.Name "part" pos'] e pos) (tAsg te (gN 5)) := wxs c sc_least_ahead.nd rfl lk_least_ahead_5 he hs
theorem lk_least_ahead_6 : (defScope s_least_ahead).names.lookup ("goal" : Str) = some .local := by decide +kernel
theorem pv_least_ahead_6 {X : Cx} (c : CxIs X ["step", "amount", "pennies", "way", "unit", "part", "goal", "bound", "num", "den"] (defScope s_least_ahead)) {pos : Pos} : WE X (.Name "goal" pos) (tVar 6) := wxv c rfl lk_least_ahead_6 (by decide) (by decide)
theorem ss_least_ahead_6 {X : Cx} (c : CxIs X ["step", "amount", "pennies", "way", "unit", "part", "goal", "bound", "num", "den"] (defScope s_least_ahead)) {pos pos' : Pos} {e : Expr} {te : TE} (he : WE X e te) (hs : swapsWith e (some (.Name "goal" pos')) pos.line X.env = pure false := by rfl) : WS X (.Assign [.Name "goal" pos'] e pos) (tAsg te (gN 6)) := wxs c sc_least_ahead.nd rfl lk_least_ahead_6 he hs
theorem lk_least_ahead_7 : (defScope s_least_ahead).names.lookup ("bound" : Str) = some .local := by decide +kernel
theorem pv_least_ahead_7 {X : Cx} (c : CxIs X ["step", "amount", "pennies", "way", "unit", "part", "goal", "bound", "num", "den"] (defScope s_least_ahead)) {pos : Pos} : WE X (.Name "bound" pos) (tVar 7) := wxv c rfl lk_least_ahead_7 (by decide) (by decide)
theorem ss_least_ahead_7 {X : Cx} (c : CxIs X ["step", "amount", "pennies", "way", "unit", "part", "goal", "bound", "num", "den"] (defScope s_least_ahead)) {pos pos' : Pos} {e : Expr} {te : TE} (he : WE X e te) (hs : swapsWith e (some (.Name "bound" pos')) pos.line X.env = pure false := by rfl) : WS X (.Assign [.Name "bound" pos'] e pos) (tAsg te (gN 7)) := wxs c sc_least_ahead.nd rfl lk_least_ahead_7 he hs
theorem lk_least_ahead_8 : (defScope s_least_ahead).names.lookup ("num" : Str) = some .local := by decide +kernel
theorem pv_least_ahead_8 {X : Cx} (c : CxIs X ["step", "amount", "pennies", "way", "unit", "part", "goal", "bound", "num", "den"] (defScope s_least_ahead)) {pos : Pos} : WE X (.Name "num" pos) (tVar 8) := wxv c rfl lk_least_ahead_8 (by decide) (by decide)
theorem ss_least_ahead_8 {X : Cx} (c : CxIs X ["step", "amount", "pennies", "way", "unit", "part", "goal", "bound", "num", "den"] (defScope s_least_ahead)) {pos pos' : Pos} {e : Expr} {te : TE} (he : WE X e te) (hs : swapsWith e (some (.Name "num" pos')) pos.line X.env = pure false := by rfl) : WS X (.Assign [.Name "num" pos'] e pos) (tAsg te (gN 8)) := wxs c sc_least_ahead.nd rfl lk_least_ahead_8 he hs
theorem lk_least_ahead_9 : (defScope s_least_ahead).names.lookup ("den" : Str) = some .local := by decide +kernel
theorem pv_least_ahead_9 {X : Cx} (c : CxIs X ["step", "amount", "pennies", "way", "unit", "part", "goal", "bound", "num", "den"] (defScope s_least_ahead)) {pos : Pos} : WE X (.Name "den" pos) (tVar 9) := wxv c rfl lk_least_ahead_9 (by decide) (by decide)
theorem ss_least_ahead_9 {X : Cx} (c : CxIs X ["step", "amount", "pennies", "way", "unit", "part", "goal", "bound", "num", "den"] (defScope s_least_ahead)) {pos pos' : Pos} {e : Expr} {te : TE} (he : WE X e te) (hs : swapsWith e (some (.Name "den" pos')) pos.line X.env = pure false := by rfl) : WS X (.Assign [.Name "den" pos'] e pos) (tAsg te (gN 9)) := wxs c sc_least_ahead.nd rfl lk_least_ahead_9 he hs
theorem gl_least_ahead_share {X : Cx} (c : CxIs X ["step", "amount", "pennies", "way", "unit", "part", "goal", "bound", "num", "den"] (defScope s_least_ahead)) : Gl X "share" := xg c (by decide +kernel)
theorem gl_least_ahead_rounded {X : Cx} (c : CxIs X ["step", "amount", "pennies", "way", "unit", "part", "goal", "bound", "num", "den"] (defScope s_least_ahead)) : Gl X "rounded" := xg c (by decide +kernel)
theorem gl_least_ahead_max {X : Cx} (c : CxIs X ["step", "amount", "pennies", "way", "unit", "part", "goal", "bound", "num", "den"] (defScope s_least_ahead)) : Gl X "max" := xg c (by decide +kernel)
theorem st_least_ahead (v0 v1 : V) : L2.start ["step", "amount", "pennies", "way", "unit", "part", "goal", "bound", "num", "den"] [v0, v1] = [some v0, some v1, none, none, none, none, none, none, none, none] := rfl
noncomputable def sp_least_ahead (K : PySem.W.Frag) : Sp := fun vs H Q _ => ∃ (a : Addr) (st : StepD) (en : Int), vs = [.ref a, .int en] ∧ SqT K H a st.vals ∧ st.Ok ∧ ∀ m H', Same H H' → 0 ≤ m → (∀ q, 0 ≤ q → (en ≤ afterI st q ↔ m ≤ q)) → Q (.int m) H'
theorem body_least_ahead {X : Cx} (c : CxIs X ["step", "amount", "pennies", "way", "unit", "part", "goal", "bound", "num", "den"] (defScope s_least_ahead)) (hr : Room 3 X.A) {E : XK}  (z_max : X.mg "max" = none) (C_share : Cal X.prog X.w X.K X.mg X.base "share" 3 ["step"] (sp_share X.K)) (C_rounded : Cal X.prog X.w X.K X.mg X.base "rounded" 1 ["num", "den", "unit", "way"] (sp_rounded X.K)) {vs : List V} {H : Hp} {Q : VK} (h : sp_least_ahead X.K vs H Q E) : ∃ t, WSs X (defBody s_least_ahead) t ∧ t { nx := fun _ H' => Q .non H', rt := Q } (L2.start ["step", "amount", "pennies", "way", "unit", "part", "goal", "bound", "num", "den"] vs) H := by
  obtain ⟨f_share, d_share, G_share, b_share, k_share, m_share⟩ := C_share
  obtain ⟨f_rounded, d_rounded, G_rounded, b_rounded, k_rounded, m_rounded⟩ := C_rounded
  · obtain ⟨a, st, en, rfl, hT, hO, q⟩ := h
    refine ⟨_, (wss_cons (ss_least_ahead_2 c (we_ix ix_tup (pv_least_ahead_0 c) we_int plain_Constant))
      (wss_cons (ss_least_ahead_3 c (we_ix ix_tup (pv_least_ahead_0 c) we_int plain_Constant))
      (wss_cons (ss_least_ahead_4 c (we_ix ix_tup (pv_least_ahead_0 c) we_int plain_Constant))
      (wss_cons (ss_least_ahead_5 c (we_call (G_share.mono (by decide)) hr (gl_least_ahead_share c) m_share k_share b_share .nil pass0 (wa_cons (pv_least_ahead_0 c) wa_nil star_Name)))
      (wss_cons (ss_least_ahead_6 c (we_call (G_rounded.mono (by decide)) hr (gl_least_ahead_rounded c) m_rounded k_rounded b_rounded .nil pass0 (wa_cons (pv_least_ahead_1 c) (wa_cons we_int (wa_cons (pv_least_ahead_4 c) (wa_cons we_str wa_nil star_Constant) star_Name) star_Constant) star_Name)))
      (wss_cons (ss_least_ahead_7 c (we_op op_mulB we_int (pv_least_ahead_6 c)))
      (wss_cons (ws_if (wt_cmpR op_eq (pv_least_ahead_3 c) we_str (nomark _))
      (wss_one (ss_least_ahead_7 c (we_op op_sub (we_op op_mulB we_int (pv_least_ahead_6 c)) (pv_least_ahead_4 c))))
      wss_nil)
      (wss_cons (ws_if (wt_cmpR op_eq (pv_least_ahead_3 c) we_str (nomark _))
      (wss_one (ss_least_ahead_7 c (we_op op_sub (we_op op_mulB we_int (pv_least_ahead_6 c)) (we_op op_mulB we_int (pv_least_ahead_4 c)))))
      wss_nil)
      (wss_cons (ss_least_ahead_8 c (we_op op_mulB (we_op op_sub (pv_least_ahead_7 c) (we_op op_mulB we_int (pv_least_ahead_2 c))) (we_ix ix_tup (pv_least_ahead_5 c) we_int plain_Constant)))
      (wss_cons (ss_least_ahead_9 c (we_op op_mulB we_int (we_ix ix_tup (pv_least_ahead_5 c) we_int plain_Constant)))
      (wss_cons (ws_if (wt_cmpR op_eq (pv_least_ahead_3 c) we_str (nomark _))
      (wss_one (ws_ret (we_callB (call_max2 c.calm) (gl_least_ahead_max c) z_max boot_max (wa_cons (we_op op_add (we_op op_fdivB (pv_least_ahead_8 c) (pv_least_ahead_9 c)) we_int) (wa_cons we_int wa_nil star_Constant) star_BinOp))))
      wss_nil)
      (wss_one (ws_ret (we_callB (call_max2 c.calm) (gl_least_ahead_max c) z_max boot_max (wa_cons (we_op op_fdivB (we_op op_sub (we_op op_add (pv_least_ahead_8 c) (pv_least_ahead_9 c)) we_int) (pv_least_ahead_9 c)) (wa_cons we_int wa_nil star_Constant) star_BinOp))))))))))))))), ?_⟩
    rw [st_least_ahead]
    have n0 := hO.sn0
    have n1 := hO.sn1
    have d0 := hO.sd0
    have d1 := hO.sd1
    have u0 := hO.u0
    have u1 := hO.u1
    refine ⟨_, rfl, a, _, _, _, rfl, rfl, hT, rfl, fun σ e => ?_⟩
    dsimp only [List.set] at e
    subst e
    refine ⟨_, rfl, a, _, _, _, rfl, rfl, hT, rfl, fun σ e => ?_⟩
    dsimp only [List.set] at e
    subst e
    refine ⟨_, rfl, a, _, _, _, rfl, rfl, hT, rfl, fun σ e => ?_⟩
    dsimp only [List.set] at e
    subst e
    refine ⟨_, rfl, a, st, rfl, hT, hO, fun p H1 s1 hP _ σ e => ?_⟩
    dsimp only [List.set] at e
    subst e
    refine ⟨_, rfl, _, rfl, _, _, _, _, rfl, by omega, by omega, u0, u1, fun σ e => ?_⟩
    dsimp only [List.set] at e
    subst e
    refine ⟨_, rfl, _, _, rfl, rfl, mul_l (by decide) (by decide), fun σ e => ?_⟩
    dsimp only [List.set] at e
    subst e
    try dsimp only
    refine seq_gen (fun σ H' => H' = H1 ∧ ∃ bd, (st.y = "near" → bd = 2 * roundI en 1 st.u "up" - st.u) ∧ (st.y = "down" → bd = 2 * roundI en 1 st.u "up") ∧ σ = [some (.ref a), some (.int en), some (.int st.p), some (.str st.y), some (.int st.u), some (.ref p), some (.int (roundI en 1 st.u "up")), some (.int bd), none, none]) ?rest1 ?st1
    case st1 =>
      intro R hR
      refine ⟨_, rfl, rfl, _, rfl, ?_⟩
      refine if2 (fun c => ?_) (fun c => ?_)
      · have y := V.str.inj c
        refine ⟨_, rfl, _, _, rfl, rfl, mul_l (by decide) (by decide), _, rfl, _, _, rfl, rfl, fun σ e => ?_⟩
        dsimp only [List.set] at e
        subst e
        exact hR _ _ ⟨rfl, _, fun _ => rfl, fun z => by rw [y] at z; exact absurd z (by decide), rfl⟩
      · exact hR _ _ ⟨rfl, _, fun z => (c (by rw [z])).elim, fun _ => rfl, rfl⟩
    rintro σ H2 ⟨rfl, bd, b1, b2, rfl⟩
    try dsimp only
    refine seq_gen (fun σ H' => H' = H2 ∧ σ = [some (.ref a), some (.int en), some (.int st.p), some (.str st.y), some (.int st.u), some (.ref p), some (.int (roundI en 1 st.u "up")), some (.int (boundI st en)), none, none]) ?rest2 ?st2
    case st2 =>
      intro R hR
      refine ⟨_, rfl, rfl, _, rfl, ?_⟩
      refine if2 (fun c => ?_) (fun c => ?_)
      · have y := V.str.inj c
        refine ⟨_, rfl, _, _, rfl, rfl, mul_l (by decide) (by decide), _, rfl, _, _, rfl, rfl, mul_l (by decide) (by decide), _, _, rfl, rfl, fun σ e => ?_⟩
        dsimp only [List.set] at e
        subst e
        exact hR _ _ ⟨rfl, by unfold boundI; rw [if_pos y]⟩
      · have y : ¬ st.y = "up" := fun z => c (by rw [z])
        refine hR _ _ ⟨rfl, ?_⟩
        have eb : bd = boundI st en := by
          unfold boundI
          rw [if_neg y]
          split
          · rename_i h; exact b1 h
          · rename_i h
            rcases hO.y with z | z | z
            · exact b2 z
            · exact (y z).elim
            · exact (h z).elim
        rw [eb]
    rintro σ H2 ⟨rfl, rfl⟩
    refine ⟨_, rfl, _, rfl, _, _, rfl, rfl, mul_l (by decide) (by decide), _, _, rfl, rfl, _, rfl, p, _, _, _, rfl, rfl, hP, rfl, _, _, rfl, rfl, mul_r (by omega) (by omega), fun σ e => ?_⟩
    dsimp only [List.set] at e
    subst e
    refine ⟨_, rfl, p, _, _, _, rfl, rfl, hP, rfl, _, _, rfl, rfl, mul_l (by decide) (by decide), fun σ e => ?_⟩
    dsimp only [List.set] at e
    subst e
    have den0 : 0 < 2 * st.sn := by omega
    refine ⟨_, rfl, rfl, _, rfl, ?_⟩
    refine if2 (fun c => ?_) (fun c => ?_)
    · have y := V.str.inj c
      refine ⟨_, rfl, _, rfl, _, _, rfl, rfl, ⟨by omega, by omega⟩, _, _, rfl, rfl, _, _, rfl, ?_⟩
      dsimp only
      refine gen_max (R := fun z => Q (.int z) H2) fun z z0 z1 z2 => q z H2 s1 z1 fun q' q0 => ?_
      rw [step_reach_up hO y, ← floor_lt den0]
      omega
    · have y : ¬ st.y = "up" := fun z => c (by rw [z])
      refine ⟨_, rfl, _, rfl, _, _, rfl, rfl, _, _, rfl, rfl, _, rfl, _, _, rfl, rfl, ⟨by omega, by omega⟩, _, _, rfl, ?_⟩
      dsimp only
      refine gen_max (R := fun z => Q (.int z) H2) fun z z0 z1 z2 => q z H2 s1 z1 fun q' q0 => ?_
      rw [step_reach hO y, ← ceil_le den0]
      omega
theorem cal_least_ahead {P : Program} {w : World} {K : PySem.W.Frag} {mg : Str → Option Value} {base : Heap} {f : Addr} {fd : FuncData} (F : Fun K "least_ahead" "least_ahead" s_least_ahead f fd) (b : Binds K fd ["step", "amount"] []) (m : mg "least_ahead" = some (.ref f)) (z_max : mg "max" = none) (C_share : Cal P w K mg base "share" 3 ["step"] (sp_share K)) (C_rounded : Cal P w K mg base "rounded" 1 ["num", "den", "unit", "way"] (sp_rounded K)) : Cal P w K mg base "least_ahead" 4 ["step", "amount"] (sp_least_ahead K) :=
  ⟨f, fd, F.ok sc_least_ahead (fun vs H Q E h => by first | (obtain ⟨_, rfl, _⟩ := h; rfl) | (obtain ⟨_, _, rfl, _⟩ := h; rfl) | (obtain ⟨_, _, _, rfl, _⟩ := h; rfl) | (obtain ⟨_, _, _, _, rfl, _⟩ := h; rfl) | (obtain ⟨_, _, _, _, _, rfl, _⟩ := h; rfl) | (obtain ⟨_, _, _, _, _, _, rfl, _⟩ := h; rfl) | (obtain ⟨_, _, _, _, _, _, _, rfl, _⟩ := h; rfl) | (obtain ⟨_, _, _, _, _, _, _, _, rfl, _⟩ := h; rfl) | (obtain ⟨_, _, _, _, _, _, _, _, _, rfl, _⟩ := h; rfl)) (fun cdv A outer s H vs Q E hr h => unW (body_least_ahead (X := (cxOf CX0 P w K mg base ["step", "amount", "pennies", "way", "unit", "part", "goal", "bound", "num", "den"] "least_ahead" (defScope s_least_ahead) f cdv A outer s H E).nox) ⟨rfl, rfl, rfl, PassesOwn.never⟩ hr z_max C_share C_rounded h)), b, F.kp, m⟩
theorem lk_law_chain_0 : (defScope s_law_chain).names.lookup ("_law_script" : Str) = some .local := by decide +kernel
theorem pv_law_chain_0 {X : Cx} (c : CxIs X ["_law_script", "_law_base", "_law_many", "_law_limit", "_law_size", "_law_steps", "_law_k", "_law_cell", "_law_step_here"] (defScope s_law_chain)) {pos : Pos} : WE X (.Name "_law_script" pos) (tVar 0) := wxv c rfl lk_law_chain_0 (by decide) (by decide)
theorem lk_law_chain_1 : (defScope s_law_chain).names.lookup ("_law_base" : Str) = some .local := by decide +kernel
theorem pv_law_chain_1 {X : Cx} (c : CxIs X ["_law_script", "_law_base", "_law_many", "_law_limit", "_law_size", "_law_steps", "_law_k", "_law_cell", "_law_step_here"] (defScope s_law_chain)) {pos : Pos} : WE X (.Name "_law_base" pos) (tVar 1) := wxv c rfl lk_law_chain_1 (by decide) (by decide)
theorem lk_law_chain_2 : (defScope s_law_chain).names.lookup ("_law_many" : Str) = some .local := by decide +kernel
theorem pv_law_chain_2 {X : Cx} (c : CxIs X ["_law_script", "_law_base", "_law_many", "_law_limit", "_law_size", "_law_steps", "_law_k", "_law_cell", "_law_step_here"] (defScope s_law_chain)) {pos : Pos} : WE X (.Name "_law_many" pos) (tVar 2) := wxv c rfl lk_law_chain_2 (by decide) (by decide)
theorem lk_law_chain_3 : (defScope s_law_chain).names.lookup ("_law_limit" : Str) = some .local := by decide +kernel
theorem pv_law_chain_3 {X : Cx} (c : CxIs X ["_law_script", "_law_base", "_law_many", "_law_limit", "_law_size", "_law_steps", "_law_k", "_law_cell", "_law_step_here"] (defScope s_law_chain)) {pos : Pos} : WE X (.Name "_law_limit" pos) (tVar 3) := wxv c rfl lk_law_chain_3 (by decide) (by decide)
theorem lk_law_chain_4 : (defScope s_law_chain).names.lookup ("_law_size" : Str) = some .local := by decide +kernel
theorem pv_law_chain_4 {X : Cx} (c : CxIs X ["_law_script", "_law_base", "_law_many", "_law_limit", "_law_size", "_law_steps", "_law_k", "_law_cell", "_law_step_here"] (defScope s_law_chain)) {pos : Pos} : WE X (.Name "_law_size" pos) (tVar 4) := wxv c rfl lk_law_chain_4 (by decide) (by decide)
theorem ss_law_chain_4 {X : Cx} (c : CxIs X ["_law_script", "_law_base", "_law_many", "_law_limit", "_law_size", "_law_steps", "_law_k", "_law_cell", "_law_step_here"] (defScope s_law_chain)) {pos pos' : Pos} {e : Expr} {te : TE} (he : WE X e te) (hs : swapsWith e (some (.Name "_law_size" pos')) pos.line X.env = pure false := by rfl) : WS X (.Assign [.Name "_law_size" pos'] e pos) (tAsg te (gN 4)) := wxs c sc_law_chain.nd rfl lk_law_chain_4 he hs
theorem lk_law_chain_5 : (defScope s_law_chain).names.lookup ("_law_steps" : Str) = some .local := by decide +kernel
theorem pv_law_chain_5 {X : Cx} (c : CxIs X ["_law_script", "_law_base", "_law_many", "_law_limit", "_law_size", "_law_steps", "_law_k", "_law_cell", "_law_step_here"] (defScope s_law_chain)) {pos : Pos} : WE X (.Name "_law_steps" pos) (tVar 5) := wxv c rfl lk_law_chain_5 (by decide) (by decide)
theorem ss_law_chain_5 {X : Cx} (c : CxIs X ["_law_script", "_law_base", "_law_many", "_law_limit", "_law_size", "_law_steps", "_law_k", "_law_cell", "_law_step_here"] (defScope s_law_chain)) {pos pos' : Pos} {e : Expr} {te : TE} (he : WE X e te) (hs : swapsWith e (some (.Name "_law_steps" pos')) pos.line X.env = pure false := by rfl) : WS X (.Assign [.Name "_law_steps" pos'] e pos) (tAsg te (gN 5)) := wxs c sc_law_chain.nd rfl lk_law_chain_5 he hs
theorem lk_law_chain_6 : (defScope s_law_chain).names.lookup ("_law_k" : Str) = some .local := by decide +kernel
theorem pv_law_chain_6 {X : Cx} (c : CxIs X ["_law_script", "_law_base", "_law_many", "_law_limit", "_law_size", "_law_steps", "_law_k", "_law_cell", "_law_step_here"] (defScope s_law_chain)) {pos : Pos} : WE X (.Name "_law_k" pos) (tVar 6) := wxv c rfl lk_law_chain_6 (by decide) (by decide)
theorem sg_law_chain_6 {X : Cx} (c : CxIs X ["_law_script", "_law_base", "_law_many", "_law_limit", "_law_size", "_law_steps", "_law_k", "_law_cell", "_law_step_here"] (defScope s_law_chain)) {pos : Pos} : WG X (.Name "_law_k" pos) (gN 6) := wxt c sc_law_chain.nd rfl lk_law_chain_6
theorem lk_law_chain_7 : (defScope s_law_chain).names.lookup ("_law_cell" : Str) = some .local := by decide +kernel
theorem pv_law_chain_7 {X : Cx} (c : CxIs X ["_law_script", "_law_base", "_law_many", "_law_limit", "_law_size", "_law_steps", "_law_k", "_law_cell", "_law_step_here"] (defScope s_law_chain)) {pos : Pos} : WE X (.Name "_law_cell" pos) (tVar 7) := wxv c rfl lk_law_chain_7 (by decide) (by decide)
theorem ss_law_chain_7 {X : Cx} (c : CxIs X ["_law_script", "_law_base", "_law_many", "_law_limit", "_law_size", "_law_steps", "_law_k", "_law_cell", "_law_step_here"] (defScope s_law_chain)) {pos pos' : Pos} {e : Expr} {te : TE} (he : WE X e te) (hs : swapsWith e (some (.Name "_law_cell" pos')) pos.line X.env = pure false := by rfl) : WS X (.Assign [.Name "_law_cell" pos'] e pos) (tAsg te (gN 7)) := wxs c sc_law_chain.nd rfl lk_law_chain_7 he hs
theorem lk_law_chain_8 : (defScope s_law_chain).names.lookup ("_law_step_here" : Str) = some .local := by decide +kernel
theorem pv_law_chain_8 {X : Cx} (c : CxIs X ["_law_script", "_law_base", "_law_many", "_law_limit", "_law_size", "_law_steps", "_law_k", "_law_cell", "_law_step_here"] (defScope s_law_chain)) {pos : Pos} : WE X (.Name "_law_step_here" pos) (tVar 8) := wxv c rfl lk_law_chain_8 (by decide) (by decide)
theorem ss_law_chain_8 {X : Cx} (c : CxIs X ["_law_script", "_law_base", "_law_many", "_law_limit", "_law_size", "_law_steps", "_law_k", "_law_cell", "_law_step_here"] (defScope s_law_chain)) {pos pos' : Pos} {e : Expr} {te : TE} (he : WE X e te) (hs : swapsWith e (some (.Name "_law_step_here" pos')) pos.line X.env = pure false := by rfl) : WS X (.Assign [.Name "_law_step_here" pos'] e pos) (tAsg te (gN 8)) := wxs c sc_law_chain.nd rfl lk_law_chain_8 he hs
theorem gl_law_chain_law_draw {X : Cx} (c : CxIs X ["_law_script", "_law_base", "_law_many", "_law_limit", "_law_size", "_law_steps", "_law_k", "_law_cell", "_law_step_here"] (defScope s_law_chain)) : Gl X "_law_draw" := xg c (by decide +kernel)
theorem gl_law_chain_law_step {X : Cx} (c : CxIs X ["_law_script", "_law_base", "_law_many", "_law_limit", "_law_size", "_law_steps", "_law_k", "_law_cell", "_law_step_here"] (defScope s_law_chain)) : Gl X "_law_step" := xg c (by decide +kernel)
theorem gl_law_chain_law_at {X : Cx} (c : CxIs X ["_law_script", "_law_base", "_law_many", "_law_limit", "_law_size", "_law_steps", "_law_k", "_law_cell", "_law_step_here"] (defScope s_law_chain)) : Gl X "_law_at" := xg c (by decide +kernel)
theorem gl_law_chain_law_product {X : Cx} (c : CxIs X ["_law_script", "_law_base", "_law_many", "_law_limit", "_law_size", "_law_steps", "_law_k", "_law_cell", "_law_step_here"] (defScope s_law_chain)) : Gl X "_law_product" := xg c (by decide +kernel)
theorem gl_law_chain_range {X : Cx} (c : CxIs X ["_law_script", "_law_base", "_law_many", "_law_limit", "_law_size", "_law_steps", "_law_k", "_law_cell", "_law_step_here"] (defScope s_law_chain)) : Gl X "range" := xg c (by decide +kernel)
theorem gl_law_chain_min {X : Cx} (c : CxIs X ["_law_script", "_law_base", "_law_many", "_law_limit", "_law_size", "_law_steps", "_law_k", "_law_cell", "_law_step_here"] (defScope s_law_chain)) : Gl X "min" := xg c (by decide +kernel)
theorem st_law_chain (v0 v1 v2 v3 : V) : L2.start ["_law_script", "_law_base", "_law_many", "_law_limit", "_law_size", "_law_steps", "_law_k", "_law_cell", "_law_step_here"] [v0, v1, v2, v3] = [some v0, some v1, some v2, some v3, none, none, none, none, none] := rfl
noncomputable def sp_law_chain (K : PySem.W.Frag) : Sp := fun vs H Q _ => ∃ (a : Addr) (ns : List Int) (bs many lim : Int), vs = [.ref a, .int bs, .int many, .int lim] ∧ SqL K H a (ns.map V.int) ∧ 0 ≤ bs ∧ bs ≤ 500 ∧ 0 ≤ many ∧ many ≤ 60 ∧ 1 ≤ lim ∧
  ∀ (l : Addr) (as : List Addr) (sts : List StepD) (H' : Hp), Same H H' → H l = none → H' l = some (.lst (as.map V.ref)) → Chn K H' l as sts → (sts.length : Int) ≤ many → prodI sts ≤ lim → Q (.ref l) H'
theorem body_law_chain {X : Cx} (c : CxIs X ["_law_script", "_law_base", "_law_many", "_law_limit", "_law_size", "_law_steps", "_law_k", "_law_cell", "_law_step_here"] (defScope s_law_chain)) (hr : Room 3 X.A) {E : XK}  (z_range : X.mg "range" = none) (z_min : X.mg "min" = none) (C_law_draw : Cal X.prog X.w X.K X.mg X.base "_law_draw" 2 ["_law_script", "_law_k"] (sp_law_draw X.K)) (C_law_step : Cal X.prog X.w X.K X.mg X.base "_law_step" 1 ["_law_cell", "_law_size"] (sp_law_step X.K)) (C_law_at : Cal X.prog X.w X.K X.mg X.base "_law_at" 1 ["_law_script", "_law_k"] (sp_law_at X.K)) (C_law_product : Cal X.prog X.w X.K X.mg X.base "_law_product" 3 ["_law_steps"] (sp_law_product X.K)) {vs : List V} {H : Hp} {Q : VK} (h : sp_law_chain X.K vs H Q E) : ∃ t, WSs X (defBody s_law_chain) t ∧ t { nx := fun _ H' => Q .non H', rt := Q } (L2.start ["_law_script", "_law_base", "_law_many", "_law_limit", "_law_size", "_law_steps", "_law_k", "_law_cell", "_law_step_here"] vs) H := by
  obtain ⟨f_law_draw, d_law_draw, G_law_draw, b_law_draw, k_law_draw, m_law_draw⟩ := C_law_draw
  obtain ⟨f_law_step, d_law_step, G_law_step, b_law_step, k_law_step, m_law_step⟩ := C_law_step
  obtain ⟨f_law_at, d_law_at, G_law_at, b_law_at, k_law_at, m_law_at⟩ := C_law_at
  obtain ⟨f_law_product, d_law_product, G_law_product, b_law_product, k_law_product, m_law_product⟩ := C_law_product
  · obtain ⟨a, ns, bs, many, lim, rfl, hS, b0, b1, m0, m1, l0, q⟩ := h
    refine ⟨_, (wss_cons (ss_law_chain_4 c (we_op op_mod (we_op op_fdivB (we_call (G_law_at.mono (by decide)) hr (gl_law_chain_law_at c) m_law_at k_law_at b_law_at .nil pass0 (wa_cons (pv_law_chain_0 c) (wa_cons we_int wa_nil star_Constant) star_Name)) we_int) we_int))
      (wss_cons (ss_law_chain_5 c (we_lstO wa_nil))
      (wss_cons (ws_for c.own c.calm (wi_range1 (gl_law_chain_range c) z_range (wa_cons (pv_law_chain_2 c) wa_nil star_Name)) (sg_law_chain_6 c)
      (wss_cons (ss_law_chain_7 c (we_call (G_law_draw.mono (by decide)) hr (gl_law_chain_law_draw c) m_law_draw k_law_draw b_law_draw .nil pass0 (wa_cons (pv_law_chain_0 c) (wa_cons (we_op op_add (pv_law_chain_1 c) (pv_law_chain_6 c)) wa_nil star_BinOp) star_Name)))
      (wss_cons (ss_law_chain_8 c (we_call (G_law_step.mono (by decide)) hr (gl_law_chain_law_step c) m_law_step k_law_step b_law_step .nil pass0 (wa_cons (we_op op_fdivB (pv_law_chain_7 c) we_int) (wa_cons (we_callB (call_min2 c.calm) (gl_law_chain_min c) z_min boot_min (wa_cons (pv_law_chain_4 c) (wa_cons (we_op op_mod (pv_law_chain_7 c) we_int) wa_nil star_BinOp) star_Name)) wa_nil star_Call) star_BinOp)))
      (wss_one (ws_if (wt_cmpR op_le (we_call (G_law_product.mono (by decide)) hr (gl_law_chain_law_product c) m_law_product k_law_product b_law_product .nil pass0 (wa_cons (we_op op_cat (pv_law_chain_5 c) (we_lstO (wa_cons (pv_law_chain_8 c) wa_nil star_Name))) wa_nil star_BinOp)) (pv_law_chain_3 c) (nomark _))
      (wss_one (ws_expr (we_bm PySem.F.plainAttrs_list PySem.F.slot_list_append PySem.F.type_list_append mt_append (pv_law_chain_5 c) (wa_cons (pv_law_chain_8 c) wa_nil star_Name))))
      wss_nil)))))
      (wss_one (ws_ret (pv_law_chain_5 c)))))), ?_⟩
    rw [st_law_chain]
    refine ⟨_, rfl, a, ns, _, rfl, hS, by decide, _, _, rfl, rfl, ⟨by decide, by decide +kernel⟩, _, _, rfl, rfl, (by decide : (0 : Int) < 4), fun σ e => ?_⟩
    dsimp only [List.set] at e
    have z0 := md0 (x := cell ns 0 / 2) (n := 4) (by decide)
    have z1 := md1 (x := cell ns 0 / 2) (n := 4) (by decide)
    generalize cell ns 0 / 2 % 4 = size at e z0 z1
    subst e
    refine ⟨(small' (by decide)), fun p1 H1 n1 s1 f1 σ e => ?_⟩
    dsimp only [List.set] at e
    subst e
    refine ⟨_, rfl, _, rfl, (by omega), (by omega), for_range (fun i σ H' => ∃ (as : List Addr) (sts : List StepD) (v1 v2 v3 : Option V), σ = [some (.ref a), some (.int bs), some (.int many), some (.int lim), some (.int size), some (.ref p1), v1, v2, v3] ∧
        Same H H' ∧ H' p1 = some (.lst (as.map V.ref)) ∧ Chn X.K H' p1 as sts ∧ sts.length ≤ i ∧ prodI sts ≤ lim)
      ⟨[], [], _, _, _, rfl, s1, f1, ⟨SqL.of f1, rfl, fun i a st h => by simp at h, fun st h => by simp at h⟩, Nat.le_refl _, l0⟩ ?_ ?_⟩
    · rintro i σ H0 hi ⟨as, sts, v1, v2, v3, rfl, s0, f0, hC, hn, hp⟩ σ e
      dsimp only [List.set] at e
      subst e
      have hi' : (i : Int) < many := by omega
      refine ⟨_, rfl, _, rfl, _, rfl, _, _, rfl, rfl, a, ns, _, rfl, s0.seq hS, (by omega), (by omega), fun σ e => ?_⟩
      dsimp only [List.set] at e
      generalize drawAt ns (bs + (0 + (i : Int))) = cl at e
      subst e
      refine ⟨_, rfl, _, _, rfl, rfl, ⟨by decide, by decide +kernel⟩, _, rfl, _, rfl, _, _, rfl, rfl, (by decide : (0 : Int) < 4), _, _, rfl, _, _, rfl, ?_, ?_, fun p st H2 s2 hT hO σ e => ?_⟩
      · have := md0 (x := cl) (n := 4) (by decide)
        split <;> omega
      · have := md1 (x := cl) (n := 4) (by decide)
        split <;> omega
      dsimp only [List.set] at e
      subst e
      refine ⟨_, rfl, _, rfl, (small' (by show 1 ≤ 1000; decide)), fun p3 H3 n3 s3 f3 => ?_⟩
      have hC3 := hC.same (s2.trans s3)
      have f3' := (s2.trans s3) _ _ f0
      have hlen : (as.map V.ref).length = sts.length := by rw [List.length_map, hC.len]
      refine ⟨p1, p3, _, _, rfl, rfl, f3', f3, ?_, fun p4 n4 => ?_⟩
      · refine small' ?_
        rw [hlen]; show sts.length + 1 ≤ 1000; omega
      have s4 : ∀ o, Same H3 (upd H3 p4 o) := fun o => same_new n4 o
      have hC4 : Chn X.K (upd H3 p4 (.lst ((as ++ [p]).map V.ref))) p4 (as ++ [p]) (sts ++ [st]) := by
        refine ⟨SqL.of upd_same, by rw [List.length_append, List.length_append, hC.len]; rfl, fun j b t h1 h2 => ?_, fun t ht => ?_⟩
        · by_cases hj : j < as.length
          · rw [List.getElem?_append_left hj] at h1
            rw [List.getElem?_append_left (by rw [← hC.len]; exact hj)] at h2
            exact (s4 _).seqT (hC3.item j b t h1 h2)
          · have hj' : j = as.length := by
              have := (List.getElem?_eq_some_iff.mp h1).1
              rw [List.length_append] at this
              have : ([p] : List Addr).length = 1 := rfl
              omega
            subst hj'
            rw [List.getElem?_append_right (Nat.le_refl _)] at h1
            rw [hC.len, List.getElem?_append_right (Nat.le_refl _)] at h2
            simp at h1 h2
            subst h1 h2
            exact (s4 _).seqT (s3.seqT hT)
        · rcases List.mem_append.mp ht with h | h
          · exact hC.ok t h
          · rw [List.mem_singleton.mp h]; exact hO
      have em : as.map V.ref ++ [V.ref p] = (as ++ [p]).map V.ref := by rw [List.map_append]; rfl
      refine ⟨p4, as ++ [p], sts ++ [st], rfl, ?_, _, rfl, _, _, rfl, rfl, _, rfl, ?_⟩
      · rw [em]; exact hC4
      refine if2 (fun d => ?_) (fun d => ?_)
      · have hC5 := hC4
        rw [← em] at hC5
        have f4 := (s4 (.lst (as.map V.ref ++ [V.ref p]))) _ _ f3'
        refine ⟨_, rfl, .inl ⟨rfl, _, SqL.of f4⟩, _, rfl, p1, _, _, rfl, rfl, f4, small1000 (by rw [hlen]; omega), ?_⟩
        refine ⟨as ++ [p], sts ++ [st], _, _, _, rfl, (s0.trans (s2.trans (s3.trans (s4 _)))).drop n1 rfl, by rw [upd_same, em], ⟨SqL.of (by rw [upd_same, em]), hC4.len, fun j b t h1 h2 => (hC5.item j b t h1 h2).updL f4, hC4.ok⟩, ?_, d⟩
        rw [List.length_append]
        show sts.length + 1 ≤ i + 1
        omega
      · exact ⟨as, sts, _, _, _, rfl, s0.trans (s2.trans (s3.trans (s4 _))), (s4 _) _ _ f3', hC3.same (s4 _), by omega, hp⟩
    · rintro σ H' ⟨as, sts, v1, v2, v3, rfl, s0, f0, hC, hn, hp⟩
      refine ⟨_, rfl, q p1 as sts H' s0 n1 f0 hC (by omega) hp⟩
theorem cal_law_chain {P : Program} {w : World} {K : PySem.W.Frag} {mg : Str → Option Value} {base : Heap} {f : Addr} {fd : FuncData} (F : Fun K "_law_chain" "_law_chain" s_law_chain f fd) (b : Binds K fd ["_law_script", "_law_base", "_law_many", "_law_limit"] []) (m : mg "_law_chain" = some (.ref f)) (z_range : mg "range" = none) (z_min : mg "min" = none) (C_law_draw : Cal P w K mg base "_law_draw" 2 ["_law_script", "_law_k"] (sp_law_draw K)) (C_law_step : Cal P w K mg base "_law_step" 1 ["_law_cell", "_law_size"] (sp_law_step K)) (C_law_at : Cal P w K mg base "_law_at" 1 ["_law_script", "_law_k"] (sp_law_at K)) (C_law_product : Cal P w K mg base "_law_product" 3 ["_law_steps"] (sp_law_product K)) : Cal P w K mg base "_law_chain" 4 ["_law_script", "_law_base", "_law_many", "_law_limit"] (sp_law_chain K) :=
  ⟨f, fd, F.ok sc_law_chain (fun vs H Q E h => by first | (obtain ⟨_, rfl, _⟩ := h; rfl) | (obtain ⟨_, _, rfl, _⟩ := h; rfl) | (obtain ⟨_, _, _, rfl, _⟩ := h; rfl) | (obtain ⟨_, _, _, _, rfl, _⟩ := h; rfl) | (obtain ⟨_, _, _, _, _, rfl, _⟩ := h; rfl) | (obtain ⟨_, _, _, _, _, _, rfl, _⟩ := h; rfl) | (obtain ⟨_, _, _, _, _, _, _, rfl, _⟩ := h; rfl) | (obtain ⟨_, _, _, _, _, _, _, _, rfl, _⟩ := h; rfl) | (obtain ⟨_, _, _, _, _, _, _, _, _, rfl, _⟩ := h; rfl)) (fun cdv A outer s H vs Q E hr h => unW (body_law_chain (X := (cxOf CX0 P w K mg base ["_law_script", "_law_base", "_law_many", "_law_limit", "_law_size", "_law_steps", "_law_k", "_law_cell", "_law_step_here"] "_law_chain" (defScope s_law_chain) f cdv A outer s H E).nox) ⟨rfl, rfl, rfl, PassesOwn.never⟩ hr z_range z_min C_law_draw C_law_step C_law_at C_law_product h)), b, F.kp, m⟩
theorem lk_law_stretch_0 : (defScope s_law_stretch).names.lookup ("_law_found" : Str) = some .local := by decide +kernel
theorem pv_law_stretch_0 {X : Cx} (c : CxIs X ["_law_found", "_law_steps", "_law_price_here", "_law_end_here"] (defScope s_law_stretch)) {pos : Pos} : WE X (.Name "_law_found" pos) (tVar 0) := wxv c rfl lk_law_stretch_0 (by decide) (by decide)
theorem lk_law_stretch_1 : (defScope s_law_stretch).names.lookup ("_law_steps" : Str) = some .local := by decide +kernel
theorem pv_law_stretch_1 {X : Cx} (c : CxIs X ["_law_found", "_law_steps", "_law_price_here", "_law_end_here"] (defScope s_law_stretch)) {pos : Pos} : WE X (.Name "_law_steps" pos) (tVar 1) := wxv c rfl lk_law_stretch_1 (by decide) (by decide)
theorem lk_law_stretch_2 : (defScope s_law_stretch).names.lookup ("_law_price_here" : Str) = some .local := by decide +kernel
theorem pv_law_stretch_2 {X : Cx} (c : CxIs X ["_law_found", "_law_steps", "_law_price_here", "_law_end_here"] (defScope s_law_stretch)) {pos : Pos} : WE X (.Name "_law_price_here" pos) (tVar 2) := wxv c rfl lk_law_stretch_2 (by decide) (by decide)
theorem lk_law_stretch_3 : (defScope s_law_stretch).names.lookup ("_law_end_here" : Str) = some .local := by decide +kernel
theorem pv_law_stretch_3 {X : Cx} (c : CxIs X ["_law_found", "_law_steps", "_law_price_here", "_law_end_here"] (defScope s_law_stretch)) {pos : Pos} : WE X (.Name "_law_end_here" pos) (tVar 3) := wxv c rfl lk_law_stretch_3 (by decide) (by decide)
theorem ss_law_stretch_3 {X : Cx} (c : CxIs X ["_law_found", "_law_steps", "_law_price_here", "_law_end_here"] (defScope s_law_stretch)) {pos pos' : Pos} {e : Expr} {te : TE} (he : WE X e te) (hs : swapsWith e (some (.Name "_law_end_here" pos')) pos.line X.env = pure false := by rfl) : WS X (.Assign [.Name "_law_end_here" pos'] e pos) (tAsg te (gN 3)) := wxs c sc_law_stretch.nd rfl lk_law_stretch_3 he hs
theorem gl_law_stretch_law_end {X : Cx} (c : CxIs X ["_law_found", "_law_steps", "_law_price_here", "_law_end_here"] (defScope s_law_stretch)) : Gl X "_law_end" := xg c (by decide +kernel)
theorem gl_law_stretch_law_whole {X : Cx} (c : CxIs X ["_law_found", "_law_steps", "_law_price_here", "_law_end_here"] (defScope s_law_stretch)) : Gl X "_law_whole" := xg c (by decide +kernel)
theorem gl_law_stretch_isinstance {X : Cx} (c : CxIs X ["_law_found", "_law_steps", "_law_price_here", "_law_end_here"] (defScope s_law_stretch)) : Gl X "isinstance" := xg c (by decide +kernel)
theorem gl_law_stretch_tuple {X : Cx} (c : CxIs X ["_law_found", "_law_steps", "_law_price_here", "_law_end_here"] (defScope s_law_stretch)) : Gl X "tuple" := xg c (by decide +kernel)
theorem gl_law_stretch_len {X : Cx} (c : CxIs X ["_law_found", "_law_steps", "_law_price_here", "_law_end_here"] (defScope s_law_stretch)) : Gl X "len" := xg c (by decide +kernel)
theorem st_law_stretch (v0 v1 v2 : V) : L2.start ["_law_found", "_law_steps", "_law_price_here", "_law_end_here"] [v0, v1, v2] = [some v0, some v1, some v2, none] := rfl
noncomputable def sp_law_stretch (K : PySem.W.Frag) : Sp := fun vs H Q _ => ∃ (p l : Addr) (as : List Addr) (sts : List StepD) (f z m : Int), vs = [.ref p, .ref l, .int m] ∧ SqT K H p [.str "from", .int f, .int z] ∧ Chn K H l as sts ∧ 0 ≤ f ∧ f ≤ m ∧ m ≤ z ∧ endI sts f = endI sts m ∧ endI sts z = endI sts m ∧ Q (.bl true) H
theorem body_law_stretch {X : Cx} (c : CxIs X ["_law_found", "_law_steps", "_law_price_here", "_law_end_here"] (defScope s_law_stretch)) (hr : Room 3 X.A) {E : XK}  (z_isinstance : X.mg "isinstance" = none) (z_tuple : X.mg "tuple" = none) (z_len : X.mg "len" = none) (C_law_end : Cal X.prog X.w X.K X.mg X.base "_law_end" 3 ["_law_steps", "_law_amount"] (sp_law_end X.K)) (C_law_whole : Cal X.prog X.w X.K X.mg X.base "_law_whole" 1 ["_law_found"] (sp_law_whole X.K)) {vs : List V} {H : Hp} {Q : VK} (h : sp_law_stretch X.K vs H Q E) : ∃ t, WSs X (defBody s_law_stretch) t ∧ t { nx := fun _ H' => Q .non H', rt := Q } (L2.start ["_law_found", "_law_steps", "_law_price_here", "_law_end_here"] vs) H := by
  obtain ⟨f_law_end, d_law_end, G_law_end, b_law_end, k_law_end, m_law_end⟩ := C_law_end
  obtain ⟨f_law_whole, d_law_whole, G_law_whole, b_law_whole, k_law_whole, m_law_whole⟩ := C_law_whole
  · obtain ⟨p, l, as, sts, f, z, m, rfl, hT, hC, f0, fm, mz, e1, e2, q⟩ := h
    refine ⟨_, (wss_cons (ws_if (WW.pt (ww_or (wt_not (wt_val (we_callB call_isinst (gl_law_stretch_isinstance c) z_isinstance boot_isinstance (wa_cons (pv_law_stretch_0 c) (wa_cons (we_bltn (v := .ty "tuple") (gl_law_stretch_tuple c) z_tuple boot_ty_tuple rfl) wa_nil star_Name) star_Name)))) (ww_or (wt_cmpR op_ne (we_callB call_len_seq (gl_law_stretch_len c) z_len PySem.boot_len (wa_cons (pv_law_stretch_0 c) wa_nil star_Name)) we_int (nomark _)) (ww_or1 (wt_cmpR op_ne (we_ix ix_tup (pv_law_stretch_0 c) we_int plain_Constant) we_str (nomark _))))))
      (wss_one (ws_ret we_bl))
      wss_nil)
      (wss_cons (ws_if (WW.pt (ww_or (wt_not (wt_val (we_call (G_law_whole.mono (by decide)) hr (gl_law_stretch_law_whole c) m_law_whole k_law_whole b_law_whole .nil pass0 (wa_cons (we_ix ix_tup (pv_law_stretch_0 c) we_int plain_Constant) wa_nil star_Subscript)))) (ww_or (wt_not (wt_val (we_call (G_law_whole.mono (by decide)) hr (gl_law_stretch_law_whole c) m_law_whole k_law_whole b_law_whole .nil pass0 (wa_cons (we_ix ix_tup (pv_law_stretch_0 c) we_int plain_Constant) wa_nil star_Subscript)))) (ww_or1 (wt_cmpR op_lt (we_ix ix_tup (pv_law_stretch_0 c) we_int plain_Constant) we_int (nomark _))))))
      (wss_one (ws_ret we_bl))
      wss_nil)
      (wss_cons (ws_if (WW.pt (ww_or (wt_cmpR op_gt (we_ix ix_tup (pv_law_stretch_0 c) we_int plain_Constant) (pv_law_stretch_2 c) (nomark _)) (ww_or1 (wt_cmpR op_gt (pv_law_stretch_2 c) (we_ix ix_tup (pv_law_stretch_0 c) we_int plain_Constant) (nomark _)))))
      (wss_one (ws_ret we_bl))
      wss_nil)
      (wss_cons (ss_law_stretch_3 c (we_call (G_law_end.mono (by decide)) hr (gl_law_stretch_law_end c) m_law_end k_law_end b_law_end .nil pass0 (wa_cons (pv_law_stretch_1 c) (wa_cons (pv_law_stretch_2 c) wa_nil star_Name) star_Name)))
      (wss_one (ws_ret (we_and (we_cmpR op_eq (we_call (G_law_end.mono (by decide)) hr (gl_law_stretch_law_end c) m_law_end k_law_end b_law_end .nil pass0 (wa_cons (pv_law_stretch_1 c) (wa_cons (we_ix ix_tup (pv_law_stretch_0 c) we_int plain_Constant) wa_nil star_Subscript) star_Name)) (pv_law_stretch_3 c) (nomark _)) (we_one (we_cmpR op_eq (we_call (G_law_end.mono (by decide)) hr (gl_law_stretch_law_end c) m_law_end k_law_end b_law_end .nil pass0 (wa_cons (pv_law_stretch_1 c) (wa_cons (we_ix ix_tup (pv_law_stretch_0 c) we_int plain_Constant) wa_nil star_Subscript) star_Name)) (pv_law_stretch_3 c) (nomark _)))))))))), ?_⟩
    rw [st_law_stretch]
    refine ⟨_, rfl, _, _, _, _, rfl, TyS.tup hT, kit_tup_tup, _, rfl, ?_⟩
    refine iteF ?_
    refine ⟨_, rfl, _, _, rfl, .inr hT, rfl, _, rfl, ?_⟩
    refine ifnF rfl ?_
    refine ⟨_, rfl, p, _, _, _, rfl, rfl, hT, rfl, (by simp [scal]), _, rfl, ?_⟩
    refine ifnF rfl ?_
    refine ⟨_, rfl, p, _, _, _, rfl, rfl, hT, rfl, _, rfl, _, rfl, ?_⟩
    refine iteF ?_
    refine ⟨_, rfl, p, _, _, _, rfl, rfl, hT, rfl, _, rfl, _, rfl, ?_⟩
    refine iteF ?_
    refine ⟨_, rfl, p, _, _, _, rfl, rfl, hT, rfl, _, _, rfl, rfl, _, rfl, ?_⟩
    refine ifF (by omega) ?_
    refine ⟨_, rfl, p, _, _, _, rfl, rfl, hT, rfl, _, rfl, _, _, rfl, rfl, _, rfl, ?_⟩
    refine ifF (by omega) ?_
    refine ⟨_, rfl, _, rfl, p, _, _, _, rfl, rfl, hT, rfl, _, _, rfl, rfl, _, rfl, ?_⟩
    refine ifF (by omega) ?_
    refine ⟨_, rfl, _, rfl, l, as, sts, _, rfl, hC, fun σ e => ?_⟩
    dsimp only [List.set] at e
    subst e
    refine ⟨_, rfl, _, rfl, p, _, _, _, rfl, rfl, hT, rfl, l, as, sts, _, rfl, hC, _, rfl, rfl, _, rfl, ?_⟩
    refine ifT (inj_int e1) ?_
    refine ⟨_, rfl, _, rfl, p, _, _, _, rfl, rfl, hT, rfl, l, as, sts, _, rfl, hC, _, rfl, rfl, ?_⟩
    rw [decide_eq_true (inj_int e2)]
    exact q
theorem cal_law_stretch {P : Program} {w : World} {K : PySem.W.Frag} {mg : Str → Option Value} {base : Heap} {f : Addr} {fd : FuncData} (F : Fun K "_law_stretch" "_law_stretch" s_law_stretch f fd) (b : Binds K fd ["_law_found", "_law_steps", "_law_price_here"] []) (m : mg "_law_stretch" = some (.ref f)) (z_isinstance : mg "isinstance" = none) (z_tuple : mg "tuple" = none) (z_len : mg "len" = none) (C_law_end : Cal P w K mg base "_law_end" 3 ["_law_steps", "_law_amount"] (sp_law_end K)) (C_law_whole : Cal P w K mg base "_law_whole" 1 ["_law_found"] (sp_law_whole K)) : Cal P w K mg base "_law_stretch" 4 ["_law_found", "_law_steps", "_law_price_here"] (sp_law_stretch K) :=
  ⟨f, fd, F.ok sc_law_stretch (fun vs H Q E h => by first | (obtain ⟨_, rfl, _⟩ := h; rfl) | (obtain ⟨_, _, rfl, _⟩ := h; rfl) | (obtain ⟨_, _, _, rfl, _⟩ := h; rfl) | (obtain ⟨_, _, _, _, rfl, _⟩ := h; rfl) | (obtain ⟨_, _, _, _, _, rfl, _⟩ := h; rfl) | (obtain ⟨_, _, _, _, _, _, rfl, _⟩ := h; rfl) | (obtain ⟨_, _, _, _, _, _, _, rfl, _⟩ := h; rfl) | (obtain ⟨_, _, _, _, _, _, _, _, rfl, _⟩ := h; rfl) | (obtain ⟨_, _, _, _, _, _, _, _, _, rfl, _⟩ := h; rfl)) (fun cdv A outer s H vs Q E hr h => unW (body_law_stretch (X := (cxOf CX0 P w K mg base ["_law_found", "_law_steps", "_law_price_here", "_law_end_here"] "_law_stretch" (defScope s_law_stretch) f cdv A outer s H E).nox) ⟨rfl, rfl, rfl, PassesOwn.never⟩ hr z_isinstance z_tuple z_len C_law_end C_law_whole h)), b, F.kp, m⟩
theorem lk_run_0 : (defScope s_run).names.lookup ("chain" : Str) = some .local := by decide +kernel
theorem pv_run_0 {X : Cx} (c : CxIs X ["chain", "amount", "step"] (defScope s_run)) {pos : Pos} : WE X (.Name "chain" pos) (tVar 0) := wxv c rfl lk_run_0 (by decide) (by decide)
theorem lk_run_1 : (defScope s_run).names.lookup ("amount" : Str) = some .local := by decide +kernel
theorem pv_run_1 {X : Cx} (c : CxIs X ["chain", "amount", "step"] (defScope s_run)) {pos : Pos} : WE X (.Name "amount" pos) (tVar 1) := wxv c rfl lk_run_1 (by decide) (by decide)
theorem ss_run_1 {X : Cx} (c : CxIs X ["chain", "amount", "step"] (defScope s_run)) {pos pos' : Pos} {e : Expr} {te : TE} (he : WE X e te) (hs : swapsWith e (some (.Name "amount" pos')) pos.line X.env = pure false := by rfl) : WS X (.Assign [.Name "amount" pos'] e pos) (tAsg te (gN 1)) := wxs c sc_run.nd rfl lk_run_1 he hs
theorem lk_run_2 : (defScope s_run).names.lookup ("step" : Str) = some .local := by decide +kernel
theorem pv_run_2 {X : Cx} (c : CxIs X ["chain", "amount", "step"] (defScope s_run)) {pos : Pos} : WE X (.Name "step" pos) (tVar 2) := wxv c rfl lk_run_2 (by decide) (by decide)
theorem sg_run_2 {X : Cx} (c : CxIs X ["chain", "amount", "step"] (defScope s_run)) {pos : Pos} : WG X (.Name "step" pos) (gN 2) := wxt c sc_run.nd rfl lk_run_2
theorem gl_run_after {X : Cx} (c : CxIs X ["chain", "amount", "step"] (defScope s_run)) : Gl X "after" := xg c (by decide +kernel)
theorem st_run (v0 v1 : V) : L2.start ["chain", "amount", "step"] [v0, v1] = [some v0, some v1, none] := rfl
noncomputable def sp_run (K : PySem.W.Frag) : Sp := fun vs H Q _ => ∃ (l : Addr) (as : List Addr) (sts : List StepD) (m : Int), vs = [.ref l, .int m] ∧ Chn K H l as sts ∧ ∀ H', Same H H' → Q (.int (endI sts m)) H'
theorem body_run {X : Cx} (c : CxIs X ["chain", "amount", "step"] (defScope s_run)) (hr : Room 4 X.A) {E : XK}  (C_after : Cal X.prog X.w X.K X.mg X.base "after" 4 ["step", "amount"] (sp_after X.K)) {vs : List V} {H : Hp} {Q : VK} (h : sp_run X.K vs H Q E) : ∃ t, WSs X (defBody s_run) t ∧ t { nx := fun _ H' => Q .non H', rt := Q } (L2.start ["chain", "amount", "step"] vs) H := by
  obtain ⟨f_after, d_after, G_after, b_after, k_after, m_after⟩ := C_after
  · obtain ⟨l, as, sts, m, rfl, hC, q⟩ := h
    refine ⟨_, (wss_cons (ws_for c.own c.calm (wi_list (pv_run_0 c)) (sg_run_2 c)
      (wss_one (ss_run_1 c (we_call (G_after.mono (by decide)) hr (gl_run_after c) m_after k_after b_after .nil pass0 (wa_cons (pv_run_2 c) (wa_cons (pv_run_1 c) wa_nil star_Name) star_Name)))))
      (wss_one (ws_ret (pv_run_1 c)))), ?_⟩
    rw [st_run]
    refine ⟨_, rfl, l, rfl, ⟨_, hC.lst⟩, for_list (K := X.K) (a := l) (xs := as.map V.ref) (fun i σ H' => Same H H' ∧ ∃ v, σ = [some (.ref l), some (.int (endI (sts.take i) m)), v])
      ⟨Same.refl _, _, rfl⟩ (fun i σ H' _ ⟨e, _⟩ => e.seq hC.lst) ?_ ?_⟩
    · rintro i x σ H' hi ⟨s0, v, rfl⟩ σ e
      obtain ⟨a, st, rfl, h1, h2, hT, hO⟩ := hC.get hi
      dsimp only [List.set] at e
      subst e
      refine ⟨_, rfl, _, rfl, a, st, _, rfl, s0.seqT hT, hO, fun H1 s1 σ e => ?_⟩
      dsimp only [List.set] at e
      subst e
      exact ⟨s0.trans s1, _, by rw [take_snoc h2, endI_snoc, after_many hO]⟩
    · rintro σ H' ⟨s0, v, rfl⟩
      refine ⟨_, rfl, ?_⟩
      have e : sts.take (as.map V.ref).length = sts := by rw [List.length_map, hC.len, List.take_length]
      rw [e]
      exact q H' s0
theorem cal_run {P : Program} {w : World} {K : PySem.W.Frag} {mg : Str → Option Value} {base : Heap} {f : Addr} {fd : FuncData} (F : Fun K "run" "run" s_run f fd) (b : Binds K fd ["chain", "amount"] []) (m : mg "run" = some (.ref f)) (C_after : Cal P w K mg base "after" 4 ["step", "amount"] (sp_after K)) : Cal P w K mg base "run" 5 ["chain", "amount"] (sp_run K) :=
  ⟨f, fd, F.ok sc_run (fun vs H Q E h => by first | (obtain ⟨_, rfl, _⟩ := h; rfl) | (obtain ⟨_, _, rfl, _⟩ := h; rfl) | (obtain ⟨_, _, _, rfl, _⟩ := h; rfl) | (obtain ⟨_, _, _, _, rfl, _⟩ := h; rfl) | (obtain ⟨_, _, _, _, _, rfl, _⟩ := h; rfl) | (obtain ⟨_, _, _, _, _, _, rfl, _⟩ := h; rfl) | (obtain ⟨_, _, _, _, _, _, _, rfl, _⟩ := h; rfl) | (obtain ⟨_, _, _, _, _, _, _, _, rfl, _⟩ := h; rfl) | (obtain ⟨_, _, _, _, _, _, _, _, _, rfl, _⟩ := h; rfl)) (fun cdv A outer s H vs Q E hr h => unW (body_run (X := (cxOf CX0 P w K mg base ["chain", "amount", "step"] "run" (defScope s_run) f cdv A outer s H E).nox) ⟨rfl, rfl, rfl, PassesOwn.never⟩ hr C_after h)), b, F.kp, m⟩
theorem lk_first_reaching_0 : (defScope s_first_reaching).names.lookup ("chain" : Str) = some .local := by decide +kernel
theorem pv_first_reaching_0 {X : Cx} (c : CxIs X ["chain", "end", "amount", "step"] (defScope s_first_reaching)) {pos : Pos} : WE X (.Name "chain" pos) (tVar 0) := wxv c rfl lk_first_reaching_0 (by decide) (by decide)
theorem lk_first_reaching_1 : (defScope s_first_reaching).names.lookup ("end" : Str) = some .local := by decide +kernel
theorem pv_first_reaching_1 {X : Cx} (c : CxIs X ["chain", "end", "amount", "step"] (defScope s_first_reaching)) {pos : Pos} : WE X (.Name "end" pos) (tVar 1) := wxv c rfl lk_first_reaching_1 (by decide) (by decide)
theorem lk_first_reaching_2 : (defScope s_first_reaching).names.lookup ("amount" : Str) = some .local := by decide +kernel
theorem pv_first_reaching_2 {X : Cx} (c : CxIs X ["chain", "end", "amount", "step"] (defScope s_first_reaching)) {pos : Pos} : WE X (.Name "amount" pos) (tVar 2) := wxv c rfl lk_first_reaching_2 (by decide) (by decide)
theorem ss_first_reaching_2 {X : Cx} (c : CxIs X ["chain", "end", "amount", "step"] (defScope s_first_reaching)) {pos pos' : Pos} {e : Expr} {te : TE} (he : WE X e te) (hs : swapsWith e (some (.Name "amount" pos')) pos.line X.env = pure false := by rfl) : WS X (.Assign [.Name "amount" pos'] e pos) (tAsg te (gN 2)) := wxs c sc_first_reaching.nd rfl lk_first_reaching_2 he hs
theorem lk_first_reaching_3 : (defScope s_first_reaching).names.lookup ("step" : Str) = some .local := by decide +kernel
theorem pv_first_reaching_3 {X : Cx} (c : CxIs X ["chain", "end", "amount", "step"] (defScope s_first_reaching)) {pos : Pos} : WE X (.Name "step" pos) (tVar 3) := wxv c rfl lk_first_reaching_3 (by decide) (by decide)
theorem sg_first_reaching_3 {X : Cx} (c : CxIs X ["chain", "end", "amount", "step"] (defScope s_first_reaching)) {pos : Pos} : WG X (.Name "step" pos) (gN 3) := wxt c sc_first_reaching.nd rfl lk_first_reaching_3
theorem gl_first_reaching_least_ahead {X : Cx} (c : CxIs X ["chain", "end", "amount", "step"] (defScope s_first_reaching)) : Gl X "least_ahead" := xg c (by decide +kernel)
theorem gl_first_reaching_max {X : Cx} (c : CxIs X ["chain", "end", "amount", "step"] (defScope s_first_reaching)) : Gl X "max" := xg c (by decide +kernel)
theorem gl_first_reaching_reversed {X : Cx} (c : CxIs X ["chain", "end", "amount", "step"] (defScope s_first_reaching)) : Gl X "reversed" := xg c (by decide +kernel)
theorem st_first_reaching (v0 v1 : V) : L2.start ["chain", "end", "amount", "step"] [v0, v1] = [some v0, some v1, none, none] := rfl
noncomputable def sp_first_reaching (K : PySem.W.Frag) : Sp := fun vs H Q _ => ∃ (l : Addr) (as : List Addr) (sts : List StepD) (en : Int), vs = [.ref l, .int en] ∧ Chn K H l as sts ∧ ∀ m H', Same H H' → Low sts en m → Q (.int m) H'
theorem drop_cons_at {α : Type} {l : List α} {i : Nat} {x : α} (h : l[i]? = some x) : l.drop i = x :: l.drop (i + 1) := by
  obtain ⟨hi, e⟩ := List.getElem?_eq_some_iff.mp h
  rw [← e]; exact List.drop_eq_getElem_cons hi
theorem body_first_reaching {X : Cx} (c : CxIs X ["chain", "end", "amount", "step"] (defScope s_first_reaching)) (hr : Room 4 X.A) {E : XK}  (z_max : X.mg "max" = none) (z_reversed : X.mg "reversed" = none) (C_least_ahead : Cal X.prog X.w X.K X.mg X.base "least_ahead" 4 ["step", "amount"] (sp_least_ahead X.K)) {vs : List V} {H : Hp} {Q : VK} (h : sp_first_reaching X.K vs H Q E) : ∃ t, WSs X (defBody s_first_reaching) t ∧ t { nx := fun _ H' => Q .non H', rt := Q } (L2.start ["chain", "end", "amount", "step"] vs) H := by
  obtain ⟨f_least_ahead, d_least_ahead, G_least_ahead, b_least_ahead, k_least_ahead, m_least_ahead⟩ := C_least_ahead
  · obtain ⟨l, as, sts, en, rfl, hC, q⟩ := h
    refine ⟨_, (wss_cons (ss_first_reaching_2 c (we_callB (call_max2 c.calm) (gl_first_reaching_max c) z_max boot_max (wa_cons (pv_first_reaching_1 c) (wa_cons we_int wa_nil star_Constant) star_Name)))
      (wss_cons (ws_for c.own c.calm (wi_rev (gl_first_reaching_reversed c) z_reversed (wa_cons (pv_first_reaching_0 c) wa_nil star_Name)) (sg_first_reaching_3 c)
      (wss_one (ss_first_reaching_2 c (we_call (G_least_ahead.mono (by decide)) hr (gl_first_reaching_least_ahead c) m_least_ahead k_least_ahead b_least_ahead .nil pass0 (wa_cons (pv_first_reaching_3 c) (wa_cons (pv_first_reaching_2 c) wa_nil star_Name) star_Name)))))
      (wss_one (ws_ret (pv_first_reaching_2 c))))), ?_⟩
    rw [st_first_reaching]
    refine ⟨_, rfl, _, _, rfl, fun σ e => ?_⟩
    dsimp only [List.set] at e
    subst e
    have hlen : (as.map V.ref).length = sts.length := by rw [List.length_map, hC.len]
    refine ⟨_, rfl, l, _, rfl, hC.lst, for_rev (K := X.K) (a := l) (xs := as.map V.ref) (fun i σ H' => Same H H' ∧ ∃ m v, Thr (sts.drop (sts.length - i)) en m ∧ σ = [some (.ref l), some (.int en), some (.int m), v])
      ⟨Same.refl _, _, _, ?_, rfl⟩ (fun i σ H' _ ⟨e, _⟩ => e.seq hC.lst) ?_ ?_⟩
    · rw [Nat.sub_zero, List.drop_length]
      exact Thr.nil
    · rintro i x σ H' hi hx ⟨s0, m, v, T, rfl⟩ σ e
      obtain ⟨a, st, rfl, h1, h2, hT, hO⟩ := hC.get hx
      dsimp only [List.set] at e
      subst e
      rw [hlen] at hi h2
      refine ⟨_, rfl, _, rfl, a, st, m, rfl, s0.seqT hT, hO, fun m' H1 s1 m0 hm σ e => ?_⟩
      dsimp only [List.set] at e
      subst e
      refine ⟨s0.trans s1, m', _, ?_, rfl⟩
      rw [show sts.length - (i + 1) = sts.length - 1 - i by omega, drop_cons_at h2, show sts.length - 1 - i + 1 = sts.length - i by omega]
      exact T.cons hO m0 hm
    · rintro σ H' ⟨s0, m, v, T, rfl⟩
      rw [hlen, Nat.sub_self, List.drop_zero] at T
      exact ⟨_, rfl, q m H' s0 T.low⟩
theorem cal_first_reaching {P : Program} {w : World} {K : PySem.W.Frag} {mg : Str → Option Value} {base : Heap} {f : Addr} {fd : FuncData} (F : Fun K "first_reaching" "first_reaching" s_first_reaching f fd) (b : Binds K fd ["chain", "end"] []) (m : mg "first_reaching" = some (.ref f)) (z_max : mg "max" = none) (z_reversed : mg "reversed" = none) (C_least_ahead : Cal P w K mg base "least_ahead" 4 ["step", "amount"] (sp_least_ahead K)) : Cal P w K mg base "first_reaching" 5 ["chain", "end"] (sp_first_reaching K) :=
  ⟨f, fd, F.ok sc_first_reaching (fun vs H Q E h => by first | (obtain ⟨_, rfl, _⟩ := h; rfl) | (obtain ⟨_, _, rfl, _⟩ := h; rfl) | (obtain ⟨_, _, _, rfl, _⟩ := h; rfl) | (obtain ⟨_, _, _, _, rfl, _⟩ := h; rfl) | (obtain ⟨_, _, _, _, _, rfl, _⟩ := h; rfl) | (obtain ⟨_, _, _, _, _, _, rfl, _⟩ := h; rfl) | (obtain ⟨_, _, _, _, _, _, _, rfl, _⟩ := h; rfl) | (obtain ⟨_, _, _, _, _, _, _, _, rfl, _⟩ := h; rfl) | (obtain ⟨_, _, _, _, _, _, _, _, _, rfl, _⟩ := h; rfl)) (fun cdv A outer s H vs Q E hr h => unW (body_first_reaching (X := (cxOf CX0 P w K mg base ["chain", "end", "amount", "step"] "first_reaching" (defScope s_first_reaching) f cdv A outer s H E).nox) ⟨rfl, rfl, rfl, PassesOwn.never⟩ hr z_max z_reversed C_least_ahead h)), b, F.kp, m⟩
theorem lk_end_of_0 : (defScope s_end_of).names.lookup ("chain" : Str) = some .local := by decide +kernel
theorem pv_end_of_0 {X : Cx} (c : CxIs X ["chain", "price"] (defScope s_end_of)) {pos : Pos} : WE X (.Name "chain" pos) (tVar 0) := wxv c rfl lk_end_of_0 (by decide) (by decide)
theorem lk_end_of_1 : (defScope s_end_of).names.lookup ("price" : Str) = some .local := by decide +kernel
theorem pv_end_of_1 {X : Cx} (c : CxIs X ["chain", "price"] (defScope s_end_of)) {pos : Pos} : WE X (.Name "price" pos) (tVar 1) := wxv c rfl lk_end_of_1 (by decide) (by decide)
theorem gl_end_of_check_price {X : Cx} (c : CxIs X ["chain", "price"] (defScope s_end_of)) : Gl X "check_price" := xg c (by decide +kernel)
theorem gl_end_of_run {X : Cx} (c : CxIs X ["chain", "price"] (defScope s_end_of)) : Gl X "run" := xg c (by decide +kernel)
theorem st_end_of (v0 v1 : V) : L2.start ["chain", "price"] [v0, v1] = [some v0, some v1] := rfl
noncomputable def sp_end_of (K : PySem.W.Frag) : Sp := fun vs H Q _ => ∃ (l : Addr) (as : List Addr) (sts : List StepD) (m : Int), vs = [.ref l, .int m] ∧ Chn K H l as sts ∧ 0 ≤ m ∧ m ≤ 10 ^ 30 ∧ sts.length ≤ 60 ∧ ∀ H', Same H H' → Q (.int (endI sts m)) H'
theorem body_end_of {X : Cx} (c : CxIs X ["chain", "price"] (defScope s_end_of)) (hr : Room 5 X.A) {E : XK}  (C_check_price : Cal X.prog X.w X.K X.mg X.base "check_price" 1 ["price"] (sp_check_price X.K)) (C_run : Cal X.prog X.w X.K X.mg X.base "run" 5 ["chain", "amount"] (sp_run X.K)) {vs : List V} {H : Hp} {Q : VK} (h : sp_end_of X.K vs H Q E) : ∃ t, WSs X (defBody s_end_of) t ∧ t { nx := fun _ H' => Q .non H', rt := Q } (L2.start ["chain", "price"] vs) H := by
  obtain ⟨f_check_price, d_check_price, G_check_price, b_check_price, k_check_price, m_check_price⟩ := C_check_price
  obtain ⟨f_run, d_run, G_run, b_run, k_run, m_run⟩ := C_run
  · obtain ⟨l, as, sts, m, rfl, hC, h0, h1, h2, q⟩ := h
    refine ⟨_, (wss_cons (ws_expr (we_call (G_check_price.mono (by decide)) hr (gl_end_of_check_price c) m_check_price k_check_price b_check_price .nil pass0 (wa_cons (pv_end_of_1 c) wa_nil star_Name)))
      (wss_one (ws_ret (we_call (G_run.mono (by decide)) hr (gl_end_of_run c) m_run k_run b_run .nil pass0 (wa_cons (pv_end_of_0 c) (wa_cons (pv_end_of_1 c) wa_nil star_Name) star_Name))))), ?_⟩
    rw [st_end_of]
    refine ⟨_, rfl, m, rfl, h0, h1, ?_⟩
    exact ⟨_, rfl, _, rfl, l, as, sts, m, rfl, hC, fun H1 s1 => q _ s1⟩
theorem cal_end_of {P : Program} {w : World} {K : PySem.W.Frag} {mg : Str → Option Value} {base : Heap} {f : Addr} {fd : FuncData} (F : Fun K "end_of" "end_of" s_end_of f fd) (b : Binds K fd ["chain", "price"] []) (m : mg "end_of" = some (.ref f)) (C_check_price : Cal P w K mg base "check_price" 1 ["price"] (sp_check_price K)) (C_run : Cal P w K mg base "run" 5 ["chain", "amount"] (sp_run K)) : Cal P w K mg base "end_of" 6 ["chain", "price"] (sp_end_of K) :=
  ⟨f, fd, F.ok sc_end_of (fun vs H Q E h => by first | (obtain ⟨_, rfl, _⟩ := h; rfl) | (obtain ⟨_, _, rfl, _⟩ := h; rfl) | (obtain ⟨_, _, _, rfl, _⟩ := h; rfl) | (obtain ⟨_, _, _, _, rfl, _⟩ := h; rfl) | (obtain ⟨_, _, _, _, _, rfl, _⟩ := h; rfl) | (obtain ⟨_, _, _, _, _, _, rfl, _⟩ := h; rfl) | (obtain ⟨_, _, _, _, _, _, _, rfl, _⟩ := h; rfl) | (obtain ⟨_, _, _, _, _, _, _, _, rfl, _⟩ := h; rfl) | (obtain ⟨_, _, _, _, _, _, _, _, _, rfl, _⟩ := h; rfl)) (fun cdv A outer s H vs Q E hr h => unW (body_end_of (X := (cxOf CX0 P w K mg base ["chain", "price"] "end_of" (defScope s_end_of) f cdv A outer s H E).nox) ⟨rfl, rfl, rfl, PassesOwn.never⟩ hr C_check_price C_run h)), b, F.kp, m⟩
theorem lk_origin_0 : (defScope s_origin).names.lookup ("chain" : Str) = some .local := by decide +kernel
theorem pv_origin_0 {X : Cx} (c : CxIs X ["chain", "end", "first", "reached", "below"] (defScope s_origin)) {pos : Pos} : WE X (.Name "chain" pos) (tVar 0) := wxv c rfl lk_origin_0 (by decide) (by decide)
theorem lk_origin_1 : (defScope s_origin).names.lookup ("end" : Str) = some .local := by decide +kernel
theorem pv_origin_1 {X : Cx} (c : CxIs X ["chain", "end", "first", "reached", "below"] (defScope s_origin)) {pos : Pos} : WE X (.Name "end" pos) (tVar 1) := wxv c rfl lk_origin_1 (by decide) (by decide)
theorem lk_origin_2 : (defScope s_origin).names.lookup ("first" : Str) = some .local := by decide +kernel
theorem pv_origin_2 {X : Cx} (c : CxIs X ["chain", "end", "first", "reached", "below"] (defScope s_origin)) {pos : Pos} : WE X (.Name "first" pos) (tVar 2) := wxv c rfl lk_origin_2 (by decide) (by decide)
theorem ss_origin_2 {X : Cx} (c : CxIs X ["chain", "end", "first", "reached", "below"] (defScope s_origin)) {pos pos' : Pos} {e : Expr} {te : TE} (he : WE X e te) (hs : swapsWith e (some (.Name "first" pos')) pos.line X.env = pure false := by rfl) : WS X (.Assign [.Name "first" pos'] e pos) (tAsg te (gN 2)) := wxs c sc_origin.nd rfl lk_origin_2 he hs
theorem lk_origin_3 : (defScope s_origin).names.lookup ("reached" : Str) = some .local := by decide +kernel
theorem pv_origin_3 {X : Cx} (c : CxIs X ["chain", "end", "first", "reached", "below"] (defScope s_origin)) {pos : Pos} : WE X (.Name "reached" pos) (tVar 3) := wxv c rfl lk_origin_3 (by decide) (by decide)
theorem ss_origin_3 {X : Cx} (c : CxIs X ["chain", "end", "first", "reached", "below"] (defScope s_origin)) {pos pos' : Pos} {e : Expr} {te : TE} (he : WE X e te) (hs : swapsWith e (some (.Name "reached" pos')) pos.line X.env = pure false := by rfl) : WS X (.Assign [.Name "reached" pos'] e pos) (tAsg te (gN 3)) := wxs c sc_origin.nd rfl lk_origin_3 he hs
theorem lk_origin_4 : (defScope s_origin).names.lookup ("below" : Str) = some .local := by decide +kernel
theorem pv_origin_4 {X : Cx} (c : CxIs X ["chain", "end", "first", "reached", "below"] (defScope s_origin)) {pos : Pos} : WE X (.Name "below" pos) (tVar 4) := wxv c rfl lk_origin_4 (by decide) (by decide)
theorem ss_origin_4 {X : Cx} (c : CxIs X ["chain", "end", "first", "reached", "below"] (defScope s_origin)) {pos pos' : Pos} {e : Expr} {te : TE} (he : WE X e te) (hs : swapsWith e (some (.Name "below" pos')) pos.line X.env = pure false := by rfl) : WS X (.Assign [.Name "below" pos'] e pos) (tAsg te (gN 4)) := wxs c sc_origin.nd rfl lk_origin_4 he hs
theorem gl_origin_first_reaching {X : Cx} (c : CxIs X ["chain", "end", "first", "reached", "below"] (defScope s_origin)) : Gl X "first_reaching" := xg c (by decide +kernel)
theorem gl_origin_run {X : Cx} (c : CxIs X ["chain", "end", "first", "reached", "below"] (defScope s_origin)) : Gl X "run" := xg c (by decide +kernel)
theorem st_origin (v0 v1 : V) : L2.start ["chain", "end", "first", "reached", "below"] [v0, v1] = [some v0, some v1, none, none, none] := rfl
noncomputable def sp_origin (K : PySem.W.Frag) : Sp := fun vs H Q _ => ∃ (l : Addr) (as : List Addr) (sts : List StepD) (en : Int), vs = [.ref l, .int en] ∧ Chn K H l as sts ∧
  (∀ p f la H', Same H H' → SqT K H' p [.str "from", .int f, .int la] → From sts en f la → Q (.ref p) H') ∧
  (∀ p m (bel : V) H', Same H H' → SqT K H' p [.str "none", bel, .int (endI sts m)] → Low sts en m → ¬ endI sts m = en → (m = 0 ∧ bel = .non ∨ 0 < m ∧ bel = .int (endI sts (m - 1))) → Q (.ref p) H')
theorem body_origin {X : Cx} (c : CxIs X ["chain", "end", "first", "reached", "below"] (defScope s_origin)) (hr : Room 5 X.A) {E : XK}  (C_first_reaching : Cal X.prog X.w X.K X.mg X.base "first_reaching" 5 ["chain", "end"] (sp_first_reaching X.K)) (C_run : Cal X.prog X.w X.K X.mg X.base "run" 5 ["chain", "amount"] (sp_run X.K)) {vs : List V} {H : Hp} {Q : VK} (h : sp_origin X.K vs H Q E) : ∃ t, WSs X (defBody s_origin) t ∧ t { nx := fun _ H' => Q .non H', rt := Q } (L2.start ["chain", "end", "first", "reached", "below"] vs) H := by
  obtain ⟨f_first_reaching, d_first_reaching, G_first_reaching, b_first_reaching, k_first_reaching, m_first_reaching⟩ := C_first_reaching
  obtain ⟨f_run, d_run, G_run, b_run, k_run, m_run⟩ := C_run
  · obtain ⟨l, as, sts, en, rfl, hC, q1, q2⟩ := h
    refine ⟨_, (wss_cons (ss_origin_2 c (we_call (G_first_reaching.mono (by decide)) hr (gl_origin_first_reaching c) m_first_reaching k_first_reaching b_first_reaching .nil pass0 (wa_cons (pv_origin_0 c) (wa_cons (pv_origin_1 c) wa_nil star_Name) star_Name)))
      (wss_cons (ss_origin_3 c (we_call (G_run.mono (by decide)) hr (gl_origin_run c) m_run k_run b_run .nil pass0 (wa_cons (pv_origin_0 c) (wa_cons (pv_origin_2 c) wa_nil star_Name) star_Name)))
      (wss_cons (ws_if (wt_cmpR op_eq (pv_origin_3 c) (pv_origin_1 c) (nomark _))
      (wss_one (ws_ret (we_tupO (wa_cons we_str (wa_cons (pv_origin_2 c) (wa_cons (we_op op_sub (we_call (G_first_reaching.mono (by decide)) hr (gl_origin_first_reaching c) m_first_reaching k_first_reaching b_first_reaching .nil pass0 (wa_cons (pv_origin_0 c) (wa_cons (we_op op_add (pv_origin_1 c) we_int) wa_nil star_BinOp) star_Name)) we_int) wa_nil star_BinOp) star_Name) star_Constant))))
      wss_nil)
      (wss_cons (ss_origin_4 c we_non)
      (wss_cons (ws_if (wt_cmpR op_gt (pv_origin_2 c) we_int (nomark _))
      (wss_one (ss_origin_4 c (we_call (G_run.mono (by decide)) hr (gl_origin_run c) m_run k_run b_run .nil pass0 (wa_cons (pv_origin_0 c) (wa_cons (we_op op_sub (pv_origin_2 c) we_int) wa_nil star_BinOp) star_Name))))
      wss_nil)
      (wss_one (ws_ret (we_tupO (wa_cons we_str (wa_cons (pv_origin_4 c) (wa_cons (pv_origin_3 c) wa_nil star_Name) star_Name) star_Constant))))))))), ?_⟩
    rw [st_origin]
    refine ⟨_, rfl, _, rfl, l, as, sts, en, rfl, hC, fun m H1 s1 hL σ e => ?_⟩
    dsimp only [List.set] at e
    subst e
    have m0 := hL.m0
    refine ⟨_, rfl, _, rfl, l, as, sts, m, rfl, hC.same s1, fun H2 s2 σ e => ?_⟩
    dsimp only [List.set] at e
    subst e
    have s02 := s1.trans s2
    refine ⟨_, rfl, _, rfl, rfl, _, rfl, ?_⟩
    refine if2 (fun c => ?_) (fun c => ?_)
    · have c' := of_int c
      refine ⟨_, rfl, _, rfl, _, rfl, _, _, rfl, rfl, l, as, sts, _, rfl, hC.same s02, fun m2 H3 s3 hL2 => ⟨_, _, rfl, rfl, (small' (by show 3 ≤ 1000; decide)), fun p H4 _ s4 f4 => ?_⟩⟩
      exact q1 p m (m2 - 1) H4 ((s02.trans s3).trans s4) (SqT.of f4) ⟨hL, c', by rw [show m2 - 1 + 1 = m2 by omega]; exact hL2⟩
    intro σ e
    dsimp only [List.set] at e
    subst e
    try dsimp only
    refine seq_gen (fun σ H' => Same H H' ∧ ∃ bel, (m = 0 ∧ bel = V.non ∨ 0 < m ∧ bel = .int (endI sts (m - 1))) ∧ σ = [some (.ref l), some (.int en), some (.int m), some (.int (endI sts m)), some bel]) ?rest1 ?st1
    case st1 =>
      intro R hR
      refine ⟨_, rfl, _, _, rfl, rfl, _, rfl, ?_⟩
      refine if2 (fun d => ?_) (fun d => ?_)
      · refine ⟨_, rfl, _, rfl, _, _, rfl, rfl, l, as, sts, _, rfl, hC.same s02, fun H3 s3 σ e => ?_⟩
        dsimp only [List.set] at e
        subst e
        exact hR _ _ ⟨s02.trans s3, _, .inr ⟨d, rfl⟩, rfl⟩
      · exact hR _ _ ⟨s02, _, .inl ⟨by omega, rfl⟩, rfl⟩
    rintro σ H3 ⟨s3, bel, hb, rfl⟩
    refine ⟨_, rfl, _, rfl, (small' (by show 3 ≤ 1000; decide)), fun p H4 _ s4 f4 => ?_⟩
    exact q2 p m bel H4 (s3.trans s4) (SqT.of f4) hL (of_not_int c) hb
theorem cal_origin {P : Program} {w : World} {K : PySem.W.Frag} {mg : Str → Option Value} {base : Heap} {f : Addr} {fd : FuncData} (F : Fun K "origin" "origin" s_origin f fd) (b : Binds K fd ["chain", "end"] []) (m : mg "origin" = some (.ref f)) (C_first_reaching : Cal P w K mg base "first_reaching" 5 ["chain", "end"] (sp_first_reaching K)) (C_run : Cal P w K mg base "run" 5 ["chain", "amount"] (sp_run K)) : Cal P w K mg base "origin" 6 ["chain", "end"] (sp_origin K) :=
  ⟨f, fd, F.ok sc_origin (fun vs H Q E h => by first | (obtain ⟨_, rfl, _⟩ := h; rfl) | (obtain ⟨_, _, rfl, _⟩ := h; rfl) | (obtain ⟨_, _, _, rfl, _⟩ := h; rfl) | (obtain ⟨_, _, _, _, rfl, _⟩ := h; rfl) | (obtain ⟨_, _, _, _, _, rfl, _⟩ := h; rfl) | (obtain ⟨_, _, _, _, _, _, rfl, _⟩ := h; rfl) | (obtain ⟨_, _, _, _, _, _, _, rfl, _⟩ := h; rfl) | (obtain ⟨_, _, _, _, _, _, _, _, rfl, _⟩ := h; rfl) | (obtain ⟨_, _, _, _, _, _, _, _, _, rfl, _⟩ := h; rfl)) (fun cdv A outer s H vs Q E hr h => unW (body_origin (X := (cxOf CX0 P w K mg base ["chain", "end", "first", "reached", "below"] "origin" (defScope s_origin) f cdv A outer s H E).nox) ⟨rfl, rfl, rfl, PassesOwn.never⟩ hr C_first_reaching C_run h)), b, F.kp, m⟩
theorem lk_missing_0 : (defScope s_missing).names.lookup ("chain" : Str) = some .local := by decide +kernel
theorem pv_missing_0 {X : Cx} (c : CxIs X ["chain", "low", "high", "found", "number", "reached"] (defScope s_missing)) {pos : Pos} : WE X (.Name "chain" pos) (tVar 0) := wxv c rfl lk_missing_0 (by decide) (by decide)
theorem lk_missing_1 : (defScope s_missing).names.lookup ("low" : Str) = some .local := by decide +kernel
theorem pv_missing_1 {X : Cx} (c : CxIs X ["chain", "low", "high", "found", "number", "reached"] (defScope s_missing)) {pos : Pos} : WE X (.Name "low" pos) (tVar 1) := wxv c rfl lk_missing_1 (by decide) (by decide)
theorem lk_missing_2 : (defScope s_missing).names.lookup ("high" : Str) = some .local := by decide +kernel
theorem pv_missing_2 {X : Cx} (c : CxIs X ["chain", "low", "high", "found", "number", "reached"] (defScope s_missing)) {pos : Pos} : WE X (.Name "high" pos) (tVar 2) := wxv c rfl lk_missing_2 (by decide) (by decide)
theorem lk_missing_3 : (defScope s_missing).names.lookup ("found" : Str) = some .local := by decide +kernel
theorem pv_missing_3 {X : Cx} (c : CxIs X ["chain", "low", "high", "found", "number", "reached"] (defScope s_missing)) {pos : Pos} : WE X (.Name "found" pos) (tVar 3) := wxv c rfl lk_missing_3 (by decide) (by decide)
theorem ss_missing_3 {X : Cx} (c : CxIs X ["chain", "low", "high", "found", "number", "reached"] (defScope s_missing)) {pos pos' : Pos} {e : Expr} {te : TE} (he : WE X e te) (hs : swapsWith e (some (.Name "found" pos')) pos.line X.env = pure false := by rfl) : WS X (.Assign [.Name "found" pos'] e pos) (tAsg te (gN 3)) := wxs c sc_missing.nd rfl lk_missing_3 he hs
theorem lk_missing_4 : (defScope s_missing).names.lookup ("number" : Str) = some .local := by decide +kernel
theorem pv_missing_4 {X : Cx} (c : CxIs X ["chain", "low", "high", "found", "number", "reached"] (defScope s_missing)) {pos : Pos} : WE X (.Name "number" pos) (tVar 4) := wxv c rfl lk_missing_4 (by decide) (by decide)
theorem ss_missing_4 {X : Cx} (c : CxIs X ["chain", "low", "high", "found", "number", "reached"] (defScope s_missing)) {pos pos' : Pos} {e : Expr} {te : TE} (he : WE X e te) (hs : swapsWith e (some (.Name "number" pos')) pos.line X.env = pure false := by rfl) : WS X (.Assign [.Name "number" pos'] e pos) (tAsg te (gN 4)) := wxs c sc_missing.nd rfl lk_missing_4 he hs
theorem lk_missing_5 : (defScope s_missing).names.lookup ("reached" : Str) = some .local := by decide +kernel
theorem pv_missing_5 {X : Cx} (c : CxIs X ["chain", "low", "high", "found", "number", "reached"] (defScope s_missing)) {pos : Pos} : WE X (.Name "reached" pos) (tVar 5) := wxv c rfl lk_missing_5 (by decide) (by decide)
theorem ss_missing_5 {X : Cx} (c : CxIs X ["chain", "low", "high", "found", "number", "reached"] (defScope s_missing)) {pos pos' : Pos} {e : Expr} {te : TE} (he : WE X e te) (hs : swapsWith e (some (.Name "reached" pos')) pos.line X.env = pure false := by rfl) : WS X (.Assign [.Name "reached" pos'] e pos) (tAsg te (gN 5)) := wxs c sc_missing.nd rfl lk_missing_5 he hs
theorem gl_missing_run {X : Cx} (c : CxIs X ["chain", "low", "high", "found", "number", "reached"] (defScope s_missing)) : Gl X "run" := xg c (by decide +kernel)
theorem gl_missing_first_reaching {X : Cx} (c : CxIs X ["chain", "low", "high", "found", "number", "reached"] (defScope s_missing)) : Gl X "first_reaching" := xg c (by decide +kernel)
theorem gl_missing_list {X : Cx} (c : CxIs X ["chain", "low", "high", "found", "number", "reached"] (defScope s_missing)) : Gl X "list" := xg c (by decide +kernel)
theorem gl_missing_range {X : Cx} (c : CxIs X ["chain", "low", "high", "found", "number", "reached"] (defScope s_missing)) : Gl X "range" := xg c (by decide +kernel)
theorem gl_missing_min {X : Cx} (c : CxIs X ["chain", "low", "high", "found", "number", "reached"] (defScope s_missing)) : Gl X "min" := xg c (by decide +kernel)
theorem st_missing (v0 v1 v2 : V) : L2.start ["chain", "low", "high", "found", "number", "reached"] [v0, v1, v2] = [some v0, some v1, some v2, none, none, none] := rfl
noncomputable def sp_missing (K : PySem.W.Frag) : Sp := fun vs H Q _ => ∃ (l : Addr) (as : List Addr) (sts : List StepD) (low high : Int), vs = [.ref l, .int low, .int high] ∧ Chn K H l as sts ∧ high - low ≤ 400 ∧ ∀ p H', Same H H' → H p = none → H' p = some (.lst ((goneI sts low (high + 1)).map V.int)) → Q (.ref p) H'
theorem body_missing {X : Cx} (c : CxIs X ["chain", "low", "high", "found", "number", "reached"] (defScope s_missing)) (hr : Room 5 X.A) {E : XK}  (z_list : X.mg "list" = none) (z_range : X.mg "range" = none) (z_min : X.mg "min" = none) (C_run : Cal X.prog X.w X.K X.mg X.base "run" 5 ["chain", "amount"] (sp_run X.K)) (C_first_reaching : Cal X.prog X.w X.K X.mg X.base "first_reaching" 5 ["chain", "end"] (sp_first_reaching X.K)) {vs : List V} {H : Hp} {Q : VK} (h : sp_missing X.K vs H Q E) : ∃ t, WSs X (defBody s_missing) t ∧ t { nx := fun _ H' => Q .non H', rt := Q } (L2.start ["chain", "low", "high", "found", "number", "reached"] vs) H := by
  obtain ⟨f_run, d_run, G_run, b_run, k_run, m_run⟩ := C_run
  obtain ⟨f_first_reaching, d_first_reaching, G_first_reaching, b_first_reaching, k_first_reaching, m_first_reaching⟩ := C_first_reaching
  · obtain ⟨l, as, sts, low, high, rfl, hC, lh, q⟩ := h
    refine ⟨_, (wss_cons (ss_missing_3 c (we_lstO wa_nil))
      (wss_cons (ss_missing_4 c (pv_missing_1 c))
      (wss_cons (ws_while c.own (wt_cmpR op_le (pv_missing_4 c) (pv_missing_2 c) (nomark _))
      (wss_cons (ss_missing_5 c (we_call (G_run.mono (by decide)) hr (gl_missing_run c) m_run k_run b_run .nil pass0 (wa_cons (pv_missing_0 c) (wa_cons (we_call (G_first_reaching.mono (by decide)) hr (gl_missing_first_reaching c) m_first_reaching k_first_reaching b_first_reaching .nil pass0 (wa_cons (pv_missing_0 c) (wa_cons (pv_missing_4 c) wa_nil star_Name) star_Name)) wa_nil star_Call) star_Name)))
      (wss_cons (ws_expr (we_bm PySem.F.plainAttrs_list PySem.F.slot_list_extend PySem.F.type_list_extend mt_extend (pv_missing_3 c) (wa_cons (we_callTy (call_list_rngL c.calm) (gl_missing_list c) z_list boot_ty_list (wa_cons (we_callTy call_range2 (gl_missing_range c) z_range boot_ty_range (wa_cons (pv_missing_4 c) (wa_cons (we_callB (call_min2 c.calm) (gl_missing_min c) z_min boot_min (wa_cons (pv_missing_5 c) (wa_cons (we_op op_add (pv_missing_2 c) we_int) wa_nil star_BinOp) star_Name)) wa_nil star_Call) star_Name)) wa_nil star_Call)) wa_nil star_Call)))
      (wss_one (ss_missing_4 c (we_op op_add (pv_missing_5 c) we_int))))))
      (wss_one (ws_ret (pv_missing_3 c)))))), ?_⟩
    rw [st_missing]
    refine ⟨(small' (by show 0 ≤ 1000; decide)), fun pg H1 n1 s1 f1 σ e => ?_⟩
    dsimp only [List.set] at e
    subst e
    refine ⟨_, rfl, fun σ e => ?_⟩
    dsimp only [List.set] at e
    subst e
    have g0 : goneI sts low (min low (high + 1)) = [] := gone_nil sts (by omega)
    refine while_by (fun σ H' => Same H H' ∧ ∃ en, low ≤ en ∧ H' pg = some (.lst ((goneI sts low (min en (high + 1))).map V.int)) ∧ ∃ v, σ = [some (.ref l), some (.int low), some (.int high), some (.ref pg), some (.int en), v])
      (fun σ _ => match σ with | [_, _, _, _, some (.int en), _] => (high + 1 - en).toNat | _ => 0) ⟨s1, low, Int.le_refl _, by rw [g0]; exact f1, _, rfl⟩ ?_ ?_
    · rintro σ H2 ⟨s2, en, hle, f2, v, rfl⟩
      refine ⟨_, rfl, _, rfl, _, _, rfl, rfl, _, rfl, ?_⟩
      refine if2 (fun c => ?_) (fun c => ?_)
      · have gl := gone_len sts low en
        rw [show min en (high + 1) = en by omega] at f2
        refine ⟨_, rfl, _, rfl, _, rfl, l, as, sts, en, rfl, hC.same s2, fun pr H3 s3 hL => ⟨l, as, sts, pr, rfl, hC.same (s2.trans s3), fun H4 s4 σ e => ?_⟩⟩
        dsimp only [List.set] at e
        subst e
        have ge := hL.ge
        have p0 := hL.m0
        have s24 := s3.trans s4
        have f4 := s24 _ _ f2
        refine ⟨_, rfl, .inl ⟨rfl, _, SqL.of f4⟩, _, rfl, _, rfl, _, rfl, _, _, rfl, rfl, _, _, rfl, ?_⟩
        have emin : (if high + 1 < endI sts pr then high + 1 else endI sts pr) = min (endI sts pr) (high + 1) := by
          split <;> omega
        dsimp only
        rw [emin]
        refine ⟨_, _, rfl, fun pA HA nA sA fA => ?_⟩
        refine ⟨pA, _, _, rfl, fA, by omega, fun pB HB nB sB fB => ?_⟩
        have sAB := sA.trans sB
        have f2B := sAB _ _ f4
        refine ⟨pg, pB, _, _, rfl, rfl, f2B, fB, Nat.le_trans (show _ ≤ 1000 by rw [List.length_map, List.length_map, fromTo_len]; omega) (by decide), ?_⟩
        rw [← List.map_append, ← gone_step hC.ok hL hle (by omega)]
        have sD := ((s2.trans s24).trans sAB).drop (o := .lst ((goneI sts low (min (endI sts pr + 1) (high + 1))).map V.int)) n1 rfl
        refine ⟨_, rfl, _, _, rfl, rfl, fun σ e => ?_⟩
        dsimp only [List.set] at e
        subst e
        refine ⟨⟨sD, _, by omega, upd_same, _, rfl⟩, ?_⟩
        show (high + 1 - (endI sts pr + 1)).toNat < (high + 1 - en).toNat
        omega
      · rw [show min en (high + 1) = high + 1 by omega] at f2
        exact ⟨_, rfl, q pg H2 s2 n1 f2⟩
    · rintro σ H' R R' hq ⟨v, e, v2, e2, i, j, e3, e4, k, e5, h⟩
      exact ⟨v, e, v2, e2, i, j, e3, e4, k, e5, hq _ _ h⟩
theorem cal_missing {P : Program} {w : World} {K : PySem.W.Frag} {mg : Str → Option Value} {base : Heap} {f : Addr} {fd : FuncData} (F : Fun K "missing" "missing" s_missing f fd) (b : Binds K fd ["chain", "low", "high"] []) (m : mg "missing" = some (.ref f)) (z_list : mg "list" = none) (z_range : mg "range" = none) (z_min : mg "min" = none) (C_run : Cal P w K mg base "run" 5 ["chain", "amount"] (sp_run K)) (C_first_reaching : Cal P w K mg base "first_reaching" 5 ["chain", "end"] (sp_first_reaching K)) : Cal P w K mg base "missing" 6 ["chain", "low", "high"] (sp_missing K) :=
  ⟨f, fd, F.ok sc_missing (fun vs H Q E h => by first | (obtain ⟨_, rfl, _⟩ := h; rfl) | (obtain ⟨_, _, rfl, _⟩ := h; rfl) | (obtain ⟨_, _, _, rfl, _⟩ := h; rfl) | (obtain ⟨_, _, _, _, rfl, _⟩ := h; rfl) | (obtain ⟨_, _, _, _, _, rfl, _⟩ := h; rfl) | (obtain ⟨_, _, _, _, _, _, rfl, _⟩ := h; rfl) | (obtain ⟨_, _, _, _, _, _, _, rfl, _⟩ := h; rfl) | (obtain ⟨_, _, _, _, _, _, _, _, rfl, _⟩ := h; rfl) | (obtain ⟨_, _, _, _, _, _, _, _, _, rfl, _⟩ := h; rfl)) (fun cdv A outer s H vs Q E hr h => unW (body_missing (X := (cxOf CX0 P w K mg base ["chain", "low", "high", "found", "number", "reached"] "missing" (defScope s_missing) f cdv A outer s H E).nox) ⟨rfl, rfl, rfl, PassesOwn.never⟩ hr z_list z_range z_min C_run C_first_reaching h)), b, F.kp, m⟩
theorem lk_law_walked_0 : (defScope s_law_walked).names.lookup ("_law_steps" : Str) = some .local := by decide +kernel
theorem pv_law_walked_0 {X : Cx} (c : CxIs X ["_law_steps", "_law_base", "_law_ends", "_law_p", "_law_found"] (defScope s_law_walked)) {pos : Pos} : WE X (.Name "_law_steps" pos) (tVar 0) := wxv c rfl lk_law_walked_0 (by decide) (by decide)
theorem lk_law_walked_1 : (defScope s_law_walked).names.lookup ("_law_base" : Str) = some .local := by decide +kernel
theorem pv_law_walked_1 {X : Cx} (c : CxIs X ["_law_steps", "_law_base", "_law_ends", "_law_p", "_law_found"] (defScope s_law_walked)) {pos : Pos} : WE X (.Name "_law_base" pos) (tVar 1) := wxv c rfl lk_law_walked_1 (by decide) (by decide)
theorem lk_law_walked_2 : (defScope s_law_walked).names.lookup ("_law_ends" : Str) = some .local := by decide +kernel
theorem pv_law_walked_2 {X : Cx} (c : CxIs X ["_law_steps", "_law_base", "_law_ends", "_law_p", "_law_found"] (defScope s_law_walked)) {pos : Pos} : WE X (.Name "_law_ends" pos) (tVar 2) := wxv c rfl lk_law_walked_2 (by decide) (by decide)
theorem ss_law_walked_2 {X : Cx} (c : CxIs X ["_law_steps", "_law_base", "_law_ends", "_law_p", "_law_found"] (defScope s_law_walked)) {pos pos' : Pos} {e : Expr} {te : TE} (he : WE X e te) (hs : swapsWith e (some (.Name "_law_ends" pos')) pos.line X.env = pure false := by rfl) : WS X (.Assign [.Name "_law_ends" pos'] e pos) (tAsg te (gN 2)) := wxs c sc_law_walked.nd rfl lk_law_walked_2 he hs
theorem lk_law_walked_3 : (defScope s_law_walked).names.lookup ("_law_p" : Str) = some .local := by decide +kernel
theorem pv_law_walked_3 {X : Cx} (c : CxIs X ["_law_steps", "_law_base", "_law_ends", "_law_p", "_law_found"] (defScope s_law_walked)) {pos : Pos} : WE X (.Name "_law_p" pos) (tVar 3) := wxv c rfl lk_law_walked_3 (by decide) (by decide)
theorem sg_law_walked_3 {X : Cx} (c : CxIs X ["_law_steps", "_law_base", "_law_ends", "_law_p", "_law_found"] (defScope s_law_walked)) {pos : Pos} : WG X (.Name "_law_p" pos) (gN 3) := wxt c sc_law_walked.nd rfl lk_law_walked_3
theorem lk_law_walked_4 : (defScope s_law_walked).names.lookup ("_law_found" : Str) = some .local := by decide +kernel
theorem pv_law_walked_4 {X : Cx} (c : CxIs X ["_law_steps", "_law_base", "_law_ends", "_law_p", "_law_found"] (defScope s_law_walked)) {pos : Pos} : WE X (.Name "_law_found" pos) (tVar 4) := wxv c rfl lk_law_walked_4 (by decide) (by decide)
theorem ss_law_walked_4 {X : Cx} (c : CxIs X ["_law_steps", "_law_base", "_law_ends", "_law_p", "_law_found"] (defScope s_law_walked)) {pos pos' : Pos} {e : Expr} {te : TE} (he : WE X e te) (hs : swapsWith e (some (.Name "_law_found" pos')) pos.line X.env = pure false := by rfl) : WS X (.Assign [.Name "_law_found" pos'] e pos) (tAsg te (gN 4)) := wxs c sc_law_walked.nd rfl lk_law_walked_4 he hs
theorem gl_law_walked_end_of {X : Cx} (c : CxIs X ["_law_steps", "_law_base", "_law_ends", "_law_p", "_law_found"] (defScope s_law_walked)) : Gl X "end_of" := xg c (by decide +kernel)
theorem gl_law_walked_law_is {X : Cx} (c : CxIs X ["_law_steps", "_law_base", "_law_ends", "_law_p", "_law_found"] (defScope s_law_walked)) : Gl X "_law_is" := xg c (by decide +kernel)
theorem gl_law_walked_law_end {X : Cx} (c : CxIs X ["_law_steps", "_law_base", "_law_ends", "_law_p", "_law_found"] (defScope s_law_walked)) : Gl X "_law_end" := xg c (by decide +kernel)
theorem gl_law_walked_range {X : Cx} (c : CxIs X ["_law_steps", "_law_base", "_law_ends", "_law_p", "_law_found"] (defScope s_law_walked)) : Gl X "range" := xg c (by decide +kernel)
theorem gl_law_walked_list {X : Cx} (c : CxIs X ["_law_steps", "_law_base", "_law_ends", "_law_p", "_law_found"] (defScope s_law_walked)) : Gl X "list" := xg c (by decide +kernel)
theorem gl_law_walked_max {X : Cx} (c : CxIs X ["_law_steps", "_law_base", "_law_ends", "_law_p", "_law_found"] (defScope s_law_walked)) : Gl X "max" := xg c (by decide +kernel)
theorem st_law_walked (v0 v1 : V) : L2.start ["_law_steps", "_law_base", "_law_ends", "_law_p", "_law_found"] [v0, v1] = [some v0, some v1, none, none, none] := rfl
noncomputable def walkI (sts : List StepD) (b : Int) (n : Nat) : List Int := (List.range n).map fun (i : Nat) => endI sts (b + i)
theorem walkI_len (sts : List StepD) (b : Int) (n : Nat) : (walkI sts b n).length = n := by unfold walkI; rw [List.length_map, List.length_range]
theorem walkI_snoc (sts : List StepD) (b : Int) (n : Nat) : walkI sts b (n + 1) = walkI sts b n ++ [endI sts (b + n)] := by unfold walkI; rw [List.range_succ, List.map_append]; rfl
theorem walkI_get (sts : List StepD) (b : Int) {n i : Nat} (h : i < n) : (walkI sts b n)[i]? = some (endI sts (b + i)) := by
  unfold walkI
  rw [List.getElem?_map, List.getElem?_range h]
  rfl
theorem walkI_le {sts : List StepD} (ho : ∀ st ∈ sts, st.Ok) {b : Int} {n : Nat} {z : Int} (h : z ∈ walkI sts b n) : z ≤ endI sts (b + n) := by
  unfold walkI at h
  obtain ⟨i, hi, rfl⟩ := List.mem_map.mp h
  have := List.mem_range.mp hi
  exact endI_mono sts ho _ _ (by omega)
noncomputable def sp_law_walked (K : PySem.W.Frag) : Sp := fun vs H Q _ => ∃ (l : Addr) (as : List Addr) (sts : List StepD) (b : Int), vs = [.ref l, .int b] ∧ Chn K H l as sts ∧ sts.length ≤ 6 ∧ 0 ≤ b ∧ b + 60 ≤ 10 ^ 30 ∧
  ∀ p H', Same H H' → H p = none → H' p = some (.lst ((walkI sts b 60).map V.int)) → Q (.ref p) H'
theorem body_law_walked {X : Cx} (c : CxIs X ["_law_steps", "_law_base", "_law_ends", "_law_p", "_law_found"] (defScope s_law_walked)) (hr : Room 6 X.A) {E : XK}  (z_range : X.mg "range" = none) (z_list : X.mg "list" = none) (z_max : X.mg "max" = none) (C_end_of : Cal X.prog X.w X.K X.mg X.base "end_of" 6 ["chain", "price"] (sp_end_of X.K)) (C_law_is : Cal X.prog X.w X.K X.mg X.base "_law_is" 2 ["_law_found", "_law_due"] (sp_law_is X.K)) (C_law_end : Cal X.prog X.w X.K X.mg X.base "_law_end" 3 ["_law_steps", "_law_amount"] (sp_law_end X.K)) {vs : List V} {H : Hp} {Q : VK} (h : sp_law_walked X.K vs H Q E) : ∃ t, WSs X (defBody s_law_walked) t ∧ t { nx := fun _ H' => Q .non H', rt := Q } (L2.start ["_law_steps", "_law_base", "_law_ends", "_law_p", "_law_found"] vs) H := by
  obtain ⟨f_end_of, d_end_of, G_end_of, b_end_of, k_end_of, m_end_of⟩ := C_end_of
  obtain ⟨f_law_is, d_law_is, G_law_is, b_law_is, k_law_is, m_law_is⟩ := C_law_is
  obtain ⟨f_law_end, d_law_end, G_law_end, b_law_end, k_law_end, m_law_end⟩ := C_law_end
  · obtain ⟨l, as, sts, b, rfl, hC, h6, b0, b1, q⟩ := h
    refine ⟨_, (wss_cons (ss_law_walked_2 c (we_lstO wa_nil))
      (wss_cons (ws_for c.own c.calm (wi_rangeL (gl_law_walked_range c) z_range (wa_cons (pv_law_walked_1 c) (wa_cons (we_op op_add (pv_law_walked_1 c) we_int) wa_nil star_BinOp) star_Name)) (sg_law_walked_3 c)
      (wss_cons (ss_law_walked_4 c (we_call (G_end_of.mono (by decide)) hr (gl_law_walked_end_of c) m_end_of k_end_of b_end_of .nil pass0 (wa_cons (we_callTy call_list_ofO (gl_law_walked_list c) z_list boot_ty_list (wa_cons (pv_law_walked_0 c) wa_nil star_Name)) (wa_cons (pv_law_walked_3 c) wa_nil star_Name) star_Call)))
      (wss_cons (ws_if (WW.pt (ww_or (wt_not (wt_val (we_call (G_law_is.mono (by decide)) hr (gl_law_walked_law_is c) m_law_is k_law_is b_law_is .nil pass0 (wa_cons (pv_law_walked_4 c) (wa_cons (we_call (G_law_end.mono (by decide)) hr (gl_law_walked_law_end c) m_law_end k_law_end b_law_end .nil pass0 (wa_cons (pv_law_walked_0 c) (wa_cons (pv_law_walked_3 c) wa_nil star_Name) star_Name)) wa_nil star_Call) star_Name)))) (ww_or1 (wt_cmpR op_lt (pv_law_walked_4 c) (we_callB (call_maxL c.calm) (gl_law_walked_max c) z_max boot_max (wa_cons (we_op op_catO (pv_law_walked_2 c) (we_lstO (wa_cons we_int wa_nil star_Constant))) wa_nil star_BinOp)) (nomark _)))))
      (wss_one (ws_ret (we_lstO wa_nil)))
      wss_nil)
      (wss_one (ws_expr (we_bm PySem.F.plainAttrs_list PySem.F.slot_list_append PySem.F.type_list_append mt_append (pv_law_walked_2 c) (wa_cons (pv_law_walked_4 c) wa_nil star_Name)))))))
      (wss_one (ws_ret (pv_law_walked_2 c))))), ?_⟩
    rw [st_law_walked]
    refine ⟨small' (by show 0 ≤ 1000; decide), fun pe H1 n1 s1 f1 σ e => ?_⟩
    dsimp only [List.set] at e
    subst e
    refine ⟨_, rfl, _, rfl, _, _, rfl, rfl, _, _, rfl, for_range (fun i σ H' => Same H H' ∧ H' pe = some (.lst ((walkI sts b i).map V.int)) ∧ ∃ v1 v2, σ = [some (.ref l), some (.int b), some (.ref pe), v1, v2])
      ⟨s1, f1, _, _, rfl⟩ ?_ ?_⟩
    · rintro i σ H2 hi ⟨s2, f2, v1, v2, rfl⟩ σ e
      dsimp only [List.set] at e
      subst e
      have hi' : i < 60 := by omega
      have hC2 := hC.same s2
      refine ⟨_, rfl, _, _, rfl, .inl hC2.lst, fun c H3 n3 s3 f3 => ?_⟩
      refine ⟨_, rfl, c, as, sts, _, rfl, hC2.copy s3 f3, by omega, by omega, by omega, fun H4 s4 σ e => ?_⟩
      dsimp only [List.set] at e
      subst e
      have s24 := s3.trans s4
      have f4 := s24 _ _ f2
      have hC4 := hC2.same s24
      refine ⟨_, rfl, _, rfl, _, rfl, l, as, sts, _, rfl, hC4, _, rfl, _, rfl, ?_⟩
      refine iteF ?_
      refine ⟨_, rfl, _, rfl, small' (by show 1 ≤ 1000; decide), fun p5 H5 n5 s5 f5 => ?_⟩
      refine ⟨pe, p5, _, _, rfl, rfl, s5 _ _ f4, f5, Nat.le_trans (show _ ≤ 1000 by rw [List.length_map, walkI_len]; show i + 1 ≤ 1000; omega) (by decide), fun p6 H6 n6 s6 f6 => ?_⟩
      refine ⟨p6, walkI sts b i ++ [0], rfl, by rw [List.map_append]; exact SqL.of f6, by rw [List.length_append]; show 0 < _ + 1; omega, fun M hM hx => ?_⟩
      refine ⟨_, _, rfl, rfl, _, rfl, ?_⟩
      have nn := endI_nn sts hC.ok (b + i) (by omega)
      refine ifF ?_ ?_
      · rcases List.mem_append.mp hM with z | z
        · have := walkI_le hC.ok z
          omega
        · have := List.mem_singleton.mp z
          omega
      have s46 := s5.trans s6
      have f46 := s46 _ _ f4
      refine ⟨_, rfl, .inl ⟨rfl, _, SqL.of f46⟩, _, rfl, pe, _, _, rfl, rfl, f46, small1000 (by rw [List.length_map, walkI_len]; omega), ?_⟩
      refine ⟨((s2.trans s24).trans s46).drop n1 rfl, ?_, _, _, rfl⟩
      rw [upd_same, walkI_snoc, List.map_append]
      rfl
    · rintro σ H2 ⟨s2, f2, v1, v2, rfl⟩
      rw [show (b + 60 - b).toNat = 60 by omega] at f2
      exact ⟨_, rfl, q pe H2 s2 n1 f2⟩
theorem cal_law_walked {P : Program} {w : World} {K : PySem.W.Frag} {mg : Str → Option Value} {base : Heap} {f : Addr} {fd : FuncData} (F : Fun K "_law_walked" "_law_walked" s_law_walked f fd) (b : Binds K fd ["_law_steps", "_law_base"] []) (m : mg "_law_walked" = some (.ref f)) (z_range : mg "range" = none) (z_list : mg "list" = none) (z_max : mg "max" = none) (C_end_of : Cal P w K mg base "end_of" 6 ["chain", "price"] (sp_end_of K)) (C_law_is : Cal P w K mg base "_law_is" 2 ["_law_found", "_law_due"] (sp_law_is K)) (C_law_end : Cal P w K mg base "_law_end" 3 ["_law_steps", "_law_amount"] (sp_law_end K)) : Cal P w K mg base "_law_walked" 7 ["_law_steps", "_law_base"] (sp_law_walked K) :=
  ⟨f, fd, F.ok sc_law_walked (fun vs H Q E h => by first | (obtain ⟨_, rfl, _⟩ := h; rfl) | (obtain ⟨_, _, rfl, _⟩ := h; rfl) | (obtain ⟨_, _, _, rfl, _⟩ := h; rfl) | (obtain ⟨_, _, _, _, rfl, _⟩ := h; rfl) | (obtain ⟨_, _, _, _, _, rfl, _⟩ := h; rfl) | (obtain ⟨_, _, _, _, _, _, rfl, _⟩ := h; rfl) | (obtain ⟨_, _, _, _, _, _, _, rfl, _⟩ := h; rfl) | (obtain ⟨_, _, _, _, _, _, _, _, rfl, _⟩ := h; rfl) | (obtain ⟨_, _, _, _, _, _, _, _, _, rfl, _⟩ := h; rfl)) (fun cdv A outer s H vs Q E hr h => unW (body_law_walked (X := (cxOf CX0 P w K mg base ["_law_steps", "_law_base", "_law_ends", "_law_p", "_law_found"] "_law_walked" (defScope s_law_walked) f cdv A outer s H E).nox) ⟨rfl, rfl, rfl, PassesOwn.never⟩ hr z_range z_list z_max C_end_of C_law_is C_law_end h)), b, F.kp, m⟩
theorem lk_law_in_order_0 : (defScope s_law_in_order).names.lookup ("_law_steps" : Str) = some .local := by decide +kernel
theorem pv_law_in_order_0 {X : Cx} (c : CxIs X ["_law_steps", "_law_one", "_law_other", "_law_low", "_law_high", "_law_first", "_law_second", "_law_here", "_law_there"] (defScope s_law_in_order)) {pos : Pos} : WE X (.Name "_law_steps" pos) (tVar 0) := wxv c rfl lk_law_in_order_0 (by decide) (by decide)
theorem lk_law_in_order_1 : (defScope s_law_in_order).names.lookup ("_law_one" : Str) = some .local := by decide +kernel
theorem pv_law_in_order_1 {X : Cx} (c : CxIs X ["_law_steps", "_law_one", "_law_other", "_law_low", "_law_high", "_law_first", "_law_second", "_law_here", "_law_there"] (defScope s_law_in_order)) {pos : Pos} : WE X (.Name "_law_one" pos) (tVar 1) := wxv c rfl lk_law_in_order_1 (by decide) (by decide)
theorem lk_law_in_order_2 : (defScope s_law_in_order).names.lookup ("_law_other" : Str) = some .local := by decide +kernel
theorem pv_law_in_order_2 {X : Cx} (c : CxIs X ["_law_steps", "_law_one", "_law_other", "_law_low", "_law_high", "_law_first", "_law_second", "_law_here", "_law_there"] (defScope s_law_in_order)) {pos : Pos} : WE X (.Name "_law_other" pos) (tVar 2) := wxv c rfl lk_law_in_order_2 (by decide) (by decide)
theorem lk_law_in_order_3 : (defScope s_law_in_order).names.lookup ("_law_low" : Str) = some .local := by decide +kernel
theorem pv_law_in_order_3 {X : Cx} (c : CxIs X ["_law_steps", "_law_one", "_law_other", "_law_low", "_law_high", "_law_first", "_law_second", "_law_here", "_law_there"] (defScope s_law_in_order)) {pos : Pos} : WE X (.Name "_law_low" pos) (tVar 3) := wxv c rfl lk_law_in_order_3 (by decide) (by decide)
theorem ss_law_in_order_3 {X : Cx} (c : CxIs X ["_law_steps", "_law_one", "_law_other", "_law_low", "_law_high", "_law_first", "_law_second", "_law_here", "_law_there"] (defScope s_law_in_order)) {pos pos' : Pos} {e : Expr} {te : TE} (he : WE X e te) (hs : swapsWith e (some (.Name "_law_low" pos')) pos.line X.env = pure false := by rfl) : WS X (.Assign [.Name "_law_low" pos'] e pos) (tAsg te (gN 3)) := wxs c sc_law_in_order.nd rfl lk_law_in_order_3 he hs
theorem lk_law_in_order_4 : (defScope s_law_in_order).names.lookup ("_law_high" : Str) = some .local := by decide +kernel
theorem pv_law_in_order_4 {X : Cx} (c : CxIs X ["_law_steps", "_law_one", "_law_other", "_law_low", "_law_high", "_law_first", "_law_second", "_law_here", "_law_there"] (defScope s_law_in_order)) {pos : Pos} : WE X (.Name "_law_high" pos) (tVar 4) := wxv c rfl lk_law_in_order_4 (by decide) (by decide)
theorem ss_law_in_order_4 {X : Cx} (c : CxIs X ["_law_steps", "_law_one", "_law_other", "_law_low", "_law_high", "_law_first", "_law_second", "_law_here", "_law_there"] (defScope s_law_in_order)) {pos pos' : Pos} {e : Expr} {te : TE} (he : WE X e te) (hs : swapsWith e (some (.Name "_law_high" pos')) pos.line X.env = pure false := by rfl) : WS X (.Assign [.Name "_law_high" pos'] e pos) (tAsg te (gN 4)) := wxs c sc_law_in_order.nd rfl lk_law_in_order_4 he hs
theorem lk_law_in_order_5 : (defScope s_law_in_order).names.lookup ("_law_first" : Str) = some .local := by decide +kernel
theorem pv_law_in_order_5 {X : Cx} (c : CxIs X ["_law_steps", "_law_one", "_law_other", "_law_low", "_law_high", "_law_first", "_law_second", "_law_here", "_law_there"] (defScope s_law_in_order)) {pos : Pos} : WE X (.Name "_law_first" pos) (tVar 5) := wxv c rfl lk_law_in_order_5 (by decide) (by decide)
theorem ss_law_in_order_5 {X : Cx} (c : CxIs X ["_law_steps", "_law_one", "_law_other", "_law_low", "_law_high", "_law_first", "_law_second", "_law_here", "_law_there"] (defScope s_law_in_order)) {pos pos' : Pos} {e : Expr} {te : TE} (he : WE X e te) (hs : swapsWith e (some (.Name "_law_first" pos')) pos.line X.env = pure false := by rfl) : WS X (.Assign [.Name "_law_first" pos'] e pos) (tAsg te (gN 5)) := wxs c sc_law_in_order.nd rfl lk_law_in_order_5 he hs
theorem lk_law_in_order_6 : (defScope s_law_in_order).names.lookup ("_law_second" : Str) = some .local := by decide +kernel
theorem pv_law_in_order_6 {X : Cx} (c : CxIs X ["_law_steps", "_law_one", "_law_other", "_law_low", "_law_high", "_law_first", "_law_second", "_law_here", "_law_there"] (defScope s_law_in_order)) {pos : Pos} : WE X (.Name "_law_second" pos) (tVar 6) := wxv c rfl lk_law_in_order_6 (by decide) (by decide)
theorem ss_law_in_order_6 {X : Cx} (c : CxIs X ["_law_steps", "_law_one", "_law_other", "_law_low", "_law_high", "_law_first", "_law_second", "_law_here", "_law_there"] (defScope s_law_in_order)) {pos pos' : Pos} {e : Expr} {te : TE} (he : WE X e te) (hs : swapsWith e (some (.Name "_law_second" pos')) pos.line X.env = pure false := by rfl) : WS X (.Assign [.Name "_law_second" pos'] e pos) (tAsg te (gN 6)) := wxs c sc_law_in_order.nd rfl lk_law_in_order_6 he hs
theorem lk_law_in_order_7 : (defScope s_law_in_order).names.lookup ("_law_here" : Str) = some .local := by decide +kernel
theorem pv_law_in_order_7 {X : Cx} (c : CxIs X ["_law_steps", "_law_one", "_law_other", "_law_low", "_law_high", "_law_first", "_law_second", "_law_here", "_law_there"] (defScope s_law_in_order)) {pos : Pos} : WE X (.Name "_law_here" pos) (tVar 7) := wxv c rfl lk_law_in_order_7 (by decide) (by decide)
theorem ss_law_in_order_7 {X : Cx} (c : CxIs X ["_law_steps", "_law_one", "_law_other", "_law_low", "_law_high", "_law_first", "_law_second", "_law_here", "_law_there"] (defScope s_law_in_order)) {pos pos' : Pos} {e : Expr} {te : TE} (he : WE X e te) (hs : swapsWith e (some (.Name "_law_here" pos')) pos.line X.env = pure false := by rfl) : WS X (.Assign [.Name "_law_here" pos'] e pos) (tAsg te (gN 7)) := wxs c sc_law_in_order.nd rfl lk_law_in_order_7 he hs
theorem lk_law_in_order_8 : (defScope s_law_in_order).names.lookup ("_law_there" : Str) = some .local := by decide +kernel
theorem pv_law_in_order_8 {X : Cx} (c : CxIs X ["_law_steps", "_law_one", "_law_other", "_law_low", "_law_high", "_law_first", "_law_second", "_law_here", "_law_there"] (defScope s_law_in_order)) {pos : Pos} : WE X (.Name "_law_there" pos) (tVar 8) := wxv c rfl lk_law_in_order_8 (by decide) (by decide)
theorem ss_law_in_order_8 {X : Cx} (c : CxIs X ["_law_steps", "_law_one", "_law_other", "_law_low", "_law_high", "_law_first", "_law_second", "_law_here", "_law_there"] (defScope s_law_in_order)) {pos pos' : Pos} {e : Expr} {te : TE} (he : WE X e te) (hs : swapsWith e (some (.Name "_law_there" pos')) pos.line X.env = pure false := by rfl) : WS X (.Assign [.Name "_law_there" pos'] e pos) (tAsg te (gN 8)) := wxs c sc_law_in_order.nd rfl lk_law_in_order_8 he hs
theorem gl_law_in_order_end_of {X : Cx} (c : CxIs X ["_law_steps", "_law_one", "_law_other", "_law_low", "_law_high", "_law_first", "_law_second", "_law_here", "_law_there"] (defScope s_law_in_order)) : Gl X "end_of" := xg c (by decide +kernel)
theorem gl_law_in_order_origin {X : Cx} (c : CxIs X ["_law_steps", "_law_one", "_law_other", "_law_low", "_law_high", "_law_first", "_law_second", "_law_here", "_law_there"] (defScope s_law_in_order)) : Gl X "origin" := xg c (by decide +kernel)
theorem gl_law_in_order_law_is {X : Cx} (c : CxIs X ["_law_steps", "_law_one", "_law_other", "_law_low", "_law_high", "_law_first", "_law_second", "_law_here", "_law_there"] (defScope s_law_in_order)) : Gl X "_law_is" := xg c (by decide +kernel)
theorem gl_law_in_order_law_stretch {X : Cx} (c : CxIs X ["_law_steps", "_law_one", "_law_other", "_law_low", "_law_high", "_law_first", "_law_second", "_law_here", "_law_there"] (defScope s_law_in_order)) : Gl X "_law_stretch" := xg c (by decide +kernel)
theorem gl_law_in_order_law_end {X : Cx} (c : CxIs X ["_law_steps", "_law_one", "_law_other", "_law_low", "_law_high", "_law_first", "_law_second", "_law_here", "_law_there"] (defScope s_law_in_order)) : Gl X "_law_end" := xg c (by decide +kernel)
theorem gl_law_in_order_min {X : Cx} (c : CxIs X ["_law_steps", "_law_one", "_law_other", "_law_low", "_law_high", "_law_first", "_law_second", "_law_here", "_law_there"] (defScope s_law_in_order)) : Gl X "min" := xg c (by decide +kernel)
theorem gl_law_in_order_max {X : Cx} (c : CxIs X ["_law_steps", "_law_one", "_law_other", "_law_low", "_law_high", "_law_first", "_law_second", "_law_here", "_law_there"] (defScope s_law_in_order)) : Gl X "max" := xg c (by decide +kernel)
theorem gl_law_in_order_list {X : Cx} (c : CxIs X ["_law_steps", "_law_one", "_law_other", "_law_low", "_law_high", "_law_first", "_law_second", "_law_here", "_law_there"] (defScope s_law_in_order)) : Gl X "list" := xg c (by decide +kernel)
theorem st_law_in_order (v0 v1 v2 : V) : L2.start ["_law_steps", "_law_one", "_law_other", "_law_low", "_law_high", "_law_first", "_law_second", "_law_here", "_law_there"] [v0, v1, v2] = [some v0, some v1, some v2, none, none, none, none, none, none] := rfl
noncomputable def sp_law_in_order (K : PySem.W.Frag) : Sp := fun vs H Q _ => ∃ (l : Addr) (as : List Addr) (sts : List StepD) (x y : Int), vs = [.ref l, .int x, .int y] ∧ Chn K H l as sts ∧ sts.length ≤ 6 ∧ 0 ≤ x ∧ x ≤ 10 ^ 30 ∧ 0 ≤ y ∧ y ≤ 10 ^ 30 ∧ ∀ H', Same H H' → Q (.bl true) H'
theorem origin_of {K : PySem.W.Frag} {H : Hp} {l : Addr} {as : List Addr} {sts : List StepD} {m : Int} {Q : VK} {E : XK} (hC : Chn K H l as sts) (hm : 0 ≤ m)
    (k : ∀ p f z H', Same H H' → SqT K H' p [.str "from", .int f, .int z] → From sts (endI sts m) f z → Q (.ref p) H') : sp_origin K [.ref l, .int (endI sts m)] H Q E := by
  refine ⟨l, as, sts, _, rfl, hC, fun p f la H' s t F => k p f la H' s t F, fun p m' bel H' s t L ne => ?_⟩
  exact absurd (L.hit hC.ok hm) ne
theorem body_law_in_order {X : Cx} (c : CxIs X ["_law_steps", "_law_one", "_law_other", "_law_low", "_law_high", "_law_first", "_law_second", "_law_here", "_law_there"] (defScope s_law_in_order)) (hr : Room 6 X.A) {E : XK}  (z_min : X.mg "min" = none) (z_max : X.mg "max" = none) (z_list : X.mg "list" = none) (C_end_of : Cal X.prog X.w X.K X.mg X.base "end_of" 6 ["chain", "price"] (sp_end_of X.K)) (C_origin : Cal X.prog X.w X.K X.mg X.base "origin" 6 ["chain", "end"] (sp_origin X.K)) (C_law_is : Cal X.prog X.w X.K X.mg X.base "_law_is" 2 ["_law_found", "_law_due"] (sp_law_is X.K)) (C_law_stretch : Cal X.prog X.w X.K X.mg X.base "_law_stretch" 4 ["_law_found", "_law_steps", "_law_price_here"] (sp_law_stretch X.K)) (C_law_end : Cal X.prog X.w X.K X.mg X.base "_law_end" 3 ["_law_steps", "_law_amount"] (sp_law_end X.K)) {vs : List V} {H : Hp} {Q : VK} (h : sp_law_in_order X.K vs H Q E) : ∃ t, WSs X (defBody s_law_in_order) t ∧ t { nx := fun _ H' => Q .non H', rt := Q } (L2.start ["_law_steps", "_law_one", "_law_other", "_law_low", "_law_high", "_law_first", "_law_second", "_law_here", "_law_there"] vs) H := by
  obtain ⟨f_end_of, d_end_of, G_end_of, b_end_of, k_end_of, m_end_of⟩ := C_end_of
  obtain ⟨f_origin, d_origin, G_origin, b_origin, k_origin, m_origin⟩ := C_origin
  obtain ⟨f_law_is, d_law_is, G_law_is, b_law_is, k_law_is, m_law_is⟩ := C_law_is
  obtain ⟨f_law_stretch, d_law_stretch, G_law_stretch, b_law_stretch, k_law_stretch, m_law_stretch⟩ := C_law_stretch
  obtain ⟨f_law_end, d_law_end, G_law_end, b_law_end, k_law_end, m_law_end⟩ := C_law_end
  · obtain ⟨l, as, sts, x, y, rfl, hC, h6, x0, x1, y0, y1, q⟩ := h
    refine ⟨_, (wss_cons (ss_law_in_order_3 c (we_callB (call_min2 c.calm) (gl_law_in_order_min c) z_min boot_min (wa_cons (pv_law_in_order_1 c) (wa_cons (pv_law_in_order_2 c) wa_nil star_Name) star_Name)))
      (wss_cons (ss_law_in_order_4 c (we_callB (call_max2 c.calm) (gl_law_in_order_max c) z_max boot_max (wa_cons (pv_law_in_order_1 c) (wa_cons (pv_law_in_order_2 c) wa_nil star_Name) star_Name)))
      (wss_cons (ss_law_in_order_5 c (we_call (G_end_of.mono (by decide)) hr (gl_law_in_order_end_of c) m_end_of k_end_of b_end_of .nil pass0 (wa_cons (we_callTy call_list_ofO (gl_law_in_order_list c) z_list boot_ty_list (wa_cons (pv_law_in_order_0 c) wa_nil star_Name)) (wa_cons (pv_law_in_order_3 c) wa_nil star_Name) star_Call)))
      (wss_cons (ss_law_in_order_6 c (we_call (G_end_of.mono (by decide)) hr (gl_law_in_order_end_of c) m_end_of k_end_of b_end_of .nil pass0 (wa_cons (we_callTy call_list_ofO (gl_law_in_order_list c) z_list boot_ty_list (wa_cons (pv_law_in_order_0 c) wa_nil star_Name)) (wa_cons (pv_law_in_order_4 c) wa_nil star_Name) star_Call)))
      (wss_cons (ws_if (WW.pt (ww_or (wt_not (wt_val (we_call (G_law_is.mono (by decide)) hr (gl_law_in_order_law_is c) m_law_is k_law_is b_law_is .nil pass0 (wa_cons (pv_law_in_order_5 c) (wa_cons (we_call (G_law_end.mono (by decide)) hr (gl_law_in_order_law_end c) m_law_end k_law_end b_law_end .nil pass0 (wa_cons (pv_law_in_order_0 c) (wa_cons (pv_law_in_order_3 c) wa_nil star_Name) star_Name)) wa_nil star_Call) star_Name)))) (ww_or1 (wt_not (wt_val (we_call (G_law_is.mono (by decide)) hr (gl_law_in_order_law_is c) m_law_is k_law_is b_law_is .nil pass0 (wa_cons (pv_law_in_order_6 c) (wa_cons (we_call (G_law_end.mono (by decide)) hr (gl_law_in_order_law_end c) m_law_end k_law_end b_law_end .nil pass0 (wa_cons (pv_law_in_order_0 c) (wa_cons (pv_law_in_order_4 c) wa_nil star_Name) star_Name)) wa_nil star_Call) star_Name)))))))
      (wss_one (ws_ret we_bl))
      wss_nil)
      (wss_cons (ss_law_in_order_7 c (we_call (G_origin.mono (by decide)) hr (gl_law_in_order_origin c) m_origin k_origin b_origin .nil pass0 (wa_cons (we_callTy call_list_ofO (gl_law_in_order_list c) z_list boot_ty_list (wa_cons (pv_law_in_order_0 c) wa_nil star_Name)) (wa_cons (pv_law_in_order_5 c) wa_nil star_Name) star_Call)))
      (wss_cons (ss_law_in_order_8 c (we_call (G_origin.mono (by decide)) hr (gl_law_in_order_origin c) m_origin k_origin b_origin .nil pass0 (wa_cons (we_callTy call_list_ofO (gl_law_in_order_list c) z_list boot_ty_list (wa_cons (pv_law_in_order_0 c) wa_nil star_Name)) (wa_cons (pv_law_in_order_6 c) wa_nil star_Name) star_Call)))
      (wss_cons (ws_if (WW.pt (ww_or (wt_cmpR op_gt (pv_law_in_order_5 c) (pv_law_in_order_6 c) (nomark _)) (ww_or (wt_not (wt_val (we_call (G_law_stretch.mono (by decide)) hr (gl_law_in_order_law_stretch c) m_law_stretch k_law_stretch b_law_stretch .nil pass0 (wa_cons (pv_law_in_order_7 c) (wa_cons (pv_law_in_order_0 c) (wa_cons (pv_law_in_order_3 c) wa_nil star_Name) star_Name) star_Name)))) (ww_or1 (wt_not (wt_val (we_call (G_law_stretch.mono (by decide)) hr (gl_law_in_order_law_stretch c) m_law_stretch k_law_stretch b_law_stretch .nil pass0 (wa_cons (pv_law_in_order_8 c) (wa_cons (pv_law_in_order_0 c) (wa_cons (pv_law_in_order_4 c) wa_nil star_Name) star_Name) star_Name))))))))
      (wss_one (ws_ret we_bl))
      wss_nil)
      (wss_cons (ws_if (wt_cmpR op_eq (pv_law_in_order_5 c) (pv_law_in_order_6 c) (nomark _))
      (wss_one (ws_ret (we_and (we_cmpR op_eq (we_ix ix_tup (pv_law_in_order_7 c) we_int plain_Constant) (we_ix ix_tup (pv_law_in_order_8 c) we_int plain_Constant) (nomark _)) (we_one (we_cmpR op_eq (we_ix ix_tup (pv_law_in_order_7 c) we_int plain_Constant) (we_ix ix_tup (pv_law_in_order_8 c) we_int plain_Constant) (nomark _))))))
      wss_nil)
      (wss_one (ws_ret (we_cmpR op_lt (we_ix ix_tup (pv_law_in_order_7 c) we_int plain_Constant) (we_ix ix_tup (pv_law_in_order_8 c) we_int plain_Constant) (nomark _))))))))))))), ?_⟩
    rw [st_law_in_order]
    refine ⟨_, rfl, _, rfl, _, _, rfl, fun σ e => ?_⟩
    dsimp only [List.set] at e
    obtain ⟨lo, hlo⟩ : ∃ lo, (if y < x then y else x) = lo := ⟨_, rfl⟩
    rw [hlo] at e
    subst e
    refine ⟨_, rfl, _, rfl, _, _, rfl, fun σ e => ?_⟩
    dsimp only [List.set] at e
    obtain ⟨hi, hhi⟩ : ∃ hi, (if y > x then y else x) = hi := ⟨_, rfl⟩
    rw [hhi] at e
    subst e
    have lo0 : 0 ≤ lo ∧ lo ≤ 10 ^ 30 := by rw [← hlo]; split <;> omega
    have hi0 : 0 ≤ hi ∧ hi ≤ 10 ^ 30 := by rw [← hhi]; split <;> omega
    have lh : lo ≤ hi := by rw [← hlo, ← hhi]; split <;> split <;> omega
    refine ⟨_, rfl, _, _, rfl, .inl hC.lst, fun c1 H1 n1 s1 f1 => ?_⟩
    refine ⟨_, rfl, c1, as, sts, _, rfl, hC.copy s1 f1, lo0.1, lo0.2, by omega, fun H2 s2 σ e => ?_⟩
    dsimp only [List.set] at e
    subst e
    have s02 := s1.trans s2
    have hC2 := hC.same s02
    refine ⟨_, rfl, _, _, rfl, .inl hC2.lst, fun c3 H3 n3 s3 f3 => ?_⟩
    refine ⟨_, rfl, c3, as, sts, _, rfl, hC2.copy s3 f3, hi0.1, hi0.2, by omega, fun H4 s4 σ e => ?_⟩
    dsimp only [List.set] at e
    subst e
    have s04 := s02.trans (s3.trans s4)
    have hC4 := hC.same s04
    refine ⟨_, rfl, _, rfl, _, rfl, l, as, sts, _, rfl, hC4, _, rfl, _, rfl, ?_⟩
    refine iteF ?_
    refine ⟨_, rfl, _, rfl, _, rfl, l, as, sts, _, rfl, hC4, _, rfl, _, rfl, ?_⟩
    refine iteF ?_
    refine ⟨_, rfl, _, _, rfl, .inl hC4.lst, fun c5 H5 n5 s5 f5 => ?_⟩
    refine ⟨_, rfl, ?_⟩
    dsimp only [tNil]
    refine origin_of (hC4.copy s5 f5) lo0.1 fun p6 f z H6 s6 t6 F6 σ e => ?_
    dsimp only [List.set] at e
    subst e
    have s46 := s5.trans s6
    have hC6 := hC4.same s46
    refine ⟨_, rfl, _, _, rfl, .inl hC6.lst, fun c7 H7 n7 s7 f7 => ?_⟩
    refine ⟨_, rfl, ?_⟩
    dsimp only [tNil]
    refine origin_of (hC6.copy s7 f7) hi0.1 fun p8 f' z' H8 s8 t8 F8 σ e => ?_
    dsimp only [List.set] at e
    subst e
    have s68 := s7.trans s8
    have hC8 := hC6.same s68
    have t6' := s68.seqT t6
    have mono := endI_mono sts hC.ok lo hi lh
    have a1 := F6.has hC.ok lo0.1 rfl
    have a2 := F8.has hC.ok hi0.1 rfl
    have b1 := F6.mid hC.ok F6.le (Int.le_refl _)
    have b2 := F8.mid hC.ok F8.le (Int.le_refl _)
    refine ⟨_, rfl, _, rfl, _, _, rfl, rfl, _, rfl, ?_⟩
    refine ifF (by omega) ?_
    refine ⟨_, rfl, _, rfl, _, rfl, p6, l, as, sts, f, z, lo, rfl, t6', hC8, F6.a.m0, a1.1, a1.2, F6.he, b1, _, rfl, ?_⟩
    refine iteF ?_
    refine ⟨_, rfl, _, rfl, _, rfl, p8, l, as, sts, f', z', hi, rfl, t8, hC8, F8.a.m0, a2.1, a2.2, F8.he, b2, _, rfl, ?_⟩
    refine iteF ?_
    have fin := q H8 (s04.trans (s46.trans s68))
    refine ⟨_, rfl, _, rfl, rfl, _, rfl, ?_⟩
    refine if2 (fun c => ?_) (fun c => ?_)
    · have ce := of_int c
      rw [← ce] at F8
      have e1 := F6.a.uniq F8.a
      have e2 := F6.b.uniq F8.b
      have e3 : z = z' := by omega
      refine ⟨_, rfl, p6, _, _, _, rfl, rfl, t6', rfl, _, rfl, p8, _, _, _, rfl, rfl, t8, rfl, rfl, _, rfl, ?_⟩
      refine ifT (inj_int e1) ?_
      refine ⟨_, rfl, p6, _, _, _, rfl, rfl, t6', rfl, _, rfl, p8, _, _, _, rfl, rfl, t8, rfl, rfl, ?_⟩
      rw [decide_eq_true (inj_int e3)]
      exact fin
    · have ce := of_not_int c
      have zf : z < f' := by
        have := F8.a.m0
        refine Int.not_le.mp fun h => ?_
        have := endI_mono sts hC.ok f' z h
        have := F8.he
        omega
      refine ⟨_, rfl, p6, _, _, _, rfl, rfl, t6', rfl, _, rfl, p8, _, _, _, rfl, rfl, t8, rfl, _, _, rfl, rfl, ?_⟩
      show Q (.bl (decide (z < f'))) H8
      rw [decide_eq_true zf]
      exact fin
theorem cal_law_in_order {P : Program} {w : World} {K : PySem.W.Frag} {mg : Str → Option Value} {base : Heap} {f : Addr} {fd : FuncData} (F : Fun K "_law_in_order" "_law_in_order" s_law_in_order f fd) (b : Binds K fd ["_law_steps", "_law_one", "_law_other"] []) (m : mg "_law_in_order" = some (.ref f)) (z_min : mg "min" = none) (z_max : mg "max" = none) (z_list : mg "list" = none) (C_end_of : Cal P w K mg base "end_of" 6 ["chain", "price"] (sp_end_of K)) (C_origin : Cal P w K mg base "origin" 6 ["chain", "end"] (sp_origin K)) (C_law_is : Cal P w K mg base "_law_is" 2 ["_law_found", "_law_due"] (sp_law_is K)) (C_law_stretch : Cal P w K mg base "_law_stretch" 4 ["_law_found", "_law_steps", "_law_price_here"] (sp_law_stretch K)) (C_law_end : Cal P w K mg base "_law_end" 3 ["_law_steps", "_law_amount"] (sp_law_end K)) : Cal P w K mg base "_law_in_order" 7 ["_law_steps", "_law_one", "_law_other"] (sp_law_in_order K) :=
  ⟨f, fd, F.ok sc_law_in_order (fun vs H Q E h => by first | (obtain ⟨_, rfl, _⟩ := h; rfl) | (obtain ⟨_, _, rfl, _⟩ := h; rfl) | (obtain ⟨_, _, _, rfl, _⟩ := h; rfl) | (obtain ⟨_, _, _, _, rfl, _⟩ := h; rfl) | (obtain ⟨_, _, _, _, _, rfl, _⟩ := h; rfl) | (obtain ⟨_, _, _, _, _, _, rfl, _⟩ := h; rfl) | (obtain ⟨_, _, _, _, _, _, _, rfl, _⟩ := h; rfl) | (obtain ⟨_, _, _, _, _, _, _, _, rfl, _⟩ := h; rfl) | (obtain ⟨_, _, _, _, _, _, _, _, _, rfl, _⟩ := h; rfl)) (fun cdv A outer s H vs Q E hr h => unW (body_law_in_order (X := (cxOf CX0 P w K mg base ["_law_steps", "_law_one", "_law_other", "_law_low", "_law_high", "_law_first", "_law_second", "_law_here", "_law_there"] "_law_in_order" (defScope s_law_in_order) f cdv A outer s H E).nox) ⟨rfl, rfl, rfl, PassesOwn.never⟩ hr z_min z_max z_list C_end_of C_origin C_law_is C_law_stretch C_law_end h)), b, F.kp, m⟩
theorem lk_law_0 : (defScope s_law).names.lookup ("_law_script" : Str) = some .local := by decide +kernel
theorem pv_law_0 {X : Cx} (c : CxIs X ["_law_script", "_law_steps", "_law_last_here", "_law_cell", "_law_base", "_law_ends", "_law_one", "_law_low", "_law_high", "_law_gone", "_law_wide", "_law_k", "_law_end_here", "_law_due", "_law_open_left"] (defScope s_law)) {pos : Pos} : WE X (.Name "_law_script" pos) (tVar 0) := wxv c rfl lk_law_0 (by decide) (by decide)
theorem lk_law_1 : (defScope s_law).names.lookup ("_law_steps" : Str) = some .local := by decide +kernel
theorem pv_law_1 {X : Cx} (c : CxIs X ["_law_script", "_law_steps", "_law_last_here", "_law_cell", "_law_base", "_law_ends", "_law_one", "_law_low", "_law_high", "_law_gone", "_law_wide", "_law_k", "_law_end_here", "_law_due", "_law_open_left"] (defScope s_law)) {pos : Pos} : WE X (.Name "_law_steps" pos) (tVar 1) := wxv c rfl lk_law_1 (by decide) (by decide)
theorem ss_law_1 {X : Cx} (c : CxIs X ["_law_script", "_law_steps", "_law_last_here", "_law_cell", "_law_base", "_law_ends", "_law_one", "_law_low", "_law_high", "_law_gone", "_law_wide", "_law_k", "_law_end_here", "_law_due", "_law_open_left"] (defScope s_law)) {pos pos' : Pos} {e : Expr} {te : TE} (he : WE X e te) (hs : swapsWith e (some (.Name "_law_steps" pos')) pos.line X.env = pure false := by rfl) : WS X (.Assign [.Name "_law_steps" pos'] e pos) (tAsg te (gN 1)) := wxs c sc_law.nd rfl lk_law_1 he hs
theorem lk_law_2 : (defScope s_law).names.lookup ("_law_last_here" : Str) = some .local := by decide +kernel
theorem pv_law_2 {X : Cx} (c : CxIs X ["_law_script", "_law_steps", "_law_last_here", "_law_cell", "_law_base", "_law_ends", "_law_one", "_law_low", "_law_high", "_law_gone", "_law_wide", "_law_k", "_law_end_here", "_law_due", "_law_open_left"] (defScope s_law)) {pos : Pos} : WE X (.Name "_law_last_here" pos) (tVar 2) := wxv c rfl lk_law_2 (by decide) (by decide)
theorem ss_law_2 {X : Cx} (c : CxIs X ["_law_script", "_law_steps", "_law_last_here", "_law_cell", "_law_base", "_law_ends", "_law_one", "_law_low", "_law_high", "_law_gone", "_law_wide", "_law_k", "_law_end_here", "_law_due", "_law_open_left"] (defScope s_law)) {pos pos' : Pos} {e : Expr} {te : TE} (he : WE X e te) (hs : swapsWith e (some (.Name "_law_last_here" pos')) pos.line X.env = pure false := by rfl) : WS X (.Assign [.Name "_law_last_here" pos'] e pos) (tAsg te (gN 2)) := wxs c sc_law.nd rfl lk_law_2 he hs
theorem lk_law_3 : (defScope s_law).names.lookup ("_law_cell" : Str) = some .local := by decide +kernel
theorem pv_law_3 {X : Cx} (c : CxIs X ["_law_script", "_law_steps", "_law_last_here", "_law_cell", "_law_base", "_law_ends", "_law_one", "_law_low", "_law_high", "_law_gone", "_law_wide", "_law_k", "_law_end_here", "_law_due", "_law_open_left"] (defScope s_law)) {pos : Pos} : WE X (.Name "_law_cell" pos) (tVar 3) := wxv c rfl lk_law_3 (by decide) (by decide)
theorem ss_law_3 {X : Cx} (c : CxIs X ["_law_script", "_law_steps", "_law_last_here", "_law_cell", "_law_base", "_law_ends", "_law_one", "_law_low", "_law_high", "_law_gone", "_law_wide", "_law_k", "_law_end_here", "_law_due", "_law_open_left"] (defScope s_law)) {pos pos' : Pos} {e : Expr} {te : TE} (he : WE X e te) (hs : swapsWith e (some (.Name "_law_cell" pos')) pos.line X.env = pure false := by rfl) : WS X (.Assign [.Name "_law_cell" pos'] e pos) (tAsg te (gN 3)) := wxs c sc_law.nd rfl lk_law_3 he hs
theorem lk_law_4 : (defScope s_law).names.lookup ("_law_base" : Str) = some .local := by decide +kernel
theorem pv_law_4 {X : Cx} (c : CxIs X ["_law_script", "_law_steps", "_law_last_here", "_law_cell", "_law_base", "_law_ends", "_law_one", "_law_low", "_law_high", "_law_gone", "_law_wide", "_law_k", "_law_end_here", "_law_due", "_law_open_left"] (defScope s_law)) {pos : Pos} : WE X (.Name "_law_base" pos) (tVar 4) := wxv c rfl lk_law_4 (by decide) (by decide)
theorem ss_law_4 {X : Cx} (c : CxIs X ["_law_script", "_law_steps", "_law_last_here", "_law_cell", "_law_base", "_law_ends", "_law_one", "_law_low", "_law_high", "_law_gone", "_law_wide", "_law_k", "_law_end_here", "_law_due", "_law_open_left"] (defScope s_law)) {pos pos' : Pos} {e : Expr} {te : TE} (he : WE X e te) (hs : swapsWith e (some (.Name "_law_base" pos')) pos.line X.env = pure false := by rfl) : WS X (.Assign [.Name "_law_base" pos'] e pos) (tAsg te (gN 4)) := wxs c sc_law.nd rfl lk_law_4 he hs
theorem lk_law_5 : (defScope s_law).names.lookup ("_law_ends" : Str) = some .cell := by decide +kernel
theorem pv_law_5 {X : Cx} (c : CxIs X ["_law_script", "_law_steps", "_law_last_here", "_law_cell", "_law_base", "_law_ends", "_law_one", "_law_low", "_law_high", "_law_gone", "_law_wide", "_law_k", "_law_end_here", "_law_due", "_law_open_left"] (defScope s_law)) {pos : Pos} : WE X (.Name "_law_ends" pos) (tVar 5) := wxvC c rfl lk_law_5 (by decide) (by decide)
theorem ss_law_5 {X : Cx} (c : CxIs X ["_law_script", "_law_steps", "_law_last_here", "_law_cell", "_law_base", "_law_ends", "_law_one", "_law_low", "_law_high", "_law_gone", "_law_wide", "_law_k", "_law_end_here", "_law_due", "_law_open_left"] (defScope s_law)) (hf : ∀ x, X.fn x = true) {pos pos' : Pos} {e : Expr} {te : TE} (he : WE X e te) (hs : swapsWith e (some (.Name "_law_ends" pos')) pos.line X.env = pure false := by rfl) : WS X (.Assign [.Name "_law_ends" pos'] e pos) (tAsg te (gN 5)) := wxsC c hf sc_law.nd rfl lk_law_5 he hs
theorem lk_law_6 : (defScope s_law).names.lookup ("_law_one" : Str) = some .local := by decide +kernel
theorem pv_law_6 {X : Cx} (c : CxIs X ["_law_script", "_law_steps", "_law_last_here", "_law_cell", "_law_base", "_law_ends", "_law_one", "_law_low", "_law_high", "_law_gone", "_law_wide", "_law_k", "_law_end_here", "_law_due", "_law_open_left"] (defScope s_law)) {pos : Pos} : WE X (.Name "_law_one" pos) (tVar 6) := wxv c rfl lk_law_6 (by decide) (by decide)
theorem ss_law_6 {X : Cx} (c : CxIs X ["_law_script", "_law_steps", "_law_last_here", "_law_cell", "_law_base", "_law_ends", "_law_one", "_law_low", "_law_high", "_law_gone", "_law_wide", "_law_k", "_law_end_here", "_law_due", "_law_open_left"] (defScope s_law)) {pos pos' : Pos} {e : Expr} {te : TE} (he : WE X e te) (hs : swapsWith e (some (.Name "_law_one" pos')) pos.line X.env = pure false := by rfl) : WS X (.Assign [.Name "_law_one" pos'] e pos) (tAsg te (gN 6)) := wxs c sc_law.nd rfl lk_law_6 he hs
theorem lk_law_7 : (defScope s_law).names.lookup ("_law_low" : Str) = some .local := by decide +kernel
theorem pv_law_7 {X : Cx} (c : CxIs X ["_law_script", "_law_steps", "_law_last_here", "_law_cell", "_law_base", "_law_ends", "_law_one", "_law_low", "_law_high", "_law_gone", "_law_wide", "_law_k", "_law_end_here", "_law_due", "_law_open_left"] (defScope s_law)) {pos : Pos} : WE X (.Name "_law_low" pos) (tVar 7) := wxv c rfl lk_law_7 (by decide) (by decide)
theorem ss_law_7 {X : Cx} (c : CxIs X ["_law_script", "_law_steps", "_law_last_here", "_law_cell", "_law_base", "_law_ends", "_law_one", "_law_low", "_law_high", "_law_gone", "_law_wide", "_law_k", "_law_end_here", "_law_due", "_law_open_left"] (defScope s_law)) {pos pos' : Pos} {e : Expr} {te : TE} (he : WE X e te) (hs : swapsWith e (some (.Name "_law_low" pos')) pos.line X.env = pure false := by rfl) : WS X (.Assign [.Name "_law_low" pos'] e pos) (tAsg te (gN 7)) := wxs c sc_law.nd rfl lk_law_7 he hs
theorem lk_law_8 : (defScope s_law).names.lookup ("_law_high" : Str) = some .local := by decide +kernel
theorem pv_law_8 {X : Cx} (c : CxIs X ["_law_script", "_law_steps", "_law_last_here", "_law_cell", "_law_base", "_law_ends", "_law_one", "_law_low", "_law_high", "_law_gone", "_law_wide", "_law_k", "_law_end_here", "_law_due", "_law_open_left"] (defScope s_law)) {pos : Pos} : WE X (.Name "_law_high" pos) (tVar 8) := wxv c rfl lk_law_8 (by decide) (by decide)
theorem ss_law_8 {X : Cx} (c : CxIs X ["_law_script", "_law_steps", "_law_last_here", "_law_cell", "_law_base", "_law_ends", "_law_one", "_law_low", "_law_high", "_law_gone", "_law_wide", "_law_k", "_law_end_here", "_law_due", "_law_open_left"] (defScope s_law)) {pos pos' : Pos} {e : Expr} {te : TE} (he : WE X e te) (hs : swapsWith e (some (.Name "_law_high" pos')) pos.line X.env = pure false := by rfl) : WS X (.Assign [.Name "_law_high" pos'] e pos) (tAsg te (gN 8)) := wxs c sc_law.nd rfl lk_law_8 he hs
theorem lk_law_9 : (defScope s_law).names.lookup ("_law_gone" : Str) = some .local := by decide +kernel
theorem pv_law_9 {X : Cx} (c : CxIs X ["_law_script", "_law_steps", "_law_last_here", "_law_cell", "_law_base", "_law_ends", "_law_one", "_law_low", "_law_high", "_law_gone", "_law_wide", "_law_k", "_law_end_here", "_law_due", "_law_open_left"] (defScope s_law)) {pos : Pos} : WE X (.Name "_law_gone" pos) (tVar 9) := wxv c rfl lk_law_9 (by decide) (by decide)
theorem lk_law_10 : (defScope s_law).names.lookup ("_law_wide" : Str) = some .local := by decide +kernel
theorem pv_law_10 {X : Cx} (c : CxIs X ["_law_script", "_law_steps", "_law_last_here", "_law_cell", "_law_base", "_law_ends", "_law_one", "_law_low", "_law_high", "_law_gone", "_law_wide", "_law_k", "_law_end_here", "_law_due", "_law_open_left"] (defScope s_law)) {pos : Pos} : WE X (.Name "_law_wide" pos) (tVar 10) := wxv c rfl lk_law_10 (by decide) (by decide)
theorem ss_law_10 {X : Cx} (c : CxIs X ["_law_script", "_law_steps", "_law_last_here", "_law_cell", "_law_base", "_law_ends", "_law_one", "_law_low", "_law_high", "_law_gone", "_law_wide", "_law_k", "_law_end_here", "_law_due", "_law_open_left"] (defScope s_law)) {pos pos' : Pos} {e : Expr} {te : TE} (he : WE X e te) (hs : swapsWith e (some (.Name "_law_wide" pos')) pos.line X.env = pure false := by rfl) : WS X (.Assign [.Name "_law_wide" pos'] e pos) (tAsg te (gN 10)) := wxs c sc_law.nd rfl lk_law_10 he hs
theorem lk_law_11 : (defScope s_law).names.lookup ("_law_k" : Str) = some .local := by decide +kernel
theorem pv_law_11 {X : Cx} (c : CxIs X ["_law_script", "_law_steps", "_law_last_here", "_law_cell", "_law_base", "_law_ends", "_law_one", "_law_low", "_law_high", "_law_gone", "_law_wide", "_law_k", "_law_end_here", "_law_due", "_law_open_left"] (defScope s_law)) {pos : Pos} : WE X (.Name "_law_k" pos) (tVar 11) := wxv c rfl lk_law_11 (by decide) (by decide)
theorem sg_law_11 {X : Cx} (c : CxIs X ["_law_script", "_law_steps", "_law_last_here", "_law_cell", "_law_base", "_law_ends", "_law_one", "_law_low", "_law_high", "_law_gone", "_law_wide", "_law_k", "_law_end_here", "_law_due", "_law_open_left"] (defScope s_law)) {pos : Pos} : WG X (.Name "_law_k" pos) (gN 11) := wxt c sc_law.nd rfl lk_law_11
theorem lk_law_12 : (defScope s_law).names.lookup ("_law_end_here" : Str) = some .local := by decide +kernel
theorem pv_law_12 {X : Cx} (c : CxIs X ["_law_script", "_law_steps", "_law_last_here", "_law_cell", "_law_base", "_law_ends", "_law_one", "_law_low", "_law_high", "_law_gone", "_law_wide", "_law_k", "_law_end_here", "_law_due", "_law_open_left"] (defScope s_law)) {pos : Pos} : WE X (.Name "_law_end_here" pos) (tVar 12) := wxv c rfl lk_law_12 (by decide) (by decide)
theorem ss_law_12 {X : Cx} (c : CxIs X ["_law_script", "_law_steps", "_law_last_here", "_law_cell", "_law_base", "_law_ends", "_law_one", "_law_low", "_law_high", "_law_gone", "_law_wide", "_law_k", "_law_end_here", "_law_due", "_law_open_left"] (defScope s_law)) {pos pos' : Pos} {e : Expr} {te : TE} (he : WE X e te) (hs : swapsWith e (some (.Name "_law_end_here" pos')) pos.line X.env = pure false := by rfl) : WS X (.Assign [.Name "_law_end_here" pos'] e pos) (tAsg te (gN 12)) := wxs c sc_law.nd rfl lk_law_12 he hs
theorem lk_law_13 : (defScope s_law).names.lookup ("_law_due" : Str) = some .local := by decide +kernel
theorem pv_law_13 {X : Cx} (c : CxIs X ["_law_script", "_law_steps", "_law_last_here", "_law_cell", "_law_base", "_law_ends", "_law_one", "_law_low", "_law_high", "_law_gone", "_law_wide", "_law_k", "_law_end_here", "_law_due", "_law_open_left"] (defScope s_law)) {pos : Pos} : WE X (.Name "_law_due" pos) (tVar 13) := wxv c rfl lk_law_13 (by decide) (by decide)
theorem ss_law_13 {X : Cx} (c : CxIs X ["_law_script", "_law_steps", "_law_last_here", "_law_cell", "_law_base", "_law_ends", "_law_one", "_law_low", "_law_high", "_law_gone", "_law_wide", "_law_k", "_law_end_here", "_law_due", "_law_open_left"] (defScope s_law)) {pos pos' : Pos} {e : Expr} {te : TE} (he : WE X e te) (hs : swapsWith e (some (.Name "_law_due" pos')) pos.line X.env = pure false := by rfl) : WS X (.Assign [.Name "_law_due" pos'] e pos) (tAsg te (gN 13)) := wxs c sc_law.nd rfl lk_law_13 he hs
theorem lk_law_14 : (defScope s_law).names.lookup ("_law_open_left" : Str) = some .local := by decide +kernel
theorem pv_law_14 {X : Cx} (c : CxIs X ["_law_script", "_law_steps", "_law_last_here", "_law_cell", "_law_base", "_law_ends", "_law_one", "_law_low", "_law_high", "_law_gone", "_law_wide", "_law_k", "_law_end_here", "_law_due", "_law_open_left"] (defScope s_law)) {pos : Pos} : WE X (.Name "_law_open_left" pos) (tVar 14) := wxv c rfl lk_law_14 (by decide) (by decide)
theorem ss_law_14 {X : Cx} (c : CxIs X ["_law_script", "_law_steps", "_law_last_here", "_law_cell", "_law_base", "_law_ends", "_law_one", "_law_low", "_law_high", "_law_gone", "_law_wide", "_law_k", "_law_end_here", "_law_due", "_law_open_left"] (defScope s_law)) {pos pos' : Pos} {e : Expr} {te : TE} (he : WE X e te) (hs : swapsWith e (some (.Name "_law_open_left" pos')) pos.line X.env = pure false := by rfl) : WS X (.Assign [.Name "_law_open_left" pos'] e pos) (tAsg te (gN 14)) := wxs c sc_law.nd rfl lk_law_14 he hs
theorem gl_law_law_chain {X : Cx} (c : CxIs X ["_law_script", "_law_steps", "_law_last_here", "_law_cell", "_law_base", "_law_ends", "_law_one", "_law_low", "_law_high", "_law_gone", "_law_wide", "_law_k", "_law_end_here", "_law_due", "_law_open_left"] (defScope s_law)) : Gl X "_law_chain" := xg c (by decide +kernel)
theorem gl_law_law_last {X : Cx} (c : CxIs X ["_law_script", "_law_steps", "_law_last_here", "_law_cell", "_law_base", "_law_ends", "_law_one", "_law_low", "_law_high", "_law_gone", "_law_wide", "_law_k", "_law_end_here", "_law_due", "_law_open_left"] (defScope s_law)) : Gl X "_law_last" := xg c (by decide +kernel)
theorem gl_law_law_draw {X : Cx} (c : CxIs X ["_law_script", "_law_steps", "_law_last_here", "_law_cell", "_law_base", "_law_ends", "_law_one", "_law_low", "_law_high", "_law_gone", "_law_wide", "_law_k", "_law_end_here", "_law_due", "_law_open_left"] (defScope s_law)) : Gl X "_law_draw" := xg c (by decide +kernel)
theorem gl_law_law_walked {X : Cx} (c : CxIs X ["_law_script", "_law_steps", "_law_last_here", "_law_cell", "_law_base", "_law_ends", "_law_one", "_law_low", "_law_high", "_law_gone", "_law_wide", "_law_k", "_law_end_here", "_law_due", "_law_open_left"] (defScope s_law)) : Gl X "_law_walked" := xg c (by decide +kernel)
theorem gl_law_law_price {X : Cx} (c : CxIs X ["_law_script", "_law_steps", "_law_last_here", "_law_cell", "_law_base", "_law_ends", "_law_one", "_law_low", "_law_high", "_law_gone", "_law_wide", "_law_k", "_law_end_here", "_law_due", "_law_open_left"] (defScope s_law)) : Gl X "_law_price" := xg c (by decide +kernel)
theorem gl_law_law_same_row {X : Cx} (c : CxIs X ["_law_script", "_law_steps", "_law_last_here", "_law_cell", "_law_base", "_law_ends", "_law_one", "_law_low", "_law_high", "_law_gone", "_law_wide", "_law_k", "_law_end_here", "_law_due", "_law_open_left"] (defScope s_law)) : Gl X "_law_same_row" := xg c (by decide +kernel)
theorem gl_law_law_shown {X : Cx} (c : CxIs X ["_law_script", "_law_steps", "_law_last_here", "_law_cell", "_law_base", "_law_ends", "_law_one", "_law_low", "_law_high", "_law_gone", "_law_wide", "_law_k", "_law_end_here", "_law_due", "_law_open_left"] (defScope s_law)) : Gl X "_law_shown" := xg c (by decide +kernel)
theorem gl_law_law_product {X : Cx} (c : CxIs X ["_law_script", "_law_steps", "_law_last_here", "_law_cell", "_law_base", "_law_ends", "_law_one", "_law_low", "_law_high", "_law_gone", "_law_wide", "_law_k", "_law_end_here", "_law_due", "_law_open_left"] (defScope s_law)) : Gl X "_law_product" := xg c (by decide +kernel)
theorem gl_law_law_in_order {X : Cx} (c : CxIs X ["_law_script", "_law_steps", "_law_last_here", "_law_cell", "_law_base", "_law_ends", "_law_one", "_law_low", "_law_high", "_law_gone", "_law_wide", "_law_k", "_law_end_here", "_law_due", "_law_open_left"] (defScope s_law)) : Gl X "_law_in_order" := xg c (by decide +kernel)
theorem gl_law_missing {X : Cx} (c : CxIs X ["_law_script", "_law_steps", "_law_last_here", "_law_cell", "_law_base", "_law_ends", "_law_one", "_law_low", "_law_high", "_law_gone", "_law_wide", "_law_k", "_law_end_here", "_law_due", "_law_open_left"] (defScope s_law)) : Gl X "missing" := xg c (by decide +kernel)
theorem gl_law_law_same_origin {X : Cx} (c : CxIs X ["_law_script", "_law_steps", "_law_last_here", "_law_cell", "_law_base", "_law_ends", "_law_one", "_law_low", "_law_high", "_law_gone", "_law_wide", "_law_k", "_law_end_here", "_law_due", "_law_open_left"] (defScope s_law)) : Gl X "_law_same_origin" := xg c (by decide +kernel)
theorem gl_law_origin {X : Cx} (c : CxIs X ["_law_script", "_law_steps", "_law_last_here", "_law_cell", "_law_base", "_law_ends", "_law_one", "_law_low", "_law_high", "_law_gone", "_law_wide", "_law_k", "_law_end_here", "_law_due", "_law_open_left"] (defScope s_law)) : Gl X "origin" := xg c (by decide +kernel)
theorem gl_law_range {X : Cx} (c : CxIs X ["_law_script", "_law_steps", "_law_last_here", "_law_cell", "_law_base", "_law_ends", "_law_one", "_law_low", "_law_high", "_law_gone", "_law_wide", "_law_k", "_law_end_here", "_law_due", "_law_open_left"] (defScope s_law)) : Gl X "range" := xg c (by decide +kernel)
theorem gl_law_min {X : Cx} (c : CxIs X ["_law_script", "_law_steps", "_law_last_here", "_law_cell", "_law_base", "_law_ends", "_law_one", "_law_low", "_law_high", "_law_gone", "_law_wide", "_law_k", "_law_end_here", "_law_due", "_law_open_left"] (defScope s_law)) : Gl X "min" := xg c (by decide +kernel)
theorem gl_law_int {X : Cx} (c : CxIs X ["_law_script", "_law_steps", "_law_last_here", "_law_cell", "_law_base", "_law_ends", "_law_one", "_law_low", "_law_high", "_law_gone", "_law_wide", "_law_k", "_law_end_here", "_law_due", "_law_open_left"] (defScope s_law)) : Gl X "int" := xg c (by decide +kernel)
theorem gl_law_list {X : Cx} (c : CxIs X ["_law_script", "_law_steps", "_law_last_here", "_law_cell", "_law_base", "_law_ends", "_law_one", "_law_low", "_law_high", "_law_gone", "_law_wide", "_law_k", "_law_end_here", "_law_due", "_law_open_left"] (defScope s_law)) : Gl X "list" := xg c (by decide +kernel)
theorem st_law (v0 : V) : L2.start ["_law_script", "_law_steps", "_law_last_here", "_law_cell", "_law_base", "_law_ends", "_law_one", "_law_low", "_law_high", "_law_gone", "_law_wide", "_law_k", "_law_end_here", "_law_due", "_law_open_left"] [v0] = [some v0, none, none, none, none, none, none, none, none, none, none, none, none, none, none] := rfl
noncomputable def sp_law (K : PySem.W.Frag) : Sp := fun vs H Q _ => ∃ (a : Addr) (ns : List Int), vs = [.ref a] ∧ SqL K H a (ns.map V.int) ∧ ns.length ≤ 63 ∧ BitsOk ns ∧ ∀ H', Q (.bl true) H'
theorem walk_hit {sts : List StepD} (ok : ∀ st ∈ sts, st.Ok) {b lo e : Int} (b0 : 0 ≤ b) (h0 : lo ≤ e) (h1 : e ≤ endI sts (b + 59)) (hl : ¬ b = 0 → lo = endI sts b) : e ∈ walkI sts b 60 ↔ Hit sts e := by
  have mk : ∀ i : Nat, i < 60 → endI sts (b + i) = e → e ∈ walkI sts b 60 := fun i hi h => by
    unfold walkI
    exact List.mem_map.mpr ⟨i, List.mem_range.mpr hi, h⟩
  constructor
  · intro h
    unfold walkI at h
    obtain ⟨i, hi, he⟩ := List.mem_map.mp h
    exact ⟨b + i, by omega, he⟩
  · rintro ⟨p, p0, hp⟩
    by_cases h2 : p < b
    · have := endI_mono sts ok p b (by omega)
      have := hl (by omega)
      exact mk 0 (by decide) (by show endI sts (b + 0) = e; rw [Int.add_zero]; omega)
    · by_cases h3 : b + 59 < p
      · have := endI_mono sts ok (b + 59) p (by omega)
        exact mk 59 (by decide) (by show endI sts (b + 59) = e; omega)
      · exact mk (p - b).toNat (by omega) (by rw [show b + ((p - b).toNat : Int) = p by omega]; exact hp)
theorem inV_int {e : Int} {l : List Int} : inV (.int e) (l.map V.int) = decide (e ∈ l) := by
  unfold inV
  rw [List.any_map]
  refine Bool.eq_iff_iff.mpr ?_
  rw [List.any_eq_true, decide_eq_true_iff]
  constructor
  · rintro ⟨x, hx, h⟩
    have : x = e := by simpa [eqV] using h
    exact this ▸ hx
  · intro h
    exact ⟨e, h, by simp [eqV]⟩
open Classical in
theorem gone_walk {sts : List StepD} (ok : ∀ st ∈ sts, st.Ok) {b lo tp : Int} (b0 : 0 ≤ b) (h1 : tp ≤ endI sts (b + 59)) (hl : ¬ b = 0 → lo = endI sts b) :
    ((List.range (tp + 1 - lo).toNat).filter fun i : Nat => !inV (V.int (lo + (i : Int))) ((walkI sts b 60).map V.int)).map (fun i : Nat => V.int (lo + (i : Int))) = (goneI sts lo (tp + 1)).map V.int := by
  unfold goneI L2.fromTo
  rw [List.filter_map, List.map_map]
  have : ∀ i ∈ List.range (tp + 1 - lo).toNat, (!inV (V.int (lo + (i : Int))) ((walkI sts b 60).map V.int)) = ((fun e => decide (¬ Hit sts e)) ∘ fun k : Nat => lo + (k : Int)) i := fun i hi => by
    have := List.mem_range.mp hi
    have w := walk_hit (e := lo + (i : Int)) ok b0 (by omega) (by omega) hl
    rw [inV_int]
    show _ = decide (¬ Hit sts (lo + (i : Int)))
    by_cases c : lo + (i : Int) ∈ walkI sts b 60
    · rw [decide_eq_true c]
      exact (decide_eq_false (fun z => z (w.mp c))).symm
    · rw [decide_eq_false c]
      have nh : ¬ Hit sts (lo + (i : Int)) := fun z => c (w.mpr z)
      rw [decide_eq_true nh]
      rfl
  rw [List.filter_congr this]
  rfl
theorem walk_lt {sts : List StepD} {b : Int} {i : Nat} {z : Int} (h : (walkI sts b 60)[i]? = some z) : i < 60 ∧ endI sts (b + i) = z := by
  have hi : i < 60 := by have := (List.getElem?_eq_some_iff.mp h).1; rw [walkI_len] at this; exact this
  rw [walkI_get sts b hi] at h
  exact ⟨hi, Option.some.inj h⟩
theorem walk_from {sts : List StepD} (ok : ∀ st ∈ sts, st.Ok) {b en : Int} {f la : Nat} (b0 : 0 ≤ b) (hn : ¬ (0 < b ∧ en = endI sts b)) (hh : en < endI sts (b + 59)) (e1 : (walkI sts b 60)[f]? = some en) (e2 : (walkI sts b 60)[la]? = some en)
    (e3 : ∀ i, i < f → (walkI sts b 60)[i]? ≠ some en) (e4 : ∀ i, la < i → (walkI sts b 60)[i]? ≠ some en) : From sts en (b + f) (b + la) := by
  obtain ⟨hf, ef⟩ := walk_lt e1
  obtain ⟨hl, el⟩ := walk_lt e2
  refine ⟨⟨by omega, by omega, fun p p0 p1 => ?_⟩, ef, ⟨by omega, ?_, fun p p0 p1 => ?_⟩⟩
  · have m1 := endI_mono sts ok p (b + f) (by omega)
    by_cases f0 : f = 0
    · subst f0
      have : b = 0 := by
        by_cases z : 0 < b
        · exact absurd ⟨z, by rw [← ef]; show endI sts (b + 0) = _; rw [Int.add_zero]⟩ hn
        · omega
      omega
    · have m2 := endI_mono sts ok p (b + (f - 1 : Nat)) (by omega)
      have m3 := endI_mono sts ok (b + (f - 1 : Nat)) (b + f) (by omega)
      have ne : ¬ endI sts (b + (f - 1 : Nat)) = en := fun z => e3 (f - 1) (by omega) (by rw [walkI_get sts b (by omega), z])
      omega
  · have hl59 : la ≠ 59 := fun z => by subst z; rw [show ((59 : Nat) : Int) = 59 from rfl] at el; omega
    have m3 := endI_mono sts ok (b + la) (b + (la + 1 : Nat)) (by omega)
    have ne : ¬ endI sts (b + (la + 1 : Nat)) = en := fun z => e4 (la + 1) (by omega) (by rw [walkI_get sts b (by omega), z])
    rw [show b + (la : Int) + 1 = b + ((la + 1 : Nat) : Int) by omega]
    omega
  · have := endI_mono sts ok p (b + la) (by omega)
    omega
theorem walk_parts {sts : List StepD} (ok : ∀ st ∈ sts, st.Ok) {b en : Int} {j : Nat} (b0 : 0 ≤ b) (L : Low sts en (b + j)) (ne : ¬ endI sts (b + j) = en) :
    (walkI sts b 60).filter (fun z => decide (z < en)) = (walkI sts b 60).take j ∧ (walkI sts b 60).filter (fun z => decide (en < z)) = (walkI sts b 60).drop j := by
  have hT : ∀ z ∈ (walkI sts b 60).take j, z < en := fun z hz => by
    obtain ⟨i, hi⟩ := List.mem_iff_getElem?.mp hz
    have lj : i < j := by have := (List.getElem?_eq_some_iff.mp hi).1; rw [List.length_take] at this; omega
    rw [List.getElem?_take_of_lt lj] at hi
    obtain ⟨h6, rfl⟩ := walk_lt hi
    exact L.lt _ (by omega) (by omega)
  have hD : ∀ z ∈ (walkI sts b 60).drop j, en < z := fun z hz => by
    obtain ⟨i, hi⟩ := List.mem_iff_getElem?.mp hz
    rw [List.getElem?_drop] at hi
    obtain ⟨h6, rfl⟩ := walk_lt hi
    have := endI_mono sts ok (b + j) (b + ((j + i : Nat) : Int)) (by omega)
    have := L.ge
    omega
  have sp := (List.take_append_drop j (walkI sts b 60)).symm
  constructor
  · calc (walkI sts b 60).filter (fun z => decide (z < en)) = ((walkI sts b 60).take j ++ (walkI sts b 60).drop j).filter (fun z => decide (z < en)) := by rw [← sp]
      _ = _ := by
        rw [List.filter_append, List.filter_eq_self.mpr (fun z hz => decide_eq_true (hT z hz)), List.filter_eq_nil_iff.mpr (fun z hz => by have := hD z hz; rw [decide_eq_false (by omega)]; exact Bool.false_ne_true), List.append_nil]
  · calc (walkI sts b 60).filter (fun z => decide (en < z)) = ((walkI sts b 60).take j ++ (walkI sts b 60).drop j).filter (fun z => decide (en < z)) := by rw [← sp]
      _ = _ := by
        rw [List.filter_append, List.filter_eq_self.mpr (fun z hz => decide_eq_true (hD z hz)), List.filter_eq_nil_iff.mpr (fun z hz => by have := hT z hz; rw [decide_eq_false (by omega)]; exact Bool.false_ne_true), List.nil_append]
theorem walk_none {sts : List StepD} (ok : ∀ st ∈ sts, st.Ok) {b lo en m ab : Int} {bel bel' : V} (b0 : 0 ≤ b) (h0 : lo ≤ en) (h1 : en ≤ endI sts (b + 59)) (hl : ¬ b = 0 → lo = endI sts b) (hno : en ∉ walkI sts b 60) (L : Low sts en m) (ne : ¬ endI sts m = en)
    (hb : m = 0 ∧ bel = .non ∨ 0 < m ∧ bel = .int (endI sts (m - 1)))
    (hb' : (((walkI sts b 60).filter fun z => decide (z < en)) = [] ∧ bel' = .non ∨ ∃ y, ((walkI sts b 60).filter fun z => decide (z < en)).getLast? = some y ∧ bel' = .int y)) (ha : ((walkI sts b 60).filter fun z => decide (en < z)).head? = some ab) : bel = bel' ∧ endI sts m = ab := by
  have mem : ∀ i : Nat, i < 60 → endI sts (b + i) ∈ walkI sts b 60 := fun i hi => List.mem_of_getElem? (walkI_get sts b hi)
  have m59 : m ≤ b + 59 := by
    by_cases z : m ≤ b + 59
    · exact z
    · have := L.lt (b + 59) (by omega) (by omega)
      omega
  have mb : b ≤ m := by
    by_cases z : b = 0
    · have := L.m0; omega
    · have e := hl z
      have n1 : ¬ endI sts b = en := fun w => hno (by rw [← w]; have := mem 0 (by decide); rw [show b + ((0 : Nat) : Int) = b by omega] at this; exact this)
      by_cases c : b ≤ m
      · exact c
      · have := endI_mono sts ok m b (by omega)
        have := L.ge
        omega
  obtain ⟨j, rfl⟩ : ∃ j : Nat, m = b + j := ⟨(m - b).toNat, by omega⟩
  obtain ⟨p1, p2⟩ := walk_parts ok b0 L ne
  rw [p1] at hb'
  rw [p2, List.head?_drop, walkI_get sts b (by omega)] at ha
  refine ⟨?_, Option.some.inj ha⟩
  cases j with
  | zero =>
    rcases hb' with ⟨_, rfl⟩ | ⟨y, hy, _⟩
    · rcases hb with ⟨_, rfl⟩ | ⟨hm, _⟩
      · rfl
      · exfalso
        have hb0 : 0 < b := by omega
        have e := hl (by omega)
        have := L.ge
        have n1 : ¬ endI sts b = en := by rw [show b = b + ((0 : Nat) : Int) by omega]; exact ne
        have := L.lt 0 (by omega) (by omega)
        rw [show b + ((0 : Nat) : Int) = b by omega] at *
        omega
    · rw [List.take_zero] at hy; cases hy
  | succ i =>
    rcases hb with ⟨hm, _⟩ | ⟨_, rfl⟩
    · exfalso; omega
    · have hlast : ((walkI sts b 60).take (i + 1)).getLast? = some (endI sts (b + i)) := by
        rw [take_snoc (walkI_get sts b (show i < 60 by omega)), List.getLast?_append]
        rfl
      rw [hlast] at hb'
      have ei : b + ((i + 1 : Nat) : Int) - 1 = b + (i : Int) := by omega
      rw [ei]
      rcases hb' with ⟨z, _⟩ | ⟨y, hy, rfl⟩
      · rw [z] at hlast; cases hlast
      · cases hy; rfl
theorem from_uniq {sts : List StepD} {e f l f' l' : Int} (h : From sts e f l) (h' : From sts e f' l') : f = f' ∧ l = l' := ⟨h.a.uniq h'.a, by have := h.b.uniq h'.b; omega⟩
theorem body_law {X : Cx} (c : CxIs X ["_law_script", "_law_steps", "_law_last_here", "_law_cell", "_law_base", "_law_ends", "_law_one", "_law_low", "_law_high", "_law_gone", "_law_wide", "_law_k", "_law_end_here", "_law_due", "_law_open_left"] (defScope s_law)) (hr : Room 7 X.A) {E : XK}  (hf : ∀ x, X.fn x = true) (z_range : X.mg "range" = none) (z_min : X.mg "min" = none) (z_int : X.mg "int" = none) (z_list : X.mg "list" = none) (C_law_chain : Cal X.prog X.w X.K X.mg X.base "_law_chain" 4 ["_law_script", "_law_base", "_law_many", "_law_limit"] (sp_law_chain X.K)) (C_law_last : Cal X.prog X.w X.K X.mg X.base "_law_last" 1 ["_law_cell"] (sp_law_last X.K)) (C_law_draw : Cal X.prog X.w X.K X.mg X.base "_law_draw" 2 ["_law_script", "_law_k"] (sp_law_draw X.K)) (C_law_walked : Cal X.prog X.w X.K X.mg X.base "_law_walked" 7 ["_law_steps", "_law_base"] (sp_law_walked X.K)) (C_law_price : Cal X.prog X.w X.K X.mg X.base "_law_price" 1 ["_law_cell"] (sp_law_price X.K)) (C_law_same_row : Cal X.prog X.w X.K X.mg X.base "_law_same_row" 2 ["_law_found", "_law_due"] (sp_law_same_row X.K)) (C_law_shown : Cal X.prog X.w X.K X.mg X.base "_law_shown" 1 ["_law_ends", "_law_base", "_law_end_here"] (sp_law_shown X.K)) (C_law_product : Cal X.prog X.w X.K X.mg X.base "_law_product" 3 ["_law_steps"] (sp_law_product X.K)) (C_law_in_order : Cal X.prog X.w X.K X.mg X.base "_law_in_order" 7 ["_law_steps", "_law_one", "_law_other"] (sp_law_in_order X.K)) (C_missing : Cal X.prog X.w X.K X.mg X.base "missing" 6 ["chain", "low", "high"] (sp_missing X.K)) (C_law_same_origin : Cal X.prog X.w X.K X.mg X.base "_law_same_origin" 2 ["_law_found", "_law_due"] (sp_law_same_origin X.K)) (C_origin : Cal X.prog X.w X.K X.mg X.base "origin" 6 ["chain", "end"] (sp_origin X.K)) {vs : List V} {H : Hp} {Q : VK} (h : sp_law X.K vs H Q E) : ∃ t, WSs X (defBody s_law) t ∧ t { nx := fun _ H' => Q .non H', rt := Q } (L2.start ["_law_script", "_law_steps", "_law_last_here", "_law_cell", "_law_base", "_law_ends", "_law_one", "_law_low", "_law_high", "_law_gone", "_law_wide", "_law_k", "_law_end_here", "_law_due", "_law_open_left"] vs) H := by
  obtain ⟨f_law_chain, d_law_chain, G_law_chain, b_law_chain, k_law_chain, m_law_chain⟩ := C_law_chain
  obtain ⟨f_law_last, d_law_last, G_law_last, b_law_last, k_law_last, m_law_last⟩ := C_law_last
  obtain ⟨f_law_draw, d_law_draw, G_law_draw, b_law_draw, k_law_draw, m_law_draw⟩ := C_law_draw
  obtain ⟨f_law_walked, d_law_walked, G_law_walked, b_law_walked, k_law_walked, m_law_walked⟩ := C_law_walked
  obtain ⟨f_law_price, d_law_price, G_law_price, b_law_price, k_law_price, m_law_price⟩ := C_law_price
  obtain ⟨f_law_same_row, d_law_same_row, G_law_same_row, b_law_same_row, k_law_same_row, m_law_same_row⟩ := C_law_same_row
  obtain ⟨f_law_shown, d_law_shown, G_law_shown, b_law_shown, k_law_shown, m_law_shown⟩ := C_law_shown
  obtain ⟨f_law_product, d_law_product, G_law_product, b_law_product, k_law_product, m_law_product⟩ := C_law_product
  obtain ⟨f_law_in_order, d_law_in_order, G_law_in_order, b_law_in_order, k_law_in_order, m_law_in_order⟩ := C_law_in_order
  obtain ⟨f_missing, d_missing, G_missing, b_missing, k_missing, m_missing⟩ := C_missing
  obtain ⟨f_law_same_origin, d_law_same_origin, G_law_same_origin, b_law_same_origin, k_law_same_origin, m_law_same_origin⟩ := C_law_same_origin
  obtain ⟨f_origin, d_origin, G_origin, b_origin, k_origin, m_origin⟩ := C_origin
  · obtain ⟨a, ns, rfl, hS, hl, hb, q⟩ := h
    refine ⟨_, (wss_cons (ss_law_1 c (we_call (G_law_chain.mono (by decide)) hr (gl_law_law_chain c) m_law_chain k_law_chain b_law_chain .nil pass0 (wa_cons (pv_law_0 c) (wa_cons we_int (wa_cons (we_op op_mod (we_call (G_law_draw.mono (by decide)) hr (gl_law_law_draw c) m_law_draw k_law_draw b_law_draw .nil pass0 (wa_cons (pv_law_0 c) (wa_cons we_int wa_nil star_Constant) star_Name)) we_int) (wa_cons we_int wa_nil star_Constant) star_BinOp) star_Constant) star_Name)))
      (wss_cons (ss_law_2 c (we_call (G_law_last.mono (by decide)) hr (gl_law_law_last c) m_law_last k_law_last b_law_last .nil pass0 (wa_cons (we_op op_fdivB (we_call (G_law_draw.mono (by decide)) hr (gl_law_law_draw c) m_law_draw k_law_draw b_law_draw .nil pass0 (wa_cons (pv_law_0 c) (wa_cons we_int wa_nil star_Constant) star_Name)) we_int) wa_nil star_BinOp)))
      (wss_cons (ws_if (WW.pt (ww_and (wt_cmpR op_gt (we_op op_mod (we_call (G_law_draw.mono (by decide)) hr (gl_law_law_draw c) m_law_draw k_law_draw b_law_draw .nil pass0 (wa_cons (pv_law_0 c) (wa_cons we_int wa_nil star_Constant) star_Name)) we_int) we_int (nomark _)) (ww_and1 (wt_cmpR op_le (we_call (G_law_product.mono (by decide)) hr (gl_law_law_product c) m_law_product k_law_product b_law_product .nil pass0 (wa_cons (we_op op_catO (pv_law_1 c) (we_lstO (wa_cons (pv_law_2 c) wa_nil star_Name))) wa_nil star_BinOp)) we_int (nomark _)))))
      (wss_one (ws_expr (we_bm PySem.F.plainAttrs_list PySem.F.slot_list_append PySem.F.type_list_append mt_append (pv_law_1 c) (wa_cons (pv_law_2 c) wa_nil star_Name))))
      wss_nil)
      (wss_cons (ss_law_3 c (we_call (G_law_draw.mono (by decide)) hr (gl_law_law_draw c) m_law_draw k_law_draw b_law_draw .nil pass0 (wa_cons (pv_law_0 c) (wa_cons we_int wa_nil star_Constant) star_Name)))
      (wss_cons (ss_law_4 c (we_ix ix_list (we_lstO (wa_cons we_int (wa_cons (we_op op_mod (we_op op_fdivB (pv_law_3 c) we_int) we_int) (wa_cons (we_callB (call_min2 c.calm) (gl_law_min c) z_min boot_min (wa_cons (we_call (G_law_price.mono (by decide)) hr (gl_law_law_price c) m_law_price k_law_price b_law_price .nil pass0 (wa_cons (we_op op_fdivB (pv_law_3 c) we_int) wa_nil star_BinOp)) (wa_cons (we_op op_sub (we_op op_pow we_int we_int) we_int) wa_nil star_BinOp) star_Call)) wa_nil star_Call) star_BinOp) star_Constant)) (we_op op_mod (pv_law_3 c) we_int) plain_BinOp))
      (wss_cons (ss_law_5 c hf (we_call (G_law_walked.mono (by decide)) hr (gl_law_law_walked c) m_law_walked k_law_walked b_law_walked .nil pass0 (wa_cons (pv_law_1 c) (wa_cons (pv_law_4 c) wa_nil star_Name) star_Name)))
      (wss_cons (ss_law_6 c (we_call (G_law_price.mono (by decide)) hr (gl_law_law_price c) m_law_price k_law_price b_law_price .nil pass0 (wa_cons (we_call (G_law_draw.mono (by decide)) hr (gl_law_law_draw c) m_law_draw k_law_draw b_law_draw .nil pass0 (wa_cons (pv_law_0 c) (wa_cons we_int wa_nil star_Constant) star_Name)) wa_nil star_Call)))
      (wss_cons (ws_if (WW.pt (ww_or (wt_cmpR (op_eqE hr.units0) (pv_law_5 c) (we_lstO wa_nil) (nomark _)) (ww_or1 (wt_not (wt_val (we_call (G_law_in_order.mono (by decide)) hr (gl_law_law_in_order c) m_law_in_order k_law_in_order b_law_in_order .nil pass0 (wa_cons (pv_law_1 c) (wa_cons (pv_law_6 c) (wa_cons (we_call (G_law_price.mono (by decide)) hr (gl_law_law_price c) m_law_price k_law_price b_law_price .nil pass0 (wa_cons (we_call (G_law_draw.mono (by decide)) hr (gl_law_law_draw c) m_law_draw k_law_draw b_law_draw .nil pass0 (wa_cons (pv_law_0 c) (wa_cons we_int wa_nil star_Constant) star_Name)) wa_nil star_Call)) wa_nil star_Call) star_Name) star_Name)))))))
      (wss_one (ws_ret we_bl))
      wss_nil)
      (wss_cons (ss_law_7 c (we_op op_sub (we_ix ix_list (pv_law_5 c) we_int plain_Constant) (we_op op_mulB (we_callB (call_min2 c.calm) (gl_law_min c) z_min boot_min (wa_cons (we_ix ix_list (pv_law_5 c) we_int plain_Constant) (wa_cons we_int wa_nil star_Constant) star_Subscript)) (we_callTy call_int1 (gl_law_int c) z_int boot_ty_int (wa_cons (we_cmpR op_eq (pv_law_4 c) we_int (nomark _)) wa_nil star_Compare)))))
      (wss_cons (ss_law_8 c (we_ix ix_list (pv_law_5 c) (we_un un_neg we_int) plain_UnaryOp))
      (wss_cons (ws_compT (fs := ["_law_ends"]) (fr := [5]) (i := 9) c sc_law.nd (by decide +kernel) rfl lk_law_9 (wi_rangeL (gl_law_range c) z_range (wa_cons (pv_law_7 c) (wa_cons (we_op op_add (we_callB (call_min2 c.calm) (gl_law_min c) z_min boot_min (wa_cons (pv_law_8 c) (wa_cons (we_op op_add (pv_law_7 c) we_int) wa_nil star_BinOp) star_Name)) we_int) wa_nil star_BinOp) star_Name)) (fun _ _ _ _ _ cc => (wxv cc (i := 0) rfl (by decide +kernel) (by decide) (by decide))) (fun _ _ _ _ _ cc => (wt_cmpR (op_notIn_seqK (K := X.K) rfl) (wxv cc (i := 0) rfl (by decide +kernel) (by decide) (by decide)) (wxvC cc (i := 1) rfl (by decide +kernel) (by decide) (by decide)) rfl)) rfl rfl (by decide +kernel))
      (wss_cons (ws_if (wt_not (wt_val (we_call (G_law_same_row.mono (by decide)) hr (gl_law_law_same_row c) m_law_same_row k_law_same_row b_law_same_row .nil pass0 (wa_cons (we_call (G_missing.mono (by decide)) hr (gl_law_missing c) m_missing k_missing b_missing .nil pass0 (wa_cons (we_callTy call_list_ofO (gl_law_list c) z_list boot_ty_list (wa_cons (pv_law_1 c) wa_nil star_Name)) (wa_cons (pv_law_7 c) (wa_cons (we_callB (call_min2 c.calm) (gl_law_min c) z_min boot_min (wa_cons (pv_law_8 c) (wa_cons (we_op op_add (pv_law_7 c) we_int) wa_nil star_BinOp) star_Name)) wa_nil star_Call) star_Name) star_Call)) (wa_cons (pv_law_9 c) wa_nil star_Name) star_Call))))
      (wss_one (ws_ret we_bl))
      wss_nil)
      (wss_cons (ss_law_10 c (we_op op_add (we_op op_sub (pv_law_8 c) (pv_law_7 c)) we_int))
      (wss_cons (ws_for c.own c.calm (wi_range1 (gl_law_range c) z_range (wa_cons (we_callB (call_min2 c.calm) (gl_law_min c) z_min boot_min (wa_cons (pv_law_10 c) (wa_cons we_int wa_nil star_Constant) star_Name)) wa_nil star_Call)) (sg_law_11 c)
      (wss_cons (ss_law_12 c (we_op op_add (pv_law_7 c) (we_op op_mod (we_op op_add (pv_law_11 c) (we_op op_mulB (we_call (G_law_draw.mono (by decide)) hr (gl_law_law_draw c) m_law_draw k_law_draw b_law_draw .nil pass0 (wa_cons (pv_law_0 c) (wa_cons we_int wa_nil star_Constant) star_Name)) (we_callTy call_int1 (gl_law_int c) z_int boot_ty_int (wa_cons (we_cmpR op_gt (pv_law_10 c) we_int (nomark _)) wa_nil star_Compare)))) (pv_law_10 c))))
      (wss_cons (ss_law_13 c (we_call (G_law_shown.mono (by decide)) hr (gl_law_law_shown c) m_law_shown k_law_shown b_law_shown .nil pass0 (wa_cons (pv_law_5 c) (wa_cons (pv_law_4 c) (wa_cons (pv_law_12 c) wa_nil star_Name) star_Name) star_Name)))
      (wss_cons (ss_law_14 c (we_and (we_cmpR op_gt (pv_law_4 c) we_int (nomark _)) (we_one (we_cmpR op_eq (pv_law_12 c) (we_ix ix_list (pv_law_5 c) we_int plain_Constant) (nomark _)))))
      (wss_one (ws_if (WW.pt (ww_or (wt_cmpR op_eq (we_ix ix_tup (pv_law_13 c) we_int plain_Constant) we_str (nomark _)) (ww_or1 (WW.pt (ww_and (wt_not (wt_val (pv_law_14 c))) (ww_and1 (wt_cmpR op_lt (pv_law_12 c) (we_ix ix_list (pv_law_5 c) (we_un un_neg we_int) plain_UnaryOp) (nomark _))))))))
      (wss_one (ws_if (wt_not (wt_val (we_call (G_law_same_origin.mono (by decide)) hr (gl_law_law_same_origin c) m_law_same_origin k_law_same_origin b_law_same_origin .nil pass0 (wa_cons (we_call (G_origin.mono (by decide)) hr (gl_law_origin c) m_origin k_origin b_origin .nil pass0 (wa_cons (we_callTy call_list_ofO (gl_law_list c) z_list boot_ty_list (wa_cons (pv_law_1 c) wa_nil star_Name)) (wa_cons (pv_law_12 c) wa_nil star_Name) star_Call)) (wa_cons (pv_law_13 c) wa_nil star_Name) star_Call))))
      (wss_one (ws_ret we_bl))
      wss_nil))
      wss_nil))))))
      (wss_one (ws_ret we_bl)))))))))))))))), ?_⟩
    rw [st_law]
    have y0 := md0 (x := drawAt ns 1) (n := 6) (by decide)
    have y1 := md1 (x := drawAt ns 1) (n := 6) (by decide)
    refine ⟨_, rfl, _, rfl, a, ns, _, rfl, hS, by decide, by decide, _, _, rfl, rfl, (by decide : (0 : Int) < 6), a, ns, _, _, _, rfl, hS, by decide, by decide, y0, by omega, by decide, fun l as sts H1 s1 n1 f1 hC hn hp' σ e => ?_⟩
    dsimp only [List.set] at e
    subst e
    refine ⟨_, rfl, a, ns, _, rfl, s1.seq hS, by decide, by decide, _, _, rfl, rfl, ⟨by decide, by decide⟩, _, rfl, fun p2 st2 H2 s2 hT2 hO2 σ e => ?_⟩
    dsimp only [List.set] at e
    subst e
    have hC2 := hC.same s2
    have s02 := s1.trans s2
    have f2 := s2 _ _ f1
    try dsimp only
    refine seq_gen (fun σ H' => ∃ as sts, Same H H' ∧ Chn X.K H' l as sts ∧ sts.length ≤ 6 ∧ prodI sts ≤ 1000 ∧ σ = [some (.ref a), some (.ref l), some (.ref p2), none, none, none, none, none, none, none, none, none, none, none, none]) ?rest ?st
    case st =>
      intro R hR
      refine ⟨_, rfl, a, ns, _, rfl, s02.seq hS, by decide, by decide, _, _, rfl, rfl, (by decide : (0 : Int) < 3), _, _, rfl, rfl, _, rfl, ?_⟩
      refine if2 (fun d => ?_) (fun d => ?_)
      · refine ⟨_, rfl, _, rfl, (small' (by show 1 ≤ 1000; decide)), fun p3 H3 n3 s3 f3 => ?_⟩
        refine ⟨l, p3, _, _, rfl, rfl, s3 _ _ f2, f3, Nat.le_trans (show _ ≤ 1000 by rw [List.length_map, hC.len]; show sts.length + 1 ≤ 1000; omega) (by decide), fun p4 H4 n4 s4 f4 => ?_⟩
        have c4 : Chn X.K H4 p4 (as ++ [p2]) (sts ++ [st2]) := (hC2.same s3).cat (Chn.one f3 (s3.seqT hT2) hO2) s4 (by rw [f4, List.map_append]; rfl)
        refine ⟨p4, _, _, rfl, c4, _, _, rfl, rfl, _, rfl, ?_⟩
        have f34 := s4 _ _ (s3 _ _ f2)
        have s34 := s3.trans s4
        refine if2 (fun d2 => ?_) (fun d2 => ?_)
        · refine ⟨_, rfl, .inl ⟨rfl, _, SqL.of f34⟩, _, rfl, l, _, _, rfl, rfl, f34, small1000 (by rw [List.length_map, hC.len]; omega), ?_⟩
          refine hR _ _ ⟨as ++ [p2], sts ++ [st2], (s02.trans s34).drop n1 rfl, ?_, by rw [List.length_append, List.length_singleton]; omega, by omega, rfl⟩
          have := chn_push ((hC2.same s34)) f34 (s34.seqT hT2) hO2
          rw [List.map_append] at this
          exact this
        · exact hR _ _ ⟨as, sts, s02.trans s34, hC2.same s34, by omega, by omega, rfl⟩
      · refine iteF ?_
        exact hR _ _ ⟨as, sts, s02, hC2, by omega, by omega, rfl⟩
    rintro σ H3 ⟨as, sts, s3, hC, hlen, hp, rfl⟩
    refine ⟨_, rfl, a, ns, _, rfl, s3.seq hS, by decide, by decide, fun σ e => ?_⟩
    dsimp only [List.set] at e
    subst e
    have k0 := md0 (x := drawAt ns 8) (n := 3) (by decide)
    have k1 := md1 (x := drawAt ns 8) (n := 3) (by decide)
    have b0 := md0 (x := drawAt ns 8 / 3) (n := 100) (by decide)
    have b1 := md1 (x := drawAt ns 8 / 3) (n := 100) (by decide)
    have e30 : (10 : Int) ^ Int.toNat 30 = 10 ^ 30 := by decide
    refine ⟨_, rfl, _, _, rfl, rfl, ⟨by decide, by decide⟩, _, _, rfl, rfl, (by decide : (0 : Int) < 100), _, rfl, _, _, rfl, rfl, ⟨by decide, by decide⟩, _, rfl, bits_div (by decide) (bits_drawAt hb 8), fun pz z0 z1 => ?_⟩
    refine ⟨_, _, rfl, rfl, ⟨by decide, by decide, by decide⟩, _, _, rfl, rfl, _, _, rfl, small' (by show 3 ≤ 1000; decide), fun p4 H4 n4 s4 f4 => ?_⟩
    refine ⟨_, rfl, _, _, rfl, rfl, (by decide : (0 : Int) < 3), p4, _, _, _, rfl, rfl, SqL.of f4, at3 k0 k1, fun σ e => ?_⟩
    dsimp only [List.set] at e
    rw [e30] at e
    obtain ⟨b, hb0, hb60, eb⟩ : ∃ b : Int, 0 ≤ b ∧ b + 60 ≤ 10 ^ 30 ∧ pick3 (drawAt ns 8 % 3) (V.int 0) (V.int (drawAt ns 8 / 3 % 100)) (V.int (if 10 ^ 30 - 60 < pz then 10 ^ 30 - 60 else pz)) = V.int b := by
      rcases (show drawAt ns 8 % 3 = 0 ∨ drawAt ns 8 % 3 = 1 ∨ drawAt ns 8 % 3 = 2 by omega) with z | z | z <;> rw [z]
      · exact ⟨0, by decide, by decide, rfl⟩
      · exact ⟨_, b0, by omega, rfl⟩
      · exact ⟨_, by split <;> omega, by split <;> omega, rfl⟩
    rw [eb] at e
    subst e
    have s04 := s3.trans s4
    have hC4 := hC.same s4
    refine ⟨_, rfl, _, rfl, l, as, sts, b, rfl, hC4, hlen, hb0, hb60, fun pe H5 s5 n5 f5 σ e => ?_⟩
    dsimp only [List.set] at e
    subst e
    have s05 := s04.trans s5
    have hC5 := hC4.same s5
    refine ⟨_, rfl, a, ns, _, rfl, s05.seq hS, by decide, by decide, _, rfl, bits_drawAt hb 10, fun one o0 o1 σ e => ?_⟩
    dsimp only [List.set] at e
    subst e
    refine ⟨_, rfl, small' (by show 0 ≤ 1000; decide), fun p6 H6 n6 s6 f6 => ?_⟩
    refine ⟨pe, p6, _, rfl, rfl, SqL.of (s6 _ _ f5), SqL.of f6, _, rfl, ?_⟩
    have wne : ((walkI sts b 60).map V.int).isEmpty = false := by
      rw [walkI_snoc sts b 59]
      simp
    rw [wne]
    refine iteF ?_
    have s06 := s05.trans s6
    have hC6 := hC5.same s6
    refine ⟨_, rfl, _, rfl, _, rfl, a, ns, _, rfl, s06.seq hS, by decide, by decide, _, rfl, bits_drawAt hb 11, fun two t0 t1 => ?_⟩
    refine ⟨l, as, sts, one, two, rfl, hC6, hlen, o0, o1, t0, t1, fun H7 s7 => ?_⟩
    refine ⟨_, rfl, ?_⟩
    refine iteF ?_
    have s57 := s6.trans s7
    have s07 := s05.trans s57
    have hE : SqL X.K H7 pe ((walkI sts b 60).map V.int) := SqL.of (s57 _ _ f5)
    have at0 : atI ((walkI sts b 60).map V.int) 0 = some (.int (endI sts b)) := atI_nat (j := 0) (by rw [List.getElem?_map, walkI_get sts b (by decide)]; show some (V.int (endI sts (b + 0))) = _; rw [Int.add_zero])
    have atL : atI ((walkI sts b 60).map V.int) (-1) = some (.int (endI sts (b + 59))) := by
      rw [walkI_snoc sts b 59, List.map_append]
      exact atI_last _ _
    have w0 := endI_nn sts hC.ok b hb0
    refine ⟨_, rfl, pe, _, _, _, rfl, rfl, hE, at0, _, rfl, pe, _, _, _, rfl, rfl, hE, at0, _, _, rfl, _, rfl, rfl, .inr ⟨_, rfl, _, _, rfl, rfl, mul_l (by split <;> omega) (by split <;> omega), _, _, rfl, rfl, fun σ e => ?_⟩⟩
    dsimp only [List.set] at e
    obtain ⟨lo, hlo, lo1, lo2, lo3⟩ : ∃ lo : Int, endI sts b - (if 9 < endI sts b then 9 else endI sts b) * (if decide (V.int b = V.int 0) = true then 1 else 0) = lo ∧ 0 ≤ lo ∧ lo ≤ endI sts b ∧ (¬ b = 0 → lo = endI sts b) := by
      by_cases hz : b = 0
      · refine ⟨_, rfl, ?_, ?_, fun h => absurd hz h⟩ <;> rw [decide_eq_true (inj_int hz), if_pos rfl] <;> split <;> omega
      · refine ⟨_, rfl, ?_, ?_, fun _ => ?_⟩ <;> rw [decide_eq_false (fun z => hz (V.int.inj z)), if_neg Bool.false_ne_true] <;> omega
    rw [hlo] at e
    subst e
    refine ⟨_, rfl, _, rfl, pe, _, _, _, rfl, rfl, hE, atL, fun σ e => ?_⟩
    dsimp only [List.set] at e
    subst e
    have mono := endI_mono sts hC.ok b (b + 59) (by omega)
    generalize hhi : endI sts (b + 59) = hi at *
    obtain ⟨tp, htp, tp1, tp2⟩ : ∃ tp : Int, (if lo + 200 < hi then lo + 200 else hi) = tp ∧ lo ≤ tp ∧ tp ≤ lo + 200 := ⟨_, rfl, by split <;> omega, by split <;> omega⟩
    refine ⟨_, rfl, _, rfl, _, rfl, _, _, rfl, rfl, _, _, rfl, _, _, rfl, rfl, _, _, rfl, comp_rngT (P := fun i : Nat => !inV (V.int (lo + (i : Int))) ((walkI sts b 60).map V.int)) (f := fun i : Nat => V.int (lo + (i : Int))) ?_ ?_ ?_ ?_⟩
    · rw [htp]
      exact Nat.le_trans (show _ ≤ 1000 by omega) (by decide)
    · intro i H8 hi s8 R hR
      refine ⟨_, rfl, _, rfl, pe, _, rfl, .inl (s8.seq hE), rfl, ?_, _, rfl, hR H8 (Same.refl _)⟩
      rw [List.all_map]
      exact List.all_eq_true.mpr fun _ _ => rfl
    · intro i H8 hi hP s8 R hR
      exact ⟨_, rfl, hR H8 (Same.refl _)⟩
    intro p8 H8 n8 s8 f8 σ e
    dsimp only [List.set] at e
    subst e
    rw [htp] at f8
    have tph : tp ≤ endI sts (b + 59) := by rw [hhi, ← htp]; split <;> omega
    rw [gone_walk hC.ok hb0 tph lo3] at f8
    have s08 := s07.trans s8
    have hC8 := hC6.same (s7.trans s8)
    refine ⟨_, rfl, _, _, rfl, .inl hC8.lst, fun c9 H9 n9 s9 f9 => ?_⟩
    refine ⟨_, rfl, _, rfl, _, rfl, _, _, rfl, rfl, _, _, rfl, c9, as, sts, lo, tp, by rw [htp]; rfl, hC8.copy s9 f9, by omega, fun pA HA sA nA fA => ?_⟩
    have gl : (goneI sts lo (tp + 1)).length ≤ 2 ^ 60 := by have := gone_len sts lo (tp + 1); omega
    refine ⟨_, rfl, pA, p8, _, rfl, SqL.of fA, SqL.of ((s9.trans sA) _ _ f8), gl, _, rfl, ?_⟩
    refine iteF ?_
    refine ⟨_, rfl, _, rfl, _, _, rfl, rfl, _, _, rfl, rfl, fun σ e => ?_⟩
    dsimp only [List.set] at e
    subst e
    have sA0 : Same H HA := s08.trans (s9.trans sA)
    have hCA := hC8.same (s9.trans sA)
    have hEA : SqL X.K HA pe ((walkI sts b 60).map V.int) := (s8.trans (s9.trans sA)).seq hE
    have wd : 0 < hi - lo + 1 := by omega
    refine ⟨_, rfl, _, _, rfl, _, rfl, by split <;> omega, by split <;> omega, for_range (fun i σ H' => Same HA H' ∧ ∃ v1 v2 v3 v4, σ = [some (V.ref a), some (V.ref l), some (V.ref p2), some (V.int (drawAt ns 8)), some (V.int b), some (V.ref pe),
      some (V.int one), some (V.int lo), some (V.int hi), some (V.ref p8), some (V.int (hi - lo + 1)), v1, v2, v3, v4]) ⟨Same.refl _, _, _, _, _, rfl⟩ ?_ ?_⟩
    · rintro i σ HB hi' ⟨sB, v1, v2, v3, v4, rfl⟩ σ e
      dsimp only [List.set] at e
      subst e
      have sB0 := sA0.trans sB
      have hEB := sB.seq hEA
      refine ⟨_, rfl, _, rfl, _, rfl, a, ns, _, rfl, sB0.seq hS, by decide, by decide, _, rfl, _, _, rfl, rfl, .inr ⟨_, rfl, _, _, rfl, rfl, mul_r (by split <;> omega) (by split <;> omega), _, _, rfl, rfl, _, rfl, _, _, rfl, rfl, wd, _, _, rfl, rfl, fun σ e => ?_⟩⟩
      dsimp only [List.set] at e
      generalize 0 + (i : Int) + drawAt ns 9 * (if decide (40 < hi - lo + 1) = true then 1 else 0) = zz at e
      have en0 := md0 (x := zz) (n := hi - lo + 1) wd
      have en1 := md1 (x := zz) (n := hi - lo + 1) wd
      obtain ⟨en, hen⟩ : ∃ en, lo + zz % (hi - lo + 1) = en := ⟨_, rfl⟩
      rw [hen] at e
      subst e
      have enh : en ≤ endI sts (b + 59) := by omega
      have hiE : hi ∈ walkI sts b 60 := List.mem_of_getElem? (i := 59) (by rw [walkI_get sts b (by decide)]; exact congrArg some hhi)
      refine ⟨_, rfl, _, rfl, _, rfl, pe, walkI sts b 60, b, en, rfl, hEB, walkI_len _ _ _, ⟨hi, hiE, by omega⟩, fun pd f la HC sC hT e1 e2 e3 e4 σ e => ?_, fun pd bel ab HC sC hT hno hbl hab σ e => ?_⟩
      · dsimp only [List.set] at e
        subst e
        have hEC := sC.seq hEB
        have sC0 := sB0.trans sC
        try dsimp only
        refine seq_gen (fun σ H' => H' = HC ∧ ∃ ol, σ = [some (V.ref a), some (V.ref l), some (V.ref p2), some (V.int (drawAt ns 8)), some (V.int b), some (V.ref pe),
          some (V.int one), some (V.int lo), some (V.int hi), some (V.ref p8), some (V.int (hi - lo + 1)), some (.int (0 + (i : Int))), some (.int en), some (.ref pd), some (.bl ol)] ∧ (ol = false → ¬ (0 < b ∧ en = endI sts b))) ?rest1 ?st1
        case st1 =>
          intro R hR
          refine ⟨_, rfl, _, _, rfl, rfl, _, rfl, ?_⟩
          refine if2 (fun d => ?_) (fun d => ?_)
          · refine ⟨_, rfl, _, rfl, pe, _, _, _, rfl, rfl, hEC, at0, rfl, fun σ e => ?_⟩
            dsimp only [List.set] at e
            subst e
            refine hR _ _ ⟨rfl, _, rfl, fun z w => ?_⟩
            have := of_decide_eq_false z
            exact this (inj_int w.2)
          · intro σ e
            dsimp only [List.set] at e
            subst e
            exact hR _ _ ⟨rfl, _, rfl, fun _ w => d w.1⟩
        rintro σ H' ⟨rfl, ol, rfl, hol⟩
        refine ⟨_, rfl, pd, _, _, _, rfl, rfl, hT, rfl, rfl, _, rfl, ?_⟩
        refine ifF (by decide +kernel) ?_
        refine ⟨_, rfl, _, rfl, ?_⟩
        cases ol with
        | true =>
          refine iteF ?_
          refine iteF ?_
          exact ⟨sB.trans sC, _, _, _, _, rfl⟩
        | false =>
          refine iteT ?_
          refine ⟨_, rfl, _, rfl, _, rfl, pe, _, _, _, rfl, rfl, hEC, atL, _, _, rfl, rfl, _, rfl, ?_⟩
          refine if2 (fun d => ?_) (fun d => ?_)
          · have F := walk_from hC.ok hb0 (hol rfl) (by omega) e1 e2 e3 e4
            have hCC := hCA.same (sB.trans sC)
            refine ⟨_, rfl, _, _, rfl, .inl hCC.lst, fun c9 HD n9 sD fD => ?_⟩
            refine ⟨_, rfl, c9, as, sts, en, rfl, hCC.copy sD fD, fun po f' la' HE sE hTE FE => ?_, fun po m bel HE sE hTE LE ne _ => ?_⟩
            · obtain ⟨rfl, rfl⟩ := from_uniq F FE
              refine ⟨_, rfl, po, pd, "from", _, _, rfl, hTE, (sD.trans sE).seqT hT, .inr ⟨_, rfl⟩, _, rfl, ?_⟩
              refine iteF ?_
              exact ⟨sB.trans (sC.trans (sD.trans sE)), _, _, _, _, rfl⟩
            · exfalso
              have := F.a.uniq LE
              rw [← this] at ne
              exact ne F.he
          · exact ⟨sB.trans sC, _, _, _, _, rfl⟩
      · dsimp only [List.set] at e
        subst e
        have hEC := sC.seq hEB
        have sC0 := sB0.trans sC
        try dsimp only
        refine seq_gen (fun σ H' => H' = HC ∧ ∃ ol, σ = [some (V.ref a), some (V.ref l), some (V.ref p2), some (V.int (drawAt ns 8)), some (V.int b), some (V.ref pe),
          some (V.int one), some (V.int lo), some (V.int hi), some (V.ref p8), some (V.int (hi - lo + 1)), some (.int (0 + (i : Int))), some (.int en), some (.ref pd), some (.bl ol)]) ?rest2 ?st2
        case st2 =>
          intro R hR
          refine ⟨_, rfl, _, _, rfl, rfl, _, rfl, ?_⟩
          refine if2 (fun d => ?_) (fun d => ?_)
          · refine ⟨_, rfl, _, rfl, pe, _, _, _, rfl, rfl, hEC, at0, rfl, fun σ e => ?_⟩
            dsimp only [List.set] at e
            subst e
            exact hR _ _ ⟨rfl, _, rfl⟩
          · intro σ e
            dsimp only [List.set] at e
            subst e
            exact hR _ _ ⟨rfl, _, rfl⟩
        rintro σ H' ⟨rfl, ol, rfl⟩
        refine ⟨_, rfl, pd, _, _, _, rfl, rfl, hT, rfl, rfl, _, rfl, ?_⟩
        refine ifT rfl ?_
        refine iteT ?_
        have hCC := hCA.same (sB.trans sC)
        refine ⟨_, rfl, _, _, rfl, .inl hCC.lst, fun c9 HD n9 sD fD => ?_⟩
        refine ⟨_, rfl, c9, as, sts, en, rfl, hCC.copy sD fD, fun po f' la' HE sE hTE FE => ?_, fun po m bel' HE sE hTE LE ne hbe => ?_⟩
        · exfalso
          exact hno ((walk_hit hC.ok hb0 (by omega) enh lo3).mpr ⟨f', FE.a.m0, FE.he⟩)
        · obtain ⟨rfl, rfl⟩ := walk_none hC.ok hb0 (by omega) enh lo3 hno LE ne hbe hbl hab
          refine ⟨_, rfl, po, pd, "none", _, _, rfl, hTE, (sD.trans sE).seqT hT, ?_, _, rfl, ?_⟩
          · rcases hbe with ⟨_, z⟩ | ⟨_, z⟩
            · exact .inl z
            · exact .inr ⟨_, z⟩
          refine iteF ?_
          exact ⟨sB.trans (sC.trans (sD.trans sE)), _, _, _, _, rfl⟩
    · rintro σ HB ⟨sB, v1, v2, v3, v4, rfl⟩
      exact q _
theorem ok_law {P : Program} {w : World} {K : PySem.W.Frag} {mg : Str → Option Value} {base : Heap} {f : Addr} {fd : FuncData} (F : Fun K "law" "law" s_law f fd) (z_range : mg "range" = none) (z_min : mg "min" = none) (z_int : mg "int" = none) (z_list : mg "list" = none) (C_law_chain : Cal P w K mg base "_law_chain" 4 ["_law_script", "_law_base", "_law_many", "_law_limit"] (sp_law_chain K)) (C_law_last : Cal P w K mg base "_law_last" 1 ["_law_cell"] (sp_law_last K)) (C_law_draw : Cal P w K mg base "_law_draw" 2 ["_law_script", "_law_k"] (sp_law_draw K)) (C_law_walked : Cal P w K mg base "_law_walked" 7 ["_law_steps", "_law_base"] (sp_law_walked K)) (C_law_price : Cal P w K mg base "_law_price" 1 ["_law_cell"] (sp_law_price K)) (C_law_same_row : Cal P w K mg base "_law_same_row" 2 ["_law_found", "_law_due"] (sp_law_same_row K)) (C_law_shown : Cal P w K mg base "_law_shown" 1 ["_law_ends", "_law_base", "_law_end_here"] (sp_law_shown K)) (C_law_product : Cal P w K mg base "_law_product" 3 ["_law_steps"] (sp_law_product K)) (C_law_in_order : Cal P w K mg base "_law_in_order" 7 ["_law_steps", "_law_one", "_law_other"] (sp_law_in_order K)) (C_missing : Cal P w K mg base "missing" 6 ["chain", "low", "high"] (sp_missing K)) (C_law_same_origin : Cal P w K mg base "_law_same_origin" 2 ["_law_found", "_law_due"] (sp_law_same_origin K)) (C_origin : Cal P w K mg base "origin" 6 ["chain", "end"] (sp_origin K)) : FnOk P w K mg base CX0 8 f fd ["_law_script"] (sp_law K) :=
  F.ok sc_law (fun vs H Q E h => by first | (obtain ⟨_, rfl, _⟩ := h; rfl) | (obtain ⟨_, _, rfl, _⟩ := h; rfl) | (obtain ⟨_, _, _, rfl, _⟩ := h; rfl) | (obtain ⟨_, _, _, _, rfl, _⟩ := h; rfl) | (obtain ⟨_, _, _, _, _, rfl, _⟩ := h; rfl) | (obtain ⟨_, _, _, _, _, _, rfl, _⟩ := h; rfl) | (obtain ⟨_, _, _, _, _, _, _, rfl, _⟩ := h; rfl) | (obtain ⟨_, _, _, _, _, _, _, _, rfl, _⟩ := h; rfl) | (obtain ⟨_, _, _, _, _, _, _, _, _, rfl, _⟩ := h; rfl)) (fun cdv A outer s H vs Q E hr h => unW (body_law (X := (cxOf CX0 P w K mg base ["_law_script", "_law_steps", "_law_last_here", "_law_cell", "_law_base", "_law_ends", "_law_one", "_law_low", "_law_high", "_law_gone", "_law_wide", "_law_k", "_law_end_here", "_law_due", "_law_open_left"] "law" (defScope s_law) f cdv A outer s H E).nox) ⟨rfl, rfl, rfl, PassesOwn.never⟩ hr (fun _ => rfl) z_range z_min z_int z_list C_law_chain C_law_last C_law_draw C_law_walked C_law_price C_law_same_row C_law_shown C_law_product C_law_in_order C_missing C_law_same_origin C_origin h))
theorem all_mk {l : PySem.W.OpenLaw} {w : World} {K : PySem.W.Frag} {h : Heap} {mg : Str → Option Value} {fa : Addr} (X : K.In h) (G : h.Ns mainGlobals mg) (hfa : mg "law" = some (.ref fa))
    {od0 an0 : Option Addr} {sl0 : Array (Option Value)} {oc0 kV0 dc0 pm0 cd0 ct0 : Value} {f0 : Addr}
    {od1 an1 : Option Addr} {sl1 : Array (Option Value)} {oc1 kV1 dc1 pm1 cd1 ct1 : Value} {f1 : Addr}
    {od2 an2 : Option Addr} {sl2 : Array (Option Value)} {oc2 kV2 dc2 pm2 cd2 ct2 : Value} {f2 : Addr}
    {od3 an3 : Option Addr} {sl3 : Array (Option Value)} {oc3 kV3 dc3 pm3 cd3 ct3 : Value} {f3 : Addr}
    {od4 an4 : Option Addr} {sl4 : Array (Option Value)} {oc4 kV4 dc4 pm4 cd4 ct4 : Value} {f4 : Addr}
    {od5 an5 : Option Addr} {sl5 : Array (Option Value)} {oc5 kV5 dc5 pm5 cd5 ct5 : Value} {f5 : Addr}
    {od6 an6 : Option Addr} {sl6 : Array (Option Value)} {oc6 kV6 dc6 pm6 cd6 ct6 : Value} {f6 : Addr}
    {od7 an7 : Option Addr} {sl7 : Array (Option Value)} {oc7 kV7 dc7 pm7 cd7 ct7 : Value} {f7 : Addr}
    {od8 an8 : Option Addr} {sl8 : Array (Option Value)} {oc8 kV8 dc8 pm8 cd8 ct8 : Value} {f8 : Addr}
    {od9 an9 : Option Addr} {sl9 : Array (Option Value)} {oc9 kV9 dc9 pm9 cd9 ct9 : Value} {f9 : Addr}
    {od10 an10 : Option Addr} {sl10 : Array (Option Value)} {oc10 kV10 dc10 pm10 cd10 ct10 : Value} {f10 : Addr}
    {od11 an11 : Option Addr} {sl11 : Array (Option Value)} {oc11 kV11 dc11 pm11 cd11 ct11 : Value} {f11 : Addr}
    {od12 an12 : Option Addr} {sl12 : Array (Option Value)} {oc12 kV12 dc12 pm12 cd12 ct12 : Value} {f12 : Addr}
    {od13 an13 : Option Addr} {sl13 : Array (Option Value)} {oc13 kV13 dc13 pm13 cd13 ct13 : Value} {f13 : Addr}
    {od14 an14 : Option Addr} {sl14 : Array (Option Value)} {oc14 kV14 dc14 pm14 cd14 ct14 : Value} {f14 : Addr}
    {od15 an15 : Option Addr} {sl15 : Array (Option Value)} {oc15 kV15 dc15 pm15 cd15 ct15 : Value} {f15 : Addr}
    {od16 an16 : Option Addr} {sl16 : Array (Option Value)} {oc16 kV16 dc16 pm16 cd16 ct16 : Value} {f16 : Addr}
    {od17 an17 : Option Addr} {sl17 : Array (Option Value)} {oc17 kV17 dc17 pm17 cd17 ct17 : Value} {f17 : Addr}
    {od18 an18 : Option Addr} {sl18 : Array (Option Value)} {oc18 kV18 dc18 pm18 cd18 ct18 : Value} {f18 : Addr}
    {od19 an19 : Option Addr} {sl19 : Array (Option Value)} {oc19 kV19 dc19 pm19 cd19 ct19 : Value} {f19 : Addr}
    {od20 an20 : Option Addr} {sl20 : Array (Option Value)} {oc20 kV20 dc20 pm20 cd20 ct20 : Value} {f20 : Addr}
    {od21 an21 : Option Addr} {sl21 : Array (Option Value)} {oc21 kV21 dc21 pm21 cd21 ct21 : Value} {f21 : Addr}
    {od22 an22 : Option Addr} {sl22 : Array (Option Value)} {oc22 kV22 dc22 pm22 cd22 ct22 : Value} {f22 : Addr}
    {od23 an23 : Option Addr} {sl23 : Array (Option Value)} {oc23 kV23 dc23 pm23 cd23 ct23 : Value} {f23 : Addr}
    {od24 an24 : Option Addr} {sl24 : Array (Option Value)} {oc24 kV24 dc24 pm24 cd24 ct24 : Value} {f24 : Addr}
    {od25 an25 : Option Addr} {sl25 : Array (Option Value)} {oc25 kV25 dc25 pm25 cd25 ct25 : Value} {f25 : Addr}
    {od26 an26 : Option Addr} {sl26 : Array (Option Value)} {oc26 kV26 dc26 pm26 cd26 ct26 : Value} {f26 : Addr}
    {od27 an27 : Option Addr} {sl27 : Array (Option Value)} {oc27 kV27 dc27 pm27 cd27 ct27 : Value} {f27 : Addr}
    {od28 an28 : Option Addr} {sl28 : Array (Option Value)} {oc28 kV28 dc28 pm28 cd28 ct28 : Value} {f28 : Addr}
    {od29 an29 : Option Addr} {sl29 : Array (Option Value)} {oc29 kV29 dc29 pm29 cd29 ct29 : Value} {f29 : Addr}
    {od30 an30 : Option Addr} {sl30 : Array (Option Value)} {oc30 kV30 dc30 pm30 cd30 ct30 : Value} {f30 : Addr}
    {od31 an31 : Option Addr} {sl31 : Array (Option Value)} {oc31 kV31 dc31 pm31 cd31 ct31 : Value} {f31 : Addr}
    {od32 an32 : Option Addr} {sl32 : Array (Option Value)} {oc32 kV32 dc32 pm32 cd32 ct32 : Value} {f32 : Addr}
    (a0 : PySem.W.nsIn K mainGlobals "common_divisor" = some (some (.ref f0))) (l0 : K.lookup f0 = some ⟨oc0, od0, .func (PySem.W.fnOf "common_divisor" "common_divisor" (defArgs s_common_divisor) (defBody s_common_divisor) (defScope s_common_divisor) .none kV0 dc0 pm0 an0 cd0 ct0), sl0⟩) (c0 : PySem.W.codeIn K cd0 "common_divisor" = true) (k0 : PySem.W.keepIn K (.ref f0) = true)
    (a1 : PySem.W.nsIn K mainGlobals "lowest" = some (some (.ref f1))) (l1 : K.lookup f1 = some ⟨oc1, od1, .func (PySem.W.fnOf "lowest" "lowest" (defArgs s_lowest) (defBody s_lowest) (defScope s_lowest) .none kV1 dc1 pm1 an1 cd1 ct1), sl1⟩) (c1 : PySem.W.codeIn K cd1 "lowest" = true) (k1 : PySem.W.keepIn K (.ref f1) = true)
    (a2 : PySem.W.nsIn K mainGlobals "share" = some (some (.ref f2))) (l2 : K.lookup f2 = some ⟨oc2, od2, .func (PySem.W.fnOf "share" "share" (defArgs s_share) (defBody s_share) (defScope s_share) .none kV2 dc2 pm2 an2 cd2 ct2), sl2⟩) (c2 : PySem.W.codeIn K cd2 "share" = true) (k2 : PySem.W.keepIn K (.ref f2) = true)
    (a3 : PySem.W.nsIn K mainGlobals "rounded" = some (some (.ref f3))) (l3 : K.lookup f3 = some ⟨oc3, od3, .func (PySem.W.fnOf "rounded" "rounded" (defArgs s_rounded) (defBody s_rounded) (defScope s_rounded) .none kV3 dc3 pm3 an3 cd3 ct3), sl3⟩) (c3 : PySem.W.codeIn K cd3 "rounded" = true) (k3 : PySem.W.keepIn K (.ref f3) = true)
    (a4 : PySem.W.nsIn K mainGlobals "after" = some (some (.ref f4))) (l4 : K.lookup f4 = some ⟨oc4, od4, .func (PySem.W.fnOf "after" "after" (defArgs s_after) (defBody s_after) (defScope s_after) .none kV4 dc4 pm4 an4 cd4 ct4), sl4⟩) (c4 : PySem.W.codeIn K cd4 "after" = true) (k4 : PySem.W.keepIn K (.ref f4) = true)
    (a5 : PySem.W.nsIn K mainGlobals "check_price" = some (some (.ref f5))) (l5 : K.lookup f5 = some ⟨oc5, od5, .func (PySem.W.fnOf "check_price" "check_price" (defArgs s_check_price) (defBody s_check_price) (defScope s_check_price) .none kV5 dc5 pm5 an5 cd5 ct5), sl5⟩) (c5 : PySem.W.codeIn K cd5 "check_price" = true) (k5 : PySem.W.keepIn K (.ref f5) = true)
    (a6 : PySem.W.nsIn K mainGlobals "end_of" = some (some (.ref f6))) (l6 : K.lookup f6 = some ⟨oc6, od6, .func (PySem.W.fnOf "end_of" "end_of" (defArgs s_end_of) (defBody s_end_of) (defScope s_end_of) .none kV6 dc6 pm6 an6 cd6 ct6), sl6⟩) (c6 : PySem.W.codeIn K cd6 "end_of" = true) (k6 : PySem.W.keepIn K (.ref f6) = true)
    (a7 : PySem.W.nsIn K mainGlobals "run" = some (some (.ref f7))) (l7 : K.lookup f7 = some ⟨oc7, od7, .func (PySem.W.fnOf "run" "run" (defArgs s_run) (defBody s_run) (defScope s_run) .none kV7 dc7 pm7 an7 cd7 ct7), sl7⟩) (c7 : PySem.W.codeIn K cd7 "run" = true) (k7 : PySem.W.keepIn K (.ref f7) = true)
    (a8 : PySem.W.nsIn K mainGlobals "origin" = some (some (.ref f8))) (l8 : K.lookup f8 = some ⟨oc8, od8, .func (PySem.W.fnOf "origin" "origin" (defArgs s_origin) (defBody s_origin) (defScope s_origin) .none kV8 dc8 pm8 an8 cd8 ct8), sl8⟩) (c8 : PySem.W.codeIn K cd8 "origin" = true) (k8 : PySem.W.keepIn K (.ref f8) = true)
    (a9 : PySem.W.nsIn K mainGlobals "missing" = some (some (.ref f9))) (l9 : K.lookup f9 = some ⟨oc9, od9, .func (PySem.W.fnOf "missing" "missing" (defArgs s_missing) (defBody s_missing) (defScope s_missing) .none kV9 dc9 pm9 an9 cd9 ct9), sl9⟩) (c9 : PySem.W.codeIn K cd9 "missing" = true) (k9 : PySem.W.keepIn K (.ref f9) = true)
    (a10 : PySem.W.nsIn K mainGlobals "first_reaching" = some (some (.ref f10))) (l10 : K.lookup f10 = some ⟨oc10, od10, .func (PySem.W.fnOf "first_reaching" "first_reaching" (defArgs s_first_reaching) (defBody s_first_reaching) (defScope s_first_reaching) .none kV10 dc10 pm10 an10 cd10 ct10), sl10⟩) (c10 : PySem.W.codeIn K cd10 "first_reaching" = true) (k10 : PySem.W.keepIn K (.ref f10) = true)
    (a11 : PySem.W.nsIn K mainGlobals "least_ahead" = some (some (.ref f11))) (l11 : K.lookup f11 = some ⟨oc11, od11, .func (PySem.W.fnOf "least_ahead" "least_ahead" (defArgs s_least_ahead) (defBody s_least_ahead) (defScope s_least_ahead) .none kV11 dc11 pm11 an11 cd11 ct11), sl11⟩) (c11 : PySem.W.codeIn K cd11 "least_ahead" = true) (k11 : PySem.W.keepIn K (.ref f11) = true)
    (a12 : PySem.W.nsIn K mainGlobals "_law_at" = some (some (.ref f12))) (l12 : K.lookup f12 = some ⟨oc12, od12, .func (PySem.W.fnOf "_law_at" "_law_at" (defArgs s_law_at) (defBody s_law_at) (defScope s_law_at) .none kV12 dc12 pm12 an12 cd12 ct12), sl12⟩) (c12 : PySem.W.codeIn K cd12 "_law_at" = true) (k12 : PySem.W.keepIn K (.ref f12) = true)
    (a13 : PySem.W.nsIn K mainGlobals "_law_draw" = some (some (.ref f13))) (l13 : K.lookup f13 = some ⟨oc13, od13, .func (PySem.W.fnOf "_law_draw" "_law_draw" (defArgs s_law_draw) (defBody s_law_draw) (defScope s_law_draw) .none kV13 dc13 pm13 an13 cd13 ct13), sl13⟩) (c13 : PySem.W.codeIn K cd13 "_law_draw" = true) (k13 : PySem.W.keepIn K (.ref f13) = true)
    (a14 : PySem.W.nsIn K mainGlobals "_law_whole" = some (some (.ref f14))) (l14 : K.lookup f14 = some ⟨oc14, od14, .func (PySem.W.fnOf "_law_whole" "_law_whole" (defArgs s_law_whole) (defBody s_law_whole) (defScope s_law_whole) .none kV14 dc14 pm14 an14 cd14 ct14), sl14⟩) (c14 : PySem.W.codeIn K cd14 "_law_whole" = true) (k14 : PySem.W.keepIn K (.ref f14) = true)
    (a15 : PySem.W.nsIn K mainGlobals "_law_gcd" = some (some (.ref f15))) (l15 : K.lookup f15 = some ⟨oc15, od15, .func (PySem.W.fnOf "_law_gcd" "_law_gcd" (defArgs s_law_gcd) (defBody s_law_gcd) (defScope s_law_gcd) .none kV15 dc15 pm15 an15 cd15 ct15), sl15⟩) (c15 : PySem.W.codeIn K cd15 "_law_gcd" = true) (k15 : PySem.W.keepIn K (.ref f15) = true)
    (a16 : PySem.W.nsIn K mainGlobals "_law_step" = some (some (.ref f16))) (l16 : K.lookup f16 = some ⟨oc16, od16, .func (PySem.W.fnOf "_law_step" "_law_step" (defArgs s_law_step) (defBody s_law_step) (defScope s_law_step) .none kV16 dc16 pm16 an16 cd16 ct16), sl16⟩) (c16 : PySem.W.codeIn K cd16 "_law_step" = true) (k16 : PySem.W.keepIn K (.ref f16) = true)
    (a17 : PySem.W.nsIn K mainGlobals "_law_num" = some (some (.ref f17))) (l17 : K.lookup f17 = some ⟨oc17, od17, .func (PySem.W.fnOf "_law_num" "_law_num" (defArgs s_law_num) (defBody s_law_num) (defScope s_law_num) .none kV17 dc17 pm17 an17 cd17 ct17), sl17⟩) (c17 : PySem.W.codeIn K cd17 "_law_num" = true) (k17 : PySem.W.keepIn K (.ref f17) = true)
    (a18 : PySem.W.nsIn K mainGlobals "_law_own" = some (some (.ref f18))) (l18 : K.lookup f18 = some ⟨oc18, od18, .func (PySem.W.fnOf "_law_own" "_law_own" (defArgs s_law_own) (defBody s_law_own) (defScope s_law_own) .none kV18 dc18 pm18 an18 cd18 ct18), sl18⟩) (c18 : PySem.W.codeIn K cd18 "_law_own" = true) (k18 : PySem.W.keepIn K (.ref f18) = true)
    (a19 : PySem.W.nsIn K mainGlobals "_law_product" = some (some (.ref f19))) (l19 : K.lookup f19 = some ⟨oc19, od19, .func (PySem.W.fnOf "_law_product" "_law_product" (defArgs s_law_product) (defBody s_law_product) (defScope s_law_product) .none kV19 dc19 pm19 an19 cd19 ct19), sl19⟩) (c19 : PySem.W.codeIn K cd19 "_law_product" = true) (k19 : PySem.W.keepIn K (.ref f19) = true)
    (a20 : PySem.W.nsIn K mainGlobals "_law_chain" = some (some (.ref f20))) (l20 : K.lookup f20 = some ⟨oc20, od20, .func (PySem.W.fnOf "_law_chain" "_law_chain" (defArgs s_law_chain) (defBody s_law_chain) (defScope s_law_chain) .none kV20 dc20 pm20 an20 cd20 ct20), sl20⟩) (c20 : PySem.W.codeIn K cd20 "_law_chain" = true) (k20 : PySem.W.keepIn K (.ref f20) = true)
    (a21 : PySem.W.nsIn K mainGlobals "_law_after" = some (some (.ref f21))) (l21 : K.lookup f21 = some ⟨oc21, od21, .func (PySem.W.fnOf "_law_after" "_law_after" (defArgs s_law_after) (defBody s_law_after) (defScope s_law_after) .none kV21 dc21 pm21 an21 cd21 ct21), sl21⟩) (c21 : PySem.W.codeIn K cd21 "_law_after" = true) (k21 : PySem.W.keepIn K (.ref f21) = true)
    (a22 : PySem.W.nsIn K mainGlobals "_law_end" = some (some (.ref f22))) (l22 : K.lookup f22 = some ⟨oc22, od22, .func (PySem.W.fnOf "_law_end" "_law_end" (defArgs s_law_end) (defBody s_law_end) (defScope s_law_end) .none kV22 dc22 pm22 an22 cd22 ct22), sl22⟩) (c22 : PySem.W.codeIn K cd22 "_law_end" = true) (k22 : PySem.W.keepIn K (.ref f22) = true)
    (a23 : PySem.W.nsIn K mainGlobals "_law_price" = some (some (.ref f23))) (l23 : K.lookup f23 = some ⟨oc23, od23, .func (PySem.W.fnOf "_law_price" "_law_price" (defArgs s_law_price) (defBody s_law_price) (defScope s_law_price) .none kV23 dc23 pm23 an23 cd23 ct23), sl23⟩) (c23 : PySem.W.codeIn K cd23 "_law_price" = true) (k23 : PySem.W.keepIn K (.ref f23) = true)
    (a24 : PySem.W.nsIn K mainGlobals "_law_same_row" = some (some (.ref f24))) (l24 : K.lookup f24 = some ⟨oc24, od24, .func (PySem.W.fnOf "_law_same_row" "_law_same_row" (defArgs s_law_same_row) (defBody s_law_same_row) (defScope s_law_same_row) .none kV24 dc24 pm24 an24 cd24 ct24), sl24⟩) (c24 : PySem.W.codeIn K cd24 "_law_same_row" = true) (k24 : PySem.W.keepIn K (.ref f24) = true)
    (a25 : PySem.W.nsIn K mainGlobals "_law_same_origin" = some (some (.ref f25))) (l25 : K.lookup f25 = some ⟨oc25, od25, .func (PySem.W.fnOf "_law_same_origin" "_law_same_origin" (defArgs s_law_same_origin) (defBody s_law_same_origin) (defScope s_law_same_origin) .none kV25 dc25 pm25 an25 cd25 ct25), sl25⟩) (c25 : PySem.W.codeIn K cd25 "_law_same_origin" = true) (k25 : PySem.W.keepIn K (.ref f25) = true)
    (a26 : PySem.W.nsIn K mainGlobals "_law_last" = some (some (.ref f26))) (l26 : K.lookup f26 = some ⟨oc26, od26, .func (PySem.W.fnOf "_law_last" "_law_last" (defArgs s_law_last) (defBody s_law_last) (defScope s_law_last) .none kV26 dc26 pm26 an26 cd26 ct26), sl26⟩) (c26 : PySem.W.codeIn K cd26 "_law_last" = true) (k26 : PySem.W.keepIn K (.ref f26) = true)
    (a27 : PySem.W.nsIn K mainGlobals "_law_is" = some (some (.ref f27))) (l27 : K.lookup f27 = some ⟨oc27, od27, .func (PySem.W.fnOf "_law_is" "_law_is" (defArgs s_law_is) (defBody s_law_is) (defScope s_law_is) .none kV27 dc27 pm27 an27 cd27 ct27), sl27⟩) (c27 : PySem.W.codeIn K cd27 "_law_is" = true) (k27 : PySem.W.keepIn K (.ref f27) = true)
    (a28 : PySem.W.nsIn K mainGlobals "_law_stretch" = some (some (.ref f28))) (l28 : K.lookup f28 = some ⟨oc28, od28, .func (PySem.W.fnOf "_law_stretch" "_law_stretch" (defArgs s_law_stretch) (defBody s_law_stretch) (defScope s_law_stretch) .none kV28 dc28 pm28 an28 cd28 ct28), sl28⟩) (c28 : PySem.W.codeIn K cd28 "_law_stretch" = true) (k28 : PySem.W.keepIn K (.ref f28) = true)
    (a29 : PySem.W.nsIn K mainGlobals "_law_walked" = some (some (.ref f29))) (l29 : K.lookup f29 = some ⟨oc29, od29, .func (PySem.W.fnOf "_law_walked" "_law_walked" (defArgs s_law_walked) (defBody s_law_walked) (defScope s_law_walked) .none kV29 dc29 pm29 an29 cd29 ct29), sl29⟩) (c29 : PySem.W.codeIn K cd29 "_law_walked" = true) (k29 : PySem.W.keepIn K (.ref f29) = true)
    (a30 : PySem.W.nsIn K mainGlobals "_law_shown" = some (some (.ref f30))) (l30 : K.lookup f30 = some ⟨oc30, od30, .func (PySem.W.fnOf "_law_shown" "_law_shown" (defArgs s_law_shown) (defBody s_law_shown) (defScope s_law_shown) .none kV30 dc30 pm30 an30 cd30 ct30), sl30⟩) (c30 : PySem.W.codeIn K cd30 "_law_shown" = true) (k30 : PySem.W.keepIn K (.ref f30) = true)
    (a31 : PySem.W.nsIn K mainGlobals "_law_in_order" = some (some (.ref f31))) (l31 : K.lookup f31 = some ⟨oc31, od31, .func (PySem.W.fnOf "_law_in_order" "_law_in_order" (defArgs s_law_in_order) (defBody s_law_in_order) (defScope s_law_in_order) .none kV31 dc31 pm31 an31 cd31 ct31), sl31⟩) (c31 : PySem.W.codeIn K cd31 "_law_in_order" = true) (k31 : PySem.W.keepIn K (.ref f31) = true)
    (a32 : PySem.W.nsIn K mainGlobals "law" = some (some (.ref f32))) (l32 : K.lookup f32 = some ⟨oc32, od32, .func (PySem.W.fnOf "law" "law" (defArgs s_law) (defBody s_law) (defScope s_law) .none kV32 dc32 pm32 an32 cd32 ct32), sl32⟩) (c32 : PySem.W.codeIn K cd32 "law" = true) (k32 : PySem.W.keepIn K (.ref f32) = true)
    (z0 : PySem.W.nsIn K mainGlobals "list" = some none)
    (z1 : PySem.W.nsIn K mainGlobals "range" = some none)
    (z2 : PySem.W.nsIn K mainGlobals "min" = some none)
    (z3 : PySem.W.nsIn K mainGlobals "max" = some none)
    (z4 : PySem.W.nsIn K mainGlobals "reversed" = some none)
    (z5 : PySem.W.nsIn K mainGlobals "len" = some none)
    (z6 : PySem.W.nsIn K mainGlobals "isinstance" = some none)
    (z7 : PySem.W.nsIn K mainGlobals "int" = some none)
    (z8 : PySem.W.nsIn K mainGlobals "bool" = some none)
    (z9 : PySem.W.nsIn K mainGlobals "tuple" = some none)
    (z10 : PySem.W.nsIn K mainGlobals "str" = some none) :
    ∃ fd : FuncData, (∀ (s : Shared) (v : Value), BindsTo s fd ⟨[v], []⟩ [("_law_script", v)]) ∧ ∀ base : Heap, K.In base → base.Ns mainGlobals mg → FnOk l.prog w K mg base CX0 8 fa fd ["_law_script"] (sp_law K) := by
  have e := hfa.symm.trans (PySem.W.mg_of X G a32)
  cases e
  have F0 := fun_mk (st := s_common_divisor) l0 c0 k0
  have b0 := F0.binds (ps := ["one", "other"]) fun _ _ _ _ _ _ us hl => match us, hl with | [_, _], _ => rfl
  have F1 := fun_mk (st := s_lowest) l1 c1 k1
  have b1 := F1.binds (ps := ["num", "den"]) fun _ _ _ _ _ _ us hl => match us, hl with | [_, _], _ => rfl
  have F2 := fun_mk (st := s_share) l2 c2 k2
  have b2 := F2.binds (ps := ["step"]) fun _ _ _ _ _ _ us hl => match us, hl with | [_], _ => rfl
  have F3 := fun_mk (st := s_rounded) l3 c3 k3
  have b3 := F3.binds (ps := ["num", "den", "unit", "way"]) fun _ _ _ _ _ _ us hl => match us, hl with | [_, _, _, _], _ => rfl
  have F4 := fun_mk (st := s_after) l4 c4 k4
  have b4 := F4.binds (ps := ["step", "amount"]) fun _ _ _ _ _ _ us hl => match us, hl with | [_, _], _ => rfl
  have F5 := fun_mk (st := s_check_price) l5 c5 k5
  have b5 := F5.binds (ps := ["price"]) fun _ _ _ _ _ _ us hl => match us, hl with | [_], _ => rfl
  have F6 := fun_mk (st := s_end_of) l6 c6 k6
  have b6 := F6.binds (ps := ["chain", "price"]) fun _ _ _ _ _ _ us hl => match us, hl with | [_, _], _ => rfl
  have F7 := fun_mk (st := s_run) l7 c7 k7
  have b7 := F7.binds (ps := ["chain", "amount"]) fun _ _ _ _ _ _ us hl => match us, hl with | [_, _], _ => rfl
  have F8 := fun_mk (st := s_origin) l8 c8 k8
  have b8 := F8.binds (ps := ["chain", "end"]) fun _ _ _ _ _ _ us hl => match us, hl with | [_, _], _ => rfl
  have F9 := fun_mk (st := s_missing) l9 c9 k9
  have b9 := F9.binds (ps := ["chain", "low", "high"]) fun _ _ _ _ _ _ us hl => match us, hl with | [_, _, _], _ => rfl
  have F10 := fun_mk (st := s_first_reaching) l10 c10 k10
  have b10 := F10.binds (ps := ["chain", "end"]) fun _ _ _ _ _ _ us hl => match us, hl with | [_, _], _ => rfl
  have F11 := fun_mk (st := s_least_ahead) l11 c11 k11
  have b11 := F11.binds (ps := ["step", "amount"]) fun _ _ _ _ _ _ us hl => match us, hl with | [_, _], _ => rfl
  have F12 := fun_mk (st := s_law_at) l12 c12 k12
  have b12 := F12.binds (ps := ["_law_script", "_law_k"]) fun _ _ _ _ _ _ us hl => match us, hl with | [_, _], _ => rfl
  have F13 := fun_mk (st := s_law_draw) l13 c13 k13
  have b13 := F13.binds (ps := ["_law_script", "_law_k"]) fun _ _ _ _ _ _ us hl => match us, hl with | [_, _], _ => rfl
  have F14 := fun_mk (st := s_law_whole) l14 c14 k14
  have b14 := F14.binds (ps := ["_law_found"]) fun _ _ _ _ _ _ us hl => match us, hl with | [_], _ => rfl
  have F15 := fun_mk (st := s_law_gcd) l15 c15 k15
  have b15 := F15.binds (ps := ["_law_one", "_law_other"]) fun _ _ _ _ _ _ us hl => match us, hl with | [_, _], _ => rfl
  have F16 := fun_mk (st := s_law_step) l16 c16 k16
  have b16 := F16.binds (ps := ["_law_cell", "_law_size"]) fun _ _ _ _ _ _ us hl => match us, hl with | [_, _], _ => rfl
  have F17 := fun_mk (st := s_law_num) l17 c17 k17
  have b17 := F17.binds (ps := ["_law_step_here"]) fun _ _ _ _ _ _ us hl => match us, hl with | [_], _ => rfl
  have F18 := fun_mk (st := s_law_own) l18 c18 k18
  have b18 := F18.binds (ps := ["_law_step_here"]) fun _ _ _ _ _ _ us hl => match us, hl with | [_], _ => rfl
  have F19 := fun_mk (st := s_law_product) l19 c19 k19
  have b19 := F19.binds (ps := ["_law_steps"]) fun _ _ _ _ _ _ us hl => match us, hl with | [_], _ => rfl
  have F20 := fun_mk (st := s_law_chain) l20 c20 k20
  have b20 := F20.binds (ps := ["_law_script", "_law_base", "_law_many", "_law_limit"]) fun _ _ _ _ _ _ us hl => match us, hl with | [_, _, _, _], _ => rfl
  have F21 := fun_mk (st := s_law_after) l21 c21 k21
  have b21 := F21.binds (ps := ["_law_step_here", "_law_amount"]) fun _ _ _ _ _ _ us hl => match us, hl with | [_, _], _ => rfl
  have F22 := fun_mk (st := s_law_end) l22 c22 k22
  have b22 := F22.binds (ps := ["_law_steps", "_law_amount"]) fun _ _ _ _ _ _ us hl => match us, hl with | [_, _], _ => rfl
  have F23 := fun_mk (st := s_law_price) l23 c23 k23
  have b23 := F23.binds (ps := ["_law_cell"]) fun _ _ _ _ _ _ us hl => match us, hl with | [_], _ => rfl
  have F24 := fun_mk (st := s_law_same_row) l24 c24 k24
  have b24 := F24.binds (ps := ["_law_found", "_law_due"]) fun _ _ _ _ _ _ us hl => match us, hl with | [_, _], _ => rfl
  have F25 := fun_mk (st := s_law_same_origin) l25 c25 k25
  have b25 := F25.binds (ps := ["_law_found", "_law_due"]) fun _ _ _ _ _ _ us hl => match us, hl with | [_, _], _ => rfl
  have F26 := fun_mk (st := s_law_last) l26 c26 k26
  have b26 := F26.binds (ps := ["_law_cell"]) fun _ _ _ _ _ _ us hl => match us, hl with | [_], _ => rfl
  have F27 := fun_mk (st := s_law_is) l27 c27 k27
  have b27 := F27.binds (ps := ["_law_found", "_law_due"]) fun _ _ _ _ _ _ us hl => match us, hl with | [_, _], _ => rfl
  have F28 := fun_mk (st := s_law_stretch) l28 c28 k28
  have b28 := F28.binds (ps := ["_law_found", "_law_steps", "_law_price_here"]) fun _ _ _ _ _ _ us hl => match us, hl with | [_, _, _], _ => rfl
  have F29 := fun_mk (st := s_law_walked) l29 c29 k29
  have b29 := F29.binds (ps := ["_law_steps", "_law_base"]) fun _ _ _ _ _ _ us hl => match us, hl with | [_, _], _ => rfl
  have F30 := fun_mk (st := s_law_shown) l30 c30 k30
  have b30 := F30.binds (ps := ["_law_ends", "_law_base", "_law_end_here"]) fun _ _ _ _ _ _ us hl => match us, hl with | [_, _, _], _ => rfl
  have F31 := fun_mk (st := s_law_in_order) l31 c31 k31
  have b31 := F31.binds (ps := ["_law_steps", "_law_one", "_law_other"]) fun _ _ _ _ _ _ us hl => match us, hl with | [_, _, _], _ => rfl
  have F32 := fun_mk (st := s_law) l32 c32 k32
  have b32 := F32.binds (ps := ["_law_script"]) fun _ _ _ _ _ _ us hl => match us, hl with | [_], _ => rfl
  have z_list := PySem.W.mg_none_of X G z0
  have z_range := PySem.W.mg_none_of X G z1
  have z_min := PySem.W.mg_none_of X G z2
  have z_max := PySem.W.mg_none_of X G z3
  have z_reversed := PySem.W.mg_none_of X G z4
  have z_len := PySem.W.mg_none_of X G z5
  have z_isinstance := PySem.W.mg_none_of X G z6
  have z_int := PySem.W.mg_none_of X G z7
  have z_bool := PySem.W.mg_none_of X G z8
  have z_tuple := PySem.W.mg_none_of X G z9
  have z_str := PySem.W.mg_none_of X G z10
  refine ⟨PySem.W.fnOf "law" "law" (defArgs s_law) (defBody s_law) (defScope s_law) .none kV32 dc32 pm32 an32 cd32 ct32, fun s v => .of_eq rfl, fun base _ _ => ?_⟩
  have C_common_divisor := cal_common_divisor (P := l.prog) (w := w) (base := base) F0 b0 (PySem.W.mg_of X G a0)
  have C_rounded := cal_rounded (P := l.prog) (w := w) (base := base) F3 b3 (PySem.W.mg_of X G a3)
  have C_check_price := cal_check_price (P := l.prog) (w := w) (base := base) F5 b5 (PySem.W.mg_of X G a5)
  have C_law_at := cal_law_at (P := l.prog) (w := w) (base := base) F12 b12 (PySem.W.mg_of X G a12) z_len
  have C_law_whole := cal_law_whole (P := l.prog) (w := w) (base := base) F14 b14 (PySem.W.mg_of X G a14) z_isinstance z_int z_bool
  have C_law_gcd := cal_law_gcd (P := l.prog) (w := w) (base := base) F15 b15 (PySem.W.mg_of X G a15)
  have C_law_step := cal_law_step (P := l.prog) (w := w) (base := base) F16 b16 (PySem.W.mg_of X G a16)
  have C_law_num := cal_law_num (P := l.prog) (w := w) (base := base) F17 b17 (PySem.W.mg_of X G a17)
  have C_law_price := cal_law_price (P := l.prog) (w := w) (base := base) F23 b23 (PySem.W.mg_of X G a23)
  have C_law_last := cal_law_last (P := l.prog) (w := w) (base := base) F26 b26 (PySem.W.mg_of X G a26)
  have C_law_shown := cal_law_shown (P := l.prog) (w := w) (base := base) F30 b30 (PySem.W.mg_of X G a30) z_range
  have C_lowest := cal_lowest (P := l.prog) (w := w) (base := base) F1 b1 (PySem.W.mg_of X G a1) C_common_divisor
  have C_law_draw := cal_law_draw (P := l.prog) (w := w) (base := base) F13 b13 (PySem.W.mg_of X G a13) C_law_at
  have C_law_own := cal_law_own (P := l.prog) (w := w) (base := base) F18 b18 (PySem.W.mg_of X G a18) C_law_gcd C_law_num
  have C_law_after := cal_law_after (P := l.prog) (w := w) (base := base) F21 b21 (PySem.W.mg_of X G a21) C_law_num
  have C_law_same_row := cal_law_same_row (P := l.prog) (w := w) (base := base) F24 b24 (PySem.W.mg_of X G a24) z_range z_len z_isinstance z_list C_law_whole
  have C_law_same_origin := cal_law_same_origin (P := l.prog) (w := w) (base := base) F25 b25 (PySem.W.mg_of X G a25) z_isinstance z_tuple z_len z_str C_law_whole
  have C_law_is := cal_law_is (P := l.prog) (w := w) (base := base) F27 b27 (PySem.W.mg_of X G a27) C_law_whole
  have C_share := cal_share (P := l.prog) (w := w) (base := base) F2 b2 (PySem.W.mg_of X G a2) C_lowest
  have C_law_product := cal_law_product (P := l.prog) (w := w) (base := base) F19 b19 (PySem.W.mg_of X G a19) C_law_own
  have C_law_end := cal_law_end (P := l.prog) (w := w) (base := base) F22 b22 (PySem.W.mg_of X G a22) C_law_after
  have C_after := cal_after (P := l.prog) (w := w) (base := base) F4 b4 (PySem.W.mg_of X G a4) C_share C_rounded
  have C_least_ahead := cal_least_ahead (P := l.prog) (w := w) (base := base) F11 b11 (PySem.W.mg_of X G a11) z_max C_share C_rounded
  have C_law_chain := cal_law_chain (P := l.prog) (w := w) (base := base) F20 b20 (PySem.W.mg_of X G a20) z_range z_min C_law_draw C_law_step C_law_at C_law_product
  have C_law_stretch := cal_law_stretch (P := l.prog) (w := w) (base := base) F28 b28 (PySem.W.mg_of X G a28) z_isinstance z_tuple z_len C_law_end C_law_whole
  have C_run := cal_run (P := l.prog) (w := w) (base := base) F7 b7 (PySem.W.mg_of X G a7) C_after
  have C_first_reaching := cal_first_reaching (P := l.prog) (w := w) (base := base) F10 b10 (PySem.W.mg_of X G a10) z_max z_reversed C_least_ahead
  have C_end_of := cal_end_of (P := l.prog) (w := w) (base := base) F6 b6 (PySem.W.mg_of X G a6) C_check_price C_run
  have C_origin := cal_origin (P := l.prog) (w := w) (base := base) F8 b8 (PySem.W.mg_of X G a8) C_first_reaching C_run
  have C_missing := cal_missing (P := l.prog) (w := w) (base := base) F9 b9 (PySem.W.mg_of X G a9) z_list z_range z_min C_run C_first_reaching
  have C_law_walked := cal_law_walked (P := l.prog) (w := w) (base := base) F29 b29 (PySem.W.mg_of X G a29) z_range z_list z_max C_end_of C_law_is C_law_end
  have C_law_in_order := cal_law_in_order (P := l.prog) (w := w) (base := base) F31 b31 (PySem.W.mg_of X G a31) z_min z_max z_list C_end_of C_origin C_law_is C_law_stretch C_law_end
  exact ok_law F32 z_range z_min z_int z_list C_law_chain C_law_last C_law_draw C_law_walked C_law_price C_law_same_row C_law_shown C_law_product C_law_in_order C_missing C_law_same_origin C_origin
theorem walk {l : PySem.W.OpenLaw} {q : Program} {loose : List Str} {XP : (Str → Option Value) → Heap → Prop} {YP : World → Heap → Prop} {d : DefRec} {K : Params → PySem.W.Frag} (hn : l.most = some 63) (hdf : d.params.defaults = [])
    (hY : ∀ (w : World) (h : Heap), YP w h → (K w.params).In h)
    (F : ∀ (w : World) (mg : Str → Option Value) (fa : Addr) (h : Heap), (K w.params).In h → h.Ns mainGlobals mg → mg d.name = some (.ref fa) →
      ∃ fd : FuncData, (∀ (s : Shared) (u : Value), BindsTo s fd ⟨[u], []⟩ [("_law_script", u)]) ∧ ∀ base : Heap, (K w.params).In base → base.Ns mainGlobals mg → FnOk l.prog w (K w.params) mg base CX0 8 fa fd ["_law_script"] (sp_law (K w.params))) :
    PySem.W.WalkO q loose XP YP l.row.toRowW d [] (fun f vs => PySem.call f vs) :=
  L2.walk_ofB (n := 63) (k := 8) (x := "_law_script") (CX := fun _ => CX0) (sp := fun w => sp_law (K w.params)) hn (by decide) hdf ⟨rfl, by decide, by decide⟩ hY F (fun _ _ a ns hl hb _ hS => ⟨a, ns, rfl, hS, hl, hb, fun _ => rfl⟩) fun _ _ _ _ _ z => z
end My
open PySem PySem.W PyProof.Rows
set_option maxRecDepth 100000 in
set_option maxHeartbeats 0 in
theorem PySem.Challenge.cw_roundprice_k34_whole_backwards_holds : PySem.Challenge.rw_roundprice_k34_whole_backwards.Holds := by
  w_on; o_law; k_head; (case hw => w_witness2)
  k_fill
  refine My.walk (l := PySem.Challenge.rw_roundprice_k34_whole_backwards) rfl rfl (fun w h Y => PySem.W.kIn_of Y) ?F
  case F =>
    intro w mg fa h KX G hmg
    refine' My.all_mk KX G hmg ?a0 ?l0 ?c0 ?k0 ?a1 ?l1 ?c1 ?k1 ?a2 ?l2 ?c2 ?k2 ?a3 ?l3 ?c3 ?k3 ?a4 ?l4 ?c4 ?k4 ?a5 ?l5 ?c5 ?k5 ?a6 ?l6 ?c6 ?k6 ?a7 ?l7 ?c7 ?k7 ?a8 ?l8 ?c8 ?k8 ?a9 ?l9 ?c9 ?k9 ?a10 ?l10 ?c10 ?k10 ?a11 ?l11 ?c11 ?k11 ?a12 ?l12 ?c12 ?k12 ?a13 ?l13 ?c13 ?k13 ?a14 ?l14 ?c14 ?k14 ?a15 ?l15 ?c15 ?k15 ?a16 ?l16 ?c16 ?k16 ?a17 ?l17 ?c17 ?k17 ?a18 ?l18 ?c18 ?k18 ?a19 ?l19 ?c19 ?k19 ?a20 ?l20 ?c20 ?k20 ?a21 ?l21 ?c21 ?k21 ?a22 ?l22 ?c22 ?k22 ?a23 ?l23 ?c23 ?k23 ?a24 ?l24 ?c24 ?k24 ?a25 ?l25 ?c25 ?k25 ?a26 ?l26 ?c26 ?k26 ?a27 ?l27 ?c27 ?k27 ?a28 ?l28 ?c28 ?k28 ?a29 ?l29 ?c29 ?k29 ?a30 ?l30 ?c30 ?k30 ?a31 ?l31 ?c31 ?k31 ?a32 ?l32 ?c32 ?k32 ?z0 ?z1 ?z2 ?z3 ?z4 ?z5 ?z6 ?z7 ?z8 ?z9 ?z10
    (case a0 => k_is)
    (case l0 => k_is)
    (case c0 => k_is)
    (case k0 => k_is)
    (case a1 => k_is)
    (case l1 => k_is)
    (case c1 => k_is)
    (case k1 => k_is)
    (case a2 => k_is)
    (case l2 => k_is)
    (case c2 => k_is)
    (case k2 => k_is)
    (case a3 => k_is)
    (case l3 => k_is)
    (case c3 => k_is)
    (case k3 => k_is)
    (case a4 => k_is)
    (case l4 => k_is)
    (case c4 => k_is)
    (case k4 => k_is)
    (case a5 => k_is)
    (case l5 => k_is)
    (case c5 => k_is)
    (case k5 => k_is)
    (case a6 => k_is)
    (case l6 => k_is)
    (case c6 => k_is)
    (case k6 => k_is)
    (case a7 => k_is)
    (case l7 => k_is)
    (case c7 => k_is)
    (case k7 => k_is)
    (case a8 => k_is)
    (case l8 => k_is)
    (case c8 => k_is)
    (case k8 => k_is)
    (case a9 => k_is)
    (case l9 => k_is)
    (case c9 => k_is)
    (case k9 => k_is)
    (case a10 => k_is)
    (case l10 => k_is)
    (case c10 => k_is)
    (case k10 => k_is)
    (case a11 => k_is)
    (case l11 => k_is)
    (case c11 => k_is)
    (case k11 => k_is)
    (case a12 => k_is)
    (case l12 => k_is)
    (case c12 => k_is)
    (case k12 => k_is)
    (case a13 => k_is)
    (case l13 => k_is)
    (case c13 => k_is)
    (case k13 => k_is)
    (case a14 => k_is)
    (case l14 => k_is)
    (case c14 => k_is)
    (case k14 => k_is)
    (case a15 => k_is)
    (case l15 => k_is)
    (case c15 => k_is)
    (case k15 => k_is)
    (case a16 => k_is)
    (case l16 => k_is)
    (case c16 => k_is)
    (case k16 => k_is)
    (case a17 => k_is)
    (case l17 => k_is)
    (case c17 => k_is)
    (case k17 => k_is)
    (case a18 => k_is)
    (case l18 => k_is)
    (case c18 => k_is)
    (case k18 => k_is)
    (case a19 => k_is)
    (case l19 => k_is)
    (case c19 => k_is)
    (case k19 => k_is)
    (case a20 => k_is)
    (case l20 => k_is)
    (case c20 => k_is)
    (case k20 => k_is)
    (case a21 => k_is)
    (case l21 => k_is)
    (case c21 => k_is)
    (case k21 => k_is)
    (case a22 => k_is)
    (case l22 => k_is)
    (case c22 => k_is)
    (case k22 => k_is)
    (case a23 => k_is)
    (case l23 => k_is)
    (case c23 => k_is)
    (case k23 => k_is)
    (case a24 => k_is)
    (case l24 => k_is)
    (case c24 => k_is)
    (case k24 => k_is)
    (case a25 => k_is)
    (case l25 => k_is)
    (case c25 => k_is)
    (case k25 => k_is)
    (case a26 => k_is)
    (case l26 => k_is)
    (case c26 => k_is)
    (case k26 => k_is)
    (case a27 => k_is)
    (case l27 => k_is)
    (case c27 => k_is)
    (case k27 => k_is)
    (case a28 => k_is)
    (case l28 => k_is)
    (case c28 => k_is)
    (case k28 => k_is)
    (case a29 => k_is)
    (case l29 => k_is)
    (case c29 => k_is)
    (case k29 => k_is)
    (case a30 => k_is)
    (case l30 => k_is)
    (case c30 => k_is)
    (case k30 => k_is)
    (case a31 => k_is)
    (case l31 => k_is)
    (case c31 => k_is)
    (case k31 => k_is)
    (case a32 => k_is)
    (case l32 => k_is)
    (case c32 => k_is)
    (case k32 => k_is)
    (case z0 => k_is)
    (case z1 => k_is)
    (case z2 => k_is)
    (case z3 => k_is)
    (case z4 => k_is)
    (case z5 => k_is)
    (case z6 => k_is)
    (case z7 => k_is)
    (case z8 => k_is)
    (case z9 => k_is)
    (case z10 => k_is)
#print axioms PySem.Challenge.cw_roundprice_k34_whole_backwards_holds
