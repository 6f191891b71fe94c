import PyProof.Rows.All
import Wide.All
import OpenK.AllK
import Wide.FinOn
import Lean
import PyProof.EqAt
import PyProof.EqKinds
import PyProof.TupleCall
import PySem.Challenge.RW_roundprice_k18_rewritten
set_option Elab.async false
set_option linter.all false
set_option maxRecDepth 100000
set_option genSizeOf false
set_option genSizeOfSpec false
set_option bootstrap.genMatcherCode false
namespace L2
open PySem PySem.Spec PyProof.Rows
noncomputable abbrev Key := Sum Int Str
noncomputable def keyIs : Key → Value → Bool
  | .inl k, v => Value.isInt k v
  | .inr x, v => Value.isStrOf x v
noncomputable def keyH (w : World) : Key → Int
  | .inl k => hashInt k
  | .inr x => hashStr w x
theorem keyIs_shape : ∀ {k : Key} {v : Value}, keyIs k v = true → (∃ i t, k = Sum.inl i ∧ v = Value.int i t) ∨ (∃ x t, k = Sum.inr x ∧ v = Value.str x t)
  | .inl i, v, h => by
    obtain ⟨t, e⟩ := Value.isInt_shape (k := i) (v := v) h
    exact .inl ⟨i, t, rfl, e⟩
  | .inr x, v, h => by
    obtain ⟨t, e⟩ := Value.isStrOf_shape (x := x) (v := v) h
    exact .inr ⟨x, t, rfl, e⟩
theorem keyIs_int (i : Int) (t : Tok) : keyIs (.inl i) (.int i t) = true := by simp [keyIs, Value.isInt]
theorem keyIs_str (x : Str) (t : Tok) : keyIs (.inr x) (.str x t) = true := by simp [keyIs, Value.isStrOf]
theorem key_ll (a b : Int) : decide ((Sum.inl a : Key) = Sum.inl b) = (a == b) := by
  by_cases e : a = b
  · subst e; simp
  · have h : ¬ (Sum.inl a : Key) = Sum.inl b := fun q => e (Sum.inl.inj q)
    rw [decide_eq_false h]
    exact (beq_eq_false_iff_ne.mpr e).symm
theorem key_rr (a b : Str) : decide ((Sum.inr a : Key) = Sum.inr b) = decide (a = b) := by
  by_cases e : a = b
  · subst e; simp
  · have h : ¬ (Sum.inr a : Key) = Sum.inr b := fun q => e (Sum.inr.inj q)
    rw [decide_eq_false h, decide_eq_false e]
theorem key_lr (a : Int) (b : Str) : decide ((Sum.inl a : Key) = Sum.inr b) = false := decide_eq_false (fun q => nomatch q)
theorem key_rl (a : Str) (b : Int) : decide ((Sum.inr a : Key) = Sum.inl b) = false := decide_eq_false (fun q => nomatch q)
noncomputable def mixKind (prog : Program) (w : World) : PySem.KeyKind prog w Key where
  is := keyIs
  hash := keyH w
  inj := fun v a b ha hb => by
    rcases keyIs_shape ha with ⟨i, t, rfl, rfl⟩ | ⟨x, t, rfl, rfl⟩
    · rcases keyIs_shape hb with ⟨j, u, rfl, e⟩ | ⟨y, u, rfl, e⟩
      · injection e with e1 _; rw [e1]
      · exact nomatch e
    · rcases keyIs_shape hb with ⟨j, u, rfl, e⟩ | ⟨y, u, rfl, e⟩
      · exact nomatch e
      · injection e with e1 _; rw [e1]
  byValue := fun k v h => by
    rcases keyIs_shape h with ⟨i, t, rfl, rfl⟩ | ⟨x, t, rfl, rfl⟩ <;> rfl
  pyHash := fun hv h => by
    rcases keyIs_shape hv with ⟨i, t, rfl, rfl⟩ | ⟨x, t, rfl, rfl⟩
    · exact wpAny_pyHash_int h
    · exact wpAny_pyHash_str h
  eqBool := fun hu hv h => by
    rcases keyIs_shape hu with ⟨i, t, rfl, rfl⟩ | ⟨x, t, rfl, rfl⟩
    · rcases keyIs_shape hv with ⟨j, u, rfl, rfl⟩ | ⟨y, u, rfl, rfl⟩
      · rw [key_ll] at h; exact wpAny_eqBool_int h
      · rw [key_lr] at h; exact SeqAt.EqAt.int_str i t y u _ _ _ _ h
    · rcases keyIs_shape hv with ⟨j, u, rfl, rfl⟩ | ⟨y, u, rfl, rfl⟩
      · rw [key_rl] at h; exact SeqAt.EqAt.str_int x t j u _ _ _ _ h
      · rw [key_rr] at h; exact wpAny_eqBool_str h
  «strs» := fun k x t v h => by
    rcases keyIs_shape h with ⟨i, u, rfl, e⟩ | ⟨y, u, rfl, e⟩
    · exact nomatch e
    · injection e with e1 _
      subst e1
      cases v <;> rfl
theorem mixKind_int (prog : Program) (w : World) (i : Int) (t : Tok) : (mixKind prog w).is (.inl i) (.int i t) = true := keyIs_int i t
theorem mixKind_str (prog : Program) (w : World) (x : Str) (t : Tok) : (mixKind prog w).is (.inr x) (.str x t) = true := keyIs_str x t
end L2
namespace L2
open PySem PySem.Spec PyProof.Rows
inductive V where
  | non | bl (b : Bool) | int (i : Int) | str (x : Str) | byt (b : Array UInt8) | flt (b : UInt64) | ref (a : Addr) | ty (n : String)
  deriving DecidableEq
noncomputable def RelV : V → Value → Prop
  | .non, u => u = Value.none
  | .bl b, u => u = Value.bool b
  | .int i, u => ∃ t, u = Value.int i t
  | .str x, u => ∃ t, u = Value.str x t
  | .byt b, u => ∃ t, u = Value.bytes b t
  | .flt b, u => ∃ t, u = Value.float b t
  | .ref a, u => u = Value.ref a
  | .ty n, u => u = Value.type n
noncomputable abbrev Vals : List V → List Value → Prop := Paired RelV
theorem Vals.length {xs : List V} {us : List Value} (r : Vals xs us) : xs.length = us.length := Paired.length r
theorem Vals.get : ∀ {xs : List V} {us : List Value} {i : Nat} {x : V}, Vals xs us → xs[i]? = some x → ∃ u, us[i]? = some u ∧ RelV x u
  | _, _, _, _, .nil, e => by simp at e
  | _, _, 0, _, .cons r _, e => by simp at e; subst e; exact ⟨_, rfl, r⟩
  | _, _, i + 1, x, .cons _ t, e => by
    obtain ⟨u, h1, h2⟩ := Vals.get (i := i) (x := x) t (by simpa using e)
    exact ⟨u, by simpa using h1, h2⟩
theorem Vals.set {x : V} {u : Value} (r : RelV x u) : ∀ {xs : List V} {us : List Value} (i : Nat), Vals xs us → Vals (xs.set i x) (us.set i u)
  | _, _, _, .nil => .nil
  | _, _, 0, .cons _ t => .cons r t
  | _, _, i + 1, .cons q t => .cons q (Vals.set r i t)
theorem Vals.append : ∀ {xs ys : List V} {us ws : List Value}, Vals xs us → Vals ys ws → Vals (xs ++ ys) (us ++ ws)
  | _, _, _, _, .nil, s => s
  | _, _, _, _, .cons r t, s => .cons r (Vals.append t s)
theorem Vals.take : ∀ {xs : List V} {us : List Value} (n : Nat), Vals xs us → Vals (xs.take n) (us.take n)
  | _, _, 0, _ => .nil
  | _, _, _ + 1, .nil => .nil
  | _, _, n + 1, .cons r t => .cons r (Vals.take n t)
theorem Vals.drop : ∀ {xs : List V} {us : List Value} (n : Nat), Vals xs us → Vals (xs.drop n) (us.drop n)
  | _, _, 0, r => r
  | _, _, _ + 1, .nil => .nil
  | _, _, n + 1, .cons _ t => Vals.drop n t
theorem Vals.none_of : ∀ {xs : List V} {us : List Value} {i : Nat}, Vals xs us → xs[i]? = none → us[i]? = none := fun {xs us i} r e => by
  have h1 := r.length
  have h2 : xs.length ≤ i := List.getElem?_eq_none_iff.mp e
  exact List.getElem?_eq_none_iff.mpr (by omega)
noncomputable def RelO : Option V → Option Value → Prop
  | some v, some u => RelV v u
  | none, none => True
  | _, _ => False
noncomputable def KV {κ : Type} : List (κ × V) → List (κ × Value) → Prop := Paired fun (p : κ × V) (q : κ × Value) => p.1 = q.1 ∧ RelV p.2 q.2
noncomputable def kV : Key → V
  | .inl i => .int i
  | .inr x => .str x
inductive HO where
  /-- a list -/
  | lst (xs : List V)
  /-- a tuple (never changes) -/
  | tup (xs : List V)
  /-- a dict whose keys are ints and texts; one whose keys are tuples of ints and texts (the empty one is both) -/
  | dK (kvs : List (Key × V)) | dT (kvs : List (List Key × V))
  /-- a set of ints: its members, its size -/
  | set (S : Int → Bool) (n : Nat)
  /-- an instance of the class at C, its dict at dx, its attributes -/
  | ins (C dx : Addr) (fs : List (Str × V))
  /-- the dict of the instance at x -/
  | own (x : Addr)
  /-- the dict of an exception -/
  | xd (fs : List (Str × V))
  /-- a bound method, f of x -/
  | met (f x : Addr)
  /-- a range object lo, lo + 1, .. below hi -/
  | rng (lo hi : Int)
  /-- a thing that is known to the object (the script; a dict while a loop walks it): read, never written while it is so -/
  | frz (o : Obj) (u : HO)
  /-- a code object's table -/
  | tbl (ps : Array Value)
  /-- any other thing, by what is true of its one object (a def of one's own: SetO a S n := HO.ext fun h => ..) -/
  | ext (φ : Heap → Prop)
noncomputable abbrev Hp := Addr → Option HO
noncomputable def upd (H : Hp) (a : Addr) (o : HO) : Hp := fun b => if b = a then some o else H b
theorem upd_same {H : Hp} {a : Addr} {o : HO} : upd H a o a = some o := by unfold upd; rw [if_pos rfl]
theorem upd_ne {H : Hp} {a b : Addr} {o : HO} (h : b ≠ a) : upd H a o b = H b := by unfold upd; rw [if_neg h]
theorem ne_of {H : Hp} {a b : Addr} {o u : HO} (h : H a = some o) (h' : H b = some u) (d : o ≠ u) : a ≠ b := by
  intro e; subst e; rw [h] at h'; exact d (Option.some.inj h')
theorem ne_of_none {H : Hp} {a b : Addr} {o : HO} (h : H a = some o) (h' : H b = none) : a ≠ b := by
  intro e; subst e; rw [h] at h'; cases h'
section
variable (P : Program) (w : World)
noncomputable def ObjOk (H : Hp) (h : Heap) (a : Addr) : HO → Prop
  | .lst xs => xs.length ≤ sizeLine ∧ ∃ (its : List Value) (n : Nat), Vals xs its ∧ h.get? a = some { cls := .type "list", data := .seq its.toArray n }
  | .tup xs => xs.length ≤ sizeLine ∧ ∃ its : List Value, Vals xs its ∧ IsTup h a its.toArray
  | .dK kvs => kvs.length ≤ sizeLine ∧ (a == sysModules) = false ∧ ∃ vs, KV kvs vs ∧ h.DictOf (mixKind P w) a vs
  | .dT kvs => kvs.length ≤ sizeLine ∧ (a == sysModules) = false ∧ ∃ xs : List (List Key × Addr × Value),
      Paired (fun (p : List Key × V) (q : List Key × Addr × Value) => p.1 = q.1 ∧ H q.2.1 = some (.tup (p.1.map kV)) ∧ RelV p.2 q.2.2) kvs xs ∧
      ∃ o es ep, h.get? a = some o ∧ o.ExactDict ∧ o.data = .dict es ep ∧ es.toList = xs.map (entryOfKey (tupleKind (mixKind P w))) ∧ (xs.map (·.1)).Nodup
  | .set S n => h.SetOf (intKind P w) a S n
  | .ins C dx fs => H dx = some (.own a) ∧ fs.length ≤ 1000 ∧ dx ≠ a ∧ h.get? a = some (PySem.W.instObj C dx) ∧
      ∃ mA, h.Ns1 dx mA ∧ (∀ f, RelO (fs.lookup f) (mA f)) ∧ PySem.Within mA (fs.map (·.1))
  | .own _ => ∃ o, h.get? a = some o
  | .xd fs => ∃ mA, h.Ns1 a mA ∧ ∀ f, RelO (fs.lookup f) (mA f)
  | .rng lo hi => ∃ t u v, h.get? a = some { cls := .type "range", data := .fields #[.int lo t, .int hi u, .int 1 v] }
  | .frz o u => h.get? a = some o ∧ ObjOk H h a u
  | .tbl ps => h.get? a = some { cls := .none, data := .fields ps }
  | .met f x => h.get? a = some (PySem.W.methodObj (.ref f) (.ref x))
  | .ext φ => φ h ∧ (∃ o, h.get? a = some o) ∧ ∀ h1 h2 : Heap, φ h1 → (∀ o, h1.get? a = some o → h2.get? a = some o) → φ h2
noncomputable def HOk (H : Hp) (h : Heap) : Prop := ∀ a o, H a = some o → ObjOk P w H h a o
end
section
variable {P : Program} {w : World} {H H' : Hp} {h h' : Heap} {a : Addr} {o : HO}
theorem ObjOk.lt (x : ObjOk P w H h a o) : a < h.objs.size := by
  cases o with
  | lst xs => obtain ⟨_, _, _, _, e⟩ := x; exact Heap.lt_size e
  | tup xs => obtain ⟨_, _, _, p⟩ := x; exact p.lt
  | dK kvs => obtain ⟨_, _, _, _, o, _, _, e, _⟩ := x; exact Heap.lt_size e
  | dT kvs => obtain ⟨_, _, _, _, o, _, _, e, _⟩ := x; exact Heap.lt_size e
  | set S n => obtain ⟨o, _, _, _, e, _⟩ := x; exact Heap.lt_size e
  | ins C dx fs => obtain ⟨_, _, _, e, _⟩ := x; exact Heap.lt_size e
  | own y => obtain ⟨_, e⟩ := x; exact Heap.lt_size e
  | xd fs => obtain ⟨_, ⟨_, _, _, e, _⟩, _⟩ := x; exact Heap.lt_size e
  | rng lo hi => obtain ⟨_, _, _, e⟩ := x; exact Heap.lt_size e
  | frz ob u => obtain ⟨e, _⟩ := x; exact Heap.lt_size e
  | tbl ps => exact Heap.lt_size (show h.get? a = some _ from x)
  | met f y => exact Heap.lt_size (show h.get? a = some _ from x)
  | ext φ => obtain ⟨_, ⟨_, e⟩, _⟩ := x; exact Heap.lt_size e
theorem Paired.mapP {α β : Type} {F G : α → β → Prop} : ∀ {l₁ : List α} {l₂ : List β}, Paired F l₁ l₂ → (∀ a b, F a b → G a b) → Paired G l₁ l₂
  | _, _, .nil, _ => .nil
  | _, _, .cons r t, f => .cons (f _ _ r) (Paired.mapP t f)
theorem ObjOk.stay (x : ObjOk P w H h a o) (k : ∀ b u, (b = a ∨ H b = some (.own a)) → h.get? b = some u → h'.get? b = some u)
    (ho : ∀ b, H b = some (.own a) → H' b = some (.own a)) (ht : ∀ b xs, H b = some (.tup xs) → H' b = some (.tup xs)) : ObjOk P w H' h' a o := by
  induction o with
  | lst xs => obtain ⟨z, its, n, r, e⟩ := x; exact ⟨z, its, n, r, k _ _ (.inl rfl) e⟩
  | tup xs => obtain ⟨z, its, r, ob, e, c⟩ := x; exact ⟨z, its, r, ob, k _ _ (.inl rfl) e, c⟩
  | dK kvs => obtain ⟨z, y, vs, r, ob, es, ep, e, c⟩ := x; exact ⟨z, y, vs, r, ob, es, ep, k _ _ (.inl rfl) e, c⟩
  | dT kvs =>
    obtain ⟨z, y, xs, r, ob, es, ep, e, c⟩ := x
    exact ⟨z, y, xs, Paired.mapP r fun p q z => ⟨z.1, ht _ _ z.2.1, z.2.2⟩, ob, es, ep, k _ _ (.inl rfl) e, c⟩
  | set S n => obtain ⟨ob, es, ep, t, e, c⟩ := x; exact ⟨ob, es, ep, t, k _ _ (.inl rfl) e, c⟩
  | ins C dx fs =>
    obtain ⟨d, z, ne, e, mA, ⟨od, es, ep, e2, c⟩, r⟩ := x
    exact ⟨ho _ d, z, ne, k _ _ (.inl rfl) e, mA, ⟨od, es, ep, k _ _ (.inr d) e2, c⟩, r⟩
  | own y => obtain ⟨ob, e⟩ := x; exact ⟨ob, k _ _ (.inl rfl) e⟩
  | xd fs => obtain ⟨mA, ⟨od, es, ep, e, c⟩, r⟩ := x; exact ⟨mA, ⟨od, es, ep, k _ _ (.inl rfl) e, c⟩, r⟩
  | rng lo hi => obtain ⟨t, u, v, e⟩ := x; exact ⟨t, u, v, k _ _ (.inl rfl) e⟩
  | frz ob u ih => obtain ⟨e, q⟩ := x; exact ⟨k _ _ (.inl rfl) e, ih q⟩
  | tbl ps =>
    have e : h.get? a = some { cls := .none, data := .fields ps } := x
    show h'.get? a = some { cls := .none, data := .fields ps }
    exact k a _ (.inl rfl) e
  | met f y =>
    have e : h.get? a = some (PySem.W.methodObj (.ref f) (.ref y)) := x
    show h'.get? a = some (PySem.W.methodObj (.ref f) (.ref y))
    exact k a _ (.inl rfl) e
  | ext φ => obtain ⟨p, ⟨o, e⟩, st⟩ := x; exact ⟨st _ _ p fun o q => k _ _ (.inl rfl) q, ⟨o, k _ _ (.inl rfl) e⟩, st⟩
theorem HOk.lt (x : HOk P w H h) (e : H a = some o) : a < h.objs.size := (x a o e).lt
theorem HOk.fresh (x : HOk P w H h) (e : h.objs.size ≤ a) : H a = none := by
  cases q : H a with
  | none => rfl
  | some u => exact absurd (Nat.lt_of_lt_of_le (x.lt q) e) (Nat.lt_irrefl _)
theorem HOk.kept (x : HOk P w H h) (k : ∀ b u, h.get? b = some u → h'.get? b = some u) : HOk P w H h' := fun a o e =>
  (x a o e).stay (fun b u _ q => k b u q) (fun _ q => q) fun _ _ q => q
theorem HOk.laid (x : HOk P w H h) (k : ∀ b u, h.get? b = some u → h'.get? b = some u) (hp : h.objs.size ≤ a) (new : ObjOk P w (upd H a o) h' a o) : HOk P w (upd H a o) h' := fun b u e => by
  have hn := x.fresh hp
  by_cases hb : b = a
  · subst hb; rw [upd_same] at e; cases e; exact new
  · rw [upd_ne hb] at e
    exact (x b u e).stay (fun c v _ q => k c v q) (fun c q => by rw [upd_ne (ne_of_none q hn)]; exact q) fun c xs q => by rw [upd_ne (ne_of_none q hn)]; exact q
end
noncomputable def Rd (H : Hp) (a : Addr) (u : HO) : Prop := H a = some u ∨ ∃ o, H a = some (.frz o u)
theorem Rd.of {H : Hp} {a : Addr} {u : HO} (h : H a = some u) : Rd H a u := .inl h
theorem Rd.ok {P : Program} {w : World} {H : Hp} {h : Heap} {a : Addr} {u : HO} (r : Rd H a u) (x : HOk P w H h) : ObjOk P w H h a u := by
  rcases r with r | ⟨o, r⟩
  · exact x a u r
  · obtain ⟨_, q⟩ := x a _ r
    exact q
noncomputable def Mut : Option HO → Prop
  | some (.lst _) => True
  | some (.dK _) => True
  | some (.dT _) => True
  | some (.set _ _) => True
  | some (.ins _ _ _) => True
  | some (.ext _) => True
  | _ => False
section
variable {P : Program} {w : World} {H : Hp} {h h' : Heap} {x e : Addr} {o' : HO}
theorem HOk.write (ok : HOk P w H h) (mu : Mut (H x)) (he : e = x ∨ H e = some (.own x)) (k : ∀ b u, b ≠ e → h.get? b = some u → h'.get? b = some u) (heo : ∃ u, h'.get? e = some u)
    (new : ObjOk P w (upd H x o') h' x o') : HOk P w (upd H x o') h' := fun b u q => by
  have nown : ∀ c y, H c = some (.own y) → c ≠ x := fun c y r z => by subst z; rw [r] at mu; exact mu
  have ntup : ∀ c xs, H c = some (.tup xs) → c ≠ x := fun c xs r z => by subst z; rw [r] at mu; exact mu
  by_cases hb : b = x
  · subst hb; rw [upd_same] at q; cases q; exact new
  · rw [upd_ne hb] at q
    by_cases hbe : b = e
    · have q' : H b = some (.own x) := by
        rcases he with z | z
        · exact absurd (hbe.trans z) hb
        · rw [hbe]; exact z
      rw [q] at q'; cases q'
      obtain ⟨v, hv⟩ := heo
      exact ⟨v, by rw [hbe]; exact hv⟩
    · refine (ok b u q).stay (fun c v hc r => k c v ?_ r) (fun c r => by rw [upd_ne (nown c b r)]; exact r) fun c xs r => by rw [upd_ne (ntup c xs r)]; exact r
      rcases hc with rfl | hc
      · exact hbe
      · rintro rfl
        rcases he with z | z
        · exact nown c b hc z
        · rw [hc] at z; cases z; exact hb rfl
end
structure Un (fs ex : List Addr) (H H' : Hp) (h h' : Heap) : Prop where
  keep : ∀ b o, h.get? b = some o → H b = none → b ∉ fs → b ∉ ex → h'.get? b = some o
  slot : ∀ b o, h.get? b = some o → H b = none → b ∈ fs → b ∉ ex → ∃ sl, h'.get? b = some { o with slots := sl }
  free : ∀ b o, h.get? b = some o → H b = none → b ∉ ex → H' b = none
  there : ∀ b o, h.get? b = some o → b ∉ ex → ∃ o', h'.get? b = some o'
  tups : ∀ b xs, H b = some (.tup xs) → H' b = some (.tup xs)
  frzs : ∀ b o u, H b = some (.frz o u) → H' b = some (.frz o u)
  tbls : ∀ b ps, H b = some (.tbl ps) → ∃ more, H' b = some (.tbl (ps ++ more))
section
variable {fs fs' ex ex' : List Addr} {H H1 H2 : Hp} {h h1 h2 h' : Heap} {a x e : Addr} {o : HO}
theorem Un.any (u : Un fs ex H H1 h h1) {b : Addr} {ob : Obj} (q : h.get? b = some ob) (n : H b = none) (hx : b ∉ ex) : ∃ sl, h1.get? b = some { ob with slots := sl } := by
  by_cases hb : b ∈ fs
  · exact u.slot b ob q n hb hx
  · exact ⟨ob.slots, u.keep b ob q n hb hx⟩
theorem Un.trans (a : Un fs ex H H1 h h1) (b : Un fs ex H1 H2 h1 h2) : Un fs ex H H2 h h2 where
  keep := fun c ob q n hc hx => b.keep c ob (a.keep c ob q n hc hx) (a.free c ob q n hx) hc hx
  slot := fun c ob q n hc hx => by
    obtain ⟨sl, e1⟩ := a.slot c ob q n hc hx
    obtain ⟨sl', e2⟩ := b.slot c _ e1 (a.free c ob q n hx) hc hx
    exact ⟨sl', e2⟩
  free := fun c ob q n hx => by
    obtain ⟨o', e1⟩ := a.there c ob q hx
    exact b.free c o' e1 (a.free c ob q n hx) hx
  there := fun c ob q hx => by
    obtain ⟨o', e1⟩ := a.there c ob q hx
    exact b.there c o' e1 hx
  tups := fun c xs q => b.tups c xs (a.tups c xs q)
  frzs := fun c ob xs q => b.frzs c ob xs (a.frzs c ob xs q)
  tbls := fun c ps q => by
    obtain ⟨m1, e1⟩ := a.tbls c ps q
    obtain ⟨m2, e2⟩ := b.tbls c _ e1
    exact ⟨m1 ++ m2, by rw [e2, Array.append_assoc]⟩
theorem Un.kept (k : ∀ b u, h.get? b = some u → h'.get? b = some u) : Un fs ex H H h h' :=
  ⟨fun b ob q _ _ _ => k b ob q, fun b ob q _ _ _ => ⟨ob.slots, k b ob q⟩, fun _ _ _ n _ => n, fun b ob q _ => ⟨ob, k b ob q⟩, fun _ _ q => q, fun _ _ _ q => q, fun _ ps q => ⟨#[], by rw [q]; simp⟩⟩
theorem Un.refl : Un fs ex H H h h := Un.kept fun _ _ q => q
theorem Un.laid (k : ∀ b u, h.get? b = some u → h'.get? b = some u) (hp : h.objs.size ≤ a) (hn : H a = none) : Un fs ex H (upd H a o) h h' where
  keep := fun b u q _ _ _ => k b u q
  slot := fun b u q _ _ _ => ⟨u.slots, k b u q⟩
  free := fun b u q n _ => by rw [upd_ne (Nat.ne_of_lt (Nat.lt_of_lt_of_le (Heap.lt_size q) hp))]; exact n
  there := fun b u q _ => ⟨u, k b u q⟩
  tups := fun b xs q => by rw [upd_ne (ne_of_none q hn)]; exact q
  frzs := fun b u xs q => by rw [upd_ne (ne_of_none q hn)]; exact q
  tbls := fun b ps q => ⟨#[], by rw [upd_ne (ne_of_none q hn), q]; simp⟩
theorem Un.write (mu : Mut (H x)) (he : e = x ∨ H e = some (.own x)) (k : ∀ b u, b ≠ e → h.get? b = some u → h'.get? b = some u) (heo : ∃ u, h'.get? e = some u) : Un fs ex H (upd H x o) h h' := by
  have hx : ∀ b, H b = none → b ≠ x := fun b n z => by subst z; rw [n] at mu; exact mu
  have hb : ∀ b, H b = none → b ≠ e := fun b n z => by
    subst z
    rcases he with r | r
    · exact hx b n r
    · rw [n] at r; cases r
  have hm : ∀ b u, H b = some u → ¬ Mut (some u) → b ≠ x := fun b u q nm z => by subst z; rw [q] at mu; exact nm mu
  refine ⟨fun b u q n _ _ => k b u (hb b n) q, fun b u q n _ _ => ⟨u.slots, k b u (hb b n) q⟩, fun b u q n _ => by rw [upd_ne (hx b n)]; exact n, fun b u q _ => ?_,
    fun b xs q => by rw [upd_ne (hm b _ q fun z => z)]; exact q, fun b u xs q => by rw [upd_ne (hm b _ q fun z => z)]; exact q, fun b ps q => ⟨#[], by rw [upd_ne (hm b _ q fun z => z), q]; simp⟩⟩
  by_cases hbe : b = e
  · subst hbe; exact heo
  · exact ⟨u, k b u hbe q⟩
theorem Un.mono (u : Un fs ex H H1 h h1) (hs : ∀ b ∈ fs, b ∈ fs') (hx : ∀ b ∈ ex, b ∈ ex') : Un fs' ex' H H1 h h1 :=
  ⟨fun b ob q n hb he => u.keep b ob q n (fun z => hb (hs b z)) fun z => he (hx b z), fun _ _ q n _ he => u.any q n fun z => he (hx _ z), fun b ob q n he => u.free b ob q n fun z => he (hx b z), fun b ob q he => u.there b ob q fun z => he (hx b z), u.tups, u.frzs, u.tbls⟩
end
noncomputable def trk (h : Heap) (H : Hp) : List Addr := (List.range h.objs.size).filter fun a => (H a).isSome
noncomputable def hidT (h : Heap) (H : Hp) : Heap := PySem.W.hideAll h (trk h H)
theorem hidT_size (h : Heap) (H : Hp) : (hidT h H).objs.size = h.objs.size := PySem.W.hideAll_size _ _
theorem hidT_get {h : Heap} {H : Hp} {b : Addr} {o : Obj} (e : h.get? b = some o) (n : H b = none) : (hidT h H).get? b = some o :=
  PySem.W.hideAll_get _ e fun hm => by
    have q : (H b).isSome = true := (List.mem_filter.mp hm).2
    rw [n] at q; simp at q
theorem of_hidT {h : Heap} {H : Hp} {b : Addr} {o : Obj} (e : (hidT h H).get? b = some o) : h.get? b = some o ∧ H b = none := by
  have e' : h.get? b = some o := PySem.W.of_hideAll (trk h H) e
  refine ⟨e', ?_⟩
  cases q : H b with
  | none => rfl
  | some x =>
    have hm : b ∈ trk h H := List.mem_filter.mpr ⟨List.mem_range.mpr (Heap.lt_size e'), by simp [q]⟩
    have z : (hidT h H).get? b = none := PySem.W.hideAll_none (trk h H) hm
    rw [z] at e; cases e
noncomputable def allNews (g h : Heap) (L : Addr) : List (Addr × Obj) := (List.range h.objs.size).filterMap fun a => if a = L ∨ (g.get? a).isSome = true then none else (h.get? a).map fun o => (a, o)
noncomputable def rest (g h : Heap) (L d : Addr) : List (Addr × Obj) := (allNews g h L).filter fun p => decide (p.1 ≠ d)
end L2
namespace L2
open PySem PySem.Spec PyProof.Rows
structure Mod (K : PySem.W.Frag) (mg : Str → Option Value) (base : Heap) : Prop where
  kin : K.In base
  glob : base.Ns mainGlobals mg
  blt : ∃ mb, base.Ns builtinsNs mb ∧ ∀ x : Str, x ≠ "__name__" → mb x = bootBuiltins x
  nolimit : base.NoLimit
structure Cx where
  prog : Program
  w : World
  K : PySem.W.Frag
  mg : Str → Option Value
  base : Heap
  A : Around
  N : List Str
  s₀ : Shared
  H₀ : Hp
  env : Env
  outer : List Env
  stack : List Env
  ex : List Addr
  fn : Str → Bool
  calm : Bool
  pn : List (Addr × Obj)
  xe : Value → Shared → Prop
noncomputable def frs (l : List Env) : List Addr := l.filterMap (·.frame)
noncomputable abbrev Cx.fs (X : Cx) : List Addr := frs X.outer
noncomputable def Vis (sc : Scope) (x : Str) : Prop := sc.names.lookup x = some .local ∨ sc.names.lookup x = some .cell ∨ sc.names.lookup x = some .free
noncomputable def Loc (sc : Scope) (x : Str) : Prop := sc.names.lookup x = some .local ∨ sc.names.lookup x = some .cell
noncomputable def Look (env : Env) (h : Heap) (m : Str → Option Value) (x : Str) (u : Value) : Prop :=
  (env.kindOf x = some .local ∧ m x = some u) ∨ ((env.kindOf x = some .cell ∨ env.kindOf x = some .free) ∧ ∃ c, env.cells.lookup x = some c ∧ h.IsCell c (some u))
structure Cx.Ok (X : Cx) : Prop where
  mod : Mod X.K X.mg X.base
  kind : X.env.scope.kind = .function
  glob : X.env.globals = mainGlobals
  blt : X.env.builtins = builtinsNs
  above : X.s₀.heap.objs.size ≤ X.env.locals
  inj : ∀ x y c, X.env.cells.lookup x = some c → X.env.cells.lookup y = some c → x = y
  has : ∀ x, (X.env.kindOf x = some .cell ∨ X.env.kindOf x = some .free) → ∃ c, X.env.cells.lookup x = some c
  cab : ∀ x c, X.fn x = true → X.env.cells.lookup x = some c → X.s₀.heap.objs.size ≤ c
  hd : X.calm = true → X.A.handled = none
  frames : X.A.frames = some X.stack
  stk : X.stack = X.outer ∨ (X.stack = X.env :: X.outer ∧ X.env.frame = some X.env.locals)
  exf : ∀ b ∈ X.ex, b ≠ X.env.locals ∧ ∀ x c, X.env.cells.lookup x = some c → c ≠ b
  bs : ∀ b o, X.base.get? b = some o → X.s₀.heap.get? b = some o ∧ X.H₀ b = none
  bsz : X.base.objs.size ≤ X.s₀.heap.objs.size
  noex : ∀ b o, X.base.get? b = some o → b ∉ X.ex
  exfs : ∀ b ∈ X.ex, b ∉ X.fs
  funs : X.s₀.heap.FunFrames X.base X.outer
  frf : ∀ b ∈ X.fs, X.H₀ b = none
structure Inv (X : Cx) (pins : List (Addr × Obj)) (σ : List (Option V)) (H : Hp) (s : Shared) : Prop where
  ok : X.Ok
  os : s.os = X.s₀.os
  bare : AllBare s.gens
  base : Un X.fs X.ex X.H₀ H X.s₀.heap s.heap
  loc : ∃ m, s.heap.Ns X.env.locals m ∧ ∀ (i : Nat) (x : Str) (v : V), X.N[i]? = some x → σ[i]? = some (some v) → Vis X.env.scope x → ∃ u, RelV v u ∧ Look X.env s.heap m x u
  cell : ∀ x c, X.env.cells.lookup x = some c → ∃ v, s.heap.IsCell c v
  free : H X.env.locals = none
  freeC : ∀ x c, X.env.cells.lookup x = some c → H c = none
  pin : ∀ p ∈ X.pn ++ pins, s.heap.get? p.1 = some p.2 ∧ H p.1 = none ∧ p.1 ≠ X.env.locals ∧ p.1 ∉ X.fs ∧ ∀ v, p.2.data ≠ .cell v
  hok : HOk X.prog X.w H s.heap
  len : σ.length = X.N.length
section
variable {X : Cx} {pins : List (Addr × Obj)} {σ : List (Option V)} {H H' : Hp} {s : Shared} {h' : Heap}
theorem Cx.Ok.nofr (ok : X.Ok) {b : Addr} {o : Obj} (e : X.base.get? b = some o) : b ∉ X.fs := fun hb => by
  have := (ok.funs.mem hb).1
  rw [e] at this; cases this
theorem Inv.bs (I : Inv X pins σ H s) : ∀ b o, X.base.get? b = some o → s.heap.get? b = some o ∧ H b = none := fun b o e =>
  ⟨I.base.keep b o (I.ok.bs b o e).1 (I.ok.bs b o e).2 (I.ok.nofr e) (I.ok.noex b o e), I.base.free b o (I.ok.bs b o e).1 (I.ok.bs b o e).2 (I.ok.noex b o e)⟩
theorem Inv.bk (I : Inv X pins σ H s) : ∀ b o, X.base.get? b = some o → s.heap.get? b = some o := fun b o e => (I.bs b o e).1
theorem Inv.mod (I : Inv X pins σ H s) : Mod X.K X.mg X.base := I.ok.mod
theorem Inv.kIn (I : Inv X pins σ H s) : X.K.In s.heap := I.ok.mod.kin.keeps I.bk
theorem Inv.nolimit (I : Inv X pins σ H s) : s.heap.NoLimit := I.ok.mod.nolimit.keeps I.bk
theorem Inv.fr (I : Inv X pins σ H s) : ∃ m, Fr X.base X.env.locals s.heap m :=
  let ⟨m, hn, _⟩ := I.loc
  ⟨m, hn, I.bk, Nat.le_trans I.ok.bsz I.ok.above⟩
theorem Inv.lt (I : Inv X pins σ H s) : X.env.locals < s.heap.objs.size := let ⟨_, hn, _⟩ := I.loc; hn.lt
theorem Inv.sz (I : Inv X pins σ H s) : X.s₀.heap.objs.size ≤ s.heap.objs.size := Nat.le_trans I.ok.above (Nat.le_of_lt I.lt)
theorem Inv.nofs (I : Inv X pins σ H s) {a : Addr} (h : s.heap.objs.size ≤ a) : a ∉ X.fs := fun hb => by
  obtain ⟨_, o, ho, _⟩ := I.ok.funs.mem hb
  exact absurd (Nat.lt_of_lt_of_le (Heap.lt_size ho) (Nat.le_trans I.sz h)) (Nat.lt_irrefl _)
theorem Inv.cne (I : Inv X pins σ H s) : ∀ x c, X.env.cells.lookup x = some c → c ≠ X.env.locals := fun x c e z => by
  obtain ⟨v, o, ho, hd⟩ := I.cell x c e
  obtain ⟨m, ⟨o', es, ep, ho', hd', _⟩, _⟩ := I.loc
  rw [z, ho'] at ho; cases ho; rw [hd'] at hd; cases hd
theorem Inv.funs (I : Inv X pins σ H s) : s.heap.FunFrames X.base X.outer := by
  have all : ∀ (l : List Env), (∀ b ∈ frs l, b ∈ X.fs) → X.s₀.heap.FunFrames X.base l → s.heap.FunFrames X.base l := by
    intro l
    induction l with
    | nil => intro _ _; trivial
    | cons env r ih =>
      intro hs hl
      obtain ⟨hk, ⟨L, o, hf, hn, ho, hd⟩, hr⟩ := hl
      have hL : L ∈ X.fs := hs L (by unfold frs; rw [List.filterMap_cons, hf]; exact List.mem_cons_self)
      obtain ⟨sl, e⟩ := I.base.slot L o ho (I.ok.frf L hL) hL fun z => I.ok.exfs L z hL
      exact ⟨hk, ⟨L, _, hf, hn, e, hd⟩, ih (fun b hb => hs b (by unfold frs; rw [List.filterMap_cons, hf]; exact List.mem_cons_of_mem _ hb)) hr⟩
  exact all X.outer (fun _ hb => hb) I.ok.funs
theorem Inv.stack (I : Inv X pins σ H s) : s.heap.FunFrames X.base X.stack := by
  rcases I.ok.stk with e | ⟨e, hf⟩
  · rw [e]; exact I.funs
  · rw [e]
    obtain ⟨m, hn, _⟩ := I.loc
    refine .cons (by rw [I.ok.kind]; decide) hf hn ?_ I.funs
    exact Heap.get?_none_of_le (Nat.le_trans I.ok.bsz I.ok.above)
theorem Inv.stkSub (I : Inv X pins σ H s) : ∀ b ∈ frs X.stack, b ∈ X.env.locals :: X.fs := fun b hb => by
  rcases I.ok.stk with e | ⟨e, hf⟩
  · rw [e] at hb; exact List.mem_cons_of_mem _ hb
  · rw [e] at hb
    unfold frs at hb
    rw [List.filterMap_cons, hf] at hb
    exact hb
theorem Inv.stkFree (I : Inv X pins σ H s) : ∀ b ∈ frs X.stack, H b = none := fun b hb => by
  rcases List.mem_cons.mp (I.stkSub b hb) with e | hb
  · rw [e]; exact I.free
  · obtain ⟨_, o, ho, _⟩ := I.ok.funs.mem hb
    exact I.base.free b o ho (I.ok.frf b hb) fun z => I.ok.exfs b z hb
theorem Inv.step {g' : Array GenState} {t' : Nat} {d' : Drawn} {ch : List Addr} (I : Inv X pins σ H s)
    (hch : ∀ b ∈ ch, (b ∈ X.ex ∨ X.s₀.heap.objs.size ≤ b) ∧ b ≠ X.env.locals ∧ (∀ x c, X.env.cells.lookup x = some c → c ≠ b) ∧ ∀ p ∈ X.pn ++ pins, p.1 ≠ b)
    (keep : ∀ b o, b ≠ X.env.locals → b ∉ X.fs → b ∉ ch → s.heap.get? b = some o → H b = none → h'.get? b = some o)
    (slot : ∀ b o, b ≠ X.env.locals → b ∈ X.fs → b ∉ ch → s.heap.get? b = some o → H b = none → ∃ sl, h'.get? b = some { o with slots := sl }) (free : ∀ b o, b ∉ ch → s.heap.get? b = some o → H b = none → H' b = none)
    (there : ∀ b o, b ∉ ch → s.heap.get? b = some o → ∃ o', h'.get? b = some o')
    (tups : ∀ b xs, H b = some (.tup xs) → H' b = some (.tup xs)) (frzs : ∀ b o u, H b = some (.frz o u) → H' b = some (.frz o u)) (tbls : ∀ b ps, H b = some (.tbl ps) → ∃ more, H' b = some (.tbl (ps ++ more)))
    (ns : ∀ m, s.heap.Ns X.env.locals m → h'.Ns X.env.locals m) (hok : HOk X.prog X.w H' h') (hg : AllBare g') :
    Inv X pins σ H' { s with heap := h', gens := g', drawn := d', toks := t' } := by
  have neL : ∀ b o, X.s₀.heap.get? b = some o → b ≠ X.env.locals := fun b o e => Nat.ne_of_lt (Nat.lt_of_lt_of_le (Heap.lt_size e) I.ok.above)
  have neC : ∀ b o, X.s₀.heap.get? b = some o → b ∉ X.ex → b ∉ ch := fun b o e hx hb => by
    rcases (hch b hb).1 with z | z
    · exact hx z
    · exact absurd (Nat.lt_of_lt_of_le (Heap.lt_size e) z) (Nat.lt_irrefl _)
  have cellK : ∀ x c, X.env.cells.lookup x = some c → ∀ v, s.heap.IsCell c v → h'.IsCell c v := fun x c e v ⟨o, ho, hd⟩ => by
    have nch : c ∉ ch := fun z => (hch c z).2.2.1 x c e rfl
    by_cases hc : c ∈ X.fs
    · obtain ⟨sl, q⟩ := slot c o (I.cne x c e) hc nch ho (I.freeC x c e)
      exact ⟨_, q, hd⟩
    · exact ⟨o, keep c o (I.cne x c e) hc nch ho (I.freeC x c e), hd⟩
  refine ⟨I.ok, I.os, hg, ⟨fun b o e n hb hx => ?_, fun b o e n hb hx => ?_, fun b o e n hx => ?_, fun b o e hx => ?_, fun b xs e => tups b xs (I.base.tups b xs e), fun b o xs e => frzs b o xs (I.base.frzs b o xs e), fun b ps e => ?_⟩, ?_, fun x c e => ?_, ?_, fun x c e => ?_, fun p hp => ?_, hok, I.len⟩
  · exact keep b o (neL b o e) hb (neC b o e hx) (I.base.keep b o e n hb hx) (I.base.free b o e n hx)
  · obtain ⟨sl, e1⟩ := I.base.slot b o e n hb hx
    obtain ⟨sl', e2⟩ := slot b _ (neL b o e) hb (neC b o e hx) e1 (I.base.free b o e n hx)
    exact ⟨sl', e2⟩
  · obtain ⟨o', e1⟩ := I.base.there b o e hx
    exact free b o' (neC b o e hx) e1 (I.base.free b o e n hx)
  · obtain ⟨o', e1⟩ := I.base.there b o e hx
    exact there b o' (neC b o e hx) e1
  · obtain ⟨m1, e1⟩ := I.base.tbls b ps e
    obtain ⟨m2, e2⟩ := tbls b _ e1
    exact ⟨m1 ++ m2, by rw [e2, Array.append_assoc]⟩
  · obtain ⟨m, hn, hl⟩ := I.loc
    refine ⟨m, ns m hn, fun i x v e1 e2 e3 => ?_⟩
    obtain ⟨u, r, l⟩ := hl i x v e1 e2 e3
    refine ⟨u, r, ?_⟩
    rcases l with l | ⟨k, c, e, z⟩
    · exact .inl l
    · exact .inr ⟨k, c, e, cellK x c e _ z⟩
  · obtain ⟨v, z⟩ := I.cell x c e
    exact ⟨v, cellK x c e v z⟩
  · obtain ⟨m, ⟨o, _, _, ho, _⟩, _⟩ := I.loc
    exact free _ o (fun z => (hch _ z).2.1 rfl) ho I.free
  · obtain ⟨v, o, ho, hd⟩ := I.cell x c e
    exact free c o (fun z => (hch c z).2.2.1 x c e rfl) ho (I.freeC x c e)
  · obtain ⟨e, n, ne, nf, d⟩ := I.pin p hp
    have nch : p.1 ∉ ch := fun z => (hch p.1 z).2.2.2 p hp rfl
    exact ⟨keep p.1 p.2 ne nf nch e n, free p.1 p.2 nch e n, ne, nf, d⟩
theorem Inv.un {t' : Nat} (I : Inv X pins σ H s) (u : Un X.fs [] H H' s.heap h') (hok : HOk X.prog X.w H' h') : Inv X pins σ H' { s with heap := h', toks := t' } := by
  obtain ⟨m, ⟨o, es, ep, ho, r⟩, _⟩ := id I.loc
  obtain ⟨sl, hL⟩ := u.any ho I.free (by simp)
  exact I.step (g' := s.gens) (d' := s.drawn) (ch := []) (fun _ z => nomatch z) (fun b o _ hb _ e n => u.keep b o e n hb (by simp)) (fun b o _ hb _ e n => u.slot b o e n hb (by simp)) (fun b o _ e n => u.free b o e n (by simp)) (fun b o _ e => u.there b o e (by simp)) u.tups u.frzs u.tbls (fun m' hm => by
    obtain ⟨o', es', ep', ho', r'⟩ := hm
    rw [ho] at ho'; cases ho'
    exact ⟨_, es', ep', hL, r'⟩) hok I.bare
theorem Inv.call {g' : Array GenState} {t' : Nat} {d' : Drawn} {ch : List Addr} (I : Inv X pins σ H s) (u : Un (frs X.stack) ch H H' s.heap h') (hok : HOk X.prog X.w H' h') (hg : AllBare g')
    (hch : ∀ b ∈ ch, (b ∈ X.ex ∨ X.s₀.heap.objs.size ≤ b) ∧ b ≠ X.env.locals ∧ (∀ x c, X.env.cells.lookup x = some c → c ≠ b) ∧ ∀ p ∈ X.pn ++ pins, p.1 ≠ b) :
    Inv X pins σ H' { s with heap := h', gens := g', drawn := d', toks := t' } := by
  obtain ⟨m, ⟨o, es, ep, ho, r⟩, _⟩ := id I.loc
  obtain ⟨sl, hL⟩ := u.any ho I.free fun z => (hch _ z).2.1 rfl
  exact I.step (ch := ch) hch (fun b o hL hb hc e n => u.keep b o e n (fun z => (List.mem_cons.mp (I.stkSub b z)).elim hL hb) hc) (fun b o _ _ hc e n => u.any e n hc) (fun b o hc e n => u.free b o e n hc) (fun b o hc e => u.there b o e hc) u.tups u.frzs u.tbls (fun m' hm => by
    obtain ⟨o', es', ep', ho', r'⟩ := hm
    rw [ho] at ho'; cases ho'
    exact ⟨_, es', ep', hL, r'⟩) hok hg
theorem Inv.turned {t' : Nat} {it : Addr} (I : Inv X pins σ H s) (k : ∀ b o, b ≠ it → s.heap.get? b = some o → h'.get? b = some o) (hn : H it = none) (hL : it ≠ X.env.locals)
    (h1 : it ∈ X.ex ∨ X.s₀.heap.objs.size ≤ it) (h2 : ∀ x c, X.env.cells.lookup x = some c → c ≠ it) (h3 : ∀ p ∈ X.pn ++ pins, p.1 ≠ it) : Inv X pins σ H { s with heap := h', toks := t' } := by
  have nit : ∀ b u, H b = some u → b ≠ it := fun b u e z => by rw [z, hn] at e; cases e
  refine I.step (g' := s.gens) (d' := s.drawn) (ch := [it]) (fun b hb => ?_) (fun b o _ _ hc e _ => k b o (fun z => hc (by simp [z])) e) (fun b o _ _ hc e _ => ⟨o.slots, k b o (fun z => hc (by simp [z])) e⟩) (fun _ _ _ _ n => n)
    (fun b o hc e => ⟨o, k b o (fun z => hc (by simp [z])) e⟩) (fun _ _ e => e) (fun _ _ _ e => e) (fun b ps e => ⟨#[], by rw [e]; simp⟩) (fun m hm => ?_) (fun b u e => ?_) I.bare
  · have e : b = it := by simpa using hb
    subst e
    exact ⟨h1, hL, h2, h3⟩
  · obtain ⟨o, es, ep, ho, r⟩ := hm
    exact ⟨o, es, ep, k _ o (Ne.symm hL) ho, r⟩
  · refine (I.hok b u e).stay (fun c v hc q => k c v ?_ q) (fun _ q => q) fun _ _ q => q
    rcases hc with z | z
    · rw [z]; exact nit b u e
    · exact nit c _ z
theorem Inv.tok (I : Inv X pins σ H s) (t : Nat) : Inv X pins σ H { s with toks := t } := I.un (h' := s.heap) (t' := t) Un.refl I.hok
theorem Inv.kept {t' : Nat} (I : Inv X pins σ H s) (k : ∀ b u, s.heap.get? b = some u → h'.get? b = some u) : Inv X pins σ H { s with heap := h', toks := t' } := I.un (Un.kept k) (I.hok.kept k)
theorem Inv.laid {a : Addr} {o : HO} {t' : Nat} (I : Inv X pins σ H s) (k : ∀ b u, s.heap.get? b = some u → h'.get? b = some u) (hp : s.heap.objs.size ≤ a) (new : ObjOk X.prog X.w (upd H a o) h' a o) :
    Inv X pins σ (upd H a o) { s with heap := h', toks := t' } := I.un (Un.laid k hp (I.hok.fresh hp)) (I.hok.laid k hp new)
theorem Inv.write {x e : Addr} {o : HO} {t' : Nat} (I : Inv X pins σ H s) (mu : Mut (H x)) (he : e = x ∨ H e = some (.own x)) (k : ∀ b u, b ≠ e → s.heap.get? b = some u → h'.get? b = some u) (heo : ∃ u, h'.get? e = some u)
    (new : ObjOk X.prog X.w (upd H x o) h' x o) : Inv X pins σ (upd H x o) { s with heap := h', toks := t' } := I.un (Un.write mu he k heo) (I.hok.write mu he k heo new)
theorem Inv.pins_of {pins' : List (Addr × Obj)} (I : Inv X pins σ H s) (h : ∀ p ∈ pins', s.heap.get? p.1 = some p.2 ∧ H p.1 = none ∧ p.1 ≠ X.env.locals ∧ p.1 ∉ X.fs ∧ ∀ v, p.2.data ≠ .cell v) : Inv X pins' σ H s :=
  ⟨I.ok, I.os, I.bare, I.base, I.loc, I.cell, I.free, I.freeC, fun p hp => (List.mem_append.mp hp).elim (fun z => I.pin p (List.mem_append_left _ z)) (h p), I.hok, I.len⟩
theorem nodup_ix {N : List Str} (hN : N.Nodup) {i j : Nat} {x : Str} (a : N[i]? = some x) (b : N[j]? = some x) : i = j := by
  obtain ⟨h1, e1⟩ := List.getElem?_eq_some_iff.mp a
  obtain ⟨h2, e2⟩ := List.getElem?_eq_some_iff.mp b
  exact (List.getElem_inj hN).mp (e1.trans e2.symm)
theorem store_ok2 {M : Model} {A : Around} {E : Value → Shared → Prop} {i : Nat} {x : Str} {v : V} {u : Value} {Q : Unit → Shared → Prop} (I : Inv X pins σ H s) (hN : X.N.Nodup) (hi : X.N[i]? = some x) (hx : Loc X.env.scope x) (r : RelV v u)
    (h : ∀ s', Inv X pins (σ.set i (some v)) H s' → (∃ a, Heap.SameBut a s.heap s'.heap ∧ (a = X.env.locals ∨ X.env.cells.lookup x = some a)) → Q () s') (hf : X.fn x = true ∨ X.env.scope.names.lookup x = some .local := by first | exact .inl rfl | exact .inr rfl | assumption) : wpAny M A (storeName X.env x u) Q E s := by
  obtain ⟨m, hn, hl⟩ := id I.loc
  have hcls : (X.env.scope.kind == .class || (X.env.scope.kind == .module && X.env.locals != X.env.globals)) = false := by rw [I.ok.kind]; rfl
  have hiσ : i < σ.length := by rw [I.len]; exact (List.getElem?_eq_some_iff.mp hi).1
  have cne := I.cne
  have tracked : ∀ {a : Addr} {h' : Heap}, (∃ o, s.heap.get? a = some o ∧ H a = none) → Heap.SameBut a s.heap h' → HOk X.prog X.w H h' := fun {a h'} ha hs b ob e => by
    obtain ⟨_, _, hfree⟩ := ha
    refine (I.hok b ob e).stay (fun c w' hc q => (hs.2 c ?_).trans q) (fun _ q => q) fun _ _ q => q
    rintro rfl
    rcases hc with rfl | hc
    · rw [hfree] at e; cases e
    · rw [hfree] at hc; cases hc
  rcases hx with hk | hk
  · refine wpAny_storeName_local hk hn (fun h' hn' hs => ?_) hcls
    obtain ⟨oL, _, _, hoL, _⟩ := id hn
    refine h _ ⟨I.ok, I.os, I.bare, ⟨fun b o e n hb hx => ?_, fun b o e n hb hx => ?_, I.base.free, fun b o e hx => ?_, I.base.tups, I.base.frzs, I.base.tbls⟩, ⟨_, hn', fun j y v' e1 e2 e3 => ?_⟩, fun y c e => ?_, I.free, I.freeC, fun p hp => ?_, tracked ⟨oL, hoL, I.free⟩ hs, by simpa using I.len⟩ ⟨_, hs, .inl rfl⟩
    · exact (hs.2 b (Nat.ne_of_lt (Nat.lt_of_lt_of_le (Heap.lt_size e) I.ok.above))).trans (I.base.keep b o e n hb hx)
    · obtain ⟨sl, e1⟩ := I.base.slot b o e n hb hx
      exact ⟨sl, (hs.2 b (Nat.ne_of_lt (Nat.lt_of_lt_of_le (Heap.lt_size e) I.ok.above))).trans e1⟩
    · obtain ⟨o', e1⟩ := I.base.there b o e hx
      exact ⟨o', (hs.2 b (Nat.ne_of_lt (Nat.lt_of_lt_of_le (Heap.lt_size e) I.ok.above))).trans e1⟩
    · by_cases hj : j = i
      · subst hj
        rw [hi] at e1; cases e1
        rw [List.getElem?_set_self hiσ] at e2
        cases e2
        exact ⟨u, r, .inl ⟨hk, by simp⟩⟩
      · rw [List.getElem?_set_ne (Ne.symm hj)] at e2
        obtain ⟨u', r', q⟩ := hl j y v' e1 e2 e3
        refine ⟨u', r', ?_⟩
        rcases q with ⟨k, e⟩ | ⟨k, c, e, z⟩
        · refine .inl ⟨k, ?_⟩
          have : y ≠ x := fun e => hj (nodup_ix hN e1 (e ▸ hi))
          simp [this, e]
        · exact .inr ⟨k, c, e, z.sameBut hs (cne y c e)⟩
    · obtain ⟨w', z⟩ := I.cell y c e
      exact ⟨w', z.sameBut hs (cne y c e)⟩
    · obtain ⟨e, n, ne, nf, d⟩ := I.pin p hp
      exact ⟨(hs.2 p.1 ne).trans e, n, ne, nf, d⟩
  · have hfn : X.fn x = true := by
      rcases hf with z | z
      · exact z
      · rw [z] at hk; cases hk
    obtain ⟨c, hc⟩ := I.ok.has x (.inl hk)
    obtain ⟨w', z⟩ := I.cell x c hc
    refine wpAny_storeName_cell I.ok.kind hk hc z (fun h' hc' hs => ?_)
    obtain ⟨oc, hoc, hocd⟩ := id z
    refine h { s with heap := h' } ⟨I.ok, I.os, I.bare, ⟨fun b o e n hb hx => ?_, fun b o e n hb hx => ?_, I.base.free, fun b o e hx => ?_, I.base.tups, I.base.frzs, I.base.tbls⟩, ⟨m, hn.sameBut hs (Ne.symm (cne x c hc)), fun j y v' e1 e2 e3 => ?_⟩, fun y c' e => ?_, I.free, I.freeC, fun p hp => ?_, tracked ⟨oc, hoc, I.freeC x c hc⟩ hs, by simpa using I.len⟩ ⟨c, hs, .inr hc⟩
    · exact (hs.2 b (Nat.ne_of_lt (Nat.lt_of_lt_of_le (Heap.lt_size e) (I.ok.cab x c hfn hc)))).trans (I.base.keep b o e n hb hx)
    · obtain ⟨sl, e1⟩ := I.base.slot b o e n hb hx
      exact ⟨sl, (hs.2 b (Nat.ne_of_lt (Nat.lt_of_lt_of_le (Heap.lt_size e) (I.ok.cab x c hfn hc)))).trans e1⟩
    · obtain ⟨o', e1⟩ := I.base.there b o e hx
      exact ⟨o', (hs.2 b (Nat.ne_of_lt (Nat.lt_of_lt_of_le (Heap.lt_size e) (I.ok.cab x c hfn hc)))).trans e1⟩
    · by_cases hj : j = i
      · subst hj
        rw [hi] at e1; cases e1
        rw [List.getElem?_set_self hiσ] at e2
        cases e2
        exact ⟨u, r, .inr ⟨.inl hk, c, hc, hc'⟩⟩
      · rw [List.getElem?_set_ne (Ne.symm hj)] at e2
        obtain ⟨u', r', q⟩ := hl j y v' e1 e2 e3
        refine ⟨u', r', ?_⟩
        rcases q with q | ⟨k, c', e, z'⟩
        · exact .inl q
        · refine .inr ⟨k, c', e, z'.sameBut hs ?_⟩
          rintro rfl
          exact hj (nodup_ix hN e1 (I.ok.inj _ _ _ e hc ▸ hi))
    · by_cases hcc : c' = c
      · subst hcc; exact ⟨_, hc'⟩
      · obtain ⟨w2, z2⟩ := I.cell y c' e
        exact ⟨w2, z2.sameBut hs hcc⟩
    · obtain ⟨e, n, ne, nf, d⟩ := I.pin p hp
      refine ⟨(hs.2 p.1 ?_).trans e, n, ne, nf, d⟩
      intro q
      rw [q, hoc] at e
      have q' : oc = p.2 := Option.some.inj e
      exact d w' (by rw [← q']; exact hocd)
theorem store_ok {M : Model} {A : Around} {E : Value → Shared → Prop} {i : Nat} {x : Str} {v : V} {u : Value} {Q : Unit → Shared → Prop} (I : Inv X pins σ H s) (hN : X.N.Nodup) (hi : X.N[i]? = some x) (hx : Loc X.env.scope x) (r : RelV v u)
    (h : ∀ s', Inv X pins (σ.set i (some v)) H s' → Q () s') (hf : X.fn x = true ∨ X.env.scope.names.lookup x = some .local := by first | exact .inl rfl | exact .inr rfl | assumption) : wpAny M A (storeName X.env x u) Q E s :=
  store_ok2 I hN hi hx r (fun s' I' _ => h s' I') hf
theorem Inv.call' {s' : Shared} {ch : List Addr} (I : Inv X pins σ H s) (ho : s'.os = s.os) (u : Un (frs X.stack) ch H H' s.heap s'.heap) (hok : HOk X.prog X.w H' s'.heap) (hg : AllBare s'.gens)
    (hch : ∀ b ∈ ch, (b ∈ X.ex ∨ X.s₀.heap.objs.size ≤ b) ∧ b ≠ X.env.locals ∧ (∀ x c, X.env.cells.lookup x = some c → c ≠ b) ∧ ∀ p ∈ X.pn ++ pins, p.1 ≠ b) : Inv X pins σ H' s' := by
  obtain ⟨h', g', d', t', o'⟩ := s'
  have e : o' = s.os := ho
  subst e
  exact I.call (g' := g') (t' := t') (d' := d') u hok hg hch
end
noncomputable abbrev XK := Value → Option Addr → Hp → Prop
noncomputable abbrev St := List (Option V)
noncomputable abbrev VK := V → Hp → Prop
noncomputable abbrev TE := St → Hp → VK → Prop
noncomputable abbrev TT := St → Hp → (Bool → Hp → Prop) → Prop
noncomputable abbrev TA := St → Hp → (List V → Hp → Prop) → Prop
structure Ends where
  nx : St → Hp → Prop
  rt : VK
  bk : St → Hp → Prop := fun _ _ => False
  ct : St → Hp → Prop := fun _ _ => False
noncomputable abbrev TS := Ends → St → Hp → Prop
noncomputable def EP (X : Cx) (pins : List (Addr × Obj)) (σ : St) (Q : VK) (u : Value) (s' : Shared) : Prop := ∃ v H', Inv X pins σ H' s' ∧ RelV v u ∧ Q v H'
noncomputable def TP (X : Cx) (pins : List (Addr × Obj)) (σ : St) (Q : Bool → Hp → Prop) (b : Bool) (s' : Shared) : Prop := ∃ H', Inv X pins σ H' s' ∧ Q b H'
noncomputable def AP (X : Cx) (pins : List (Addr × Obj)) (σ : St) (Q : List V → Hp → Prop) (us : List Value) (s' : Shared) : Prop := ∃ vs H', Inv X pins σ H' s' ∧ Vals vs us ∧ Q vs H'
noncomputable def SP (X : Cx) (pins : List (Addr × Obj)) (D : Ends) (f : Flow) (s' : Shared) : Prop :=
  match f with
  | .next => ∃ σ' H', Inv X pins σ' H' s' ∧ D.nx σ' H'
  | .brk => ∃ σ' H', Inv X pins σ' H' s' ∧ D.bk σ' H'
  | .cont => ∃ σ' H', Inv X pins σ' H' s' ∧ D.ct σ' H'
  | .ret u => ∃ v σ' H', Inv X pins σ' H' s' ∧ RelV v u ∧ D.rt v H'
noncomputable def PE (X : Cx) (e : Expr) (t : TE) : Prop :=
  ∀ (pins : List (Addr × Obj)) (s : Shared) (σ : St) (H : Hp) (Q : VK), Inv X pins σ H s → t σ H Q → wpAny (model X.prog X.w) X.A (eval e X.env) (EP X pins σ Q) X.xe s
noncomputable def PT (X : Cx) (e : Expr) (t : TT) : Prop :=
  ∀ (pins : List (Addr × Obj)) (s : Shared) (σ : St) (H : Hp) (Q : Bool → Hp → Prop), Inv X pins σ H s → t σ H Q → wpAny (model X.prog X.w) X.A (isTrue e X.env (eval e X.env)) (TP X pins σ Q) X.xe s
noncomputable def PW (X : Cx) (e : Expr) (t : TT) : Prop :=
  ∀ (whole : Sem Value) (pins : List (Addr × Obj)) (s : Shared) (σ : St) (H : Hp) (Q : Bool → Hp → Prop), Inv X pins σ H s → t σ H Q → wpAny (model X.prog X.w) X.A (isTrue e X.env whole) (TP X pins σ Q) X.xe s
theorem PW.pt {X : Cx} {e : Expr} {t : TT} (h : PW X e t) : PT X e t := h _
noncomputable def PA (X : Cx) (es : List Expr) (t : TA) : Prop :=
  ∀ (pos : Pos) (pins : List (Addr × Obj)) (s : Shared) (σ : St) (H : Hp) (Q : List V → Hp → Prop), Inv X pins σ H s → t σ H Q → wpAny (model X.prog X.w) X.A (spliced (backTo pos (starEach es X.env))) (AP X pins σ Q) X.xe s
noncomputable def PS (X : Cx) (st : Stmt) (t : TS) : Prop :=
  ∀ (pins : List (Addr × Obj)) (s : Shared) (σ : St) (H : Hp) (D : Ends), Inv X pins σ H s → t D σ H → wpAny (model X.prog X.w) X.A (exec st X.env) (SP X pins D) X.xe s
noncomputable def PSs (X : Cx) (st : List Stmt) (t : TS) : Prop :=
  ∀ (pins : List (Addr × Obj)) (s : Shared) (σ : St) (H : Hp) (D : Ends), Inv X pins σ H s → t D σ H → wpAny (model X.prog X.w) X.A (execs st X.env) (SP X pins D) X.xe s
theorem thn {α : Type} {t : Sem α} {Q Q' : α → Shared → Prop} {M : Model} {A : Around} {E : Value → Shared → Prop} {s : Shared} (h : wpAny M A t Q E s) (hQ : ∀ a s, Q a s → Q' a s) : wpAny M A t Q' E s := wpAny_mono h hQ fun _ _ x => x
end L2
namespace L2
open PySem PySem.Spec PyProof.Rows
section
variable {X : Cx}
noncomputable def tVar (i : Nat) : TE := fun σ H Q => ∃ v, σ[i]? = some (some v) ∧ Q v H
noncomputable def tC (v : V) : TE := fun _ H Q => Q v H
theorem pe_var {i : Nat} {x : Str} {pos : Pos} (hN : X.N[i]? = some x) (hv : Vis X.env.scope x) (hd : (x == ("__debug__" : Str)) = false := by decide) (hcd : (x == ("__classdict__" : Str)) = false := by decide) : PE X (.Name x pos) (tVar i) := by
  intro pins s σ H Q I h
  obtain ⟨v, e, h⟩ := h
  obtain ⟨m, hn, hl⟩ := I.loc
  obtain ⟨u, r, l⟩ := hl i x v hN e hv
  have fin : EP X pins σ Q u s := ⟨v, H, I, r, h⟩
  rcases l with ⟨hk, hm⟩ | ⟨hk, c, hc, hcell⟩
  · exact wpAny_Name (wpAny_loadName_local I.ok.kind hk hn hm fin) hd
  · rcases hk with hk | hk
    · exact wpAny_Name (wpAny_loadName_cell I.ok.kind hk hc hcell fin) hd
    · exact wpAny_Name (wpAny_loadName_free I.ok.kind hk hc hcell fin hcd) hd
theorem pe_int {i j pos} : PE X (.Constant (.int i) j pos) (tC (.int i)) := fun _ _ _ H _ I h => wpAny_Constant_int ⟨.int i, H, I.tok _, ⟨_, rfl⟩, h⟩
theorem pe_bl {b j pos} : PE X (.Constant (.bool b) j pos) (tC (.bl b)) := fun _ _ _ H _ I h => Constant_bool ⟨.bl b, H, I, rfl, h⟩
theorem pe_non {j pos} : PE X (.Constant .none j pos) (tC .non) := fun _ _ _ H _ I h => Constant_none ⟨.non, H, I, rfl, h⟩
theorem pe_str {x j pos} : PE X (.Constant (.str x) j pos) (tC (.str x)) := fun _ _ _ H _ I h => Calls.Constant_str ⟨.str x, H, I.tok _, ⟨_, rfl⟩, h⟩
noncomputable def Gl (X : Cx) (x : Str) : Prop := X.env.kindOf x = some .globalImplicit
theorem ld_glob {E : Value → Shared → Prop} {pins : List (Addr × Obj)} {s : Shared} {σ : St} {H : Hp} {x : Str} {u : Value} {pos : Pos} {Q : Value → Shared → Prop} (I : Inv X pins σ H s) (hg : Gl X x) (hm : X.mg x = some u) (h : Q u s)
    (hd : (x == ("__debug__" : Str)) = false := by decide) : wpAny (model X.prog X.w) X.A (eval (.Name x pos) X.env) Q E s :=
  Calls.Name_function_global I.ok.kind hg (Calls.loadGlobal_global (by rw [I.ok.glob]; exact I.mod.glob.keeps I.bk) hm h) hd
theorem ld_blt {E : Value → Shared → Prop} {pins : List (Addr × Obj)} {s : Shared} {σ : St} {H : Hp} {x : Str} {u : Value} {pos : Pos} {Q : Value → Shared → Prop} (I : Inv X pins σ H s) (hg : Gl X x) (hm : X.mg x = none) (hv : bootBuiltins x = some u) (h : Q u s)
    (hn : x ≠ "__name__" := by decide) (hd : (x == ("__debug__" : Str)) = false := by decide) : wpAny (model X.prog X.w) X.A (eval (.Name x pos) X.env) Q E s := by
  obtain ⟨mb, h1, h2⟩ := I.mod.blt
  exact Calls.Name_function_global I.ok.kind hg (Calls.loadGlobal_builtin (by rw [I.ok.glob]; exact I.mod.glob.keeps I.bk) hm (by rw [I.ok.blt]; exact h1.keeps I.bk) ((h2 x hn).trans hv) h) hd
theorem pe_bltn {x : Str} {v : V} {u : Value} {pos : Pos} (hg : Gl X x) (hm : X.mg x = none) (hv : bootBuiltins x = some u) (r : RelV v u) (hn : x ≠ "__name__" := by decide) (hd : (x == ("__debug__" : Str)) = false := by decide) : PE X (.Name x pos) (tC v) :=
  fun _ _ _ H _ I h => ld_blt I hg hm hv ⟨v, H, I, r, h⟩ hn hd
variable {a b : Expr} {ta tb : TE} {pos : Pos}
noncomputable def tB (t : TE) : TT := fun σ H Q => t σ H fun x H1 => ∃ c, x = .bl c ∧ Q c H1
theorem pt_val {e : Expr} {t : TE} (h : PE X e t) (he : ∀ whole, isTrue e X.env whole = (do let v ← whole; standAt e.pos; holding [v] (truthy v)) := by intro _; rfl) : PT X e (tB t) := by
  intro pins s σ H Q I hw
  refine isTrue_plain (thn (h pins s σ H _ I hw) fun v s1 ⟨x, H1, I1, r1, q1⟩ => ?_) (he _)
  obtain ⟨d, rfl, q⟩ := q1
  cases r1
  exact wpAny_truthy_bool ⟨H1, I1, q⟩
variable {tA tB' : TT} {rest : List Expr}
noncomputable def tAnd (t u : TT) : TT := fun σ H Q => t σ H fun c H1 => if c = true then u σ H1 Q else Q false H1
noncomputable def tOr (t u : TT) : TT := fun σ H Q => t σ H fun c H1 => if c = true then Q true H1 else u σ H1 Q
theorem pw_and1 (ha : PT X a tA) : PW X (.BoolOp .And [a] pos) tA := by
  intro wh pins s σ H Q I h
  refine isTrue_and (thn (ha pins s σ H Q I h) fun c s1 e => ?_)
  cases c with
  | true => exact isTrue_and_nil e
  | false => exact e
theorem pw_or1 (ha : PT X a tA) : PW X (.BoolOp .Or [a] pos) tA := by
  intro wh pins s σ H Q I h
  refine isTrue_or (thn (ha pins s σ H Q I h) fun c s1 e => ?_)
  cases c with
  | false => exact isTrue_or_nil e
  | true => exact e
theorem pw_and (ha : PT X a tA) (hb : PW X (.BoolOp .And (b :: rest) pos) tB') : PW X (.BoolOp .And (a :: b :: rest) pos) (tAnd tA tB') := by
  intro wh pins s σ H Q I h
  refine isTrue_and (thn (ha pins s σ H _ I h) fun c s1 ⟨H1, I1, q1⟩ => ?_)
  cases c with
  | true => exact hb wh pins s1 σ H1 Q I1 q1
  | false => exact ⟨H1, I1, q1⟩
theorem pw_or (ha : PT X a tA) (hb : PW X (.BoolOp .Or (b :: rest) pos) tB') : PW X (.BoolOp .Or (a :: b :: rest) pos) (tOr tA tB') := by
  intro wh pins s σ H Q I h
  refine isTrue_or (thn (ha pins s σ H _ I h) fun c s1 ⟨H1, I1, q1⟩ => ?_)
  cases c with
  | true => exact ⟨H1, I1, q1⟩
  | false => exact hb wh pins s1 σ H1 Q I1 q1
noncomputable def tAndV (ta tb : TE) : TE := fun σ H Q => ta σ H fun x H1 => ∃ c, x = .bl c ∧ if c = true then tb σ H1 Q else Q (.bl false) H1
noncomputable def tNotV (ta : TE) : TE := fun σ H Q => ta σ H fun x H1 => ∃ c, x = .bl c ∧ Q (.bl (!c)) H1
theorem pe_one {op} {t : TE} (h : PE X a t) : PE X (.BoolOp op [a] pos) t := fun pins s σ H Q I hw => BoolOp_one (h pins s σ H Q I hw)
theorem pe_and (ha : PE X a ta) (hb : PE X (.BoolOp .And (b :: rest) pos) tb) : PE X (.BoolOp .And (a :: b :: rest) pos) (tAndV ta tb) := by
  intro pins s σ H Q I h
  refine BoolOp_and (thn (ha pins s σ H _ I h) fun v s1 ⟨x, H1, I1, r1, q1⟩ => ?_)
  obtain ⟨c, rfl, q1⟩ := q1
  cases r1
  refine wpAny_truthy_bool ?_
  cases c with
  | true => exact hb pins s1 σ H1 Q I1 q1
  | false => exact ⟨.bl false, H1, I1, rfl, q1⟩
theorem pe_not (ha : PE X a ta) : PE X (.UnaryOp .Not a pos) (tNotV ta) := by
  intro pins s σ H Q I h
  refine UnaryOp_ (thn (ha pins s σ H _ I h) fun v s1 ⟨x, H1, I1, r1, q1⟩ => ?_)
  obtain ⟨c, rfl, q1⟩ := q1
  cases r1
  exact not_of (wpAny_truthy_bool ⟨.bl (!c), H1, I1, rfl, q1⟩)
end
end L2
namespace L2
open PySem PySem.Spec PyProof.Rows
noncomputable def SqL (K : PySem.W.Frag) (H : Hp) (a : Addr) (xs : List V) : Prop :=
  Rd H a (.lst xs) ∨
    ∃ (o : Obj) (its : Array Value) (n : Nat), K.lookup a = some o ∧ o.cls = .type "list" ∧ o.dict = none ∧ o.data = .seq its n ∧ its.size ≤ sizeLine ∧ Vals xs its.toList
noncomputable def SqT (K : PySem.W.Frag) (H : Hp) (a : Addr) (xs : List V) : Prop :=
  Rd H a (.tup xs) ∨
    ∃ (o : Obj) (its : Array Value) (n : Nat), K.lookup a = some o ∧ o.cls = .type "tuple" ∧ o.data = .seq its n ∧ its.size ≤ sizeLine ∧ Vals xs its.toList
noncomputable def absV : Value → Option V
  | .none => some .non
  | .bool b => some (.bl b)
  | .int i _ => some (.int i)
  | .str x _ => some (.str x)
  | .bytes b _ => some (.byt b)
  | .float b _ => some (.flt b)
  | .ref a => some (.ref a)
  | .type n => some (.ty n)
  | _ => none
theorem RelV.abs {x : V} {u : Value} (r : RelV x u) : absV u = some x := by
  cases x with
  | non => cases r; rfl
  | bl _ => cases r; rfl
  | int _ => obtain ⟨t, rfl⟩ := r; rfl
  | str _ => obtain ⟨t, rfl⟩ := r; rfl
  | byt _ => obtain ⟨t, rfl⟩ := r; rfl
  | flt _ => obtain ⟨t, rfl⟩ := r; rfl
  | ref _ => cases r; rfl
  | ty _ => cases r; rfl
theorem RelV.inj {x y : V} {u : Value} (r : RelV x u) (q : RelV y u) : x = y := Option.some.inj (r.abs.symm.trans q.abs)
theorem Vals.inj : ∀ {xs ys : List V} {us : List Value}, Vals xs us → Vals ys us → xs = ys
  | _, _, _, .nil, .nil => rfl
  | _, _, _, .cons r t, .cons r' t' => by rw [r.inj r', Vals.inj t t']
section
variable {X : Cx} {pins : List (Addr × Obj)} {σ : St} {H : Hp} {s : Shared} {a : Addr} {xs ys : List V}
theorem SqL.of {K : PySem.W.Frag} (h : H a = some (.lst xs)) : SqL K H a xs := .inl (.inl h)
theorem SqT.of {K : PySem.W.Frag} (h : H a = some (.tup xs)) : SqT K H a xs := .inl (.inl h)
theorem Inv.list (I : Inv X pins σ H s) (h : SqL X.K H a xs) : ∃ its : List Value, Vals xs its ∧ PlainL s.heap a its.toArray ∧ xs.length ≤ sizeLine := by
  rcases h with h | ⟨o, its, n, hk, hc, hd, hs, hz, r⟩
  · obtain ⟨z, its, n, r, e⟩ := h.ok I.hok
    exact ⟨its, r, ⟨_, n, e, rfl, rfl, rfl⟩, z⟩
  · refine ⟨its.toList, r, ⟨o, n, I.kIn a o hk, hc, hd, by simpa using hs⟩, ?_⟩
    have e := r.length
    simp only [Array.length_toList] at e
    omega
theorem Inv.tuple (I : Inv X pins σ H s) (h : SqT X.K H a xs) : ∃ its : List Value, Vals xs its ∧ IsTup s.heap a its.toArray ∧ xs.length ≤ sizeLine := by
  rcases h with h | ⟨o, its, n, hk, hc, hs, hz, r⟩
  · obtain ⟨z, its, r, p⟩ := h.ok I.hok
    exact ⟨its, r, p, z⟩
  · refine ⟨its.toList, r, ⟨o, I.kIn a o hk, hc, n, by simpa using hs⟩, ?_⟩
    have e := r.length
    simp only [Array.length_toList] at e
    omega
theorem Inv.list_inj (I : Inv X pins σ H s) (h : SqL X.K H a xs) (h' : SqL X.K H a ys) : xs = ys := by
  obtain ⟨its, r, ⟨o, n, e, _, _, d⟩, _⟩ := I.list h
  obtain ⟨its', r', ⟨o', n', e', _, _, d'⟩, _⟩ := I.list h'
  rw [e] at e'; cases e'
  rw [d] at d'
  injection d' with d1 _
  have : its = its' := by simpa using congrArg Array.toList d1
  subst this
  exact r.inj r'
end
noncomputable abbrev Cx.wish (X : Cx) (E : Value → Shared → Prop) : Cx := { X with xe := E }
noncomputable abbrev Cx.nox (X : Cx) : Cx := X.wish fun _ _ => False
theorem Cx.Ok.wish {X : Cx} (ok : X.Ok) (E : Value → Shared → Prop) : (X.wish E).Ok :=
  ⟨ok.mod, ok.kind, ok.glob, ok.blt, ok.above, ok.inj, ok.has, ok.cab, ok.hd, ok.frames, ok.stk, ok.exf, ok.bs, ok.bsz, ok.noex, ok.exfs, ok.funs, ok.frf⟩
theorem Cx.Ok.unwish {X : Cx} {E : Value → Shared → Prop} (ok : (X.wish E).Ok) : X.Ok :=
  ⟨ok.mod, ok.kind, ok.glob, ok.blt, ok.above, ok.inj, ok.has, ok.cab, ok.hd, ok.frames, ok.stk, ok.exf, ok.bs, ok.bsz, ok.noex, ok.exfs, ok.funs, ok.frf⟩
section
variable {X : Cx} {pins : List (Addr × Obj)} {σ : St} {H : Hp} {s : Shared} {E : Value → Shared → Prop}
theorem Inv.wish (I : Inv X pins σ H s) (E : Value → Shared → Prop) : Inv (X.wish E) pins σ H s := ⟨I.ok.wish E, I.os, I.bare, I.base, I.loc, I.cell, I.free, I.freeC, I.pin, I.hok, I.len⟩
theorem Inv.unwish (I : Inv (X.wish E) pins σ H s) : Inv X pins σ H s := ⟨I.ok.unwish, I.os, I.bare, I.base, I.loc, I.cell, I.free, I.freeC, I.pin, I.hok, I.len⟩
theorem SP.unwish {D : Ends} {f : Flow} {s' : Shared} (h : SP (X.wish E) pins D f s') : SP X pins D f s' := by
  cases f with
  | next => obtain ⟨σ', H', I, q⟩ := h; exact ⟨σ', H', I.unwish, q⟩
  | brk => obtain ⟨σ', H', I, q⟩ := h; exact ⟨σ', H', I.unwish, q⟩
  | cont => obtain ⟨σ', H', I, q⟩ := h; exact ⟨σ', H', I.unwish, q⟩
  | ret u => obtain ⟨v, σ', H', I, r, q⟩ := h; exact ⟨v, σ', H', I.unwish, r, q⟩
theorem PE.nox {e : Expr} {t : TE} (h : PE X.nox e t) : PE X e t := fun pins s σ H Q I hw =>
  wpAny_mono (h pins s σ H Q (I.wish _) hw) (fun _ _ ⟨v, H', I', r, q⟩ => ⟨v, H', I'.unwish, r, q⟩) fun _ _ z => False.elim z
theorem PT.nox {e : Expr} {t : TT} (h : PT X.nox e t) : PT X e t := fun pins s σ H Q I hw =>
  wpAny_mono (h pins s σ H Q (I.wish _) hw) (fun _ _ ⟨H', I', q⟩ => ⟨H', I'.unwish, q⟩) fun _ _ z => False.elim z
theorem PSs.nox {st : List Stmt} {t : TS} (h : PSs X.nox st t) : PSs X st t := fun pins s σ H D I hw =>
  wpAny_mono (h pins s σ H D (I.wish _) hw) (fun _ _ q => q.unwish) fun _ _ z => False.elim z
end
section
variable {X : Cx} {st : Stmt} {rest : List Stmt} {t u : TS} {e : Expr} {te : TE} {pos : Pos}
noncomputable def tNext : TS := fun D σ H => D.nx σ H
noncomputable def tSeq (t u : TS) : TS := fun D σ H => t { D with nx := u D } σ H
theorem pss_nil : PSs X [] tNext := fun _ _ σ H _ I h => wpAny_execs_nil ⟨σ, H, I, h⟩
theorem pss_cons (h1 : PS X st t) (h2 : PSs X rest u) : PSs X (st :: rest) (tSeq t u) := by
  intro pins s σ H D I h
  refine wpAny_execs_cons (thn (h1 pins s σ H { D with nx := u D } I h) fun f s1 q => ?_)
  cases f with
  | next =>
    obtain ⟨σ', H', I', q⟩ := q
    exact h2 pins s1 σ' H' D I' q
  | ret v => exact q
  | brk => exact q
  | cont => exact q
theorem pss_one (h1 : PS X st t) : PSs X [st] t := by
  intro pins s σ H D I h
  refine wpAny_execs_cons (thn (h1 pins s σ H D I h) fun f s1 q => ?_)
  cases f with
  | next => exact wpAny_execs_nil q
  | ret v => exact q
  | brk => exact q
  | cont => exact q
theorem Inv.quiet {pins : List (Addr × Obj)} {σ : St} {H : Hp} {s : Shared} (I : Inv X pins σ H s) : interactive X.env = false := by simp [interactive, I.ok.kind]
noncomputable def tDrop (te : TE) : TS := fun D σ H => te σ H fun _ H1 => D.nx σ H1
theorem ps_expr (he : PE X e te) (hs : swapsWith e none pos.line X.env = pure false := by rfl) : PS X (.Expr e pos) (tDrop te) := by
  intro pins s σ H D I h
  exact wpAny_Expr_any (thn (he pins s σ H _ I h) fun v s1 ⟨x, H1, I1, r1, q1⟩ => ⟨σ, H1, I1, q1⟩) I.quiet hs
noncomputable def tRet (te : TE) : TS := fun D σ H => te σ H D.rt
theorem ps_ret (he : PE X e te) : PS X (.Return (some e) pos) (tRet te) := by
  intro pins s σ H D I h
  exact wpAny_Return_some (thn (he pins s σ H _ I h) fun v s1 ⟨x, H1, I1, r1, q1⟩ => ⟨x, σ, H1, I1, r1, q1⟩)
noncomputable def tIfS (c : TT) (t u : TS) : TS := fun D σ H => c σ H fun b H1 => if b = true then t D σ H1 else u D σ H1
theorem ps_if {c : Expr} {a b : List Stmt} {tc : TT} (hc : PT X c tc) (ha : PSs X a t) (hb : PSs X b u) : PS X (.If c a b pos) (tIfS tc t u) := by
  intro pins s σ H D I h
  refine wpAny_If (thn (hc pins s σ H _ I h) fun d s1 ⟨H1, I1, q1⟩ => ?_)
  cases d with
  | true => exact ha pins s1 σ H1 D I1 q1
  | false => exact hb pins s1 σ H1 D I1 q1
noncomputable def tNever : TS := fun _ _ _ => False
theorem ps_never : PS X st tNever := fun _ _ _ _ _ _ h => h.elim
end
noncomputable abbrev TG := V → St → Hp → (St → Hp → Prop) → Prop
noncomputable abbrev TGs := List V → St → Hp → (St → Hp → Prop) → Prop
noncomputable def PG (X : Cx) (target : Expr) (t : TG) : Prop :=
  ∀ (pins : List (Addr × Obj)) (s : Shared) (σ : St) (H : Hp) (v : V) (u : Value) (Q : St → Hp → Prop), Inv X pins σ H s → RelV v u → t v σ H Q →
    wpAny (model X.prog X.w) X.A (assign target X.env u) (fun _ s' => ∃ σ' H', Inv X pins σ' H' s' ∧ Q σ' H') X.xe s
noncomputable def PGs (X : Cx) (ts : List Expr) (t : TGs) : Prop :=
  ∀ (pins : List (Addr × Obj)) (s : Shared) (σ : St) (H : Hp) (vs : List V) (us : List Value) (Q : St → Hp → Prop), Inv X pins σ H s → Vals vs us → t vs σ H Q →
    wpAny (model X.prog X.w) X.A (assignInOrder ((assignEach ts X.env).map (·.2)) us) (fun _ s' => ∃ σ' H', Inv X pins σ' H' s' ∧ Q σ' H') X.xe s
section
variable {X : Cx} {pos : Pos}
noncomputable def gName (i : Nat) : TG := fun v σ H Q => Q (σ.set i (some v)) H
theorem pg_name {i : Nat} {x : Str} (hN : X.N.Nodup) (hi : X.N[i]? = some x) (hx : Loc X.env.scope x) (hf : X.fn x = true ∨ X.env.scope.names.lookup x = some .local := by first | exact .inl rfl | exact .inr rfl | assumption) : PG X (.Name x pos) (gName i) := by
  intro pins s σ H v u Q I r h
  exact wpAny_assign_Name (store_ok I hN hi hx r (fun s' I' => ⟨_, H, I', h⟩) hf)
noncomputable def gNil : TGs := fun vs σ H Q => vs = [] ∧ Q σ H
noncomputable def gCons (t : TG) (u : TGs) : TGs := fun vs σ H Q => ∃ v r, vs = v :: r ∧ t v σ H fun σ' H' => u r σ' H' Q
theorem pgs_nil : PGs X [] gNil := by
  intro pins s σ H vs us Q I r h
  obtain ⟨e, h⟩ := h
  subst e
  cases r
  exact assignInOrder_nil ⟨σ, H, I, h⟩
theorem pgs_cons {e : Expr} {es : List Expr} {t : TG} {u : TGs} (h1 : PG X e t) (h2 : PGs X es u)
    (hs : (assignEach (e :: es) X.env).map (·.2) = assign e X.env :: (assignEach es X.env).map (·.2) := by rfl) : PGs X (e :: es) (gCons t u) := by
  intro pins s σ H vs us Q I r h
  obtain ⟨v, vr, e1, h⟩ := h
  subst e1
  cases r with
  | cons r rr =>
    rw [hs]
    refine assignInOrder_cons (thn (h1 pins s σ H _ _ _ I r h) fun _ s1 ⟨σ1, H1, I1, q1⟩ => ?_)
    exact h2 pins s1 σ1 H1 _ _ Q I1 rr q1
noncomputable def gTup (K : PySem.W.Frag) (n : Nat) (t : TGs) : TG := fun v σ H Q => ∃ a xs, v = .ref a ∧ SqT K H a xs ∧ xs.length = n ∧ t xs σ H Q
theorem pg_tup {es : List Expr} {k : Nat} {t : TGs} {n : Nat} (hc : X.calm = true) (h : PGs X es t)
    (hn : (assignEach es X.env).length = n := by rfl) (hst : (assignEach es X.env).findIdx? (·.1) = none := by rfl) : PG X (.Tuple es k pos) (gTup X.K n t) := by
  intro pins s σ H v u Q I r hw
  obtain ⟨a, xs, e1, hq, hl, hw⟩ := hw
  subst e1
  cases r
  obtain ⟨its, rv, ht, hz⟩ := I.tuple hq
  refine assign_Tuple_tuple (I.ok.hd hc) ht (by simp [hn, ← hl, rv.length]) hst fun h' hx => ?_
  have I1 : Inv X pins σ H { s with heap := h' } := I.kept (t' := s.toks) fun b o e => hx b o (Nat.ne_of_lt (Heap.lt_size e)) e
  exact h pins _ σ H xs _ Q I1 (by simpa using rv) hw
noncomputable def tAsg (te : TE) (g : TG) : TS := fun D σ H => te σ H fun x H1 => g x σ H1 D.nx
theorem ps_asg {tg e : Expr} {te : TE} {g : TG} (he : PE X e te) (hg : PG X tg g) (hs : swapsWithSole [tg] e pos.line X.env = pure false := by rfl) (hw : swappedStores [tg] e X.env = pure none := by rfl)
    (h1 : (assignEach [tg] X.env).map (·.2) = [assign tg X.env] := by rfl) : PS X (.Assign [tg] e pos) (tAsg te g) := by
  intro pins s σ H D I h
  refine wpAny_Assign_stores (thn (he pins s σ H _ I h) fun v s1 ⟨x, H1, I1, r1, q1⟩ => ?_) hs hw
  rw [h1]
  exact thn (hg pins s1 σ H1 x v _ I1 r1 q1) fun _ s2 q => q
theorem ps_set {i : Nat} {x : Str} {e : Expr} {te : TE} {pos' : Pos} (hN : X.N.Nodup) (hi : X.N[i]? = some x) (hx : Loc X.env.scope x) (he : PE X e te) (hs : swapsWith e (some (.Name x pos')) pos.line X.env = pure false := by rfl) (hf : X.fn x = true ∨ X.env.scope.names.lookup x = some .local := by first | exact .inl rfl | exact .inr rfl | assumption) :
    PS X (.Assign [.Name x pos'] e pos) (tAsg te (gName i)) := by
  intro pins s σ H D I h
  refine wpAny_Assign_Name (thn (he pins s σ H _ I h) fun v s1 ⟨y, H1, I1, r1, q1⟩ => ?_) hs
  exact store_ok I1 hN hi hx r1 (fun s2 I2 => ⟨_, H1, I2, q1⟩) hf
noncomputable def tPar (i j : Nat) (ta : TA) : TS := fun D σ H => ta σ H fun vs H1 => ∃ v w, vs = [v, w] ∧ D.nx ((σ.set i (some v)).set j (some w)) H1
theorem ps_par {i j : Nat} {x y : Str} {a b : Expr} {ta : TA} {px py pt : Pos} {kt k2 pt2} (hc : X.calm = true) (hN : X.N.Nodup) (hi : X.N[i]? = some x) (hj : X.N[j]? = some y) (hij : i ≠ j)
    (hx : X.env.scope.names.lookup x = some .local) (hy : X.env.scope.names.lookup y = some .local) (ha : PA X [a, b] ta)
    (hw : swappedStores [.Tuple [.Name x px, .Name y py] kt pt] (.Tuple [a, b] k2 pt2) X.env = pure (some [x, y]))
    (hs : swapsWithSole [.Tuple [.Name x px, .Name y py] kt pt] (.Tuple [a, b] k2 pt2) pos.line X.env = pure false := by rfl) :
    PS X (.Assign [.Tuple [.Name x px, .Name y py] kt pt] (.Tuple [a, b] k2 pt2) pos) (tPar i j ta) := by
  intro pins s σ H D I h
  rw [exec_Assign_arm]
  refine wpAny_bind (wpAny_standAt ?_)
  rw [hs]
  refine wpAny_bind (wpAny_pure ?_)
  rw [if_neg (by decide)]
  refine wpAny_bind (Tuple_ (thn (ha _ pins s σ H _ I h) fun us s1 ⟨vs, H1, I1, r1, q1⟩ => ?_))
  obtain ⟨v, w, e1, q1⟩ := q1
  subst e1
  obtain ⟨u1, u2, rfl, rv, rw'⟩ : ∃ u1 u2, us = [u1, u2] ∧ RelV v u1 ∧ RelV w u2 := by
    cases r1 with
    | cons p q =>
      cases q with
      | cons p' q' =>
        cases q'
        exact ⟨_, _, rfl, p, p'⟩
  refine wpAny_newObj_type ?_ (by show 2 ≤ sizeLine; decide)
  have I2 : Inv X pins σ H1 { s1 with heap := s1.heap.push { cls := .type "tuple", data := .seq [u1, u2].toArray } } := I1.kept (t' := s1.toks) fun b o e => Heap.get?_push_of_some _ e
  rw [hw]
  refine wpAny_bind (wpAny_pure ?_)
  show wpAny (model X.prog X.w) X.A (do rule "assign.swapped-stores"; let items ← unpackItems (.ref s1.heap.objs.size) 2 none; assignInOrder [fun v => bindName X.env y v, fun v => bindName X.env x v] items.reverse; pure Flow.next) _ _ _
  refine wpAny_bind (wpAny_rule (wpAny_bind (unpackItems_tuple (items := #[u1, u2]) (I.ok.hd hc) (IsTup.new s1.heap _) fun h' hx' => ?_)))
  have I3 := I2.kept (h' := h') (t' := s1.toks) fun b o e => hx' b o (Nat.ne_of_lt (Heap.lt_size e)) e
  show wpAny _ _ (assignInOrder [fun v => bindName X.env y v, fun v => bindName X.env x v] [u2, u1] >>= fun _ => pure Flow.next) _ _ _
  refine wpAny_bind (assignInOrder_cons (wpAny_bindName (store_ok I3 hN hj (.inl hy) rw' (fun s2 I4 => ?_) (.inr hy))))
  refine assignInOrder_cons (wpAny_bindName (store_ok I4 hN hi (.inl hx) rv (fun s3 I5 => assignInOrder_nil (wpAny_pure ?_)) (.inr hx)))
  rw [List.set_comm _ _ (Ne.symm hij)] at I5
  exact ⟨_, H1, I5, q1⟩
end
section
variable {X : Cx} {pos : Pos}
noncomputable def tWhile (c : TT) (tb : TS) : TS := fun D σ H => ∃ W : Nat → St → Hp → Prop, (∃ m, W m σ H) ∧ ∀ m σ H, W m σ H →
  c σ H fun b H1 => if b = true then ∃ N : St → Hp → Prop, (∀ σ' H', N σ' H' → ∃ m', m' < m ∧ W m' σ' H') ∧ tb { D with nx := N, ct := N, bk := D.nx } σ H1 else D.nx σ H1
theorem ps_while {c : Expr} {body : List Stmt} {tc : TT} {tb : TS} (hp : PassesOwn (model X.prog X.w) X.A X.env X.xe) (hc : PT X c tc) (hb : PSs X body tb) : PS X (.While c body [] pos) (tWhile tc tb) := by
  intro pins s σ H D I h
  obtain ⟨W, ⟨m0, w0⟩, turn⟩ := h
  refine wpAny_While (codeAny_whileLoop (fun n s' => ∃ σ' H', Inv X pins σ' H' s' ∧ W n σ' H') ?_ m0 ⟨σ, H, I, w0⟩)
  rintro n s1 ⟨σ1, H1, I1, w1⟩
  refine wpAny_passesOwn hp (thn (hc pins s1 σ1 H1 _ I1 (turn n σ1 H1 w1)) fun b s2 ⟨H2, I2, q2⟩ => ?_)
  cases b with
  | true =>
    obtain ⟨N, hN, q2⟩ := q2
    rw [if_pos rfl]
    refine wpAny_passesOwn hp (thn (hb pins s2 σ1 H2 _ I2 q2) fun f s3 q3 => ?_)
    cases f with
    | next =>
      obtain ⟨σ3, H3, I3, n3⟩ := q3
      obtain ⟨m', hm, w3⟩ := hN σ3 H3 n3
      exact ⟨m', hm, σ3, H3, I3, w3⟩
    | cont =>
      obtain ⟨σ3, H3, I3, n3⟩ := q3
      obtain ⟨m', hm, w3⟩ := hN σ3 H3 n3
      exact ⟨m', hm, σ3, H3, I3, w3⟩
    | brk => exact q3
    | ret v => exact q3
  | false =>
    rw [if_neg Bool.false_ne_true]
    exact wpAny_execs_nil ⟨σ1, H2, I2, q2⟩
end
structure It where
  go : Nat → Hp → Prop
  yld : Nat → Hp → V → Hp → Prop
  stop : Nat → Hp → Prop
noncomputable def FpOk (X : Cx) (pins : List (Addr × Obj)) (H : Hp) (b : Addr) : Prop :=
  H b = none ∧ b ≠ X.env.locals ∧ b ∉ X.fs ∧ (b ∈ X.ex ∨ X.s₀.heap.objs.size ≤ b) ∧ (∀ x c, X.env.cells.lookup x = some c → c ≠ b) ∧ ∀ p ∈ X.pn ++ pins, p.1 ≠ b
theorem Inv.fpOk {X : Cx} {pins : List (Addr × Obj)} {σ : St} {H H' : Hp} {s : Shared} {b : Addr} (I : Inv X pins σ H s) (hb : s.heap.objs.size ≤ b) (hn : H' b = none) : FpOk X pins H' b := by
  refine ⟨hn, Nat.ne_of_gt (Nat.lt_of_lt_of_le I.lt hb), I.nofs hb, .inr (Nat.le_trans I.sz hb), fun x c e z => ?_, fun p hp z => ?_⟩
  · obtain ⟨v, q⟩ := I.cell x c e
    exact absurd (Nat.lt_of_lt_of_le q.lt (by rw [z]; exact hb)) (Nat.lt_irrefl _)
  · exact absurd (Nat.lt_of_lt_of_le (Heap.lt_size (I.pin p hp).1) (by rw [z]; exact hb)) (Nat.lt_irrefl _)
structure Turn (P : Program) (w : World) (K : PySem.W.Frag) (tg : Expr) (J : It) (fp : List Addr) (it : Addr) (tn : Nat → Heap → Prop) : Prop where
  mem : it ∈ fp
  obj : ∀ i h, tn i h → ∀ b ∈ fp, ∃ o, h.get? b = some o ∧ ∀ v, o.data ≠ .cell v
  keep : ∀ i h h', tn i h → (∀ b ∈ fp, ∀ o, h.get? b = some o → h'.get? b = some o) → tn i h'
  item : ∀ (X : Cx), X.prog = P → X.w = w → X.K = K → X.calm = true → ∀ (i : Nat) (pins : List (Addr × Obj)) (s : Shared) (σ : St) (H : Hp) (E : Value → Shared → Prop), Inv X pins σ H s → (∀ b ∈ fp, FpOk X pins H b) → tn i s.heap → J.go i H →
    wpAny (model P w) X.A (pyNext (.ref it)) (fun r s1 => ∃ u, r = some u ∧
      wpAny (model P w) X.A (letOwnedTupleGo tg (.ref it) u) (fun _ s2 => ∃ x H', Inv X pins σ H' s2 ∧ RelV x u ∧ J.yld i H x H' ∧ tn (i + 1) s2.heap ∧ ∀ b ∈ fp, H' b = none) E s1) E s
  done : ∀ (X : Cx), X.prog = P → X.w = w → X.K = K → X.calm = true → ∀ (i : Nat) (pins : List (Addr × Obj)) (s : Shared) (σ : St) (H : Hp) (E : Value → Shared → Prop), Inv X pins σ H s → (∀ b ∈ fp, FpOk X pins H b) → tn i s.heap → J.stop i H →
    wpAny (model P w) X.A (pyNext (.ref it)) (fun r s1 => r = none ∧ Inv X pins σ H s1) E s
  self : ∀ (A : Around) (i : Nat) (s : Shared) (Q : Value → Shared → Prop) (E : Value → Shared → Prop), tn i s.heap → Q (.ref it) s → wpAny (model P w) A (pyIter (.ref it)) Q E s
noncomputable abbrev TI := St → Hp → (It → Hp → Prop) → Prop
noncomputable def PIE (X : Cx) (pins : List (Addr × Obj)) (σ : St) (tg : Expr) (R : It → Hp → Prop) (itv : Value) (s2 : Shared) : Prop :=
  ∃ (it : Addr) (fp : List Addr) (tn : Nat → Heap → Prop) (J : It) (H' : Hp), itv = .ref it ∧ Inv X pins σ H' s2 ∧ Turn X.prog X.w X.K tg J fp it tn ∧ tn 0 s2.heap ∧ (∀ b ∈ fp, FpOk X pins H' b) ∧ R J H'
noncomputable def PI (X : Cx) (tg iter : Expr) (wi : TI) : Prop :=
  ∀ (pins : List (Addr × Obj)) (s : Shared) (σ : St) (H : Hp) (R : It → Hp → Prop), Inv X pins σ H s → wi σ H R →
    wpAny (model X.prog X.w) X.A (eval iter X.env) (fun v s1 => wpAny (model X.prog X.w) X.A (pyIter v) (PIE X pins σ tg R) X.xe s1) X.xe s
theorem go_of {M : Model} {A : Around} {E : Value → Shared → Prop} {s : Shared} {tg : Expr} {it : Addr} {u : Value} {o : Obj} {n : String} {vs : Array Value} {Q : Unit → Shared → Prop} (ho : s.heap.get? it = some o) (hc : o.cls = .type n) (hd : o.data = .fields vs)
    (hn : ["enumerate", "zip", "dict_itemiterator", "dict_reverseitemiterator", "odict_iterator", "itertools.zip_longest", "itertools.pairwise"].contains n = false) (hQ : Q () s) : wpAny M A (letOwnedTupleGo tg (.ref it) u) Q E s := by
  unfold letOwnedTupleGo
  cases tg <;> first
    | exact wpAny_pure hQ
    | (cases u <;> first
        | exact wpAny_pure hQ
        | (refine wpAny_bind (wpAny_load ho ?_)
           rw [hc, hd]
           show wpAny M A (if (["enumerate", "zip", "dict_itemiterator", "dict_reverseitemiterator", "odict_iterator", "itertools.zip_longest", "itertools.pairwise"].contains n && vs[0]? == some (rawInt _)) = true then _ else _) Q E s
           rw [if_neg (by intro h; rw [hn, Bool.false_and] at h; cases h)]
           exact wpAny_pure hQ))
noncomputable def Itl (K : PySem.W.Frag) (a : Addr) : It :=
  ⟨fun i H => ∃ xs x, SqL K H a xs ∧ xs[i]? = some x, fun i H x H' => H' = H ∧ ∀ xs, SqL K H a xs → xs[i]? = some x, fun i H => ∃ xs, SqL K H a xs ∧ xs.length ≤ i⟩
noncomputable def Itr (lo : Int) (n : Nat) : It := ⟨fun i _ => i < n, fun i H x H' => H' = H ∧ x = .int (lo + i), fun i _ => n ≤ i⟩
theorem turn_list {P : Program} {w : World} {K : PySem.W.Frag} {tg : Expr} (a it : Addr) : Turn P w K tg (Itl K a) [it] it (fun i h => h.IsListIter it a i) where
  mem := by simp
  obj := fun i h st b hb => by
    have e : b = it := by simpa using hb
    subst e
    obtain ⟨o, e, c, d⟩ := st
    exact ⟨o, e, fun v z => by rw [d] at z; cases z⟩
  keep := fun i h h' st k => st.at fun o e => k it (by simp) o e
  item := by
    intro X hP hw hK hc i pins s σ H E I hf st hg
    subst hP hw hK
    obtain ⟨xs, x, hq, hx⟩ := hg
    obtain ⟨its, rv, p, hz⟩ := I.list hq
    obtain ⟨u, hu, ru⟩ := rv.get hx
    obtain ⟨f0, f1, f2, f3, f4, f5⟩ := hf it (by simp)
    refine wpAny_pyNext_list_item st p.isList (x := u) (by simpa using hu) fun h' st' sb => ?_
    have I1 : Inv X pins σ H { s with heap := h' } := I.turned (t' := s.toks) (fun b o hb e => (sb.2 b hb).trans e) f0 f1 f3 f4 f5
    obtain ⟨o, e, c, d⟩ := id st'
    exact ⟨u, rfl, go_of (s := { s with heap := h' }) e c d (by decide) ⟨x, H, I1, ru, ⟨rfl, fun ys hy => by rw [I.list_inj hy hq]; exact hx⟩, st', fun b hb => (hf b hb).1⟩⟩
  done := by
    intro X hP hw hK hc i pins s σ H E I hf st hg
    subst hP hw hK
    obtain ⟨xs, hq, hx⟩ := hg
    obtain ⟨its, rv, p, hz⟩ := I.list hq
    obtain ⟨f0, f1, f2, f3, f4, f5⟩ := hf it (by simp)
    have hl := rv.length
    exact wpAny_pyNext_list_end (I.ok.hd hc) st p.isList (by simp; omega) fun h' eb => ⟨rfl, I.turned (t' := s.toks) (fun b o hb e => eb b o hb e) f0 f1 f3 f4 f5⟩
  self := fun _ _ _ _ _ st h => wpAny_pyIter_listiter st h
theorem turn_range {P : Program} {w : World} {K : PySem.W.Frag} {tg : Expr} (it : Addr) (lo : Int) (n : Nat) : Turn P w K tg (Itr lo n) [it] it (fun i h => IsRangeIter h it (lo + (i : Nat) * 1) ((n : Int) - (i : Nat)) 1) where
  mem := by simp
  obj := fun i h st b hb => by
    have e : b = it := by simpa using hb
    subst e
    exact ⟨_, st, fun v z => by
      have z' : Data.fields _ = Data.cell v := z
      cases z'⟩
  keep := fun i h h' st k => k it (by simp) _ st
  item := by
    intro X hP hw hK hc i pins s σ H E I hf st hg
    subst hP hw hK
    obtain ⟨f0, f1, f2, f3, f4, f5⟩ := hf it (by simp)
    have W := Walks.range (prog := X.prog) (w := X.w) (I.ok.hd hc) it lo 1 n
    refine W.item i s _ _ hg st fun v h' tk hv st' kk => ?_
    obtain ⟨t, rfl⟩ := hv
    have I1 : Inv X pins σ H { s with heap := h', toks := tk } := I.turned (fun b o hb e => kk b o (by simpa using hb) e) f0 f1 f3 f4 f5
    refine ⟨_, rfl, go_of (s := { s with heap := h', toks := tk }) (n := "range_iterator") st' rfl rfl (by decide) ⟨.int (lo + i), H, I1, ⟨t, ?_⟩, ⟨rfl, rfl⟩, st', fun b hb => (hf b hb).1⟩⟩
    rw [Int.mul_one]
  done := by
    intro X hP hw hK hc i pins s σ H E I hf st hg
    subst hP hw hK
    obtain ⟨f0, f1, f2, f3, f4, f5⟩ := hf it (by simp)
    exact wpAny_pyNext_range_end (I.ok.hd hc) st (by have : n ≤ i := hg; omega) fun h' eb => ⟨rfl, I.turned (t' := s.toks) (fun b o hb e => eb b o hb e) f0 f1 f3 f4 f5⟩
  self := fun _ _ _ _ _ st h => wpAny_pyIter_rangeiter st h
end L2
namespace L2
open PySem PySem.Spec PyProof.Rows
section
variable {X : Cx} {tg : Expr}
noncomputable def iList (K : PySem.W.Frag) (tl : TE) : TI := fun σ H R => tl σ H fun x H1 => ∃ a, x = .ref a ∧ (∃ xs, SqL K H1 a xs) ∧ R (Itl K a) H1
theorem pi_list {l : Expr} {tl : TE} (hl : PE X l tl) : PI X tg l (iList X.K tl) := by
  intro pins s σ H R I h
  refine thn (hl pins s σ H _ I h) fun v s1 ⟨x, H1, I1, r1, q1⟩ => ?_
  obtain ⟨a, e, ⟨xs, hq⟩, q⟩ := q1
  subst e
  cases r1
  obtain ⟨its, rv, p, hz⟩ := I1.list hq
  refine wpAny_pyIter_list p.isList ?_
  refine ⟨s1.heap.objs.size, [s1.heap.objs.size], _, _, H1, rfl, I1.kept (t' := s1.toks) fun b o e => Heap.get?_push_of_some _ e, turn_list a _, ⟨_, Heap.get?_push_size _ rfl, rfl, rfl⟩, fun b hb => ?_, q⟩
  have e : b = s1.heap.objs.size := by simpa using hb
  subst e
  exact I1.fpOk (Nat.le_refl _) (I1.hok.fresh (Nat.le_refl _))
theorem range_it {pins : List (Addr × Obj)} {σ : St} {H : Hp} {s : Shared} {R : It → Hp → Prop} {E : Value → Shared → Prop} {lo hi : Int} {t u v : Tok} {tk : Nat} (I : Inv X pins σ H s) (h1 : -(2 ^ 62) ≤ lo) (h2 : lo < 2 ^ 62) (h3 : -(2 ^ 62) ≤ hi) (h4 : hi < 2 ^ 62)
    (q : R (Itr lo (hi - lo).toNat) H) : wpAny (model X.prog X.w) X.A (pyIter (.ref s.heap.objs.size)) (PIE X pins σ tg R) E { s with heap := s.heap.push { cls := .type "range", data := .fields #[.int lo t, .int hi u, .int 1 v] }, toks := tk } := by
  refine wpAny_pyIter_range (IsRange.new ..) (small_one h1 h2 h3 h4) ?_
  have I1 : Inv X pins σ H { s with heap := s.heap.push { cls := .type "range", data := .fields #[.int lo t, .int hi u, .int 1 v] }, toks := tk } := I.kept fun b o e => Heap.get?_push_of_some _ e
  refine ⟨(s.heap.push { cls := .type "range", data := .fields #[.int lo t, .int hi u, .int 1 v] }).objs.size, [(s.heap.push { cls := .type "range", data := .fields #[.int lo t, .int hi u, .int 1 v] }).objs.size], _, _, H, rfl,
    I1.kept (t' := tk) fun b o e => Heap.get?_push_of_some _ e, turn_range _ lo (hi - lo).toNat, ?_, fun b hb => ?_, q⟩
  · have e1 : lo + ((0 : Nat) : Int) * 1 = lo := by simp
    have e2 : (((hi - lo).toNat : Nat) : Int) - ((0 : Nat) : Int) = Builtin.Range.rangeSize lo hi 1 := by rw [rangeSize_one]; split <;> omega
    show IsRangeIter _ _ (lo + ((0 : Nat) : Int) * 1) ((((hi - lo).toNat : Nat) : Int) - ((0 : Nat) : Int)) 1
    rw [e1, e2]
    exact Heap.get?_push_size _ rfl
  · have e : b = (s.heap.push { cls := .type "range", data := .fields #[.int lo t, .int hi u, .int 1 v] }).objs.size := by simpa using hb
    subst e
    exact I1.fpOk (Nat.le_refl _) (I1.hok.fresh (Nat.le_refl _))
noncomputable def iRng1 (ta : TA) : TI := fun σ H R => ta σ H fun vs H1 => ∃ j : Int, vs = [.int j] ∧ -(2 ^ 62) ≤ j ∧ j < 2 ^ 62 ∧ R (Itr 0 j.toNat) H1
noncomputable def iRng2 (ta : TA) : TI := fun σ H R => ta σ H fun vs H1 => ∃ i j : Int, vs = [.int i, .int j] ∧ (-(2 ^ 62) ≤ i ∧ i < 2 ^ 62 ∧ -(2 ^ 62) ≤ j ∧ j < 2 ^ 62) ∧ R (Itr i (j - i).toNat) H1
theorem pi_range1 {a : Expr} {ta : TA} {p pos : Pos} (hg : Gl X "range") (hm : X.mg "range" = none) (ha : PA X [a] ta) (hs : starEach [a] X.env = [(false, eval a X.env)] := by rfl) : PI X tg (.Call (.Name "range" p) [a] [] pos) (iRng1 ta) := by
  intro pins s σ H R I h
  refine Call_ (ld_blt I hg hm boot_range (PyProof.Rows.callWith_type1 (thn (ha pos pins s σ H _ I h) fun us s1 ⟨vs, H1, I1, r1, q1⟩ => ?_) hs rfl))
  obtain ⟨j, e, q1, q2, q⟩ := q1
  subst e
  cases r1 with
  | cons r rr =>
    cases rr
    obtain ⟨t, rfl⟩ := r
    exact call_range_1 (range_it I1 (by omega) (by omega) q1 q2 (by simpa using q))
theorem pi_range2 {a b : Expr} {ta : TA} {p pos : Pos} (hg : Gl X "range") (hm : X.mg "range" = none) (ha : PA X [a, b] ta) (hs : starEach [a, b] X.env = [(false, eval a X.env), (false, eval b X.env)] := by rfl) (hs2 : starEach [b] X.env = [(false, eval b X.env)] := by rfl) :
    PI X tg (.Call (.Name "range" p) [a, b] [] pos) (iRng2 ta) := by
  intro pins s σ H R I h
  refine Call_ (ld_blt I hg hm boot_range (PyProof.Rows.callWith_type1 (thn (ha pos pins s σ H _ I h) fun us s1 ⟨vs, H1, I1, r1, q1⟩ => ?_) (by rw [hs, hs2]) (by rw [hs2]; rfl)))
  obtain ⟨i, j, e, ⟨q1, q2, q3, q4⟩, q⟩ := q1
  subst e
  cases r1 with
  | cons r rr =>
    cases rr with
    | cons r' rr =>
      cases rr
      obtain ⟨t, rfl⟩ := r
      obtain ⟨t', rfl⟩ := r'
      exact call_range_2 (range_it I1 q1 q2 q3 q4 q)
noncomputable def tFor (wi : TI) (g : TG) (tb : TS) : TS := fun D σ H => wi σ H fun J H1 => ∃ W : Nat → Nat → St → Hp → Prop, (∃ m, W 0 m σ H1) ∧ ∀ i m σ H, W i m σ H →
  (J.stop i H ∧ D.nx σ H) ∨ (J.go i H ∧ ∃ N : St → Hp → Prop, (∀ σ' H', N σ' H' → ∃ m', m' < m ∧ W (i + 1) m' σ' H') ∧ ∀ x H', J.yld i H x H' → g x σ H' fun σ2 H2 => tb { D with nx := N, ct := N, bk := D.nx } σ2 H2)
noncomputable def pinsAt (fp : List Addr) (h : Heap) : List (Addr × Obj) := fp.filterMap fun b => (h.get? b).map fun o => (b, o)
theorem mem_pinsAt {fp : List Addr} {h : Heap} {b : Addr} {o : Obj} (hb : b ∈ fp) (e : h.get? b = some o) : (b, o) ∈ pinsAt fp h := List.mem_filterMap.mpr ⟨b, hb, by rw [e]; rfl⟩
theorem of_pinsAt {fp : List Addr} {h : Heap} {p : Addr × Obj} (hp : p ∈ pinsAt fp h) : p.1 ∈ fp ∧ h.get? p.1 = some p.2 := by
  obtain ⟨b, hb, e⟩ := List.mem_filterMap.mp hp
  cases q : h.get? b with
  | none => rw [q] at e; cases e
  | some o =>
    rw [q] at e
    have e' : (b, o) = p := Option.some.inj e
    subst e'
    exact ⟨hb, q⟩
theorem Inv.pinned {pins : List (Addr × Obj)} {σ : St} {H : Hp} {s : Shared} {fp : List Addr} (I : Inv X pins σ H s) (hf : ∀ b ∈ fp, FpOk X pins H b) (ho : ∀ b ∈ fp, ∃ o, s.heap.get? b = some o ∧ ∀ v, o.data ≠ .cell v) : Inv X (pins ++ pinsAt fp s.heap) σ H s :=
  I.pins_of fun p hp => (List.mem_append.mp hp).elim (fun z => I.pin p (List.mem_append_right _ z)) fun z => by
    obtain ⟨hb, e⟩ := of_pinsAt z
    obtain ⟨f0, f1, f2, _⟩ := hf p.1 hb
    obtain ⟨o, e', d⟩ := ho p.1 hb
    rw [e] at e'; cases e'
    exact ⟨e, f0, f1, f2, d⟩
theorem Inv.unpinned {pins pl : List (Addr × Obj)} {σ : St} {H : Hp} {s : Shared} (I : Inv X (pins ++ pl) σ H s) : Inv X pins σ H s := I.pins_of fun p hp => I.pin p (List.mem_append_right _ (List.mem_append_left _ hp))
theorem ps_for {iter : Expr} {body : List Stmt} {wi : TI} {g : TG} {tb : TS} {pos : Pos} (hp : PassesOwn (model X.prog X.w) X.A X.env X.xe) (hc : X.calm = true) (hi : PI X tg iter wi) (hg : PG X tg g) (hb : PSs X body tb)
    (hs : ∀ x, foldedSetIterable iter X.env x = pure x := by intro _; rfl) : PS X (.For tg iter body [] pos) (tFor wi g tb) := by
  intro pins s σ H D I h
  refine wpAny_For (thn (hi pins s σ H _ I h) fun v s1 h1 => thn h1 fun itv s2 h2 => ?_) hs
  obtain ⟨it, fp, tn, J, H2, e, I2, T, st2, f2, W, ⟨m0, w0⟩, turn⟩ := h2
  subst e
  have stat : ∀ {H' : Hp}, (∀ b ∈ fp, H' b = none) → ∀ b ∈ fp, FpOk X pins H' b := fun hn b hb => ⟨hn b hb, (f2 b hb).2⟩
  refine codeAny_forLoop_any (fun n s' => ∃ i σ' H', Inv X pins σ' H' s' ∧ tn i s'.heap ∧ (∀ b ∈ fp, H' b = none) ∧ W i n σ' H') ?_ m0 ⟨0, σ, H2, I2, st2, fun b hb => (f2 b hb).1, w0⟩
  rintro n s3 ⟨i, σ3, H3, I3, st3, fr3, w3⟩
  rcases turn i n σ3 H3 w3 with ⟨stop, qn⟩ | ⟨go, N, hN, step⟩
  · refine wpAny_passesOwn hp (thn (T.done X rfl rfl rfl hc i pins s3 σ3 H3 X.xe I3 (stat fr3) st3 stop) fun r s4 ⟨hr, I4⟩ => ?_)
    subst hr
    exact wpAny_execs_nil ⟨σ3, H3, I4, qn⟩
  · refine wpAny_passesOwn hp (thn (T.item X rfl rfl rfl hc i pins s3 σ3 H3 X.xe I3 (stat fr3) st3 go) fun r s4 ⟨u, hr, h4⟩ => ?_)
    subst hr
    refine wpAny_passesOwn hp (thn h4 fun _ s5 ⟨x, H5, I5, r5, y5, st5, fr5⟩ => ?_)
    have I5' := I5.pinned (stat fr5) (T.obj _ _ st5)
    refine wpAny_passesOwn hp (thn (hg _ s5 σ3 H5 x u _ I5' r5 (step x H5 y5)) fun _ s6 ⟨σ6, H6, I6, q6⟩ => ?_)
    refine wpAny_passesOwn hp (thn (hb _ s6 σ6 H6 _ I6 q6) fun f s7 q7 => ?_)
    have again : ∀ {σ7 : St} {H7 : Hp}, Inv X (pins ++ pinsAt fp s5.heap) σ7 H7 s7 → N σ7 H7 → ∃ m, m < n ∧ ∃ i σ' H', Inv X pins σ' H' s7 ∧ tn i s7.heap ∧ (∀ b ∈ fp, H' b = none) ∧ W i m σ' H' := fun {σ7 H7} I7 n7 => by
      obtain ⟨m', hm, w7⟩ := hN σ7 H7 n7
      refine ⟨m', hm, i + 1, σ7, H7, I7.unpinned, T.keep _ _ _ st5 fun b hb o e => (I7.pin (b, o) (List.mem_append_right _ (List.mem_append_right _ (mem_pinsAt hb e)))).1, fun b hb => ?_, w7⟩
      obtain ⟨o, e, d⟩ := T.obj _ _ st5 b hb
      exact (I7.pin (b, o) (List.mem_append_right _ (List.mem_append_right _ (mem_pinsAt hb e)))).2.1
    cases f with
    | next => obtain ⟨σ7, H7, I7, n7⟩ := q7; exact again I7 n7
    | cont => obtain ⟨σ7, H7, I7, n7⟩ := q7; exact again I7 n7
    | brk => obtain ⟨σ7, H7, I7, q7⟩ := q7; exact ⟨σ7, H7, I7.unpinned, q7⟩
    | ret v => obtain ⟨x7, σ7, H7, I7, r7, q7⟩ := q7; exact ⟨x7, σ7, H7, I7.unpinned, r7, q7⟩
end
theorem for_list {K : PySem.W.Frag} {a : Addr} {xs : List V} {g : TG} {tb : TS} {D : Ends} {σ : St} {H : Hp} (Pv : Nat → St → Hp → Prop) (h0 : Pv 0 σ H) (hl : ∀ i σ H, i ≤ xs.length → Pv i σ H → SqL K H a xs)
    (hs : ∀ i x σ H, xs[i]? = some x → Pv i σ H → g x σ H fun σ2 H2 => tb { D with nx := Pv (i + 1), ct := Pv (i + 1), bk := D.nx } σ2 H2) (hd : ∀ σ H, Pv xs.length σ H → D.nx σ H) :
    ∃ W : Nat → Nat → St → Hp → Prop, (∃ m, W 0 m σ H) ∧ ∀ i m σ H, W i m σ H →
      ((Itl K a).stop i H ∧ D.nx σ H) ∨ ((Itl K a).go i H ∧ ∃ N : St → Hp → Prop, (∀ σ' H', N σ' H' → ∃ m', m' < m ∧ W (i + 1) m' σ' H') ∧ ∀ x H', (Itl K a).yld i H x H' → g x σ H' fun σ2 H2 => tb { D with nx := N, ct := N, bk := D.nx } σ2 H2) := by
  refine ⟨fun i m σ H => m = xs.length - i ∧ i ≤ xs.length ∧ Pv i σ H, ⟨xs.length, by simp, Nat.zero_le _, h0⟩, ?_⟩
  rintro i m σ H ⟨rfl, hi, p⟩
  have q := hl i σ H hi p
  by_cases hlt : i < xs.length
  · refine .inr ⟨⟨xs, xs[i], q, by simp [hlt]⟩, Pv (i + 1), fun σ' H' p' => ⟨xs.length - (i + 1), by omega, rfl, hlt, p'⟩, fun x H' y => ?_⟩
    obtain ⟨e, y⟩ := y
    subst e
    exact hs i x σ _ (y xs q) p
  · have e : i = xs.length := by omega
    subst e
    exact .inl ⟨⟨xs, q, Nat.le_refl _⟩, hd σ H p⟩
theorem for_range {lo : Int} {n : Nat} {g : TG} {tb : TS} {D : Ends} {σ : St} {H : Hp} (Pv : Nat → St → Hp → Prop) (h0 : Pv 0 σ H)
    (hs : ∀ i σ H, i < n → Pv i σ H → g (.int (lo + i)) σ H fun σ2 H2 => tb { D with nx := Pv (i + 1), ct := Pv (i + 1), bk := D.nx } σ2 H2) (hd : ∀ σ H, Pv n σ H → D.nx σ H) :
    ∃ W : Nat → Nat → St → Hp → Prop, (∃ m, W 0 m σ H) ∧ ∀ i m σ H, W i m σ H →
      ((Itr lo n).stop i H ∧ D.nx σ H) ∨ ((Itr lo n).go i H ∧ ∃ N : St → Hp → Prop, (∀ σ' H', N σ' H' → ∃ m', m' < m ∧ W (i + 1) m' σ' H') ∧ ∀ x H', (Itr lo n).yld i H x H' → g x σ H' fun σ2 H2 => tb { D with nx := N, ct := N, bk := D.nx } σ2 H2) := by
  refine ⟨fun i m σ H => m = n - i ∧ i ≤ n ∧ Pv i σ H, ⟨n, by simp, Nat.zero_le _, h0⟩, ?_⟩
  rintro i m σ H ⟨rfl, hi, p⟩
  by_cases hlt : i < n
  · refine .inr ⟨hlt, Pv (i + 1), fun σ' H' p' => ⟨n - (i + 1), by omega, rfl, hlt, p'⟩, fun x H' y => ?_⟩
    obtain ⟨e, y⟩ := y
    subst e y
    exact hs i σ _ hlt p
  · have e : i = n := by omega
    subst e
    exact .inl ⟨Nat.le_refl _, hd σ H p⟩
theorem while_by {c : TT} {tb : TS} {D : Ends} {σ : St} {H : Hp} (Pv : St → Hp → Prop) (μ : St → Hp → Nat) (h0 : Pv σ H)
    (hs : ∀ σ H, Pv σ H → c σ H fun b H1 => if b = true then tb { D with nx := fun σ' H' => Pv σ' H' ∧ μ σ' H' < μ σ H, ct := fun σ' H' => Pv σ' H' ∧ μ σ' H' < μ σ H, bk := D.nx } σ H1 else D.nx σ H1)
    (mono : ∀ σ H Q Q', (∀ b H1, Q b H1 → Q' b H1) → c σ H Q → c σ H Q') : tWhile c tb D σ H := by
  refine ⟨fun m σ H => m = μ σ H ∧ Pv σ H, ⟨_, rfl, h0⟩, ?_⟩
  rintro m σ H ⟨rfl, p⟩
  refine mono σ H _ _ (fun b H1 q => ?_) (hs σ H p)
  cases b with
  | true => exact ⟨_, fun σ' H' ⟨p', l⟩ => ⟨_, l, rfl, p'⟩, q⟩
  | false => exact q
end L2
namespace L2
open PySem PySem.Spec PyProof.Rows
noncomputable abbrev R2 := V → V → Hp → VK → Prop
noncomputable def OpR (X : Cx) (f : Value → Value → Sem Value) (r : R2) : Prop :=
  ∀ (pins : List (Addr × Obj)) (s : Shared) (σ : St) (H : Hp) (x y : V) (v u : Value) (Q : VK), Inv X pins σ H s → RelV x v → RelV y u → r x y H Q →
    wpAny (model X.prog X.w) X.A (f v u) (EP X pins σ Q) X.xe s
noncomputable def CallR (X : Cx) (f : Value) (r : List V → Hp → VK → Prop) : Prop :=
  ∀ (pins : List (Addr × Obj)) (s : Shared) (σ : St) (H : Hp) (xs : List V) (us : List Value) (Q : VK), Inv X pins σ H s → Vals xs us → r xs H Q →
    wpAny (model X.prog X.w) X.A (call f us) (EP X pins σ Q) X.xe s
noncomputable def tOp (r : R2) (ta tb : TE) : TE := fun σ H Q => ta σ H fun x H1 => tb σ H1 fun y H2 => r x y H2 Q
noncomputable def rI (C : Int → Int → Prop) (g : Int → Int → V) : R2 := fun x y H Q => ∃ i j, x = .int i ∧ y = .int j ∧ C i j ∧ Q (g i j) H
noncomputable def rI0 (g : Int → Int → V) : R2 := fun x y H Q => ∃ i j, x = .int i ∧ y = .int j ∧ Q (g i j) H
section
variable {X : Cx} {a b c : Expr} {ta tb tc : TE} {pos : Pos}
theorem binT (ha : PE X a ta) (hb : PE X b tb) {pins : List (Addr × Obj)} {s : Shared} {σ : St} {H : Hp} {R : V → V → Hp → Prop} (I : Inv X pins σ H s)
    (h : ta σ H fun x H1 => tb σ H1 fun y H2 => R x y H2) {Q : Value → Shared → Prop} {f : Value → Value → Sem Value}
    (hf : ∀ v u s2 x y H2, Inv X pins σ H2 s2 → RelV x v → RelV y u → R x y H2 → wpAny (model X.prog X.w) X.A (f v u) Q X.xe s2) :
    wpAny (model X.prog X.w) X.A (eval a X.env) (fun v s₁ => wpAny (model X.prog X.w) X.A (eval b X.env) (fun u s₂ => wpAny (model X.prog X.w) X.A (f v u) Q X.xe s₂) X.xe s₁) X.xe s := by
  refine thn (ha pins s σ H _ I h) fun v s1 ⟨x, H1, I1, r1, q1⟩ => ?_
  refine thn (hb pins s1 σ H1 _ I1 q1) fun u s2 ⟨y, H2, I2, r2, q2⟩ => ?_
  exact hf v u s2 x y H2 I2 r1 r2 q2
theorem pe_op {op : Operator} {r : R2} (ho : OpR X (binaryOp op) r) (ha : PE X a ta) (hb : PE X b tb) : PE X (.BinOp a op b pos) (tOp r ta tb) := by
  intro pins s σ H Q I h
  exact wpAny_BinOp (binT ha hb I h fun v u s2 x y H2 I2 rx ry q => ho pins s2 σ H2 x y v u Q I2 rx ry q)
theorem opI {f : Value → Value → Sem Value} {C : Int → Int → Prop} {g : Int → Int → Int}
    (rule : ∀ (i j : Int) (t u : Tok) (s : Shared) (Q : Value → Shared → Prop) (E : Value → Shared → Prop), C i j → Q (.int (g i j) s.toks) { s with toks := s.toks + 1 } → wpAny (model X.prog X.w) X.A (f (.int i t) (.int j u)) Q E s) :
    OpR X f (rI C fun i j => .int (g i j)) := by
  intro pins s σ H x y v u Q I rx ry h
  obtain ⟨i, j, rfl, rfl, hc, q⟩ := h
  obtain ⟨t, rfl⟩ := rx
  obtain ⟨t', rfl⟩ := ry
  exact rule i j t t' s _ _ hc ⟨.int (g i j), H, I.tok _, ⟨_, rfl⟩, q⟩
theorem opI0 {f : Value → Value → Sem Value} {g : Int → Int → Int}
    (rule : ∀ (i j : Int) (t u : Tok) (s : Shared) (Q : Value → Shared → Prop) (E : Value → Shared → Prop), Q (.int (g i j) s.toks) { s with toks := s.toks + 1 } → wpAny (model X.prog X.w) X.A (f (.int i t) (.int j u)) Q E s) :
    OpR X f (rI0 fun i j => .int (g i j)) := by
  intro pins s σ H x y v u Q I rx ry h
  obtain ⟨i, j, rfl, rfl, q⟩ := h
  obtain ⟨t, rfl⟩ := rx
  obtain ⟨t', rfl⟩ := ry
  exact rule i j t t' s _ _ ⟨.int (g i j), H, I.tok _, ⟨_, rfl⟩, q⟩
theorem opB0 {f : Value → Value → Sem Value} {g : Int → Int → Bool}
    (rule : ∀ (i j : Int) (t u : Tok) (s : Shared) (Q : Value → Shared → Prop) (E : Value → Shared → Prop), Q (.bool (g i j)) s → wpAny (model X.prog X.w) X.A (f (.int i t) (.int j u)) Q E s) :
    OpR X f (rI0 fun i j => .bl (g i j)) := by
  intro pins s σ H x y v u Q I rx ry h
  obtain ⟨i, j, rfl, rfl, q⟩ := h
  obtain ⟨t, rfl⟩ := rx
  obtain ⟨t', rfl⟩ := ry
  exact rule i j t t' s _ _ ⟨.bl (g i j), H, I, rfl, q⟩
noncomputable def CPow (i j : Int) : Prop := 0 ≤ j ∧ j ≤ 1000000 ∧ i.natAbs < 2 ^ 64
noncomputable def CMul (i j : Int) : Prop := (-(2 ^ 64) < i ∧ i < 2 ^ 64) ∨ (-(2 ^ 64) < j ∧ j < 2 ^ 64)
theorem CMul.ok {i j : Int} (h : CMul i j) : IntMulOk i j := by
  rcases h with ⟨h1, h2⟩ | ⟨h1, h2⟩
  · exact .of_left (intBits_le_64 h1 h2)
  · exact .of_right (intBits_le_64 h1 h2)
theorem op_add : OpR X (binaryOp .Add) (rI0 fun i j => .int (i + j)) := opI0 fun _ _ _ _ _ _ _ q => add_int q
theorem op_sub : OpR X (binaryOp .Sub) (rI0 fun i j => .int (i - j)) := opI0 fun _ _ _ _ _ _ _ q => sub_int q
theorem op_mod : OpR X (binaryOp .Mod) (rI (fun _ j => 0 < j) fun i j => .int (i % j)) := opI fun i j _ _ _ _ _ hc q => by
  have h1 : (0 : Int) < j := hc
  exact mod_int' (by omega) (by rw [Int.fmod_eq_emod_of_nonneg i (by omega)]; exact q)
theorem op_pow : OpR X (binaryOp .Pow) (rI CPow fun i j => .int (i ^ j.toNat)) := opI fun _ _ _ _ _ _ _ hc q => pow_int_small hc.1 hc.2.1 hc.2.2 q
end
noncomputable def scal : V → V → Bool
  | .non, .non => true | .non, .int _ => true | .int _, .non => true | .non, .bl _ => true | .bl _, .non => true | .non, .str _ => true | .str _, .non => true
  | .int _, .int _ => true | .bl _, .bl _ => true | .str _, .str _ => true | .byt _, .byt _ => true
  | .int _, .str _ => true | .str _, .int _ => true | .bl _, .str _ => true | .str _, .bl _ => true
  | _, _ => false
noncomputable def rEq : R2 := fun x y H Q => scal x y = true ∧ Q (.bl (decide (x = y))) H
noncomputable def rNe : R2 := fun x y H Q => scal x y = true ∧ Q (.bl (!decide (x = y))) H
theorem dec_int {i j : Int} : decide (V.int i = V.int j) = (i == j) := by
  rw [Bool.eq_iff_iff]
  simp
theorem dec_bl {i j : Bool} : decide (V.bl i = V.bl j) = (i == j) := by
  rw [Bool.eq_iff_iff]
  simp
theorem dec_str {i j : Str} : decide (V.str i = V.str j) = (i == j) := by
  rw [Bool.eq_iff_iff]
  simp
theorem dec_byt {i j : Array UInt8} : decide (V.byt i = V.byt j) = (i.toList == j.toList) := by
  rw [Bool.eq_iff_iff]
  cases i
  cases j
  simp
section
variable {X : Cx} {a b c : Expr} {ta tb tc : TE} {pos : Pos}
theorem fin_bl {pins : List (Addr × Obj)} {σ : St} {H : Hp} {s : Shared} {Q : VK} {k k' : Bool} (I : Inv X pins σ H s) (q : Q (.bl k) H) (e : k = k') : EP X pins σ Q (.bool k') s := by
  subst e
  exact ⟨.bl k, H, I, rfl, q⟩
theorem op_eq : OpR X (compareOp .Eq) rEq := by
  intro pins s σ H x y v u Q I rx ry h
  obtain ⟨hs, q⟩ := h
  cases x with
  | non =>
    cases rx
    cases y with
    | non => cases ry; exact PySem.EqNone.eq_none_none (fin_bl I q (by simp))
    | bl j => cases ry; exact PySem.EqNone.eq_none_bool (fin_bl I q (by simp))
    | int j => obtain ⟨t', rfl⟩ := ry; exact PySem.EqNone.eq_none_int (fin_bl I q (by simp))
    | str j => obtain ⟨t', rfl⟩ := ry; exact PySem.EqNone.eq_none_str (fin_bl I q (by simp))
    | _ => exact absurd (show false = true from hs) Bool.false_ne_true
  | bl i =>
    cases rx
    cases y with
    | non => cases ry; exact PySem.EqNone.eq_bool_none (fin_bl I q (by simp))
    | bl j => cases ry; exact eq_bool (fin_bl I q dec_bl)
    | str j => obtain ⟨t', rfl⟩ := ry; exact PySem.EqMixed.eq_bool_str (fin_bl I q (by simp))
    | _ => exact absurd (show false = true from hs) Bool.false_ne_true
  | int i =>
    obtain ⟨t, rfl⟩ := rx
    cases y with
    | non => cases ry; exact PySem.EqNone.eq_int_none (fin_bl I q (by simp))
    | int j => obtain ⟨t', rfl⟩ := ry; exact eq_int (fin_bl I q dec_int)
    | str j => obtain ⟨t', rfl⟩ := ry; exact PySem.EqMixed.eq_int_str (fin_bl I q (by simp))
    | _ => exact absurd (show false = true from hs) Bool.false_ne_true
  | str i =>
    obtain ⟨t, rfl⟩ := rx
    cases y with
    | non => cases ry; exact PySem.EqNone.eq_str_none (fin_bl I q (by simp))
    | bl j => cases ry; exact PySem.EqMixed.eq_str_bool (fin_bl I q (by simp))
    | int j => obtain ⟨t', rfl⟩ := ry; exact PySem.EqMixed.eq_str_int (fin_bl I q (by simp))
    | str j => obtain ⟨t', rfl⟩ := ry; exact eq_str (fin_bl I q dec_str)
    | _ => exact absurd (show false = true from hs) Bool.false_ne_true
  | byt i =>
    obtain ⟨t, rfl⟩ := rx
    cases y with
    | byt j => obtain ⟨t', rfl⟩ := ry; exact PySem.W.eq_bytes (fin_bl I q dec_byt)
    | _ => exact absurd (show false = true from hs) Bool.false_ne_true
  | _ => cases y <;> exact absurd (show false = true from hs) Bool.false_ne_true
theorem op_ne : OpR X (compareOp .NotEq) rNe := by
  intro pins s σ H x y v u Q I rx ry h
  obtain ⟨hs, q⟩ := h
  cases x with
  | non =>
    cases rx
    cases y with
    | non => cases ry; exact PySem.EqNone.ne_none_none (fin_bl I q (by simp))
    | bl j => cases ry; exact PySem.EqNone.ne_none_bool (fin_bl I q (by simp))
    | int j => obtain ⟨t', rfl⟩ := ry; exact PySem.EqNone.ne_none_int (fin_bl I q (by simp))
    | str j => obtain ⟨t', rfl⟩ := ry; exact PySem.EqNone.ne_none_str (fin_bl I q (by simp))
    | _ => exact absurd (show false = true from hs) Bool.false_ne_true
  | bl i =>
    cases rx
    cases y with
    | non => cases ry; exact PySem.EqNone.ne_bool_none (fin_bl I q (by simp))
    | bl j => cases ry; exact ne_bool (fin_bl I q (congrArg not dec_bl))
    | str j => obtain ⟨t', rfl⟩ := ry; exact PySem.EqMixed.ne_bool_str (fin_bl I q (by simp))
    | _ => exact absurd (show false = true from hs) Bool.false_ne_true
  | int i =>
    obtain ⟨t, rfl⟩ := rx
    cases y with
    | non => cases ry; exact PySem.EqNone.ne_int_none (fin_bl I q (by simp))
    | int j => obtain ⟨t', rfl⟩ := ry; exact ne_int (fin_bl I q (congrArg not dec_int))
    | str j => obtain ⟨t', rfl⟩ := ry; exact PySem.EqMixed.ne_int_str (fin_bl I q (by simp))
    | _ => exact absurd (show false = true from hs) Bool.false_ne_true
  | str i =>
    obtain ⟨t, rfl⟩ := rx
    cases y with
    | non => cases ry; exact PySem.EqNone.ne_str_none (fin_bl I q (by simp))
    | bl j => cases ry; exact PySem.EqMixed.ne_str_bool (fin_bl I q (by simp))
    | int j => obtain ⟨t', rfl⟩ := ry; exact PySem.EqMixed.ne_str_int (fin_bl I q (by simp))
    | str j => obtain ⟨t', rfl⟩ := ry; exact ne_str (fin_bl I q (congrArg not dec_str))
    | _ => exact absurd (show false = true from hs) Bool.false_ne_true
  | byt i =>
    obtain ⟨t, rfl⟩ := rx
    cases y with
    | byt j => obtain ⟨t', rfl⟩ := ry; exact PySem.W.ne_bytes (fin_bl I q (congrArg not dec_byt))
    | _ => exact absurd (show false = true from hs) Bool.false_ne_true
  | _ => cases y <;> exact absurd (show false = true from hs) Bool.false_ne_true
theorem op_lt : OpR X (compareOp .Lt) (rI0 fun i j => .bl (decide (i < j))) := opB0 fun _ _ _ _ _ _ _ q => lt_int q
theorem op_le : OpR X (compareOp .LtE) (rI0 fun i j => .bl (decide (i ≤ j))) := opB0 fun _ _ _ _ _ _ _ q => le_int q
theorem op_gt : OpR X (compareOp .Gt) (rI0 fun i j => .bl (decide (j < i))) := opB0 fun _ _ _ _ _ _ _ q => gt_int q
theorem op_isN : OpR X (compareOp .Is) (fun x y H Q => y = .non ∧ Q (.bl (decide (x = .non))) H) := by
  intro pins s σ H x y v u Q I rx ry h
  obtain ⟨rfl, q⟩ := h
  cases ry
  refine is_none_gen (fin_bl I q ?_)
  cases x <;> first
    | (cases rx; rfl)
    | (obtain ⟨t, rfl⟩ := rx; rfl)
theorem op_notN : OpR X (compareOp .IsNot) (fun x y H Q => y = .non ∧ Q (.bl (!decide (x = .non))) H) := by
  intro pins s σ H x y v u Q I rx ry h
  obtain ⟨rfl, q⟩ := h
  cases ry
  refine isnot_none_gen (fin_bl I q ?_)
  cases x <;> first
    | (cases rx; rfl)
    | (obtain ⟨t, rfl⟩ := rx; rfl)
theorem nomark (b : Expr) {op : CmpOp} (h : op ≠ .In := by decide) (h2 : op ≠ .NotIn := by decide) : behindInMarks op b = false := by
  have e1 : (op == CmpOp.In) = false := by cases op <;> first | rfl | exact absurd rfl h
  have e2 : (op == CmpOp.NotIn) = false := by cases op <;> first | rfl | exact absurd rfl h2
  cases b <;> simp [behindInMarks, e1, e2]
theorem pe_cmpR {op : CmpOp} {r : R2} (ho : OpR X (compareOp op) r) (ha : PE X a ta) (hb : PE X b tb) (hm : behindInMarks op b = false) : PE X (.Compare a [op] [b] pos) (tOp r ta tb) := by
  intro pins s σ H Q I h
  exact wpAny_Compare1 (binT ha hb I h fun v u s2 x y H2 I2 rx ry q => ho pins s2 σ H2 x y v u Q I2 rx ry q) hm
noncomputable def tTest (t : TE) : TT := fun σ H Q => t σ H fun x H' => ∃ k, x = .bl k ∧ Q k H'
theorem pt_cmpR {op : CmpOp} {r : R2} (ho : OpR X (compareOp op) r) (ha : PE X a ta) (hb : PE X b tb) (hm : behindInMarks op b = false) : PT X (.Compare a [op] [b] pos) (tTest (tOp r ta tb)) := by
  intro pins s σ H Q I h
  refine wpAny_isTrue_Compare1 (thn (ha pins s σ H _ I h) fun v s1 ⟨x, H1, I1, r1, q1⟩ => thn (hb pins s1 σ H1 _ I1 q1) fun u s2 ⟨y, H2, I2, r2, q2⟩ =>
    thn (ho pins s2 σ H2 x y v u _ I2 r1 r2 q2) fun c s3 ⟨z, H3, I3, r3, k, e, q3⟩ => ?_) hm
  subst e
  cases r3
  exact wpAny_truthy_bool ⟨H3, I3, q3⟩
theorem line63 : (sizeLine : Nat) < 2 ^ 63 := by rw [sizeLine_eq]; decide
theorem vals1 {x : V} {us : List Value} (r : Vals [x] us) : ∃ u, us = [u] ∧ RelV x u := by
  cases r with
  | cons r1 r2 => cases r2; exact ⟨_, rfl, r1⟩
theorem vals2 {x y : V} {us : List Value} (r : Vals [x, y] us) : ∃ u w', us = [u, w'] ∧ RelV x u ∧ RelV y w' := by
  cases r with
  | cons r1 r2 =>
    cases r2 with
    | cons r3 r4 => cases r4; exact ⟨_, _, rfl, r1, r3⟩
theorem call_max2 (hc : X.calm = true) : CallR X (.builtin "max") (fun xs H Q => ∃ i j, xs = [.int i, .int j] ∧ Q (.int (if j > i then j else i)) H) := by
  intro pins s σ H xs us Q I r h
  obtain ⟨i, j, rfl, q⟩ := h
  obtain ⟨u, w', rfl, ⟨t, rfl⟩, ⟨t', rfl⟩⟩ := vals2 r
  refine max_two_ints (I.ok.hd hc) fun h' tk k => ⟨_, H, I.kept k, ?_, q⟩
  by_cases hj : j > i
  · rw [if_pos hj, if_pos hj]; exact ⟨_, rfl⟩
  · rw [if_neg hj, if_neg hj]; exact ⟨_, rfl⟩
theorem call_min2 (hc : X.calm = true) : CallR X (.builtin "min") (fun xs H Q => ∃ i j, xs = [.int i, .int j] ∧ Q (.int (if j < i then j else i)) H) := by
  intro pins s σ H xs us Q I r h
  obtain ⟨i, j, rfl, q⟩ := h
  obtain ⟨u, w', rfl, ⟨t, rfl⟩, ⟨t', rfl⟩⟩ := vals2 r
  refine min_two_ints (I.ok.hd hc) fun h' tk k => ⟨_, H, I.kept k, ?_, q⟩
  by_cases hj : j < i
  · rw [if_pos hj, if_pos hj]; exact ⟨_, rfl⟩
  · rw [if_neg hj, if_neg hj]; exact ⟨_, rfl⟩
end
end L2
namespace L2
open PySem PySem.Spec PyProof.Rows
structure ObjM (h : Heap) (x dx C : Addr) (mA : Str → Option Value) : Prop where
  obj : h.get? x = some (PySem.W.instObj C dx)
  ns : h.Ns1 dx mA
  ne : dx ≠ x
theorem lookIn_ns {h : Heap} {dx : Addr} {mA : Str → Option Value} (n : h.Ns1 dx mA) : ∃ od, h.get? dx = some od ∧ ∀ name, PySem.W.lookIn name od = some (mA name) := by
  obtain ⟨o, es, ep, ho, hd, hk, _, hm⟩ := n
  refine ⟨o, ho, fun name => ?_⟩
  have e := hm name
  unfold nsFind findBy at e
  rw [← Array.find?_toList] at e
  unfold PySem.W.lookIn
  rw [hd]
  dsimp only
  split
  · rename_i y q
    rw [q] at e
    exact congrArg some e
  · rename_i q
    rw [q] at e
    have a : es.toList.any (·.refKey) = false := by
      rw [List.any_eq_false]
      intro y hy
      obtain ⟨z, t, hkey⟩ := hk y (Array.mem_toList_iff.mp hy)
      simp [DictEntry.refKey, hkey]
    have a' : ¬ es.toList.any (·.refKey) = true := by rw [a]; exact Bool.false_ne_true
    rw [if_neg a']
    exact congrArg some e
theorem ObjM.look {h : Heap} {x dx C : Addr} {mA : Str → Option Value} (I : ObjM h x dx C mA) : ∃ od, PySem.W.InstAt h x (PySem.W.instObj C dx) C (some od) ∧ ∀ name, PySem.W.lookIn name od = some (mA name) :=
  let ⟨od, ho, hl⟩ := lookIn_ns I.ns
  ⟨od, ⟨I.obj, rfl, rfl, ho⟩, hl⟩
section
variable {prog : Program} {w : World} {A : Around} {E : Value → Shared → Prop} {s : Shared} {K : PySem.W.Frag} {x dx C f : Addr} {mA : Str → Option Value} {name : Str} {v : Value}
theorem get_map {expr : Bool} {Q : Value → Shared → Prop} (X : K.In s.heap) (I : ObjM s.heap x dx C mA) (hg : PySem.W.plainGet K C name = true) (hh : PySem.W.hasDictIn K C = true)
    (ha : PySem.W.findIn K (.ref C) name = some none) (hv : mA name = some v) (hv' : PySem.W.handedIn v = true) (h : Q v { s with toks := s.toks + 1 }) :
    wpAny (model prog w) A (getAttr (.ref x) name expr) Q E s := by
  obtain ⟨od, J, hl⟩ := I.look
  exact PySem.W.get_value X J (PySem.W.plainGet_of hg).1 (PySem.W.findObj_own hh ha rfl (by rw [hl, hv])) hv' h
theorem get_meth {pl : Sem Bool} {Q : Value × List Value → Shared → Prop} (X : K.In s.heap) (I : ObjM s.heap x dx C mA) (hg : PySem.W.plainGet K C name = true)
    (hf : PySem.W.findIn K (.ref C) name = some (some (.ref f))) (ht : PySem.W.isFn K (.ref f) = true) (hv : mA name = none) (h : Q (.ref f, [.ref x]) s) :
    wpAny (model prog w) A (getMethod (.ref x) name pl) Q E s := by
  obtain ⟨od, J, hl⟩ := I.look
  exact PySem.W.method_fn X J (PySem.W.plainGet_of hg).1 (PySem.W.plainGet_of hg).2 hf (beq_iff_eq.mp ht) (by show (PySem.W.lookIn name od).map (·.isSome) = some false; rw [hl, hv]; rfl) h
theorem set_map {ns : List Str} {Q : Unit → Shared → Prop} (X : K.In s.heap) (I : ObjM s.heap x dx C mA)
    (hs : PySem.W.findIn K (.ref C) "__setattr__" = some (some (.builtin "object.__setattr__"))) (hp : PySem.W.plainOver K C = true) (ht : PySem.W.takerIn K C name = some none) (hh : PySem.W.hasDictIn K C = true)
    (hw : PySem.Within mA ns) (hsz : ns.length ≤ sizeLine)
    (h : ∀ h', ObjM h' x dx C (fun y => if y = name then some v else mA y) → Heap.SameBut dx s.heap h' → Q () { s with heap := h', toks := s.toks + 2 }) :
    wpAny (model prog w) A (setAttr (.ref x) name v) Q E s := by
  obtain ⟨od, J, hl⟩ := I.look
  refine PySem.W.set_plain X J hs (PySem.W.osa_open (s := { s with toks := s.toks + 1 }) (r := none) X J hp ht fun b => ?_)
  obtain ⟨cd, hc, hd'⟩ := PySem.W.any_some hh
  have hx : s.heap.get? x = some ⟨.ref C, some dx, .plain, #[]⟩ := I.obj
  refine wpAny_bind (wpAny_pure (wpAny_bind (wpAny_bind (wpAny_loadPart hx (wpAny_bind (PySem.W.Looks.here (s := { s with toks := s.toks + 1 }) (PySem.W.looks_clsIn X hc) ?_))))))
  rw [hd']
  refine wpAny_pure (a := some dx) (wpAny_bind (wpAny_pure (wpAny_bind ?_)))
  refine wpAny_nsSet1 (s := { s with toks := s.toks + 1 }) I.ns fun h' hn2 hs2 => ?_
  obtain ⟨oD, esD, epD, hoD, hdD, hcD⟩ := hn2.count (PySem.Within.cons name v hw)
  refine wpAny_bind (wpAny_lookBehind hoD (by rw [hdD]; exact pastItsLine_dict (Nat.le_trans hcD (by rw [List.length_cons]; omega))) ?_)
  exact wpAny_pure (h _ ⟨(hs2.2 _ (Ne.symm I.ne)).trans I.obj, hn2, I.ne⟩ hs2)
theorem make_map {R : Result → Shared → Prop} {vs : List Value} {kw : List (Str × Value)} (X : K.In s.heap) (hm : PySem.W.makesIn K C = true)
    (hi : PySem.W.findIn K (.ref C) "__init__" = some (some (.ref f))) (hf : PySem.W.typeIn K (.ref f) = some (.type "function"))
    (h : codeAny (model prog w) (A.under (.builtin "type.__call__" ⟨.ref C :: vs, kw⟩)) (.call (.ref f) ⟨.ref (s.heap.objs.size + 1) :: vs, kw⟩) (PySem.W.InitBack (s.heap.objs.size + 1) R)
      { s with heap := (s.heap.push PySem.W.emptyDict).push (PySem.W.instObj C s.heap.objs.size) }) :
    codeAny (model prog w) A (.call (.ref C) ⟨vs, kw⟩) R s := by
  obtain ⟨hh, g, d, t, os⟩ := s
  exact PySem.W.make_core (PySem.W.makes_of X hm) (PySem.W.looks_findIn X hi) (fun self => PySem.W.bind_fn X self hf) (.inl rfl) h
end
noncomputable def putF (f : Str) (v : V) : List (Str × V) → List (Str × V)
  | [] => [(f, v)]
  | (g, x) :: r => if g = f then (g, v) :: r else (g, x) :: putF f v r
theorem lookup_putF (f g : Str) (v : V) : ∀ fs : List (Str × V), (putF f v fs).lookup g = if g = f then some v else fs.lookup g
  | [] => by
    show List.lookup g [(f, v)] = _
    by_cases h : g = f
    · have hb : (g == f) = true := beq_iff_eq.mpr h
      simp only [List.lookup, hb, if_pos h]
    · have hb : (g == f) = false := beq_eq_false_iff_ne.mpr h
      simp only [List.lookup, hb, if_neg h]
  | (k, x) :: r => by
    have ih := lookup_putF f g v r
    rw [show putF f v ((k, x) :: r) = (if k = f then (k, v) :: r else (k, x) :: putF f v r) from rfl]
    by_cases hk : k = f
    · rw [if_pos hk]
      by_cases h : g = k
      · have hb : (g == k) = true := beq_iff_eq.mpr h
        simp only [List.lookup, hb, if_pos (h.trans hk)]
      · have hb : (g == k) = false := beq_eq_false_iff_ne.mpr h
        simp only [List.lookup, hb, if_neg (fun e : g = f => h (e.trans hk.symm))]
    · rw [if_neg hk]
      by_cases h : g = k
      · have hb : (g == k) = true := beq_iff_eq.mpr h
        simp only [List.lookup, hb, if_neg (fun e : g = f => hk (h.symm.trans e))]
      · have hb : (g == k) = false := beq_eq_false_iff_ne.mpr h
        simp only [List.lookup, hb]
        exact ih
theorem keys_putF (f : Str) (v : V) : ∀ fs : List (Str × V), f ∈ (putF f v fs).map (·.1) ∧ ∀ g, g ∈ fs.map (·.1) → g ∈ (putF f v fs).map (·.1)
  | [] => ⟨by simp [putF], fun g h => by simp at h⟩
  | (k, x) :: r => by
    obtain ⟨i1, i2⟩ := keys_putF f v r
    rw [show putF f v ((k, x) :: r) = (if k = f then (k, v) :: r else (k, x) :: putF f v r) from rfl]
    by_cases hk : k = f
    · rw [if_pos hk]
      subst hk
      exact ⟨by simp, fun g h => by simpa using h⟩
    · rw [if_neg hk]
      refine ⟨?_, fun g h => ?_⟩
      · rw [List.map_cons]
        exact List.mem_cons_of_mem _ i1
      · rw [List.map_cons] at h ⊢
        rcases List.mem_cons.mp h with e | e
        · exact List.mem_cons.mpr (.inl e)
        · exact List.mem_cons_of_mem _ (i2 g e)
theorem length_putF (f : Str) (v : V) : ∀ fs : List (Str × V), (putF f v fs).length ≤ fs.length + 1
  | [] => by simp [putF]
  | (k, x) :: r => by
    have ih := length_putF f v r
    rw [show putF f v ((k, x) :: r) = (if k = f then (k, v) :: r else (k, x) :: putF f v r) from rfl]
    by_cases hk : k = f
    · rw [if_pos hk, List.length_cons, List.length_cons]; omega
    · rw [if_neg hk, List.length_cons, List.length_cons]; omega
theorem RelO.some_of {v : V} {o : Option Value} (r : RelO (some v) o) : ∃ u, o = some u ∧ RelV v u := by
  cases o with
  | none => exact (show False from r).elim
  | some u => exact ⟨u, rfl, r⟩
theorem RelO.none_of {o : Option Value} (r : RelO none o) : o = none := by
  cases o with
  | none => rfl
  | some u => exact (show False from r).elim
theorem handed_of {v : V} {u : Value} (r : RelV v u) : PySem.W.handedIn u = true := by
  cases v with
  | non => cases (show u = Value.none from r); rfl
  | bl b => cases (show u = Value.bool b from r); rfl
  | int i => obtain ⟨t, e⟩ := (show ∃ t, u = Value.int i t from r); cases e; rfl
  | str x => obtain ⟨t, e⟩ := (show ∃ t, u = Value.str x t from r); cases e; rfl
  | byt b => obtain ⟨t, e⟩ := (show ∃ t, u = Value.bytes b t from r); cases e; rfl
  | flt b => obtain ⟨t, e⟩ := (show ∃ t, u = Value.float b t from r); cases e; rfl
  | ref a => cases (show u = Value.ref a from r); rfl
  | ty n => cases (show u = Value.type n from r); rfl
section
variable {P : Program} {w : World} {H H' : Hp} {h h' : Heap} {a C dx : Addr} {fs fs' : List (Str × V)}
theorem ins_get (hok : HOk P w H h) (e : H a = some (.ins C dx fs)) : ∃ mA, ObjM h a dx C mA ∧ (∀ f, RelO (fs.lookup f) (mA f)) ∧ PySem.Within mA (fs.map (·.1)) ∧ fs.length ≤ 1000 ∧ H dx = some (.own a) := by
  obtain ⟨d, z, ne, ob, mA, n, r, q⟩ := (show ObjOk P w H h a (.ins C dx fs) from hok a _ e)
  exact ⟨mA, ⟨ob, n, ne⟩, r, q, z, d⟩
end
structure Cls (K : PySem.W.Frag) (C : Addr) : Prop where
  pg : PySem.W.plainGet K C Str.empty = true
  hd : PySem.W.hasDictIn K C = true
  po : PySem.W.plainOver K C = true
  sa : PySem.W.findIn K (.ref C) "__setattr__" = some (some (.builtin "object.__setattr__"))
theorem Cls.get {K : PySem.W.Frag} {C : Addr} (c : Cls K C) (f : Str) : PySem.W.plainGet K C f = true := c.pg
noncomputable def NoAttr (K : PySem.W.Frag) (C : Addr) (f : Str) : Prop := PySem.W.findIn K (.ref C) f = some none
theorem NoAttr.taker {K : PySem.W.Frag} {C : Addr} {f : Str} (n : NoAttr K C f) : PySem.W.takerIn K C f = some none := by
  unfold PySem.W.takerIn
  rw [show PySem.W.findIn K (.ref C) f = some none from n]
  rfl
structure Meth (K : PySem.W.Frag) (C : Addr) (m : Str) (f : Addr) : Prop where
  at_ : PySem.W.findIn K (.ref C) m = some (some (.ref f))
  fn : PySem.W.isFn K (.ref f) = true
  kp : PySem.W.keepIn K (.ref f) = true
section
variable {X : Cx} {pins : List (Addr × Obj)} {σ : St} {H : Hp} {s : Shared} {a C dx : Addr} {fs : List (Str × V)} {f : Str} {v : V} {A : Around} {E : Value → Shared → Prop}
theorem getattr_ok {b : Bool} {Q : Value → Shared → Prop} (I : Inv X pins σ H s) (e : H a = some (.ins C dx fs)) (c : Cls X.K C) (n : NoAttr X.K C f) (l : fs.lookup f = some v)
    (h : ∀ u s', Inv X pins σ H s' → RelV v u → Q u s') : wpAny (model X.prog X.w) A (getAttr (.ref a) f b) Q E s := by
  obtain ⟨mA, O, r, _, _, _⟩ := ins_get I.hok e
  obtain ⟨u, hu, ru⟩ := RelO.some_of (v := v) (o := mA f) (by rw [← l]; exact r f)
  exact get_map I.kIn O (c.get f) c.hd n hu (handed_of ru) (h u _ (I.tok _) ru)
theorem getmeth_ok {m : Str} {g : Addr} {pl : Sem Bool} {Q : Value × List Value → Shared → Prop} (I : Inv X pins σ H s) (e : H a = some (.ins C dx fs)) (c : Cls X.K C) (k : Meth X.K C m g) (l : fs.lookup m = none)
    (h : Q (.ref g, [.ref a]) s) : wpAny (model X.prog X.w) A (getMethod (.ref a) m pl) Q E s := by
  obtain ⟨mA, O, r, _, _, _⟩ := ins_get I.hok e
  have hn : mA m = none := RelO.none_of (by rw [← l]; exact r m)
  exact get_meth I.kIn O (c.get m) k.at_ k.fn hn h
theorem setattr_ok {y : V} {u : Value} {Q : Unit → Shared → Prop} (I : Inv X pins σ H s) (e : H a = some (.ins C dx fs)) (c : Cls X.K C) (n : NoAttr X.K C f) (hl : fs.length < 1000) (ry : RelV y u)
    (h : ∀ s', Inv X pins σ (upd H a (.ins C dx (putF f y fs))) s' → Q () s') : wpAny (model X.prog X.w) A (setAttr (.ref a) f u) Q E s := by
  obtain ⟨mA, O, r, wi, _, ho⟩ := ins_get I.hok e
  have hz : (fs.map (·.1)).length ≤ sizeLine := by rw [List.length_map, sizeLine_eq]; omega
  refine set_map I.kIn O c.sa c.po n.taker c.hd wi hz fun h' O' sb => h _ ?_
  have hd : ∃ o, h'.get? dx = some o := let ⟨o, _, _, e', _⟩ := O'.ns; ⟨o, e'⟩
  refine I.write (x := a) (e := dx) (by rw [e]; exact True.intro) (.inr ho) (fun b q hb z => (sb.2 b hb).trans z) hd ?_
  refine ⟨by rw [upd_ne O.ne]; exact ho, ?_, O.ne, O'.obj, _, O'.ns, fun g => ?_, fun g hg => ?_⟩
  · have := length_putF f y fs; omega
  · show RelO ((putF f y fs).lookup g) (if g = f then some u else mA g)
    rw [lookup_putF]
    by_cases q : g = f
    · rw [if_pos q, if_pos q]; exact ry
    · rw [if_neg q, if_neg q]; exact r g
  · by_cases q : g = f
    · rw [q]; exact (keys_putF f y fs).1
    · refine (keys_putF f y fs).2 g (wi g fun z => hg ?_)
      show (if g = f then some u else mA g) = none
      rw [if_neg q]; exact z
theorem Inv.made (I : Inv X pins σ H s) : Inv X pins σ (upd (upd H s.heap.objs.size (.own (s.heap.objs.size + 1))) (s.heap.objs.size + 1) (.ins C s.heap.objs.size []))
    { s with heap := (s.heap.push PySem.W.emptyDict).push (PySem.W.instObj C s.heap.objs.size) } := by
  have e1 : (s.heap.push PySem.W.emptyDict).get? s.heap.objs.size = some PySem.W.emptyDict := Heap.get?_push_size s.heap rfl
  have e2 : ((s.heap.push PySem.W.emptyDict).push (PySem.W.instObj C s.heap.objs.size)).get? (s.heap.objs.size + 1) = some (PySem.W.instObj C s.heap.objs.size) := by
    have := Heap.get?_push_size (s.heap.push PySem.W.emptyDict) (o := PySem.W.instObj C s.heap.objs.size) rfl
    rwa [Heap.size_push] at this
  have e3 : (s.heap.push PySem.W.emptyDict).Ns s.heap.objs.size (fun _ => none) := ⟨PySem.W.emptyDict, #[], _, e1, rfl, (fun e he => absurd he (by simp)), fun _ => rfl⟩
  have I1 := I.laid (a := s.heap.objs.size) (o := .own (s.heap.objs.size + 1)) (h' := s.heap.push PySem.W.emptyDict) (t' := s.toks) (fun b u q => Heap.get?_push_of_some _ q) (Nat.le_refl _) ⟨_, e1⟩
  refine I1.laid (a := s.heap.objs.size + 1) (o := .ins C s.heap.objs.size []) (t' := s.toks) (fun b u q => Heap.get?_push_of_some _ q) (Nat.le_of_eq (Heap.size_push _ _)) ?_
  have ne : s.heap.objs.size ≠ s.heap.objs.size + 1 := Nat.ne_of_lt (Nat.lt_succ_self _)
  refine ⟨by rw [upd_ne ne, upd_same], Nat.zero_le _, ne, e2, fun _ => none, (Heap.Ns1.of_empty e3).at fun o q => Heap.get?_push_of_some _ q, fun _ => True.intro, fun y hy => absurd rfl hy⟩
theorem attr_of {prog : Program} {w : World} {env : Env} {e : Expr} {f : Str} {pos : Pos} {s : Shared} {Q : Value → Shared → Prop} (hb : attributeBase e f env (eval e env) = eval e env)
    (h : wpAny (model prog w) A (eval e env) (fun o s₁ => wpAny (model prog w) A (getAttr o f true) Q E s₁) E s) : wpAny (model prog w) A (eval (.Attribute e f pos) env) Q E s :=
  Attribute_any_ h (by rw [arm_eval_Attribute, hb])
end
noncomputable def tFld (K : PySem.W.Frag) (ta : TE) (f : Str) : TE := fun σ H Q => ta σ H fun x H1 => ∃ a C dx fs v, x = .ref a ∧ H1 a = some (.ins C dx fs) ∧ Cls K C ∧ NoAttr K C f ∧ fs.lookup f = some v ∧ Q v H1
noncomputable def sFld (K : PySem.W.Frag) (ta tv : TE) (f : Str) : TS := fun D σ H => tv σ H fun y H1 => ta σ H1 fun x H2 => ∃ a C dx fs, x = .ref a ∧ H2 a = some (.ins C dx fs) ∧ Cls K C ∧ NoAttr K C f ∧ fs.length < 1000 ∧
  D.nx σ (upd H2 a (.ins C dx (putF f y fs)))
section
variable {X : Cx} {o e value : Expr} {f : Str} {pos pos' tpos : Pos} {ta tv : TE}
theorem pe_fld (he : PE X e ta) (hb : attributeBase e f X.env (eval e X.env) = eval e X.env) : PE X (.Attribute e f pos) (tFld X.K ta f) := by
  intro pins s σ H Q I h
  refine attr_of hb (thn (he pins s σ H _ I h) fun u s1 ⟨x, H1, I1, rx, a, C, dx, fs, v, ex, ea, c, n, l, q⟩ => ?_)
  subst ex
  obtain rfl : u = Value.ref a := rx
  exact getattr_ok I1 ea c n l fun u' s2 I2 ru => ⟨v, H1, I2, ru, q⟩
theorem ps_fld (ha : PE X o ta) (hv : PE X value tv) (hs : swapsWith value (some (.Attribute o f pos')) pos.line X.env = pure false) : PS X (.Assign [.Attribute o f pos'] value pos) (sFld X.K ta tv f) := by
  intro pins s σ H D I h
  refine plainObj_wpAny_Assign_Attribute (thn (hv pins s σ H _ I h) fun u s1 ⟨y, H1, I1, ry, q⟩ => thn (ha pins s1 σ H1 _ I1 q) fun ov s2 ⟨x, H2, I2, rx, a, C, dx, fs, ex, ea, c, n, l, q2⟩ => ?_) hs
  subst ex
  obtain rfl : ov = Value.ref a := rx
  exact setattr_ok I2 ea c n l ry fun s3 I3 => ⟨σ, _, I3, q2⟩
end
section
variable {X : Cx} {pins : List (Addr × Obj)} {σ : St} {H : Hp} {s : Shared} {A : Around} {E : Value → Shared → Prop} {Q : Value → Shared → Prop} {c : Value} {b : Bool}
inductive TyOf (K : PySem.W.Frag) (H : Hp) : V → Value → Prop where
  | non : TyOf K H .non (.type "NoneType")
  | bl (x : Bool) : TyOf K H (.bl x) (.type "bool")
  | int (i : Int) : TyOf K H (.int i) (.type "int")
  | str (x : Str) : TyOf K H (.str x) (.type "str")
  | flt (x : UInt64) : TyOf K H (.flt x) (.type "float")
  | lst {a : Addr} {xs : List V} (e : H a = some (.lst xs)) : TyOf K H (.ref a) (.type "list")
  | frz {a : Addr} {o : Obj} {xs : List V} (e : H a = some (.frz o (.lst xs))) : TyOf K H (.ref a) (.type "list")
  | tup {a : Addr} {xs : List V} (e : H a = some (.tup xs)) : TyOf K H (.ref a) (.type "tuple")
  | dK {a : Addr} {kvs : List (Key × V)} (e : H a = some (.dK kvs)) : TyOf K H (.ref a) (.type "dict")
  | dT {a : Addr} {kvs : List (List Key × V)} (e : H a = some (.dT kvs)) : TyOf K H (.ref a) (.type "dict")
  | ins {a C dx : Addr} {fs : List (Str × V)} (e : H a = some (.ins C dx fs)) (cl : Cls K C) (ha : PySem.W.findIn K (.ref C) "__class__" = some (some (.builtin "object.__class__")))
      (hn : PySem.W.specialIn K (.builtin "object.__class__") "__get__" = some (some (.builtin "getset_descriptor.__get__"))) (htk : PySem.W.takesIn K (.builtin "object.__class__") = some true)
      (hm : PySem.W.mroIn K C (.type "object") = some true) : TyOf K H (.ref a) (.ref C)
theorem isinst_ok {x : V} {u t : Value} (I : Inv X pins σ H s) (rx : RelV x u) (ty : TyOf X.K H x t) (e : PySem.W.kitOne X.K t c = some b) (h : ∀ tk, Q (.bool b) { s with toks := tk }) :
    wpAny (model X.prog X.w) A (call (.builtin "isinstance") [u, c]) Q E s := by
  cases ty with
  | non => cases (show u = Value.none from rx); exact PySem.W.kia_one PySem.W.kitx_none I.kIn True.intro e (fun z => nomatch z) h
  | bl y => cases (show u = Value.bool y from rx); exact PySem.W.kia_one PySem.W.kitx_bool I.kIn True.intro e (fun z => nomatch z) h
  | int i => obtain ⟨t, q⟩ := (show ∃ t, u = Value.int i t from rx); cases q; exact PySem.W.kia_one PySem.W.kitx_int I.kIn True.intro e (fun z => nomatch z) h
  | str y => obtain ⟨t, q⟩ := (show ∃ t, u = Value.str y t from rx); cases q; exact PySem.W.kia_one PySem.W.kitx_str I.kIn True.intro e (fun z => nomatch z) h
  | flt y => obtain ⟨t, q⟩ := (show ∃ t, u = Value.float y t from rx); cases q; exact PySem.W.kia_one PySem.W.kitx_float I.kIn True.intro e (fun z => nomatch z) h
  | @lst a xs ea =>
    cases (show u = Value.ref a from rx)
    obtain ⟨_, _, n, _, h1⟩ := (show ObjOk X.prog X.w H s.heap a (.lst xs) from I.hok a _ ea)
    exact PySem.W.kia_one PySem.W.kitx_list I.kIn ⟨_, h1, rfl⟩ e (fun z => nomatch z) h
  | @frz a ob xs ea =>
    cases (show u = Value.ref a from rx)
    obtain ⟨_, _, _, n, _, h1⟩ := (show ObjOk X.prog X.w H s.heap a (.frz ob (.lst xs)) from I.hok a _ ea)
    exact PySem.W.kia_one PySem.W.kitx_list I.kIn ⟨_, h1, rfl⟩ e (fun z => nomatch z) h
  | @tup a xs ea =>
    cases (show u = Value.ref a from rx)
    obtain ⟨_, _, _, p⟩ := (show ObjOk X.prog X.w H s.heap a (.tup xs) from I.hok a _ ea)
    obtain ⟨o, h1, h2, _⟩ := p
    exact PySem.W.kia_one PySem.W.kitx_tuple I.kIn ⟨o, h1, h2⟩ e (fun z => nomatch z) h
  | @dK a kvs ea =>
    cases (show u = Value.ref a from rx)
    obtain ⟨_, _, vs, _, p⟩ := (show ObjOk X.prog X.w H s.heap a (.dK kvs) from I.hok a _ ea)
    obtain ⟨o, es, ep, h1, h2, _⟩ := p
    exact PySem.W.kia_one PySem.W.kitx_dict I.kIn ⟨o, h1, h2.1⟩ e (fun z => nomatch z) h
  | @dT a kvs ea =>
    cases (show u = Value.ref a from rx)
    obtain ⟨_, _, xs, _, o, es, ep, h1, h2, _⟩ := (show ObjOk X.prog X.w H s.heap a (.dT kvs) from I.hok a _ ea)
    exact PySem.W.kia_one PySem.W.kitx_dict I.kIn ⟨o, h1, h2.1⟩ e (fun z => nomatch z) h
  | @ins a C dx fs ea cl ha hn htk hm =>
    cases (show u = Value.ref a from rx)
    obtain ⟨mA, O, _⟩ := ins_get I.hok ea
    obtain ⟨od, J, _⟩ := O.look
    exact PySem.W.kia_one (PySem.W.kitx_own (cl.get _) cl.hd ha hn htk hm) I.kIn J e (fun z => nomatch z) h
end
end L2
namespace L2
open PySem PySem.Spec PyProof.Rows
structure Room (k : Nat) (A : Around) : Prop where
  hd : A.handled = none
  dp : A.depth + 3 * k + 5 < recursionLimit
  un : A.units + 16 * k + 200 < cLine
theorem Room.mono {j k : Nat} {A : Around} (r : Room k A) (h : j ≤ k) : Room j A := ⟨r.hd, by have := r.dp; omega, by have := r.un; omega⟩
theorem Room.deeper {k : Nat} {A : Around} (r : Room (k + 1) A) (env : Env) : Room k (A.deeper env) :=
  ⟨r.hd, by have := r.dp; show A.depth + 1 + 3 * k + 5 < _; omega, by have := r.un; show A.units + 3 + 16 * k + 200 < _; omega⟩
theorem make_depth {A : Around} {C : Addr} {us : List Value} {kw : List (Str × Value)} : (A.under (.builtin "type.__call__" ⟨.ref C :: us, kw⟩)).depth = A.depth + 1 := by
  first | rfl | simp [Around.under, Code.weight, Code.isCreation, Code.isGuard, Code.isCaller, Code.frames, Code.isFrame, guardIds]
theorem make_units {A : Around} {C : Addr} {us : List Value} {kw : List (Str × Value)} : (A.under (.builtin "type.__call__" ⟨.ref C :: us, kw⟩)).units = A.units + 1 := by
  first | rfl | simp [Around.under, Code.cUnits, Code.frames, Code.isFrame]
theorem Room.make {k : Nat} {A : Around} (r : Room (k + 1) A) (C : Addr) (us : List Value) (kw : List (Str × Value)) : Room k (A.under (.builtin "type.__call__" ⟨.ref C :: us, kw⟩)) :=
  ⟨r.hd, by have := r.dp; rw [make_depth]; omega, by have := r.un; rw [make_units]; omega⟩
theorem Room.depth {k : Nat} {A : Around} (r : Room k A) : A.depth < recursionLimit := by have := r.dp; omega
theorem Room.units {k : Nat} {A : Around} (r : Room k A) : A.units + 64 < cLine := by have := r.un; omega
noncomputable def tNil : TA := fun _ H Q => Q [] H
noncomputable def tCons (ta : TE) (tr : TA) : TA := fun σ H Q => ta σ H fun x H1 => tr σ H1 fun xs H2 => Q (x :: xs) H2
section
variable {X : Cx} {e : Expr} {es : List Expr} {te : TE} {t : TA} {pos : Pos}
theorem pa_nil : PA X [] tNil := fun _ _ _ _ H Q I h => Calls.spliced_nil ⟨[], H, I, .nil, h⟩
theorem pa_cons (ha : PE X e te) (hr : PA X es t) (hs : starEach (e :: es) X.env = (false, eval e X.env) :: starEach es X.env := by rfl) : PA X (e :: es) (tCons te t) := by
  intro pos pins s σ H Q I h
  rw [hs]
  show wpAny _ _ (spliced ((false, eval e X.env) :: backTo pos (starEach es X.env))) _ _ s
  refine Calls.spliced_cons (thn (ha pins s σ H _ I h) fun u s1 ⟨x, H1, I1, r1, q1⟩ => ?_)
  exact thn (hr pos pins s1 σ H1 _ I1 q1) fun us s2 ⟨xs, H2, I2, r2, q2⟩ => ⟨x :: xs, H2, I2, .cons r1 r2, q2⟩
noncomputable def tTup (t : TA) : TE := fun σ H Q => t σ H fun xs H1 => xs.length ≤ sizeLine ∧ ∀ p, H1 p = none → Q (.ref p) (upd H1 p (.tup xs))
theorem pe_tup {x1} (h : PA X es t) : PE X (.Tuple es x1 pos) (tTup t) := by
  intro pins s σ H Q I hq
  refine wpAny_Tuple_spliced (thn (h pos pins s σ H _ I hq) fun us s1 ⟨xs, H1, I1, r, z, q⟩ => ⟨by rw [← r.length]; exact z, ?_⟩)
  have hf : H1 s1.heap.objs.size = none := I1.hok.fresh (Nat.le_refl _)
  refine ⟨.ref s1.heap.objs.size, upd H1 s1.heap.objs.size (.tup xs), I1.laid (t' := s1.toks) (fun b u e => Heap.get?_push_of_some _ e) (Nat.le_refl _) ?_, rfl, q _ hf⟩
  exact ⟨z, us, r, ⟨_, Heap.get?_push_size _ rfl, rfl, _, rfl⟩⟩
end
noncomputable abbrev Sp := List V → Hp → VK → XK → Prop
noncomputable abbrev CXT := List Env → Hp → Shared → XK → Value → Shared → Prop
structure Env0 (P : Program) (w : World) (K : PySem.W.Frag) (mg : Str → Option Value) (base : Heap) (A : Around) (outer : List Env) (s : Shared) (H : Hp) : Prop where
  frames : A.frames = some outer
  mod : Mod K mg base
  bs : ∀ b o, base.get? b = some o → s.heap.get? b = some o ∧ H b = none
  bsz : base.objs.size ≤ s.heap.objs.size
  funs : s.heap.FunFrames base outer
  frf : ∀ b ∈ frs outer, H b = none
  hok : HOk P w H s.heap
  bare : AllBare s.gens
noncomputable def CE (outer : List Env) (P : Program) (w : World) (H : Hp) (s : Shared) (Q : VK) (u : Value) (s' : Shared) : Prop :=
  ∃ v H', s'.os = s.os ∧ AllBare s'.gens ∧ Un (frs outer) [] H H' s.heap s'.heap ∧ HOk P w H' s'.heap ∧ RelV v u ∧ Q v H'
noncomputable def CR (CX : CXT) (outer : List Env) (P : Program) (w : World) (H : Hp) (s : Shared) (Q : VK) (E : XK) (r : Result) (s' : Shared) : Prop :=
  match r with
  | .ok (.ret u) => CE outer P w H s Q u s'
  | .ok _ => False
  | .error e => CX outer H s E e s'
structure FnOk (P : Program) (w : World) (K : PySem.W.Frag) (mg : Str → Option Value) (base : Heap) (CX : CXT) (k : Nat) (f : Addr) (fd : FuncData) (ps : List Str) (sp : Sp) : Prop where
  len : ∀ vs H Q E, sp vs H Q E → vs.length = ps.length
  run : ∀ (A : Around) (outer : List Env) (s : Shared) (H : Hp) (args : Args) (us : List Value) (vs : List V) (Q : VK) (E : XK), Room k A → Env0 P w K mg base A outer s H → BindsTo s fd args (ps.zip us) → Vals vs us → sp vs H Q E →
    codeAny (model P w) A (.call (.ref f) args) (CR CX outer P w H s Q E) s
theorem FnOk.mono {P : Program} {w : World} {K : PySem.W.Frag} {mg : Str → Option Value} {base : Heap} {CX : CXT} {j k : Nat} {f : Addr} {fd : FuncData} {ps : List Str} {sp : Sp} (F : FnOk P w K mg base CX j f fd ps sp) (h : j ≤ k) :
    FnOk P w K mg base CX k f fd ps sp := ⟨F.len, fun A outer s H args us vs Q E hr => F.run A outer s H args us vs Q E (hr.mono h)⟩
theorem Env0.make {P : Program} {w : World} {K : PySem.W.Frag} {mg : Str → Option Value} {base : Heap} {A : Around} {outer : List Env} {s : Shared} {H : Hp} (e : Env0 P w K mg base A outer s H) (C : Addr) (us : List Value) (kw : List (Str × Value)) :
    Env0 P w K mg base (A.under (.builtin "type.__call__" ⟨.ref C :: us, kw⟩)) outer s H := ⟨by first | exact e.frames | (simpa [Around.under, Code.envs, Code.isFrame, pushEnvs] using e.frames), e.mod, e.bs, e.bsz, e.funs, e.frf, e.hok, e.bare⟩
section
variable {X : Cx} {pins : List (Addr × Obj)} {σ : St} {H : Hp} {s s' : Shared}
theorem Inv.env0 (I : Inv X pins σ H s) : Env0 X.prog X.w X.K X.mg X.base X.A X.stack s H :=
  ⟨I.ok.frames, I.ok.mod, I.bs, Nat.le_trans I.ok.bsz I.sz, I.stack, I.stkFree, I.hok, I.bare⟩
theorem Inv.after {Q : VK} {u : Value} (I : Inv X pins σ H s) (h : CE X.stack X.prog X.w H s Q u s') : EP X pins σ Q u s' := by
  obtain ⟨v, H', os, bare, un, hok, r, q⟩ := h
  obtain ⟨hh, g, d, t, os'⟩ := s'
  obtain rfl : os' = s.os := os
  exact ⟨v, H', I.call (h' := hh) (g' := g) (d' := d) (t' := t) (ch := []) un hok bare (fun b z => absurd z (by simp)), r, q⟩
end
noncomputable def tCall (sp : Sp) (dvs : List V) (E : XK) (t : TA) : TE := fun σ H Q => t σ H fun vs H1 => sp (vs ++ dvs) H1 Q E
noncomputable def tMeth (C : Addr) (m : Str) (sp : Sp) (dvs : List V) (E : XK) (ta : TE) (t : TA) : TE := fun σ H Q => ta σ H fun x H1 => ∃ a dx fs, x = .ref a ∧ H1 a = some (.ins C dx fs) ∧ fs.lookup m = none ∧
  t σ H1 fun vs H2 => sp (x :: (vs ++ dvs)) H2 Q E
noncomputable def tMake (C : Addr) (sp : Sp) (dvs : List V) (E : XK) (t : TA) : TE := fun σ H Q => t σ H fun vs H1 => ∀ x dx, H1 x = none → H1 dx = none → dx ≠ x →
  sp (.ref x :: (vs ++ dvs)) (upd (upd H1 dx (.own x)) x (.ins C dx [])) (fun v H2 => v = .non ∧ Q (.ref x) H2) E
noncomputable def Binds (K : PySem.W.Frag) (fd : FuncData) (ps : List Str) (ds : List Value) : Prop :=
  ∀ (s : Shared) (us : List Value), K.In s.heap → (us ++ ds).length = ps.length → BindsTo s fd ⟨us, []⟩ (ps.zip (us ++ ds))
theorem Binds.all {K : PySem.W.Frag} {fd : FuncData} {ps : List Str} (h : ∀ us : List Value, us.length = ps.length → bindArgs fd ⟨us, []⟩ = pure (ps.zip us)) : Binds K fd ps [] := fun s us _ hl => by
  rw [List.append_nil] at hl ⊢
  exact .of_eq (h us hl)
noncomputable def Passes (CX : CXT) (X : Cx) (E : XK) : Prop := ∀ (pins : List (Addr × Obj)) (σ : St) (H : Hp) (s : Shared) (e : Value) (s' : Shared), Inv X pins σ H s → CX X.stack H s E e s' → X.xe e s'
section
variable {X : Cx} {CX : CXT} {k : Nat} {f C : Addr} {fd : FuncData} {ps : List Str} {sp : Sp} {dvs : List V} {ds : List Value} {E : XK} {x m : Str} {p pos apos : Pos} {e o : Expr} {es : List Expr} {ta : TE} {t : TA}
theorem run_fn {pins : List (Addr × Obj)} {σ : St} {H : Hp} {s : Shared} {Q : VK} {us : List Value} {vs : List V} (F : FnOk X.prog X.w X.K X.mg X.base CX k f fd ps sp) (hr : Room k X.A) (hb : Binds X.K fd ps ds) (hd : Vals dvs ds) (hx : Passes CX X E)
    (I : Inv X pins σ H s) (r : Vals vs us) (h : sp (vs ++ dvs) H Q E) : wpAny (model X.prog X.w) X.A (call (.ref f) us) (EP X pins σ Q) X.xe s := by
  have r2 : Vals (vs ++ dvs) (us ++ ds) := r.append hd
  have hl : (us ++ ds).length = ps.length := by rw [← r2.length]; exact F.len _ _ _ _ h
  refine wpAny_call (codeAny_mono (F.run X.A X.stack s H ⟨us, []⟩ (us ++ ds) (vs ++ dvs) Q E hr I.env0 (hb s us I.kIn hl) r2 h) fun r s' hq => ?_)
  cases r with
  | error e => exact hx pins σ H s e s' I hq
  | ok fl =>
    cases fl with
    | ret u => exact I.after hq
    | next => exact False.elim hq
    | brk => exact False.elim hq
    | cont => exact False.elim hq
theorem pe_call (F : FnOk X.prog X.w X.K X.mg X.base CX k f fd ps sp) (hr : Room k X.A) (hg : Gl X x) (hm : X.mg x = some (.ref f)) (hk : PySem.W.keepIn X.K (.ref f) = true) (hb : Binds X.K fd ps ds) (hd : Vals dvs ds) (hx : Passes CX X E)
    (ha : PA X (e :: es) t) (hdb : (x == ("__debug__" : Str)) = false := by decide) (he : starEach (e :: es) X.env = (false, eval e X.env) :: starEach es X.env := by rfl) (hpl : (backTo pos (starEach es X.env)).any (·.1) = false := by rfl) :
    PE X (.Call (.Name x p) (e :: es) [] pos) (tCall sp dvs E t) := by
  intro pins s σ H Q I h
  refine wpAny_Call_Name_kw (ld_glob I hg hm ?_ hdb)
  refine PySem.W.callWith_K (h₀ := X.base) I.ok.mod.kin hk (thn (ha pos pins s σ H _ I h) fun us s1 ⟨vs, H1, I1, r, q⟩ => ⟨I1.kIn, ?_⟩) he hpl
  exact run_fn F hr hb hd hx I1 r q
theorem pe_meth {pl : Sem Bool} (he : PE X o ta) (c : Cls X.K C) (hm : Meth X.K C m f) (F : FnOk X.prog X.w X.K X.mg X.base CX k f fd ps sp) (hr : Room k X.A) (hb : Binds X.K fd ps ds) (hd : Vals dvs ds) (hx : Passes CX X E) (ha : PA X (e :: es) t)
    (hst : starEach (e :: es) X.env = (false, eval e X.env) :: starEach es X.env := by rfl) (hpl : (backTo pos (starEach es X.env)).any (·.1) = false := by rfl)
    (ht : eval (.Call (.Attribute o m apos) (e :: es) [] pos) X.env = (do
      let ov ← eval o X.env
      standAt apos.atName
      let (f, first) ← holding [ov] (getMethod ov m pl)
      callWith pos f first (backTo pos (starEach (e :: es) X.env)) (backToKw pos (keywordEach [] X.env))) := by rfl) :
    PE X (.Call (.Attribute o m apos) (e :: es) [] pos) (tMeth C m sp dvs E ta t) := by
  intro pins s σ H Q I h
  refine PySem.W.methodCall_KW (pl := pl) (thn (he pins s σ H _ I h) fun u s1 ⟨x, H1, I1, rx, a, dx, fs, ex, ea, l, q⟩ => ?_) ht
  subst ex
  obtain rfl : u = Value.ref a := rx
  refine getmeth_ok I1 ea c hm l ?_
  refine PySem.W.callWith_K (first := [.ref a]) (h₀ := X.base) I.ok.mod.kin hm.kp (thn (ha pos pins s1 σ H1 _ I1 q) fun us s2 ⟨vs, H2, I2, r, q2⟩ => ⟨I2.kIn, ?_⟩) hst hpl
  exact run_fn (us := .ref a :: us) (vs := .ref a :: vs) F hr hb hd hx I2 (.cons rfl r) q2
structure Mk (K : PySem.W.Frag) (C f : Addr) : Prop where
  makes : PySem.W.makesIn K C = true
  init : PySem.W.findIn K (.ref C) "__init__" = some (some (.ref f))
  fn : PySem.W.isFn K (.ref f) = true
  kp : PySem.W.keepIn K (.ref C) = true
theorem run_make {pins : List (Addr × Obj)} {σ : St} {H : Hp} {s : Shared} {Q : VK} {us : List Value} {vs : List V} (M : Mk X.K C f) (F : FnOk X.prog X.w X.K X.mg X.base CX k f fd ps sp) (hr : Room (k + 1) X.A) (hb : Binds X.K fd ps ds) (hd : Vals dvs ds)
    (hx : Passes CX X E) (I : Inv X pins σ H s) (r : Vals vs us)
    (h : ∀ x dx, H x = none → H dx = none → dx ≠ x → sp (.ref x :: (vs ++ dvs)) (upd (upd H dx (.own x)) x (.ins C dx [])) (fun v H2 => v = .non ∧ Q (.ref x) H2) E) :
    wpAny (model X.prog X.w) X.A (call (.ref C) us) (EP X pins σ Q) X.xe s := by
  have hq := h (s.heap.objs.size + 1) s.heap.objs.size (I.hok.fresh (Nat.le_succ _)) (I.hok.fresh (Nat.le_refl _)) (Nat.ne_of_lt (Nat.lt_succ_self _))
  have I2 := Inv.made (C := C) I
  have r2 : Vals (V.ref (s.heap.objs.size + 1) :: (vs ++ dvs)) (Value.ref (s.heap.objs.size + 1) :: (us ++ ds)) := .cons rfl (r.append hd)
  have hl : (Value.ref (s.heap.objs.size + 1) :: us ++ ds).length = ps.length := by
    have e := r2.length
    rw [F.len _ _ _ _ hq] at e
    exact e.symm
  refine wpAny_call (make_map (f := f) I.kIn M.makes M.init (beq_iff_eq.mp M.fn) (codeAny_mono (F.run _ X.stack _ _ ⟨Value.ref (s.heap.objs.size + 1) :: us, []⟩ (Value.ref (s.heap.objs.size + 1) :: (us ++ ds)) _ _ E (hr.make C us [])
    (I2.env0.make C us []) (hb _ (Value.ref (s.heap.objs.size + 1) :: us) I2.kIn hl) r2 hq) fun r s' hq' => ?_))
  cases r with
  | error e => exact hx pins σ _ _ e s' I2 hq'
  | ok fl =>
    cases fl with
    | ret u =>
      obtain ⟨v, H', I3, rv, ev, q3⟩ := I2.after hq'
      subst ev
      exact ⟨rv, ⟨V.ref (s.heap.objs.size + 1), H', I3, rfl, q3⟩⟩
    | next => exact False.elim hq'
    | brk => exact False.elim hq'
    | cont => exact False.elim hq'
theorem pe_make (M : Mk X.K C f) (F : FnOk X.prog X.w X.K X.mg X.base CX k f fd ps sp) (hr : Room (k + 1) X.A) (hg : Gl X x) (hm : X.mg x = some (.ref C)) (hb : Binds X.K fd ps ds) (hd : Vals dvs ds) (hx : Passes CX X E)
    (ha : PA X (e :: es) t) (hdb : (x == ("__debug__" : Str)) = false := by decide) (he : starEach (e :: es) X.env = (false, eval e X.env) :: starEach es X.env := by rfl) (hpl : (backTo pos (starEach es X.env)).any (·.1) = false := by rfl) :
    PE X (.Call (.Name x p) (e :: es) [] pos) (tMake C sp dvs E t) := by
  intro pins s σ H Q I h
  refine wpAny_Call_Name_kw (ld_glob I hg hm ?_ hdb)
  refine PySem.W.callWith_K (h₀ := X.base) I.ok.mod.kin M.kp (thn (ha pos pins s σ H _ I h) fun us s1 ⟨vs, H1, I1, r, q⟩ => ⟨I1.kIn, ?_⟩) he hpl
  exact run_make M F hr hb hd hx I1 r q
end
section
variable {X : Cx} {CX : CXT} {k : Nat} {f C : Addr} {fd : FuncData} {ps ks : List Str} {sp : Sp} {E : XK} {x m : Str} {p pos apos kpos : Pos} {e o : Expr} {es : List Expr} {kws : List Keyword} {te ta : TE} {t tk : TA} {nm : Option Str}
variable {g : List Value → List Value → List Value} {gV : List V → List V → List V}
end
structure FnScope (N P : List Str) (sc : Scope) : Prop where
  kind : sc.kind = .function
  co : sc.isCoroutine = false
  gen : sc.isGenerator = false
  nd : N.Nodup
  pre : N.take P.length = P
  par : ∀ x ∈ P, sc.names.lookup x = some .local ∨ sc.names.lookup x = some .cell
  nofree : ∀ y ∈ sc.names, y.2 ≠ .free
theorem bindL_out {kindOf : Str → Option NameKind} {x : Str} : ∀ {binds : List (Str × Value)} {m : Str → Option Value}, (∀ v, (x, v) ∉ binds) → bindL kindOf binds m x = m x
  | [], _, _ => rfl
  | (n, v) :: r, m, h => by
    unfold bindL
    rw [bindL_out fun w hw => h w (List.mem_cons_of_mem _ hw)]
    split
    · have : x ≠ n := by rintro rfl; exact h v List.mem_cons_self
      simp [this]
    · rfl
theorem bindC_out {kindOf : Str → Option NameKind} {x : Str} : ∀ {binds : List (Str × Value)} {m : Str → Option Value}, (∀ v, (x, v) ∉ binds) → bindC kindOf binds m x = m x
  | [], _, _ => rfl
  | (n, v) :: r, m, h => by
    unfold bindC
    rw [bindC_out fun w hw => h w (List.mem_cons_of_mem _ hw)]
    split
    · rfl
    · have : x ≠ n := by rintro rfl; exact h v List.mem_cons_self
      simp [this]
theorem bindL_get {kindOf : Str → Option NameKind} {x : Str} {v : Value} : ∀ {P : List Str} {vs : List Value} {i : Nat} {m : Str → Option Value}, P.Nodup → P[i]? = some x → vs[i]? = some v → kindOf x = some .local →
    bindL kindOf (P.zip vs) m x = some v
  | [], _, _, _, _, h, _, _ => by simp at h
  | _ :: _, [], _, _, _, _, h, _ => by simp at h
  | p :: P, w :: vs, 0, m, nd, h1, h2, hk => by
    simp at h1 h2; subst h1; subst h2
    show bindL kindOf ((p, w) :: P.zip vs) m p = _
    unfold bindL
    rw [bindL_out fun v hv => (List.nodup_cons.mp nd).1 (List.of_mem_zip hv).1, if_pos hk]
    simp
  | p :: P, w :: vs, i + 1, m, nd, h1, h2, hk => by
    show bindL kindOf ((p, w) :: P.zip vs) m x = _
    unfold bindL
    exact bindL_get (i := i) (List.nodup_cons.mp nd).2 (by simpa using h1) (by simpa using h2) hk
theorem bindC_get {kindOf : Str → Option NameKind} {x : Str} {v : Value} : ∀ {P : List Str} {vs : List Value} {i : Nat} {m : Str → Option Value}, P.Nodup → P[i]? = some x → vs[i]? = some v → kindOf x ≠ some .local →
    bindC kindOf (P.zip vs) m x = some v
  | [], _, _, _, _, h, _, _ => by simp at h
  | _ :: _, [], _, _, _, _, h, _ => by simp at h
  | p :: P, w :: vs, 0, m, nd, h1, h2, hk => by
    simp at h1 h2; subst h1; subst h2
    show bindC kindOf ((p, w) :: P.zip vs) m p = _
    unfold bindC
    rw [bindC_out fun v hv => (List.nodup_cons.mp nd).1 (List.of_mem_zip hv).1, if_neg hk]
    simp
  | p :: P, w :: vs, i + 1, m, nd, h1, h2, hk => by
    show bindC kindOf ((p, w) :: P.zip vs) m x = _
    unfold bindC
    exact bindC_get (i := i) (List.nodup_cons.mp nd).2 (by simpa using h1) (by simpa using h2) hk
noncomputable def start (N : List Str) (vs : List V) : St := vs.map some ++ List.replicate (N.length - vs.length) none
noncomputable def cxOf (CX : CXT) (P : Program) (w : World) (K : PySem.W.Frag) (mg : Str → Option Value) (base : Heap) (N : List Str) (qual : Str) (scope : Scope) (f : Addr) (cd : Value) (A : Around) (outer : List Env) (s : Shared) (H : Hp) (E : XK) : Cx where
  prog := P
  w := w
  K := K
  mg := mg
  base := base
  A := A.deeper (envOfC qual scope s.heap.objs.size f cd)
  N := N
  s₀ := s
  H₀ := H
  env := envOfC qual scope s.heap.objs.size f cd
  outer := outer
  stack := envOfC qual scope s.heap.objs.size f cd :: outer
  ex := []
  calm := true
  fn := fun _ => true
  pn := []
  xe := fun e s' => wpAny (model P w) (A.deeper (envOfC qual scope s.heap.objs.size f cd)) (leaving (envOfC qual scope s.heap.objs.size f cd) e) (fun _ s'' => CX outer H s E e s'') (fun e' s'' => CX outer H s E e' s'') s'
theorem cell_has {sc : Scope} {n : Nat} {x : Str} (h : sc.names.lookup x = some .cell) : ∃ c, (cellsFrom n sc.names []).lookup x = some c := by
  have q := PySem.W.cellsFrom_some sc.names n [] (.inl h)
  exact Option.isSome_iff_exists.mp q
theorem inv_start {CX : CXT} {P : Program} {w : World} {K : PySem.W.Frag} {mg : Str → Option Value} {base : Heap} {N ps : List Str} {qual : Str} {scope : Scope} {f : Addr} {cd : Value} {A : Around} {outer : List Env} {s s1 : Shared} {H : Hp} {E : XK} {us : List Value} {vs : List V}
    (S : FnScope N ps scope) (hd : A.handled = none) (e0 : Env0 P w K mg base A outer s H) (hl : vs.length = ps.length) (r : Vals vs us)
    (x : InCallC s s.heap.objs.size (bindL (envOfC qual scope s.heap.objs.size f cd).kindOf (ps.zip us) fun _ => none) (cellsFrom (s.heap.objs.size + 1) scope.names []) (bindC (envOfC qual scope s.heap.objs.size f cd).kindOf (ps.zip us) fun _ => none) s1) :
    Inv (cxOf CX P w K mg base N qual scope f cd A outer s H E) [] (start N vs) H s1 := by
  have hpl : ps.length ≤ N.length := by have := congrArg List.length S.pre; rw [List.length_take] at this; omega
  obtain ⟨h1, tk, rfl, hk⟩ := x.done
  have noA : ∀ b : Addr, b ∉ (cxOf CX P w K mg base N qual scope f cd A outer s H E).ex := fun b z => absurd (show b ∈ ([] : List Addr) from z) (by simp)
  refine ⟨⟨e0.mod, S.kind, rfl, rfl, Nat.le_refl _, fun y z c h1 h2 => ?_, fun y hy => ?_, fun y c _ h => ?_, fun _ => hd, Around.frames_deeper e0.frames, .inr ⟨rfl, rfl⟩, fun b z => absurd z (noA b), e0.bs, e0.bsz, fun b _ _ => noA b, fun b z => absurd z (noA b), e0.funs, e0.frf⟩,
    rfl, e0.bare, Un.kept hk, ⟨_, x.toInCall.ns, fun i y v h1 h2 h3 => ?_⟩, fun y c h => ⟨_, x.cell y c h⟩, e0.hok.fresh (Nat.le_refl _), fun y c h => ?_, fun p hp => absurd (show p ∈ ([] : List (Addr × Obj)) from hp) (by simp), e0.hok.kept hk, ?_⟩
  · exact name_of_addr x.apart (PySem.mem_of_lookup h1) (PySem.mem_of_lookup h2)
  · have hy : scope.names.lookup y = some .cell ∨ scope.names.lookup y = some .free := hy
    rcases hy with hy | hy
    · exact cell_has hy
    · exact absurd rfl (S.nofree _ (PySem.mem_of_lookup hy))
  · exact Nat.le_of_lt (x.above y c (PySem.mem_of_lookup h))
  · have hi : i < vs.length := by
      unfold start at h2
      by_cases hi : i < vs.length
      · exact hi
      · rw [List.getElem?_append_right (by simpa using hi)] at h2
        rw [List.getElem?_replicate] at h2
        split at h2 <;> cases h2
    have ha : vs[i]? = some v := by
      unfold start at h2
      rw [List.getElem?_append_left (by simpa using hi), List.getElem?_map] at h2
      cases e : vs[i]? with
      | none => rw [e] at h2; cases h2
      | some a => rw [e] at h2; cases h2; rfl
    obtain ⟨u, hu, rv⟩ := r.get ha
    have hp : ps[i]? = some y := by
      rw [← S.pre, List.getElem?_take_of_lt (by omega)]; exact h1
    have ndP : ps.Nodup := by rw [← S.pre]; exact S.nd.sublist (List.take_sublist _ _)
    refine ⟨u, rv, ?_⟩
    rcases S.par y (List.mem_of_getElem? hp) with k | k
    · exact .inl ⟨k, bindL_get ndP hp hu k⟩
    · obtain ⟨c, e⟩ := cell_has (n := s.heap.objs.size + 1) k
      refine .inr ⟨.inl k, c, e, ?_⟩
      have q := x.cell y c e
      rw [bindC_get ndP hp hu (by show scope.names.lookup y ≠ _; rw [k]; decide)] at q
      exact q
  · exact e0.hok.fresh (Nat.le_of_lt (x.above y c (PySem.mem_of_lookup h)))
  · unfold start
    show _ = N.length
    rw [List.length_append, List.length_map, List.length_replicate]
    omega
theorem fn_of {CX : CXT} {P : Program} {w : World} {K : PySem.W.Frag} {mg : Str → Option Value} {base : Heap} {k : Nat} {f : Addr} {name qual : Str} {params : Arguments} {body : List Stmt} {scope : Scope} {dV kV doc pm cdv ct oc : Value} {an od : Option Addr}
    {osl : Array (Option Value)} {N ps : List Str} {sp : Sp} (lk : K.lookup f = some ⟨oc, od, .func (PySem.W.fnOf name qual params body scope dV kV doc pm an cdv ct), osl⟩) (hcd : PySem.W.codeIn K cdv qual = true) (S : FnScope N ps scope)
    (len : ∀ vs H Q E, sp vs H Q E → vs.length = ps.length)
    (hbody : ∀ (A : Around) (outer : List Env) (s : Shared) (H : Hp) (vs : List V) (Q : VK) (E : XK), Room k (A.deeper (envOfC qual scope s.heap.objs.size f cdv)) → sp vs H Q E →
      ∃ t, PSs (cxOf CX P w K mg base N qual scope f cdv A outer s H E) body t ∧ t { nx := fun _ H' => Q .non H', rt := Q } (start N vs) H) :
    FnOk P w K mg base CX (k + 1) f (PySem.W.fnOf name qual params body scope dV kV doc pm an cdv ct) ps sp := by
  refine ⟨len, fun A outer s H args us vs Q E hr e0 hb r hsp => ?_⟩
  have hl := len _ _ _ _ hsp
  have KX : K.In s.heap := e0.mod.kin.keeps fun b o e => (e0.bs b o e).1
  have lim : s.heap.NoLimit := e0.mod.nolimit.keeps fun b o e => (e0.bs b o e).1
  have hkind : ∀ y ∈ ps.zip us, scope.names.lookup y.1 = some .local ∨ (scope.names.lookup y.1 = some .cell ∧ ((cellsFrom (s.heap.objs.size + 1) scope.names []).lookup y.1).isSome = true) := fun ⟨n, v⟩ hy => by
    rcases S.par n (List.of_mem_zip hy).1 with q | q
    · exact .inl q
    · exact .inr ⟨q, PySem.W.cellsFrom_some _ _ _ (.inl q)⟩
  refine codeAny_call_function hr.depth (KX _ _ lk) rfl S.co S.gen rfl (PySem.W.codeRec_of KX hcd) (hb _ _ _ _ ?_)
  refine wpAny_newFunctionEnv_cells S.kind hkind fun env he s1 x => ?_
  subst he
  refine ⟨lim.keeps x.toInCall.keep, codeAny_func ?_⟩
  obtain ⟨t, ht, hq⟩ := hbody A outer s H vs Q E (hr.deeper _) hsp
  have I : Inv (cxOf CX P w K mg base N qual scope f cdv A outer s H E) [] (start N vs) H s1 := inv_start S hr.hd e0 hl r x
  refine wpAny_mono (ht [] s1 (start N vs) H _ I hq) (fun fl s' hs => ?_) fun e s' hs => hs
  have fin : ∀ {σ' : St} {H' : Hp} {v : V} {u : Value}, Inv (cxOf CX P w K mg base N qual scope f cdv A outer s H E) [] σ' H' s' → RelV v u → Q v H' → CE outer P w H s Q u s' :=
    fun {σ' H' v u} J rv q => ⟨v, H', J.os, J.bare, J.base, J.hok, rv, q⟩
  cases fl with
  | ret u =>
    obtain ⟨v, σ', H', J, rv, q⟩ := hs
    exact fin J rv q
  | next =>
    obtain ⟨σ', H', J, q⟩ := hs
    exact fin (v := V.non) (u := Value.none) J rfl q
  | brk =>
    obtain ⟨_, _, _, q⟩ := hs
    exact False.elim q
  | cont =>
    obtain ⟨_, _, _, q⟩ := hs
    exact False.elim q
end L2
namespace L2
open PySem PySem.Spec PyProof.Rows
section
variable {X : Cx} {x : Str} {p pos : Pos} {e : Expr} {es : List Expr} {t : TA} {id T : String} {r : List V → Hp → VK → Prop}
noncomputable def tCB (r : List V → Hp → VK → Prop) (t : TA) : TE := fun σ H Q => t σ H fun vs H1 => r vs H1 Q
theorem pe_callB (hc : CallR X (.builtin id) r) (hg : Gl X x) (hm : X.mg x = none) (hv : bootBuiltins x = some (.builtin id)) (ha : PA X (e :: es) t) (hn : x ≠ "__name__" := by decide) (hdb : (x == ("__debug__" : Str)) = false := by decide)
    (he : starEach (e :: es) X.env = (false, eval e X.env) :: starEach es X.env := by rfl) (hpl : (backTo pos (starEach es X.env)).any (·.1) = false := by rfl) : PE X (.Call (.Name x p) (e :: es) [] pos) (tCB r t) := by
  intro pins s σ H Q I h
  refine wpAny_Call_Name_kw (ld_blt I hg hm hv ?_ hn hdb)
  exact PyProof.Rows.callWith_builtin1 (thn (ha pos pins s σ H _ I h) fun us s1 ⟨vs, H1, I1, r1, q1⟩ => hc pins s1 σ H1 vs us Q I1 r1 q1) he hpl
theorem pe_callTy (hc : CallR X (.type T) r) (hg : Gl X x) (hm : X.mg x = none) (hv : bootBuiltins x = some (.type T)) (ha : PA X (e :: es) t) (hn : x ≠ "__name__" := by decide) (hdb : (x == ("__debug__" : Str)) = false := by decide)
    (he : starEach (e :: es) X.env = (false, eval e X.env) :: starEach es X.env := by rfl) (hpl : (backTo pos (starEach es X.env)).any (·.1) = false := by rfl) : PE X (.Call (.Name x p) (e :: es) [] pos) (tCB r t) := by
  intro pins s σ H Q I h
  refine wpAny_Call_Name_kw (ld_blt I hg hm hv ?_ hn hdb)
  exact PyProof.Rows.callWith_type1 (thn (ha pos pins s σ H _ I h) fun us s1 ⟨vs, H1, I1, r1, q1⟩ => hc pins s1 σ H1 vs us Q I1 r1 q1) he hpl
end
end L2
namespace HT
open PySem PyProof.Rows
section
open PySem.SeqAt
open PySem.AutoSeq1 (wpAny_loadPart')
open PySem.MeetsSeq PySem.MeetsSeq2 PySem.MeetsSeq3
end
section
variable {prog : Program} {w : World} {A : Around} {E : Value → Shared → Prop} {s : Shared}
noncomputable def sIx (n d : Nat) : Option Int → Nat
  | none => d
  | some v => if v < 0 then (v + (n : Int)).toNat else min v.toNat n
theorem sIx_none (n d : Nat) : sIx n d none = d := rfl
theorem sIx_nat (n d k : Nat) : sIx n d (some (k : Int)) = min k n := by
  show (if (k : Int) < 0 then ((k : Int) + (n : Int)).toNat else min (k : Int).toNat n) = min k n
  rw [if_neg (by omega), Int.toNat_natCast]
end
end HT
namespace L2
open PySem PySem.Spec PyProof.Rows
noncomputable abbrev TO := St → Hp → (Option Int → Hp → Prop) → Prop
noncomputable def PO (X : Cx) (e : Option Expr) (t : TO) : Prop :=
  ∀ (pins : List (Addr × Obj)) (s : Shared) (σ : St) (H : Hp) (Q : Option Int → Hp → Prop), Inv X pins σ H s → t σ H Q →
    wpAny (model X.prog X.w) X.A (evalPart e X.env) (fun u s' => ∃ o H', Inv X pins σ H' s' ∧ IsPart u o ∧ Q o H') X.xe s
noncomputable def tNoPart : TO := fun _ H Q => Q none H
noncomputable def tPart (t : TE) : TO := fun σ H Q => t σ H fun x H1 => ∃ i, x = .int i ∧ Q (some i) H1
section
variable {X : Cx} {e : Expr} {te : TE} {lo hi : Option Expr} {tl th : TO} {pos p2 : Pos}
theorem po_none : PO X none tNoPart := by
  intro pins s σ H Q I h
  rw [evalPart_none]
  exact wpAny_pure ⟨none, H, I, .none, h⟩
theorem po_some (h : PE X e te) : PO X (some e) (tPart te) := by
  intro pins s σ H Q I hw
  rw [evalPart_some]
  refine thn (h pins s σ H _ I hw) fun u s1 ⟨x, H1, I1, r1, q1⟩ => ?_
  obtain ⟨i, rfl, q⟩ := q1
  obtain ⟨t, rfl⟩ := r1
  exact ⟨some i, H1, I1, .int i t, q⟩
noncomputable def SlR (X : Cx) (r : V → Option Int → Option Int → Hp → VK → Prop) : Prop :=
  ∀ (pins : List (Addr × Obj)) (s : Shared) (σ : St) (H : Hp) (x : V) (v vl vu : Value) (lo hi : Option Int) (sl : Addr) (Q : VK), Inv X pins σ H s → RelV x v → s.heap.IsSliceOf sl vl vu .none → IsPart vl lo → IsPart vu hi → r x lo hi H Q →
    ∃ T id, typeLookup (.type T) "__getitem__" = pure (some (.builtin id)) ∧ s.TypeIs v T ∧ wpAny (model X.prog X.w) X.A (getItem v (.ref sl)) (EP X pins σ Q) X.xe s
noncomputable def tSl (r : V → Option Int → Option Int → Hp → VK → Prop) (te : TE) (tl th : TO) : TE := fun σ H Q => te σ H fun x H1 => tl σ H1 fun l H2 => th σ H2 fun u H3 => r x l u H3 Q
theorem pe_slice {r : V → Option Int → Option Int → Hp → VK → Prop} (hr : SlR X r) (he : PE X e te) (hl : PO X lo tl) (hu : PO X hi th) : PE X (.Subscript e (.Slice lo hi none p2) pos) (tSl r te tl th) := by
  intro pins s σ H Q I h
  refine Subscript_ (thn (he pins s σ H _ I h) fun v s1 ⟨x, H1, I1, r1, q1⟩ => ?_)
  refine wpAny_Slice (thn (hl pins s1 σ H1 _ I1 q1) fun vl s2 ⟨l, H2, I2, pl, q2⟩ => thn (hu pins s2 σ H2 _ I2 q2) fun vu s3 ⟨u, H3, I3, pu, q3⟩ => ?_)
  rw [evalPart_none]
  refine wpAny_pure ?_
  have I4 : Inv X pins σ H3 { s3 with heap := s3.heap.push { cls := .type "slice", data := .fields #[vl, vu, .none] } } := I3.kept (t' := s3.toks) fun b ob q => Heap.get?_push_of_some _ q
  obtain ⟨T, id, hT, ht, hg⟩ := hr pins { s3 with heap := s3.heap.push { cls := .type "slice", data := .fields #[vl, vu, .none] } } σ H3 x v vl vu l u s3.heap.objs.size Q I4 r1 (Heap.IsSliceOf.new ..) pl pu q3
  show wpAny (model X.prog X.w) X.A (subscriptTail e (.Slice lo hi none p2) v (.ref s3.heap.objs.size)) (EP X pins σ Q) X.xe { s3 with heap := s3.heap.push { cls := .type "slice", data := .fields #[vl, vu, .none] } }
  exact tail_any (ops := [.ref s3.heap.objs.size, v]) ht hT hg (by with_unfolding_all rfl)
noncomputable def cutV (xs : List V) (lo hi : Option Int) : List V := (xs.drop (HT.sIx xs.length 0 lo)).take (HT.sIx xs.length xs.length hi - HT.sIx xs.length 0 lo)
theorem cutV_length (xs : List V) (lo hi : Option Int) : (cutV xs lo hi).length ≤ xs.length := by
  unfold cutV
  rw [List.length_take, List.length_drop]
  omega
end
end L2
namespace L2
open PySem PySem.Spec PyProof.Rows
noncomputable def ixN (n : Nat) (i : Int) : Option Nat := if 0 ≤ i then (if i < n then some i.toNat else none) else if -(n : Int) ≤ i then some (i + n).toNat else none
noncomputable def atI {α : Type} (xs : List α) (i : Int) : Option α := (ixN xs.length i).bind fun j => xs[j]?
theorem ixN_seq {n : Nat} {i : Int} {j : Nat} (h : ixN n i = some j) : seqIndex? i n = some j ∧ j < n ∧ -(n : Int) ≤ i ∧ i < n := by
  unfold ixN at h
  by_cases h0 : 0 ≤ i
  · rw [if_pos h0] at h
    by_cases h1 : i < n
    · rw [if_pos h1] at h
      have e : i.toNat = j := Option.some.inj h
      exact ⟨by rw [seqIndex_of h0 h1, e], by omega, by omega, h1⟩
    · rw [if_neg h1] at h; cases h
  · rw [if_neg h0] at h
    by_cases h1 : -(n : Int) ≤ i
    · rw [if_pos h1] at h
      have e : (i + n).toNat = j := Option.some.inj h
      exact ⟨by rw [seqIndex_neg (by omega) h1, e], by omega, h1, by omega⟩
    · rw [if_neg h1] at h; cases h
theorem atI_get {α : Type} {xs : List α} {i : Int} {v : α} (h : atI xs i = some v) : ∃ j, seqIndex? i xs.length = some j ∧ xs[j]? = some v ∧ j < xs.length ∧ -(xs.length : Int) ≤ i ∧ i < xs.length := by
  unfold atI at h
  cases e : ixN xs.length i with
  | none => rw [e] at h; cases h
  | some j =>
    rw [e] at h
    obtain ⟨h1, h2, h3, h4⟩ := ixN_seq e
    exact ⟨j, h1, h, h2, h3, h4⟩
theorem atI_nat {α : Type} {xs : List α} {j : Nat} {v : α} (h : xs[j]? = some v) : atI xs (j : Int) = some v := by
  have hj : j < xs.length := (List.getElem?_eq_some_iff.mp h).1
  have e : ixN xs.length (j : Int) = some j := by
    unfold ixN
    rw [if_pos (by omega), if_pos (by omega)]; simp
  unfold atI; rw [e]; exact h
noncomputable def PlainIx (b : Expr) : Prop := ∀ o i, subscripted b false o i = operate [o, i] (getItem o i)
noncomputable def IxR (X : Cx) (r : R2) : Prop :=
  ∀ (value slice : Expr) (pins : List (Addr × Obj)) (s : Shared) (σ : St) (H : Hp) (x y : V) (v u : Value) (Q : VK), Inv X pins σ H s → RelV x v → RelV y u → r x y H Q →
    subscripted slice false v u = operate [v, u] (getItem v u) → wpAny (model X.prog X.w) X.A (subscriptTail value slice v u) (EP X pins σ Q) X.xe s
noncomputable def MtR (X : Cx) (id : String) (r : V → List V → Hp → VK → Prop) : Prop :=
  ∀ (pins : List (Addr × Obj)) (s : Shared) (σ : St) (H : Hp) (x : V) (xs : List V) (v : Value) (us : List Value) (Q : VK), Inv X pins σ H s → RelV x v → Vals xs us → r x xs H Q →
    wpAny (model X.prog X.w) X.A (call (.builtin id) (v :: us)) (EP X pins σ Q) X.xe s
section
variable {X : Cx} {a b : Expr} {ta tb : TE} {pos : Pos}
theorem pe_ix {r : R2} (hr : IxR X r) (ha : PE X a ta) (hb : PE X b tb) (hs : PlainIx b) : PE X (.Subscript a b pos) (tOp r ta tb) := by
  intro pins s σ H Q I h
  exact Subscript_ (binT ha hb I h fun v u s2 x y H2 I2 rx ry q => hr a b pins s2 σ H2 x y v u Q I2 rx ry q (hs _ _))
noncomputable def rIxL (K : PySem.W.Frag) : R2 := fun x y H Q => ∃ p xs i v, x = .ref p ∧ y = .int i ∧ SqL K H p xs ∧ atI xs i = some v ∧ Q v H
noncomputable def rIxT (K : PySem.W.Frag) : R2 := fun x y H Q => ∃ p xs i v, x = .ref p ∧ y = .int i ∧ SqT K H p xs ∧ atI xs i = some v ∧ Q v H
theorem ix_list : IxR X (rIxL X.K) := by
  intro value slice pins s σ H x y v u Q I rx ry h hs
  obtain ⟨p, xs, i, z, rfl, rfl, hq, he, q⟩ := h
  cases rx
  obtain ⟨t, rfl⟩ := ry
  obtain ⟨its, r, pl, hz⟩ := I.list hq
  obtain ⟨j, h1, h2, h3, h4, h5⟩ := atI_get he
  obtain ⟨w, ew, rw'⟩ := r.get h2
  have hl := r.length
  have hn := line63
  have fin : EP X pins σ Q w s := ⟨z, H, I, rw', q⟩
  by_cases h0 : 0 ≤ i
  · have hj : i.toNat = j := by
      rw [seqIndex_of h0 h5] at h1
      exact Option.some.inj h1
    exact item_listR pl.isList h0 (by omega) (by rw [hj]; simpa using ew) fin hs
  · have hj : (i + (its.toArray.size : Int)).toNat = j := by
      rw [seqIndex_neg (by omega) h4] at h1
      rw [List.size_toArray, ← hl]
      exact Option.some.inj h1
    exact subscriptTail_builtinR (x := w) pl.isList.typeIs slot_list_getitem.lookup
      (wpAny_getItem_list_neg (Q := fun r s' => r = w ∧ EP X pins σ Q r s') pl.isList (by omega) (by rw [List.size_toArray] <;> omega) (by omega) (by rw [hj]; simpa using ew) ⟨rfl, fin⟩) hs
theorem ix_tup : IxR X (rIxT X.K) := by
  intro value slice pins s σ H x y v u Q I rx ry h hs
  obtain ⟨p, xs, i, z, rfl, rfl, hq, he, q⟩ := h
  cases rx
  obtain ⟨t, rfl⟩ := ry
  obtain ⟨its, r, pl, hz⟩ := I.tuple hq
  obtain ⟨j, h1, h2, h3, h4, h5⟩ := atI_get he
  obtain ⟨w, ew, rw'⟩ := r.get h2
  have hl := r.length
  have hn := line63
  have fin : EP X pins σ Q w s := ⟨z, H, I, rw', q⟩
  exact subscriptTail_builtinR (x := w) pl.typeIs slot_tuple_getitem.lookup
    (getItem_tuple (j := j) (Q := fun r s' => r = w ∧ EP X pins σ Q r s') pl (by omega) (by omega) (by rw [List.size_toArray, ← hl]; exact h1) (by simpa using ew) ⟨rfl, fin⟩) hs
theorem Inv.lst {pins : List (Addr × Obj)} {σ : St} {H : Hp} {s : Shared} {p : Addr} {xs : List V} (I : Inv X pins σ H s) (h : H p = some (.lst xs)) :
    ∃ (its : List Value) (n : Nat), Vals xs its ∧ s.heap.get? p = some { cls := .type "list", data := .seq its.toArray n } ∧ xs.length ≤ sizeLine := by
  obtain ⟨z, its, n, r, e⟩ := I.hok p _ h
  exact ⟨its, n, r, e, z⟩
theorem slice_bounds (lo hi : Option Int) (n : Nat) : (sliceBounds lo hi none n).1 = ((HT.sIx n 0 lo : Nat) : Int) ∧ (sliceBounds lo hi none n).2.1 = ((HT.sIx n n hi : Nat) : Int) ∧ (sliceBounds lo hi none n).2.2 = 1 := by
  refine ⟨?_, ?_, rfl⟩
  · cases lo with
    | none => simp [sliceBounds, HT.sIx]
    | some i =>
      simp only [sliceBounds, HT.sIx, Option.getD_none, show (1 : Int) > 0 by decide, if_true]
      by_cases h : i < 0
      · simp only [h, if_true] <;> omega
      · simp only [h, if_false] <;> omega
  · cases hi with
    | none => simp [sliceBounds, HT.sIx]
    | some i =>
      simp only [sliceBounds, HT.sIx, Option.getD_none, show (1 : Int) > 0 by decide, if_true]
      by_cases h : i < 0
      · simp only [h, if_true] <;> omega
      · simp only [h, if_false] <;> omega
theorem slicePick_cut (its : List Value) (lo hi : Option Int) : slicePick its.toArray lo hi none = ((its.drop (HT.sIx its.length 0 lo)).take (HT.sIx its.length its.length hi - HT.sIx its.length 0 lo)).toArray := by
  obtain ⟨h1, h2, h3⟩ := slice_bounds lo hi its.toArray.size
  unfold slicePick
  rw [h1, h2, h3]
  simp only [sliceRange_one, pick_run, List.size_toArray] <;> rfl
noncomputable def rSlL (K : PySem.W.Frag) : V → Option Int → Option Int → Hp → VK → Prop := fun x lo hi H Q => ∃ a xs, x = .ref a ∧ SqL K H a xs ∧ ∀ p, H p = none → Q (.ref p) (upd H p (.lst (cutV xs lo hi)))
theorem sl_list : SlR X (rSlL X.K) := by
  intro pins s σ H x v vl vu lo hi sl Q I rx hs pl pu h
  obtain ⟨a, xs, rfl, hx, q⟩ := h
  cases rx
  obtain ⟨its, r, ht, hz⟩ := I.list hx
  have hlen := r.length
  refine ⟨"list", _, slot_list_getitem.lookup, ht.isList.typeIs, ?_⟩
  refine wpAny_getItem_list_slice ht.isList hs pl pu .none (by simp) ?_ (by rw [List.size_toArray] <;> omega)
  rw [slicePick_cut, ← hlen]
  refine ⟨.ref s.heap.objs.size, _, I.laid (t' := s.toks) (o := .lst (cutV xs lo hi)) (fun b ob q => Heap.get?_push_of_some _ q) (Nat.le_refl _) ?_, rfl, q _ (I.hok.fresh (Nat.le_refl _))⟩
  exact ⟨Nat.le_trans (cutV_length xs lo hi) hz, _, 0, (r.drop (HT.sIx xs.length 0 lo)).take (HT.sIx xs.length xs.length hi - HT.sIx xs.length 0 lo), Heap.get?_push_size _ rfl⟩
theorem call_len_seq : CallR X (.builtin "len") (fun xs H Q => ∃ p ys, xs = [.ref p] ∧ (SqL X.K H p ys ∨ SqT X.K H p ys) ∧ Q (.int ys.length) H) := by
  intro pins s σ H xs us Q I r h
  obtain ⟨p, ys, rfl, hq, q⟩ := h
  obtain ⟨u, rfl, rx⟩ := vals1 r
  cases rx
  have hn := line63
  rcases hq with hq | hq
  · obtain ⟨its, r', pl, hz⟩ := I.list hq
    have hlen := r'.length
    exact Calls.call_len_list pl.isList (by simp only [List.size_toArray] <;> omega) ⟨.int ys.length, H, I.tok _, ⟨s.toks + 1, by rw [List.size_toArray, hlen]⟩, q⟩
  · obtain ⟨its, r', pl, hz⟩ := I.tuple hq
    have hlen := r'.length
    exact len_tuple pl (by simp only [List.size_toArray] <;> omega) ⟨.int ys.length, H, I.tok _, ⟨s.toks + 1, by rw [List.size_toArray, hlen]⟩, q⟩
theorem call_list_of : CallR X (.type "list") (fun xs H Q => ∃ p ys, xs = [.ref p] ∧ (SqL X.K H p ys ∨ SqT X.K H p ys) ∧ ∀ l, H l = none → Q (.ref l) (upd H l (.lst ys))) := by
  intro pins s σ H xs us Q I r h
  obtain ⟨p, ys, rfl, hq, q⟩ := h
  obtain ⟨u, rfl, rx⟩ := vals1 r
  cases rx
  have fin : ∀ (its : List Value), Vals ys its → ys.length ≤ sizeLine → ∀ (h' : Heap) (c' : Nat), (∀ b o', s.heap.get? b = some o' → h'.get? b = some o') →
      h'.get? s.heap.objs.size = some { cls := .type "list", dict := none, data := .seq its.toArray c', slots := #[] } → EP X pins σ Q (.ref s.heap.objs.size) { s with heap := h' } := fun its r' hz h' c' kp e =>
    ⟨.ref s.heap.objs.size, _, I.laid (t' := s.toks) kp (Nat.le_refl _) (show ObjOk X.prog X.w _ h' _ (.lst ys) from ⟨hz, its, c', r', e⟩), rfl, q _ (I.hok.fresh (Nat.le_refl _))⟩
  rcases hq with hq | hq
  · obtain ⟨its, r', pl, hz⟩ := I.list hq
    have hlen := r'.length
    obtain ⟨o, ho, hc, n, hd⟩ := pl.isList
    exact call_list_seq p (.inl rfl) ho hc hd (fun h' c' kp e => fin its r' hz h' c' kp e) (by simp only [List.size_toArray] <;> omega)
  · obtain ⟨its, r', pl, hz⟩ := I.tuple hq
    have hlen := r'.length
    obtain ⟨o, ho, hc, n, hd⟩ := pl
    exact call_list_seq p (.inr rfl) ho hc hd (fun h' c' kp e => fin its r' hz h' c' kp e) (by simp only [List.size_toArray] <;> omega)
theorem call_tuple_of : CallR X (.type "tuple") (fun xs H Q => ∃ p ys, xs = [.ref p] ∧ ((SqL X.K H p ys ∧ ∀ l, H l = none → Q (.ref l) (upd H l (.tup ys))) ∨ (SqT X.K H p ys ∧ Q (.ref p) H))) := by
  intro pins s σ H xs us Q I r h
  obtain ⟨p, ys, rfl, h⟩ := h
  obtain ⟨u, rfl, rx⟩ := vals1 r
  cases rx
  rcases h with ⟨hq, q⟩ | ⟨hq, q⟩
  · obtain ⟨its, r', pl, hz⟩ := I.list hq
    have hlen := r'.length
    refine call_tuple_list pl.isList (fun h' kp => ?_) (by simp only [List.size_toArray] <;> omega)
    have I1 : Inv X pins σ H { s with heap := h' } := I.kept (t' := s.toks) kp
    have I2 : Inv X pins σ (upd H h'.objs.size (.tup ys)) { s with heap := h'.push { cls := .type "tuple", data := .seq its.toArray } } :=
      I1.laid (t' := s.toks) (fun b o e => Heap.get?_push_of_some _ e) (Nat.le_refl _) (show ObjOk X.prog X.w _ _ _ (.tup ys) from ⟨hz, its, r', IsTup.new _ _⟩)
    exact ⟨.ref h'.objs.size, _, I2, rfl, q _ (I1.hok.fresh (Nat.le_refl _))⟩
  · obtain ⟨its, r', pl, hz⟩ := I.tuple hq
    exact call_tuple_same pl ⟨.ref p, H, I, rfl, q⟩
noncomputable def tyV (K : PySem.W.Frag) (T : String) (x : V) (H : Hp) : Prop := match x with
  | .str _ => T = "str"
  | .int _ => T = "int"
  | .ref p => (T = "list" ∧ ∃ xs, SqL K H p xs) ∨ (T = "tuple" ∧ ∃ o, K.lookup p = some o ∧ o.cls = .type "tuple" ∧ o.dict = none) ∨
      (T = "dict" ∧ ((∃ kvs, H p = some (.dK kvs)) ∨ ∃ kvs, H p = some (.dT kvs))) ∨ (T = "set" ∧ ∃ S n, H p = some (.set S n))
  | _ => False
theorem tyV_is {pins : List (Addr × Obj)} {σ : St} {H : Hp} {s : Shared} {T : String} {x : V} {v : Value} (I : Inv X pins σ H s) (r : RelV x v) (ty : tyV X.K T x H) :
    s.TypeIs v T ∧ ∀ a, v = .ref a → ∃ ob, s.heap.get? a = some ob ∧ ob.dict = none := by
  cases x with
  | str z =>
    obtain ⟨t, rfl⟩ := r
    cases (show T = "str" from ty)
    exact ⟨typeIs_str s z t, fun _ e => nomatch e⟩
  | int i =>
    obtain ⟨t, rfl⟩ := r
    cases (show T = "int" from ty)
    exact ⟨typeIs_int s i t, fun _ e => nomatch e⟩
  | ref p =>
    cases r
    rcases ty with ⟨rfl, xs, hq⟩ | ⟨rfl, o, hk, hc, hd⟩ | ⟨rfl, hk⟩ | ⟨rfl, S, n, hk⟩
    · obtain ⟨its, _, pl, _⟩ := I.list hq
      refine ⟨pl.isList.typeIs, fun a e => ?_⟩
      cases e
      obtain ⟨o, n, e, c, hd, _⟩ := pl
      exact ⟨o, e, hd⟩
    · refine ⟨⟨o, I.kIn p o hk, hc⟩, fun a e => ?_⟩
      cases e
      exact ⟨o, I.kIn _ o hk, hd⟩
    · have z : ∃ o, s.heap.get? p = some o ∧ o.ExactDict := by
        rcases hk with ⟨kvs, hk⟩ | ⟨kvs, hk⟩
        · obtain ⟨_, _, _, _, o, _, _, e, ex, _⟩ := I.hok p _ hk
          exact ⟨o, e, ex⟩
        · obtain ⟨_, _, _, _, o, _, _, e, ex, _⟩ := I.hok p _ hk
          exact ⟨o, e, ex⟩
      obtain ⟨o, e, ex⟩ := z
      refine ⟨⟨o, e, ex.1⟩, fun a e2 => ?_⟩
      cases e2
      exact ⟨o, e, ex.2.1⟩
    · obtain ⟨o, _, _, _, e, ex, _⟩ := I.hok p _ hk
      refine ⟨⟨o, e, ex.1⟩, fun a e2 => ?_⟩
      cases e2
      exact ⟨o, e, ex.2.1⟩
  | _ => exact False.elim ty
noncomputable def tBM (K : PySem.W.Frag) (T : String) (r : V → List V → Hp → VK → Prop) (to : TE) (t : TA) : TE := fun σ H Q => to σ H fun x H1 => tyV K T x H1 ∧ t σ H1 fun xs H2 => r x xs H2 Q
variable {o e : Expr} {es : List Expr} {to : TE} {t : TA} {name : Str} {apos cpos : Pos} {T id : String} {r : V → List V → Hp → VK → Prop}
theorem pe_bm (pa : PlainAttrs T) (slot : Slot T name id) (hty : typeOf (.builtin id) = pure (.type "method_descriptor")) (hm : MtR X id r) (ho : PE X o to) (ha : PA X (e :: es) t)
    (hbase : attributeBase o name X.env (eval o X.env) = eval o X.env := by rfl)
    (hfew : ((backTo cpos (starEach (e :: es) X.env)).all (fun x => !x.1) && (backToKw cpos (keywordEach [] X.env)).all (fun x => x.1.isSome)
      && decide ((e :: es).length + ([] : List Keyword).length + (if ([] : List Keyword).isEmpty then 0 else 1) < 30)) = true := by rfl)
    (hline : (apos.endLine == cpos.line) = true := by rfl) (hs : starEach (e :: es) X.env = (false, eval e X.env) :: starEach es X.env := by rfl) (hplain : (backTo cpos (starEach es X.env)).any (·.1) = false := by rfl) :
    PE X (.Call (.Attribute o name apos) (e :: es) [] cpos) (tBM X.K T r to t) := by
  intro pins s σ H Q I h
  refine wpAny_Call_method_late hbase hfew hline rfl (thn (ho pins s σ H _ I h) fun v s1 ⟨x, H1, I1, r1, ty, q1⟩ => ?_)
  obtain ⟨h1, h2⟩ := tyV_is I1 r1 ty
  refine ⟨T, id, pa, slot, hty, h1, h2, ?_⟩
  have hA := ha cpos pins s1 σ H1 _ I1 q1
  rw [hs] at hA ⊢
  refine Calls.callWith_builtin (by show (false || (backTo cpos (starEach es X.env)).any (·.1)) = false; rw [hplain] <;> rfl) (Calls.evalArgs_plain ?_)
  exact thn hA fun us s2 ⟨vs, H2, I2, r2, q2⟩ => hm pins s2 σ H2 x vs v us Q I2 r1 r2 q2
end
end L2
namespace L2
open PySem PySem.Spec PyProof.Rows
noncomputable def MtM (X : Cx) (id : String) (r : V → List V → Hp → VK → Prop) : Prop :=
  ∀ (pins : List (Addr × Obj)) (s : Shared) (σ : St) (H : Hp) (x : V) (xs : List V) (v : Value) (us : List Value) (Q : VK), Inv X pins σ H s → RelV x v → Vals xs us → r x xs H Q →
    wpAny (model X.prog X.w) X.A (call (.builtin id) (v :: us)) (EP X pins σ Q) X.xe s
theorem Vals.one : ∀ {x : V} {us : List Value}, Vals [x] us → ∃ u, us = [u] ∧ RelV x u
  | _, _, .cons r .nil => ⟨_, rfl, r⟩
theorem Vals.two : ∀ {x y : V} {us : List Value}, Vals [x, y] us → ∃ u v, us = [u, v] ∧ RelV x u ∧ RelV y v
  | _, _, _, .cons r (.cons q .nil) => ⟨_, _, rfl, r, q⟩
theorem Vals.zero : ∀ {us : List Value}, Vals [] us → us = []
  | _, .nil => rfl
theorem Vals.reverse {xs : List V} {us : List Value} (h : Vals xs us) : Vals xs.reverse us.reverse := by
  induction h with
  | nil => exact .nil
  | cons r t ih => rw [List.reverse_cons, List.reverse_cons]; exact Vals.append ih (.cons r .nil)
section
variable {X : Cx} {pins : List (Addr × Obj)} {σ : St} {H : Hp} {s : Shared} {l b : Addr} {xs ys zs : List V}
theorem Inv.lset {its its' : List Value} {n : Nat} {f : Array Value → Array Value} {t' : Nat} (I : Inv X pins σ H s) (hH : H l = some (.lst xs))
    (e : s.heap.get? l = some { cls := .type "list", data := .seq its.toArray n }) (hf : f its.toArray = its'.toArray) (hv : Vals ys its') (hz : ys.length ≤ sizeLine) :
    Inv X pins σ (upd H l (.lst ys)) { s with heap := s.heap.update l (Obj.mapSeq f), toks := t' } := by
  have q := PySem.IsL.update e f
  rw [hf] at q
  refine I.write (x := l) (e := l) (by rw [hH]; exact trivial) (.inl rfl) (fun b' u hb hu => (Heap.get?_update_other s.heap (Obj.mapSeq f) (Ne.symm hb)).trans hu) ⟨_, q⟩ ?_
  exact ⟨hz, its', _, hv, q⟩
theorem Inv.lnew {its : List Value} {t' : Nat} (I : Inv X pins σ H s) (hv : Vals ys its) (hz : ys.length ≤ sizeLine) :
    Inv X pins σ (upd H s.heap.objs.size (.lst ys)) { s with heap := s.heap.push { cls := .type "list", data := .seq its.toArray }, toks := t' } :=
  I.laid (fun _ _ q => Heap.get?_push_of_some _ q) (Nat.le_refl _) ⟨hz, its, 0, hv, Heap.get?_push_size _ rfl⟩
theorem Inv.fresh (I : Inv X pins σ H s) : H s.heap.objs.size = none := I.hok.fresh (Nat.le_refl _)
theorem Inv.lstM (I : Inv X pins σ H s) (hH : H l = some (.lst xs)) : xs.length ≤ sizeLine ∧ ∃ (its : List Value) (n : Nat), Vals xs its ∧ xs.length = its.length ∧ s.heap.get? l = some { cls := .type "list", data := .seq its.toArray n } := by
  obtain ⟨z, its, n, r, e⟩ := I.hok l _ hH
  exact ⟨z, its, n, r, r.length, e⟩
end
section
variable {X : Cx}
noncomputable def rAppend : V → List V → Hp → VK → Prop := fun x vs H Q => ∃ l xs y, x = .ref l ∧ vs = [y] ∧ H l = some (.lst xs) ∧ xs.length < sizeLine ∧ Q .non (upd H l (.lst (xs ++ [y])))
theorem mt_append : MtM X "list.append" rAppend := by
  intro pins s σ H x vs v us Q I rx rv h
  obtain ⟨l, xs, y, rfl, rfl, hH, hz, q⟩ := h
  cases rx
  obtain ⟨u, rfl, ru⟩ := rv.one
  obtain ⟨z, its, n, r, hl, e⟩ := I.lstM hH
  refine call_meets F.slot_list_append ⟨_, e, rfl⟩ F.entry_list_append (F.args_list_append_2 _ _) (PySem.list_append l its.toArray n u (by rw [List.size_toArray]; omega)) ⟨e, ?_⟩
  refine ⟨.non, _, I.lset (its' := its ++ [u]) hH e (by simp) (r.append (.cons ru .nil)) ?_, rfl, q⟩
  rw [List.length_append, List.length_singleton]
  omega
noncomputable def rCat : R2 := fun x y H Q => ∃ l b xs zs, x = .ref l ∧ y = .ref b ∧ H l = some (.lst xs) ∧ H b = some (.lst zs) ∧ xs.length + zs.length ≤ sizeLine ∧ ∀ p, H p = none → Q (.ref p) (upd H p (.lst (xs ++ zs)))
theorem op_cat : OpR X (binaryOp .Add) rCat := by
  intro pins s σ H x y v u Q I rx ry h
  obtain ⟨l, b, xs, zs, rfl, rfl, hH, hB, hz, q⟩ := h
  cases rx
  cases ry
  obtain ⟨z, its, n, r, hl, e⟩ := I.lstM hH
  obtain ⟨z2, its2, n2, r2, hl2, e2⟩ := I.lstM hB
  refine PySem.P.add_list e e2 ?_ (by rw [List.size_toArray, List.size_toArray]; omega)
  have ea : its.toArray ++ its2.toArray = (its ++ its2).toArray := by simp
  rw [ea]
  exact ⟨.ref _, _, I.lnew (t' := s.toks) (r.append r2) (by rw [List.length_append]; omega), rfl, q _ I.fresh⟩
end
section
variable {prog : Program} {w : World} {A : Around} {E : Value → Shared → Prop} {s : Shared}
end
section
variable {X : Cx}
end
end L2
namespace Att
open PySem PySem.W PySem.Calls PyProof.Rows
theorem ints_of_wellAll {P : Params} {h : Heap} : ∀ (ns : List Int) (vs : List Value), WellAll P h vs (ns.map WData.int) → IntsAre vs ns := by
  intro ns
  induction ns with
  | nil =>
    intro vs w
    rw [List.map_nil] at w
    cases w
    exact .nil
  | cons n ns ih =>
    intro vs w
    rw [List.map_cons] at w
    cases w with
    | cons a b =>
      cases a
      exact .cons _ _ (ih _ b)
theorem script_of {l : OpenLaw} {n : Nat} (hn : l.most = some n) {P : Params} {h : Heap} {args : List WData} {vals : List Value}
    (hpre : l.row.toRowW.claim.pre args = true) (hwl : WellAll P h vals args) :
    ∃ a vs ns, vals = [Value.ref a] ∧ args = [WData.list (ns.map WData.int)] ∧ h.get? a = some { cls := .type "list", data := .seq vs.toArray } ∧ IntsAre vs ns ∧ ns.length ≤ n := by
  have hsh : WShape.hasAll [] args [.list .int] = true := (pre_splitW hpre).1
  have hc : l.pre.holds [] { args := args } = true := (pre_splitW hpre).2
  obtain ⟨d, r, rfl, h1, h2⟩ := hasAllW_cons hsh
  obtain rfl := hasAllW_nil h2
  obtain ⟨xs, rfl, h3⟩ := hasW_list h1
  obtain ⟨ns, rfl⟩ := items_int h3
  have hlen : ns.length ≤ n := by
    unfold OpenLaw.pre at hc
    have h4 : (WTm.not (.lt (.lit (.int (n : Int))) (.len (.arg 0)))).holds [] { args := [.list (ns.map .int)] } = true := by
      have h4 := (holds_andW hc).1
      rw [hn] at h4
      exact h4
    have h5 := condW_of h4 (w_not (w_lt w_lit (w_len_list (w_arg rfl))))
    rw [List.length_map] at h5
    refine Nat.le_of_not_lt fun q => ?_
    have q' : (n : Int) < ((ns.length : Nat) : Int) := by omega
    first
      | (rw [decide_eq_true q'] at h5; exact absurd h5 (by decide))
      | (simp at h5; omega)
  cases hwl with
  | cons w1 w2 =>
    cases w2
    cases w1 with
    | list ho hall => exact ⟨_, _, ns, rfl, rfl, ho, ints_of_wellAll ns _ hall, hlen⟩
theorem post_true (l : OpenLaw) (args : List WData) : l.row.toRowW.claim.post args (.bool true) args = true :=
  postW_of (r := l.row.toRowW) (X := (true == true))
    (show WShape.has [] (.bool true) .bool = true by first | rfl | decide | simp [WShape.has, WShape.arms, WShape.armsAll])
    (show (WTm.eq .res (.lit (.bool true))).value [] { args := args, res := some (.bool true), after := args } = some (.bool (true == true)) from w_eq_bool (w_res rfl) w_lit) rfl
section
variable {prog : Program} {w : World} {A : Around} {E : Value → Shared → Prop} {s : Shared} {K : Frag}
end
end Att
namespace L2
open PySem PySem.Spec PyProof.Rows
theorem vals_ints : ∀ {vs : List Value} {ns : List Int}, IntsAre vs ns → Vals (ns.map V.int) vs
  | _, _, .nil => .nil
  | _, _, .cons n t h => .cons ⟨t, rfl⟩ (vals_ints h)
noncomputable def Only (H : Hp) : Prop := ∀ b, H b = none ∨ ∃ o xs, H b = some (.frz o (.lst xs))
theorem law_call {P : Program} {w : World} {K : PySem.W.Frag} {mg mb : Str → Option Value} {CX : CXT} {k : Nat} {fa a : Addr} {fd : FuncData} {x : Str} {sp : Sp} {s₁ : Shared} {vs : List Value} {ns : List Int}
    (KX : K.In s₁.heap) (hns : s₁.heap.Ns mainGlobals mg) (hb : s₁.heap.Ns builtinsNs mb) (hbb : ∀ x : Str, x ≠ "__name__" → mb x = bootBuiltins x) (hlim : s₁.heap.NoLimit) (hg : s₁.gens = #[])
    (ha : s₁.heap.get? a = some { cls := .type "list", data := .seq vs.toArray }) (hi : IntsAre vs ns) (hl : ns.length ≤ sizeLine) (hr : Room k callerA)
    (F : ∀ base : Heap, K.In base → base.Ns mainGlobals mg → FnOk P w K mg base CX k fa fd [x] sp) (hbind : ∀ (s : Shared) (u : Value), BindsTo s fd ⟨[u], []⟩ [(x, u)])
    (hsp : ∀ H : Hp, Only H → SqL K H a (ns.map V.int) → sp [.ref a] H (fun v _ => v = .bl true) fun _ _ _ => False)
    (hCX : ∀ H e s', CX [] H s₁ (fun _ _ _ => False) e s' → False) :
    codeAny (model P w) callerA (.call (.ref fa) ⟨[.ref a], []⟩) (fun r s' => r = .ok (.ret (.bool true)) ∧ OldK s₁.heap s'.heap ∧ s'.os = s₁.os ∧ AllBare s'.gens) s₁ := by
  have rv := vals_ints hi
  have lenV := hi.length
  have core : ∀ H : Hp, Only H → SqL K H a (ns.map V.int) → HOk P w H s₁.heap → (∀ b, H b ≠ none → b = a) → (H a ≠ none → K.lookup a = none) →
      codeAny (model P w) callerA (.call (.ref fa) ⟨[.ref a], []⟩) (fun r s' => r = .ok (.ret (.bool true)) ∧ OldK s₁.heap s'.heap ∧ s'.os = s₁.os ∧ AllBare s'.gens) s₁ := by
    intro H hO hS hok hA hK
    have base_of : ∀ {b : Addr} {o : Obj}, s₁.heap.get? b = some o → H b = none → (hidT s₁.heap H).get? b = some o := fun e n => hidT_get e n
    have noA : ∀ {b : Addr} {o : Obj} {es : Array DictEntry} {ep : Nat}, s₁.heap.get? b = some o → o.data = .dict es ep → H b = none := fun {b o es ep} e d => by
      cases q : H b with
      | none => rfl
      | some u =>
        have e' : b = a := hA b (by rw [q]; simp)
        subst e'
        rw [ha] at e; cases e
        have d' : Data.seq vs.toArray _ = Data.dict es ep := d
        cases d'
    have nsK : ∀ {b : Addr} {m : Str → Option Value}, s₁.heap.Ns b m → (hidT s₁.heap H).Ns b m := fun {b m} ⟨o, es, ep, e, d, r⟩ => ⟨o, es, ep, base_of e (noA e d), d, r⟩
    have hKb : K.In (hidT s₁.heap H) := fun b o e => base_of (KX b o e) (by
      cases q : H b with
      | none => rfl
      | some u =>
        have e' : b = a := hA b (by rw [q]; simp)
        subst e'
        rw [hK (by rw [q]; simp)] at e; cases e)
    have hM : Mod K mg (hidT s₁.heap H) := ⟨hKb, nsK hns, ⟨mb, nsK hb, hbb⟩, let ⟨mc, h1, h2⟩ := hlim; ⟨mc, nsK h1, h2⟩⟩
    have e0 : Env0 P w K mg (hidT s₁.heap H) callerA [] s₁ H := ⟨rfl, hM, fun b o e => of_hidT e, Nat.le_of_eq (hidT_size _ _), trivial, fun b hb => absurd (show b ∈ ([] : List Addr) from hb) (by simp), hok, .of_eq hg⟩
    refine codeAny_mono ((F _ hKb (nsK hns)).run callerA [] s₁ H ⟨[.ref a], []⟩ [.ref a] [.ref a] _ _ hr e0 (hbind s₁ (.ref a)) (.cons rfl .nil) (hsp H hO hS)) fun r s' h => ?_
    cases r with
    | error e => exact (hCX H e s' h).elim
    | ok fl =>
      cases fl with
      | next => exact False.elim h
      | brk => exact False.elim h
      | cont => exact False.elim h
      | ret u =>
        obtain ⟨v, H', os, bare, un, hok', r', q⟩ := h
        have q' : v = .bl true := q
        subst q'
        obtain rfl : u = Value.bool true := r'
        refine ⟨rfl, OldK.of_keep fun b o e => ?_, os, bare⟩
        cases q : H b with
        | none => exact un.keep b o e q (by intro z; exact absurd (show b ∈ ([] : List Addr) from z) (by simp)) (by simp)
        | some u =>
          rcases hO b with z | ⟨ob, xs, z⟩
          · rw [q] at z; cases z
          · have z2 := un.frzs b ob _ z
            obtain ⟨e1, _⟩ := hok b _ z
            obtain ⟨e2, _⟩ := hok' b _ z2
            rw [e] at e1; cases e1
            exact e2
  cases hk : K.lookup a with
  | some o =>
    have e := KX a o hk
    rw [ha] at e
    cases e
    refine core (fun _ => none) (fun _ => .inl rfl) (.inr ⟨_, vs.toArray, _, hk, rfl, rfl, rfl, by rw [List.size_toArray, lenV]; exact hl, by simpa using rv⟩) (fun b u z => by have z' : (none : Option HO) = some u := z; cases z') (fun b z => absurd rfl z) fun z => absurd rfl z
  | none =>
    refine core (fun b => if b = a then some (.frz { cls := .type "list", data := .seq vs.toArray } (.lst (ns.map V.int))) else none) (fun b => ?_) (.inl (.inr ⟨{ cls := .type "list", data := .seq vs.toArray }, if_pos rfl⟩)) (fun b u z => ?_) (fun b z => ?_) fun _ => hk
    · by_cases hb : b = a
      · exact .inr ⟨_, _, if_pos hb⟩
      · exact .inl (if_neg hb)
    · by_cases hb : b = a
      · have z' := (if_pos hb).symm.trans z
        cases z'
        subst hb
        exact ⟨ha, by rw [List.length_map]; exact hl, vs, _, rv, ha⟩
      · have z' := (if_neg hb).symm.trans z
        cases z'
    · by_cases hb : b = a
      · exact hb
      · exact absurd (if_neg hb) z
end L2
namespace L2
open PySem PySem.Spec PyProof.Rows
end L2
namespace L2
open PySem PySem.Spec PyProof.Rows
noncomputable def inClass (s : Stmt) (j : Nat) : Stmt := match s with
  | .ClassDef _ _ _ body _ _ _ _ _ _ _ => body.getD j (.Pass ⟨0, 0, 0, 0⟩)
  | _ => .Pass ⟨0, 0, 0, 0⟩
noncomputable def defArgs (s : Stmt) : Arguments := match s with
  | .FunctionDef _ a _ _ _ _ _ _ _ _ => a
  | _ => { posonlyargs := [], args := [], vararg := none, kwonlyargs := [], kw_defaults := [], kwarg := none, defaults := [] }
noncomputable def defBody (s : Stmt) : List Stmt := match s with
  | .FunctionDef _ _ b _ _ _ _ _ _ _ => b
  | _ => []
noncomputable def defScope (s : Stmt) : Scope := match s with
  | .FunctionDef _ _ _ _ _ _ sc _ _ _ => sc
  | _ => { kind := .function, names := [], isGenerator := false, isCoroutine := false }
noncomputable abbrev CX0 : CXT := fun _ _ _ _ _ _ => False
noncomputable abbrev E0 : XK := fun _ _ _ => False
theorem pass0 {X : Cx} : Passes CX0 X E0 := fun _ _ _ _ _ _ _ h => h.elim
structure Fun (K : PySem.W.Frag) (x qual : Str) (st : Stmt) (f : Addr) (fd : FuncData) : Prop where
  ex : ∃ (oc : Value) (od : Option Addr) (kV doc pm : Value) (an : Option Addr) (cdv ct : Value) (osl : Array (Option Value)),
    fd = PySem.W.fnOf x qual (defArgs st) (defBody st) (defScope st) .none kV doc pm an cdv ct ∧ K.lookup f = some ⟨oc, od, .func fd, osl⟩ ∧ PySem.W.codeIn K cdv qual = true
  kp : PySem.W.keepIn K (.ref f) = true
section
variable {P : Program} {w : World} {K : PySem.W.Frag} {mg : Str → Option Value} {base : Heap}
theorem Fun.ok {x qual : Str} {st : Stmt} {f : Addr} {fd : FuncData} {N ps : List Str} {k : Nat} {sp : Sp} (F : Fun K x qual st f fd) (S : FnScope N ps (defScope st)) (len : ∀ vs H Q E, sp vs H Q E → vs.length = ps.length)
    (hbody : ∀ (cdv : Value) (A : Around) (outer : List Env) (s : Shared) (H : Hp) (vs : List V) (Q : VK) (E : XK), Room k (A.deeper (envOfC qual (defScope st) s.heap.objs.size f cdv)) → sp vs H Q E →
      ∃ t, PSs (cxOf CX0 P w K mg base N qual (defScope st) f cdv A outer s H E).nox (defBody st) t ∧ t { nx := fun _ H' => Q .non H', rt := Q } (start N vs) H) : FnOk P w K mg base CX0 (k + 1) f fd ps sp := by
  obtain ⟨oc, od, kV, doc, pm, an, cdv, ct, osl, rfl, lk, hcd⟩ := F.ex
  refine fn_of lk hcd S len fun A outer s H vs Q E hr hsp => ?_
  obtain ⟨t, h, q⟩ := hbody cdv A outer s H vs Q E hr hsp
  exact ⟨t, h.nox, q⟩
theorem Fun.binds {x qual : Str} {st : Stmt} {f : Addr} {fd : FuncData} {ps : List Str} (F : Fun K x qual st f fd)
    (h : ∀ (kV doc pm : Value) (an : Option Addr) (cdv ct : Value) (us : List Value), us.length = ps.length → bindArgs (PySem.W.fnOf x qual (defArgs st) (defBody st) (defScope st) .none kV doc pm an cdv ct) ⟨us, []⟩ = pure (ps.zip us)) : Binds K fd ps [] := by
  obtain ⟨oc, od, kV, doc, pm, an, cdv, ct, osl, rfl, lk, hcd⟩ := F.ex
  exact .all (h kV doc pm an cdv ct)
theorem fun_mk {x qual : Str} {st : Stmt} {f : Addr} {oc : Value} {od an : Option Addr} {osl : Array (Option Value)} {kV doc pm cdv ct : Value} (l : K.lookup f = some ⟨oc, od, .func (PySem.W.fnOf x qual (defArgs st) (defBody st) (defScope st) .none kV doc pm an cdv ct), osl⟩)
    (c : PySem.W.codeIn K cdv qual = true) (k : PySem.W.keepIn K (.ref f) = true) : Fun K x qual st f (PySem.W.fnOf x qual (defArgs st) (defBody st) (defScope st) .none kV doc pm an cdv ct) := ⟨⟨oc, od, kV, doc, pm, an, cdv, ct, osl, rfl, l, c⟩, k⟩
end
theorem hu_of {A : Around} {k : Nat} (hr : Room k A) : A.units + 1 < cLine := Nat.lt_of_le_of_lt (Nat.add_le_add_left (by decide : 1 ≤ 64) _) hr.units
theorem small1000 {n : Nat} (h : n ≤ 1000) : n < sizeLine := Nat.lt_of_le_of_lt h (by decide)
section
variable {X : Cx}
theorem pv (i : Nat) {x : Str} {pos : Pos} (hN : X.N[i]? = some x := by rfl) (hv : Vis X.env.scope x := by first | exact Or.inl rfl | exact Or.inr (Or.inl rfl) | exact Or.inr (Or.inr rfl)) (hd : (x == ("__debug__" : Str)) = false := by decide)
    (hcd : (x == ("__classdict__" : Str)) = false := by decide) : PE X (.Name x pos) (tVar i) := pe_var hN hv hd hcd
end
theorem iteF {A B : Prop} (h : B) : if false = true then A else B := by
  rw [if_neg Bool.false_ne_true]
  exact h
theorem iteT {A B : Prop} (h : A) : if true = true then A else B := by
  rw [if_pos rfl]
  exact h
noncomputable def Same (H H' : Hp) : Prop := ∀ b o, H b = some o → H' b = some o
theorem Same.refl (H : Hp) : Same H H := fun _ _ h => h
theorem Same.trans {H H1 H2 : Hp} (a : Same H H1) (b : Same H1 H2) : Same H H2 := fun c o h => b c o (a c o h)
theorem Same.free {H H' : Hp} (e : Same H H') {l : Addr} (h : H' l = Option.none) : H l = Option.none := by
  cases q : H l with
  | none => rfl
  | some o =>
    rw [e l o q] at h
    cases h
theorem Same.seq {K : PySem.W.Frag} {H H' : Hp} {a : Addr} {xs : List V} (e : Same H H') (h : SqL K H a xs) : SqL K H' a xs := by
  rcases h with (h | ⟨o, h⟩) | h
  · exact .inl (.inl (e _ _ h))
  · exact .inl (.inr ⟨o, e _ _ h⟩)
  · exact .inr h
end L2
set_option Elab.async false
set_option linter.all false
set_option maxRecDepth 100000
namespace L2
open PySem PySem.Spec PyProof.Rows
section
variable {κ : Type} [DecidableEq κ]
noncomputable def valV (kvs : List (κ × V)) (k : κ) : Option V := (kvs.find? fun kv => decide (kv.1 = k)).map (·.2)
noncomputable def putK (kvs : List (κ × V)) (k : κ) (v : V) : List (κ × V) :=
  if (kvs.any fun kv => decide (kv.1 = k)) = true then kvs.map (fun kv => if kv.1 = k then (kv.1, v) else kv) else kvs ++ [(k, v)]
noncomputable def dropK (kvs : List (κ × V)) (k : κ) : List (κ × V) := kvs.filter fun kv => decide (kv.1 ≠ k)
theorem valV_pos {p : κ × V} {r : List (κ × V)} {k : κ} (e : p.1 = k) : valV (p :: r) k = some p.2 := by simp [valV, List.find?_cons, e]
theorem valV_neg {p : κ × V} {r : List (κ × V)} {k : κ} (e : ¬ p.1 = k) : valV (p :: r) k = valV r k := by simp [valV, List.find?_cons, e]
theorem valV_any (k : κ) : ∀ kvs : List (κ × V), (kvs.any fun kv => decide (kv.1 = k)) = (valV kvs k).isSome
  | [] => rfl
  | p :: r => by
    rw [List.any_cons]
    by_cases e : p.1 = k
    · simp only [valV_pos e, decide_eq_true e, Bool.true_or, Option.isSome_some]
    · rw [valV_neg e, decide_eq_false e, Bool.false_or]; exact valV_any k r
theorem length_putK (kvs : List (κ × V)) (k : κ) (v : V) : (putK kvs k v).length ≤ kvs.length + 1 := by
  unfold putK
  split
  · rw [List.length_map]; omega
  · rw [List.length_append, List.length_cons, List.length_nil]; omega
theorem RelO.isSome_eq {o : Option V} {u : Option Value} (r : RelO o u) : o.isSome = u.isSome := by
  cases o with
  | none => cases u with
    | none => rfl
    | some _ => exact (show False from r).elim
  | some _ => cases u with
    | none => exact (show False from r).elim
    | some _ => rfl
theorem RelO.getD {o : Option V} {u : Option Value} {d : V} {d' : Value} (r : RelO o u) (rd : RelV d d') : RelV (o.getD d) (u.getD d') := by
  cases o with
  | none => cases u with
    | none => exact rd
    | some _ => exact (show False from r).elim
  | some _ => cases u with
    | none => exact (show False from r).elim
    | some _ => exact r
theorem KV.val {kvs : List (κ × V)} {vs : List (κ × Value)} (r : KV kvs vs) (k : κ) : RelO (valV kvs k) (valueAt vs k) := by
  unfold KV at r
  induction r with
  | nil => exact True.intro
  | @cons p q ps qs h t ih =>
    obtain ⟨h1, h2⟩ := h
    by_cases e : p.1 = k
    · have e' : q.1 = k := h1.symm.trans e
      have b : valueAt (q :: qs) k = some q.2 := by simp [valueAt, List.find?_cons, e']
      rw [valV_pos e, b]; exact h2
    · have e' : ¬ q.1 = k := fun z => e (h1.trans z)
      have b : valueAt (q :: qs) k = valueAt qs k := by simp [valueAt, List.find?_cons, e']
      rw [valV_neg e, b]; exact ih
theorem KV.any {kvs : List (κ × V)} {vs : List (κ × Value)} (r : KV kvs vs) (k : κ) : (kvs.any fun kv => decide (kv.1 = k)) = vs.any fun kv => decide (kv.1 = k) := by
  unfold KV at r
  induction r with
  | nil => rfl
  | cons h t ih => rw [List.any_cons, List.any_cons, ih, h.1]
theorem KV.repl {kvs : List (κ × V)} {vs : List (κ × Value)} (r : KV kvs vs) (k : κ) {y : V} {u : Value} (ry : RelV y u) :
    KV (kvs.map fun kv => if kv.1 = k then (kv.1, y) else kv) (vs.map fun kv => if kv.1 = k then (kv.1, u) else kv) := by
  unfold KV at r ⊢
  induction r with
  | nil => exact .nil
  | @cons p q ps qs h t ih =>
    rw [List.map_cons, List.map_cons]
    refine .cons ?_ ih
    obtain ⟨h1, h2⟩ := h
    by_cases e : p.1 = k
    · rw [if_pos e, if_pos (h1.symm.trans e)]; exact ⟨h1, ry⟩
    · rw [if_neg e, if_neg (fun z => e (h1.trans z))]; exact ⟨h1, h2⟩
theorem KV.put {kvs : List (κ × V)} {vs : List (κ × Value)} (r : KV kvs vs) (k : κ) {y : V} {u : Value} (ry : RelV y u) : KV (putK kvs k y) (stored vs k u) := by
  unfold putK stored
  rw [r.any k]
  by_cases e : (vs.any fun kv => decide (kv.1 = k)) = true
  · rw [if_pos e, if_pos e]; exact r.repl k ry
  · rw [if_neg e, if_neg e]; exact Paired.snoc r ⟨rfl, ry⟩
theorem KV.drop {kvs : List (κ × V)} {vs : List (κ × Value)} (r : KV kvs vs) (k : κ) : KV (dropK kvs k) (without vs k) := by
  unfold KV at r ⊢
  unfold dropK without
  induction r with
  | nil => exact .nil
  | @cons p q ps qs h t ih =>
    obtain ⟨h1, h2⟩ := h
    rw [List.filter_cons, List.filter_cons]
    by_cases e : p.1 = k
    · have a : ¬ decide (p.1 ≠ k) = true := by simp [e]
      have b : ¬ decide (q.1 ≠ k) = true := by simp [h1.symm.trans e]
      rw [if_neg a, if_neg b]; exact ih
    · have e' : ¬ q.1 = k := fun z => e (h1.trans z)
      have a : decide (p.1 ≠ k) = true := by simp [e]
      have b : decide (q.1 ≠ k) = true := by simp [e']
      rw [if_pos a, if_pos b]; exact .cons ⟨h1, h2⟩ ih
theorem KV.keys {kvs : List (κ × V)} {vs : List (κ × Value)} (r : KV kvs vs) : kvs.map (·.1) = vs.map (·.1) := by
  unfold KV at r
  induction r with
  | nil => rfl
  | cons h t ih => rw [List.map_cons, List.map_cons, ih, h.1]
theorem KV.length {kvs : List (κ × V)} {vs : List (κ × Value)} (r : KV kvs vs) : kvs.length = vs.length := Paired.length r
end
theorem kV_is {P : Program} {w : World} {k : Key} {u : Value} (r : RelV (kV k) u) : (mixKind P w).is k u = true := by
  cases k with
  | inl i => obtain ⟨t, e⟩ := (show ∃ t, u = Value.int i t from r); subst e; exact mixKind_int P w i t
  | inr x => obtain ⟨t, e⟩ := (show ∃ t, u = Value.str x t from r); subst e; exact mixKind_str P w x t
theorem items_are {P : Program} {w : World} : ∀ {ks : List Key} {us : List Value}, Vals (ks.map kV) us → ItemsAre (mixKind P w) ks us
  | [], _, r => by rw [List.map_nil] at r; cases r; exact .nil
  | k :: ks, _, r => by
    rw [List.map_cons] at r
    cases r with
    | cons h t => exact .cons (kV_is h) (items_are t)
noncomputable abbrev KT (H : Hp) : List (List Key × V) → List (List Key × Addr × Value) → Prop := Paired fun p q => p.1 = q.1 ∧ H q.2.1 = some (.tup (p.1.map kV)) ∧ RelV p.2 q.2.2
theorem KT.val {H : Hp} {kvs : List (List Key × V)} {xs : List (List Key × Addr × Value)} (r : KT H kvs xs) (k : List Key) : RelO (valV kvs k) ((atKey xs k).map (·.2)) := by
  induction r with
  | nil => exact True.intro
  | @cons p q ps qs h t ih =>
    obtain ⟨h1, _, h2⟩ := h
    by_cases e : p.1 = k
    · have e' : q.1 = k := h1.symm.trans e
      have b : atKey (q :: qs) k = some q.2 := by simp [atKey, List.find?_cons, e']
      rw [valV_pos e, b]; exact h2
    · have e' : ¬ q.1 = k := fun z => e (h1.trans z)
      have b : atKey (q :: qs) k = atKey qs k := by simp [atKey, List.find?_cons, e']
      rw [valV_neg e, b]; exact ih
theorem KT.repl {H : Hp} {kvs : List (List Key × V)} {xs : List (List Key × Addr × Value)} (r : KT H kvs xs) (k : List Key) {y : V} {u : Value} (ry : RelV y u) :
    KT H (kvs.map fun kv => if kv.1 = k then (kv.1, y) else kv) (xs.map (putAt k u)) := by
  induction r with
  | nil => exact .nil
  | @cons p q ps qs h t ih =>
    rw [List.map_cons, List.map_cons]
    refine .cons ?_ ih
    obtain ⟨h1, h2, h3⟩ := h
    unfold putAt
    by_cases e : p.1 = k
    · rw [if_pos e, if_pos (h1.symm.trans e)]; exact ⟨h1, h2, ry⟩
    · rw [if_neg e, if_neg (fun z => e (h1.trans z))]; exact ⟨h1, h2, h3⟩
theorem KT.put {H : Hp} {kvs : List (List Key × V)} {xs : List (List Key × Addr × Value)} (r : KT H kvs xs) (k : List Key) {b : Addr} {y : V} {u : Value} (hb : H b = some (.tup (k.map kV))) (ry : RelV y u) :
    KT H (putK kvs k y) (storedH xs k b u) := by
  have e : (kvs.any fun kv => decide (kv.1 = k)) = (atKey xs k).isSome := by
    rw [valV_any, (r.val k).isSome_eq, Option.isSome_map]
  unfold putK storedH
  rw [e]
  by_cases q : (atKey xs k).isSome = true
  · rw [if_pos q, if_pos q]; exact r.repl k ry
  · rw [if_neg q, if_neg q]; exact Paired.snoc r ⟨rfl, hb, ry⟩
theorem KT.keeps {H H' : Hp} {kvs : List (List Key × V)} {xs : List (List Key × Addr × Value)} (r : KT H kvs xs) (ht : ∀ b ys, H b = some (.tup ys) → H' b = some (.tup ys)) : KT H' kvs xs :=
  Paired.mapP r fun _ _ z => ⟨z.1, ht _ _ z.2.1, z.2.2⟩
section
variable {P : Program} {w : World} {H : Hp} {h : Heap} {a : Addr}
theorem rd_of {u : HO} (ok : HOk P w H h) (e : Rd H a u) : ObjOk P w H h a u := e.ok ok
theorem dk_rd {kvs : List (Key × V)} (ok : HOk P w H h) (e : Rd H a (.dK kvs)) : kvs.length ≤ sizeLine ∧ (a == sysModules) = false ∧ ∃ vs, KV kvs vs ∧ h.DictOf (mixKind P w) a vs :=
  show ObjOk P w H h a (.dK kvs) from rd_of ok e
theorem dk_of {kvs : List (Key × V)} (ok : HOk P w H h) (e : H a = some (.dK kvs)) : kvs.length ≤ sizeLine ∧ (a == sysModules) = false ∧ ∃ vs, KV kvs vs ∧ h.DictOf (mixKind P w) a vs := dk_rd ok (.inl e)
theorem key_of {ks : List Key} (ok : HOk P w H h) (e : H a = some (.tup (ks.map kV))) : (tupleKind (mixKind P w)).is h ks a := by
  obtain ⟨_, its, r, o, h1, h2, n, h3⟩ := (show ObjOk P w H h a (.tup (ks.map kV)) from ok a _ e)
  exact ⟨o, its.toArray, n, h1, h2, h3, by simpa using items_are r⟩
theorem dt_rd {kvs : List (List Key × V)} (ok : HOk P w H h) (e : Rd H a (.dT kvs)) : kvs.length ≤ sizeLine ∧ (a == sysModules) = false ∧
    ∃ xs, KT H kvs xs ∧ h.DictOfH (tupleKind (mixKind P w)) a xs := by
  obtain ⟨z, y, xs, r, o, es, ep, h1, h2, h3, h4, h5⟩ := (show ObjOk P w H h a (.dT kvs) from rd_of ok e)
  refine ⟨z, y, xs, r, o, es, ep, h1, h2, h3, h4, fun x hx => ?_, h5⟩
  have all : ∀ {l : List (List Key × V)} {m : List (List Key × Addr × Value)}, KT H l m → ∀ x ∈ m, (tupleKind (mixKind P w)).is h x.1 x.2.1 := by
    intro l m q
    induction q with
    | nil => intro x hx; exact nomatch hx
    | @cons p q ps qs hq t ih =>
      intro x hx
      rcases List.mem_cons.mp hx with e | hx
      · subst e
        exact key_of ok (by rw [← hq.1]; exact hq.2.1)
      · exact ih x hx
  exact all r x hx
end
noncomputable def DGet (H : Hp) (a : Addr) (y : V) (r : Option V) : Prop :=
  (∃ kvs k, Rd H a (.dK kvs) ∧ y = kV k ∧ r = valV kvs k) ∨ ∃ kvs k b, Rd H a (.dT kvs) ∧ y = .ref b ∧ H b = some (.tup (k.map kV)) ∧ r = valV kvs k
noncomputable def DPut (H : Hp) (a : Addr) (y v : V) (H' : Hp) : Prop :=
  (∃ kvs k, H a = some (.dK kvs) ∧ y = kV k ∧ kvs.length < sizeLine ∧ H' = upd H a (.dK (putK kvs k v))) ∨
  ∃ kvs k b, H a = some (.dT kvs) ∧ y = .ref b ∧ H b = some (.tup (k.map kV)) ∧ kvs.length < sizeLine ∧ H' = upd H a (.dT (putK kvs k v))
theorem DGet.k {H : Hp} {a : Addr} {kvs : List (Key × V)} {k : Key} (e : H a = some (.dK kvs)) : DGet H a (kV k) (valV kvs k) := .inl ⟨kvs, k, .inl e, rfl, rfl⟩
theorem DGet.t {H : Hp} {a b : Addr} {kvs : List (List Key × V)} {k : List Key} (e : H a = some (.dT kvs)) (eb : H b = some (.tup (k.map kV))) : DGet H a (.ref b) (valV kvs k) := .inr ⟨kvs, k, b, .inl e, rfl, eb, rfl⟩
theorem DPut.k {H : Hp} {a : Addr} {kvs : List (Key × V)} {k : Key} {v : V} (e : H a = some (.dK kvs)) (hl : kvs.length < sizeLine) : DPut H a (kV k) v (upd H a (.dK (putK kvs k v))) := .inl ⟨kvs, k, e, rfl, hl, rfl⟩
theorem DPut.t {H : Hp} {a b : Addr} {kvs : List (List Key × V)} {k : List Key} {v : V} (e : H a = some (.dT kvs)) (eb : H b = some (.tup (k.map kV))) (hl : kvs.length < sizeLine) :
    DPut H a (.ref b) v (upd H a (.dT (putK kvs k v))) := .inr ⟨kvs, k, b, e, rfl, eb, hl, rfl⟩
section
variable {X : Cx} {pins : List (Addr × Obj)} {σ : St} {H : Hp} {s : Shared} {a : Addr} {y v : V} {u r : Value} {o : Option V} {A : Around} {E : Value → Shared → Prop}
theorem Inv.big (I : Inv X pins σ H s) : sysModules < s.heap.objs.size := by
  have h : mainGlobals < s.heap.objs.size := (I.mod.glob.keeps I.bk).lt
  exact Nat.lt_trans (by decide) h
theorem d_getItem {Q : Value → Shared → Prop} (hu : A.units + 1 < cLine) (I : Inv X pins σ H s) (g : DGet H a y (some v)) (ry : RelV y u) (h : ∀ w' s', Inv X pins σ H s' → RelV v w' → Q w' s') :
    wpAny (model X.prog X.w) A (getItem (.ref a) u) Q E s := by
  rcases g with ⟨kvs, k, e, ey, l⟩ | ⟨kvs, k, b, e, ey, eb, l⟩
  · subst ey
    obtain ⟨z, hd, vs, rel, dd⟩ := dk_rd I.hok e
    obtain ⟨w', hw, rw'⟩ := RelO.some_of (v := v) (o := valueAt vs k) (by rw [l]; exact rel.val k)
    exact wpAny_getItem_of (kV_is ry) dd.mapOf hw (h w' _ (I.tok _) rw')
  · subst ey
    cases (show u = Value.ref b from ry)
    obtain ⟨z, hd, xs, rel, dd⟩ := dt_rd I.hok e
    obtain ⟨w', hw, rw'⟩ := RelO.some_of (v := v) (o := (atKey xs k).map (·.2)) (by rw [l]; exact rel.val k)
    obtain ⟨p, hp, hp2⟩ := Option.map_eq_some_iff.mp hw
    refine wpAny_getItem_heap (tupleKind_room_in1 hu) (key_of I.hok eb) dd hp ?_
    rw [hp2]
    exact h w' _ (I.tok _) rw'
theorem d_write {h' : Heap} {t' : Nat} {ob : HO} (I : Inv X pins σ H s) (mu : Mut (H a)) (hs : Heap.SameBut a s.heap h') (he : ∃ q, h'.get? a = some q) (new : ObjOk X.prog X.w (upd H a ob) h' a ob) :
    Inv X pins σ (upd H a ob) { s with heap := h', toks := t' } :=
  I.write (x := a) (e := a) mu (.inl rfl) (fun b q hb z => (hs.2 b hb).trans z) he new
theorem dk_new {P : Program} {w : World} {H' : Hp} {h' : Heap} {kvs : List (Key × V)} {vs : List (Key × Value)} (z : kvs.length ≤ sizeLine) (hd : (a == sysModules) = false) (rel : KV kvs vs) (dd : h'.DictOf (mixKind P w) a vs) :
    ObjOk P w H' h' a (.dK kvs) := ⟨z, hd, vs, rel, dd⟩
end
section
variable {X : Cx} {pins : List (Addr × Obj)} {σ : St} {H : Hp} {s : Shared} {a : Addr} {kvs : List (Key × V)} {k : Key} {u : Value} {A : Around} {E : Value → Shared → Prop}
end
noncomputable def NoSl (i : Expr) : Prop := ∀ ov iv, subscripted i false ov iv = operate [ov, iv] (getItem ov iv)
theorem subD_of {prog : Program} {w : World} {A : Around} {E : Value → Shared → Prop} {s : Shared} {env : Env} {value slice : Expr} {pos : Pos} {T id : String} {Q : Value → Shared → Prop}
    (hl : typeLookup (.type T) "__getitem__" = pure (some (.builtin id))) (hs : NoSl slice)
    (h : wpAny (model prog w) A (eval value env) (fun o s₁ => wpAny (model prog w) A (eval slice env) (fun i s₂ => s₂.TypeIs o T ∧ wpAny (model prog w) A (getItem o i) Q E s₂) E s₁) E s) :
    wpAny (model prog w) A (eval (.Subscript value slice pos) env) Q E s := by
  refine Subscript_ (wpAny_mono h (fun o s₁ h₁ => wpAny_mono h₁ (fun i s₂ h₂ => ?_) fun _ _ x => x) fun _ _ x => x)
  obtain ⟨hT, h₂⟩ := h₂
  unfold subscriptTail
  refine wpAny_bind ?_
  rw [getitemInPython_of_ne hT.not_modules]
  refine wpAny_bind (wpAny_specialOf hT hl ?_)
  have fin : wpAny (model prog w) A (subscripted slice false o i) (fun r s₃ => wpAny (model prog w) A (letTemporaryGo value o r >>= fun _ => pure r) Q E s₃) E s₂ := by
    rw [hs o i]
    exact wpAny_operating (wpAny_mono h₂ (fun r s₃ h₃ => wpAny_bind (wpAny_letTemporaryGo (wpAny_pure h₃))) fun _ _ x => x)
  first
    | exact wpAny_pure (wpAny_bind fin)
    | exact wpAny_bind (wpAny_pure (wpAny_bind fin))
    | exact wpAny_bind fin
theorem dict_typeIs {X : Cx} {pins : List (Addr × Obj)} {σ : St} {H : Hp} {s : Shared} {a : Addr} {y : V} {o : Option V} (I : Inv X pins σ H s) (g : DGet H a y o) : s.TypeIs (.ref a) "dict" := by
  rcases g with ⟨kvs, k, e, _, _⟩ | ⟨kvs, k, b, e, _, _, _⟩
  · obtain ⟨_, _, vs, _, dd⟩ := dk_rd I.hok e
    exact dd.typeIs
  · obtain ⟨_, _, xs, _, dd⟩ := dt_rd I.hok e
    exact dd.typeIs
noncomputable def tDGet (td ty : TE) : TE := fun σ H Q => td σ H fun x H1 => ty σ H1 fun y H2 => ∃ a v, x = .ref a ∧ DGet H2 a y (some v) ∧ Q v H2
section
variable {X : Cx} {o i e value : Expr} {pos pos' tpos : Pos} {td ty tv : TE}
theorem pe_dget (hu : X.A.units + 1 < cLine) (ho : PE X o td) (hi : PE X i ty) (hs : NoSl i) : PE X (.Subscript o i pos) (tDGet td ty) := by
  intro pins s σ H Q I h
  refine subD_of PySem.F.slot_dict_getitem.lookup hs (thn (ho pins s σ H _ I h) fun u s1 ⟨x, H1, I1, rx, q1⟩ => thn (hi pins s1 σ H1 _ I1 q1) fun iv s2 ⟨y, H2, I2, ry, a, v, ex, g, q2⟩ => ?_)
  subst ex
  obtain rfl : u = Value.ref a := rx
  exact ⟨dict_typeIs I2 g, d_getItem hu I2 g ry fun w' s3 I3 rw' => ⟨v, H2, I3, rw', q2⟩⟩
end
theorem dk_empty {P : Program} {w : World} {H : Hp} (h : Heap) (hb : sysModules < h.objs.size) : ObjOk P w H (h.push { cls := .type "dict", data := .dict #[] }) h.objs.size (.dK []) :=
  ⟨Nat.zero_le _, beq_eq_false_iff_ne.mpr (Ne.symm (Nat.ne_of_lt hb)), [], .nil, Heap.DictOf.new h⟩
section
variable {X : Cx} {pos : Pos}
end
noncomputable def tPairs : List (TE × TE) → St → Hp → (List (V × V) → Hp → Prop) → Prop
  | [], _, H, Q => Q [] H
  | (tk, tv) :: r, σ, H, Q => tk σ H fun x H1 => tv σ H1 fun y H2 => tPairs r σ H2 fun ps H3 => Q ((x, y) :: ps) H3
noncomputable abbrev VV : List (V × V) → List (Value × Value) → Prop := Paired fun p q => RelV p.1 q.1 ∧ RelV p.2 q.2
noncomputable def PPs (X : Cx) (pos : Pos) (keys : List (Option Expr)) (values : List Expr) (trs : List (TE × TE)) : Prop :=
  ∀ (pins : List (Addr × Obj)) (s : Shared) (σ : St) (H : Hp) (Q : List (V × V) → Hp → Prop), Inv X pins σ H s → tPairs trs σ H Q →
    wpAny (model X.prog X.w) X.A (evalPairs (pairTrees keys values X.env pos)) (fun vs s' => ∃ ps H', Inv X pins σ H' s' ∧ VV ps vs ∧ Q ps H') X.xe s
theorem pps_nil {X : Cx} {pos : Pos} : PPs X pos [] [] [] := fun pins s σ H Q I h => pairTrees_nil_walk ⟨[], H, I, .nil, h⟩
theorem pps_cons {X : Cx} {pos : Pos} {k v : Expr} {ks : List (Option Expr)} {vs : List Expr} {tk tv : TE} {trs : List (TE × TE)} (hk : PE X k tk) (hv : PE X v tv) (hr : PPs X pos ks vs trs) :
    PPs X pos (some k :: ks) (v :: vs) ((tk, tv) :: trs) := fun pins s σ H Q I h =>
  pairTrees_cons_walk (thn (hk pins s σ H _ I h) fun u s1 ⟨x, H1, I1, rx, q1⟩ => thn (hv pins s1 σ H1 _ I1 q1) fun w2 s2 ⟨y, H2, I2, ry, q2⟩ =>
    thn (hr pins s2 σ H2 _ I2 q2) fun ws s3 ⟨ps, H3, I3, rel, q3⟩ => ⟨(x, y) :: ps, H3, I3, .cons ⟨rx, ry⟩ rel, q3⟩)
noncomputable def mergeK (kvs more : List (Key × V)) : List (Key × V) := more.foldl (fun acc kv => putK acc kv.1 kv.2) kvs
theorem KV.merge : ∀ {more : List (Key × V)} {rs : List (Key × Value)} {kvs : List (Key × V)} {vs : List (Key × Value)}, KV more rs → KV kvs vs → KV (mergeK kvs more) (merged vs rs) := by
  intro more rs kvs vs r
  unfold KV at r
  induction r generalizing kvs vs with
  | nil => intro q; exact q
  | @cons p q ps qs h t ih =>
    intro r0
    have e : KV (putK kvs p.1 p.2) (stored vs q.1 q.2) := by
      have := r0.put p.1 h.2
      rw [← h.1]; exact this
    exact ih e
theorem length_mergeK : ∀ (more kvs : List (Key × V)), (mergeK kvs more).length ≤ kvs.length + more.length
  | [], kvs => by show kvs.length ≤ kvs.length + 0; omega
  | p :: r, kvs => by
    have h1 := length_mergeK r (putK kvs p.1 p.2)
    have h2 := length_putK kvs p.1 p.2
    show (mergeK (putK kvs p.1 p.2) r).length ≤ _
    rw [List.length_cons]; omega
theorem carries_of {P : Program} {w : World} : ∀ {kvs : List (Key × V)} {ws : List (Value × Value)}, VV (kvs.map fun kv => (kV kv.1, kv.2)) ws → ∃ rs, Carries (mixKind P w) ws rs ∧ KV kvs rs
  | [], _, r => by rw [List.map_nil] at r; cases r; exact ⟨[], True.intro, .nil⟩
  | p :: kvs, _, r => by
    rw [List.map_cons] at r
    cases r with
    | @cons a b as bs h t =>
      obtain ⟨rs, c, q⟩ := carries_of (P := P) (w := w) t
      obtain ⟨b1, b2⟩ := b
      exact ⟨(p.1, b2) :: rs, ⟨kV_is h.1, rfl, c⟩, .cons ⟨rfl, h.2⟩ q⟩
noncomputable def tDisp (trs : List (TE × TE)) : TE := fun σ H Q => ∀ p, H p = none → tPairs trs σ (upd H p (.dK [])) fun ps H2 => H2 p = some (.dK []) ∧ ∃ kvs : List (Key × V), ps = kvs.map (fun kv => (kV kv.1, kv.2)) ∧ kvs.length ≤ 15 ∧ Q (.ref p) (upd H2 p (.dK (mergeK [] kvs)))
theorem pe_disp {X : Cx} {pos : Pos} {keys : List (Option Expr)} {values : List Expr} {trs : List (TE × TE)} (h : PPs X pos keys values trs) (hall : keys.all (·.isSome) = true) (hl : keys.length = values.length) (h0 : keys ≠ [])
    (h15 : keys.length ≤ 15) : PE X (.Dict keys values pos) (tDisp trs) := by
  intro pins s σ H Q I q
  have hn := I.hok.fresh (Nat.le_refl s.heap.objs.size)
  have I1 := I.laid (a := s.heap.objs.size) (o := .dK []) (h' := s.heap.push { cls := .type "dict", data := .dict #[] }) (t' := s.toks) (fun _ _ q => Heap.get?_push_of_some _ q) (Nat.le_refl _) (dk_empty s.heap I.big)
  refine wpAny_Dict_walk (knd := mixKind X.prog X.w) hall hl h0 h15 (thn (h pins _ σ _ _ I1 (q _ hn)) fun ws s2 ⟨ps, H2, I2, rel, e, kvs, ep, lk, q2⟩ => ?_)
  subst ep
  obtain ⟨rs, c, rk⟩ := carries_of (P := X.prog) (w := X.w) rel
  obtain ⟨z, hd, vs0, r0, dd⟩ := dk_of I2.hok e
  cases r0
  refine ⟨rs, c, dd, fun h' dd' hs => ⟨.ref s.heap.objs.size, _, ?_, rfl, q2⟩⟩
  have hz : (mergeK [] kvs).length ≤ sizeLine := by
    have h1 := length_mergeK kvs []
    rw [List.length_nil] at h1
    rw [sizeLine_eq]; omega
  have he : ∃ q, h'.get? s.heap.objs.size = some q := let ⟨q, _, _, hq, _⟩ := dd'; ⟨q, hq⟩
  exact d_write I2 (by rw [e]; exact True.intro) hs he (dk_new hz hd (rk.merge .nil) dd')
section
variable {X : Cx} {pins : List (Addr × Obj)} {σ : St} {H : Hp} {s : Shared} {a : Addr} {y d : V} {u r : Value} {o : Option V} {A : Around} {E : Value → Shared → Prop}
end
section
variable {X : Cx} {o e f : Expr} {apos cpos : Pos} {td ty tx : TE}
end
section
variable {X : Cx} {pins : List (Addr × Obj)} {σ : St} {H : Hp} {s : Shared} {a : Addr} {kvs : List (Key × V)} {A : Around} {E : Value → Shared → Prop}
end
section
variable {X : Cx} {pins : List (Addr × Obj)} {σ : St} {H : Hp} {s : Shared} {a : Addr} {y : V} {u : Value} {A : Around} {E : Value → Shared → Prop}
end
end L2
set_option Elab.async false
set_option linter.all false
set_option maxRecDepth 100000
set_option maxHeartbeats 4000000
namespace L2
open PySem PySem.Spec PyProof.Rows
section
variable {X : Cx}
theorem lt_two {n : Nat} {k : Int} (h0 : 0 < k) (h : k < 2 ^ 400) : k.natAbs.log2 < 9000 := by
  have hne : k.natAbs ≠ 0 := by omega
  have : k.natAbs.log2 < 400 := (Nat.log2_lt hne).mpr (by omega)
  omega
noncomputable def CDivB (_ j : Int) : Prop := 0 < j ∧ j < 2 ^ 400
theorem op_fdivB : OpR X (binaryOp .FloorDiv) (rI CDivB fun i j => .int (i / j)) := opI fun i j _ _ _ _ _ hc q => by
  have h1 : (0 : Int) < j := hc.1
  exact floordiv_int (by omega) (by rw [Int.fdiv_eq_ediv_of_nonneg i (by omega)]; exact q) (.inl (PyProof.noPylong_of_log2 (lt_two (n := 0) hc.1 hc.2)))
noncomputable def CMulB (i j : Int) : Prop := IntMulOk i j
theorem op_mulB : OpR X (binaryOp .Mult) (rI CMulB fun i j => .int (i * j)) := opI fun _ _ _ _ _ _ _ hc q => mul_int q hc
theorem mul_l {i j : Int} (h1 : -(2 ^ 64) < i) (h2 : i < 2 ^ 64) : CMulB i j := IntMulOk.of_left (intBits_le_64 h1 h2)
theorem mul_r {i j : Int} (h1 : -(2 ^ 64) < j) (h2 : j < 2 ^ 64) : CMulB i j := IntMulOk.of_right (intBits_le_64 h1 h2)
noncomputable def TyS (K : PySem.W.Frag) (H : Hp) (x : V) (t : Value) : Prop := TyOf K H x t ∨ (∃ a xs, x = .ref a ∧ SqT K H a xs ∧ t = .type "tuple") ∨ (∃ a xs, x = .ref a ∧ SqL K H a xs ∧ t = .type "list")
theorem TyS.tup {K : PySem.W.Frag} {H : Hp} {a : Addr} {xs : List V} (h : SqT K H a xs) : TyS K H (.ref a) (.type "tuple") := .inr (.inl ⟨a, xs, rfl, h, rfl⟩)
theorem TyS.lst {K : PySem.W.Frag} {H : Hp} {a : Addr} {xs : List V} (h : SqL K H a xs) : TyS K H (.ref a) (.type "list") := .inr (.inr ⟨a, xs, rfl, h, rfl⟩)
theorem TyS.int {K : PySem.W.Frag} {H : Hp} {i : Int} : TyS K H (.int i) (.type "int") := .inl (.int i)
theorem TyS.bl {K : PySem.W.Frag} {H : Hp} {i : Bool} : TyS K H (.bl i) (.type "bool") := .inl (.bl i)
theorem TyS.str {K : PySem.W.Frag} {H : Hp} {i : Str} : TyS K H (.str i) (.type "str") := .inl (.str i)
theorem call_isinst : CallR X (.builtin "isinstance") (fun xs H Q => ∃ x c t b, xs = [x, .ty c] ∧ TyS X.K H x t ∧ PySem.W.kitOne X.K t (.type c) = some b ∧ Q (.bl b) H) := by
  intro pins s σ H xs us Q I r h
  obtain ⟨x, c, t, b, rfl, ty, e, q⟩ := h
  obtain ⟨u, v, rfl, rx, rc⟩ := Vals.two r
  cases (show v = Value.type c from rc)
  have fin : ∀ tk, EP X pins σ Q (.bool b) { s with toks := tk } := fun tk => ⟨.bl b, H, I.tok _, rfl, q⟩
  rcases ty with ty | ⟨a, xs, rfl, hT, rfl⟩ | ⟨a, xs, rfl, hL, rfl⟩
  · exact isinst_ok I rx ty e fin
  · cases (show u = Value.ref a from rx)
    obtain ⟨its, _, p, _⟩ := I.tuple hT
    obtain ⟨o, h1, h2, _⟩ := p
    exact PySem.W.kia_one PySem.W.kitx_tuple I.kIn ⟨o, h1, h2⟩ e (fun z => nomatch z) fin
  · cases (show u = Value.ref a from rx)
    obtain ⟨its, _, p, _⟩ := I.list hL
    obtain ⟨o, _, h1, h2, _⟩ := p
    exact PySem.W.kia_one PySem.W.kitx_list I.kIn ⟨o, h1, h2⟩ e (fun z => nomatch z) fin
theorem boot_max : bootBuiltins "max" = some (.builtin "max") := by decide +kernel
theorem boot_min : bootBuiltins "min" = some (.builtin "min") := by decide +kernel
theorem boot_isinstance : bootBuiltins "isinstance" = some (.builtin "isinstance") := by decide +kernel
theorem boot_ty_int : bootBuiltins "int" = some (.type "int") := by decide +kernel
theorem boot_ty_bool : bootBuiltins "bool" = some (.type "bool") := by decide +kernel
theorem boot_ty_tuple : bootBuiltins "tuple" = some (.type "tuple") := by decide +kernel
theorem boot_ty_list : bootBuiltins "list" = some (.type "list") := by decide +kernel
theorem kit_int_int {K : PySem.W.Frag} : PySem.W.kitOne K (.type "int") (.type "int") = some true := rfl
theorem kit_int_bool {K : PySem.W.Frag} : PySem.W.kitOne K (.type "int") (.type "bool") = some false := by first | rfl | with_unfolding_all rfl
end
theorem Same.seqT {K : PySem.W.Frag} {H H' : Hp} {a : Addr} {xs : List V} (e : Same H H') (h : SqT K H a xs) : SqT K H' a xs := by
  rcases h with (h | ⟨o, h⟩) | h
  · exact .inl (.inl (e _ _ h))
  · exact .inl (.inr ⟨o, e _ _ h⟩)
  · exact .inr h
theorem same_new {H : Hp} {p : Addr} (h : H p = none) (o : HO) : Same H (upd H p o) := fun b u q => by rw [upd_ne (ne_of_none q h)]; exact q
theorem small' {n : Nat} (h : n ≤ 1000) : n ≤ sizeLine := Nat.le_of_lt (small1000 h)
section
variable {X : Cx} {es : List Expr} {t : TA} {pos : Pos}
noncomputable def tTupO (t : TA) : TE := fun σ H Q => t σ H fun xs H1 => xs.length ≤ sizeLine ∧ ∀ p H2, H1 p = none → Same H1 H2 → H2 p = some (.tup xs) → Q (.ref p) H2
noncomputable def tLstO (t : TA) : TE := fun σ H Q => t σ H fun xs H1 => xs.length ≤ sizeLine ∧ ∀ p H2, H1 p = none → Same H1 H2 → H2 p = some (.lst xs) → Q (.ref p) H2
theorem pe_tupO {x1} (h : PA X es t) : PE X (.Tuple es x1 pos) (tTupO t) := by
  intro pins s σ H Q I hq
  refine wpAny_Tuple_spliced (thn (h pos pins s σ H _ I hq) fun us s1 ⟨xs, H1, I1, r, z, q⟩ => ⟨by rw [← r.length]; exact z, ?_⟩)
  have hf : H1 s1.heap.objs.size = none := I1.hok.fresh (Nat.le_refl _)
  refine ⟨.ref s1.heap.objs.size, upd H1 s1.heap.objs.size (.tup xs), I1.laid (t' := s1.toks) (fun b u e => Heap.get?_push_of_some _ e) (Nat.le_refl _) ?_, rfl, q _ _ hf (same_new hf _) upd_same⟩
  exact ⟨z, us, r, ⟨_, Heap.get?_push_size _ rfl, rfl, _, rfl⟩⟩
theorem pe_lstO (h : PA X es t) : PE X (.List es pos) (tLstO t) := by
  intro pins s σ H Q I hq
  refine wpAny_List_spliced (thn (h pos pins s σ H _ I hq) fun us s1 ⟨xs, H1, I1, r, z, q⟩ => ⟨by rw [← r.length]; exact z, ?_⟩)
  have hf : H1 s1.heap.objs.size = none := I1.hok.fresh (Nat.le_refl _)
  refine ⟨.ref s1.heap.objs.size, upd H1 s1.heap.objs.size (.lst xs), I1.laid (t' := s1.toks) (fun b u e => Heap.get?_push_of_some _ e) (Nat.le_refl _) ?_, rfl, q _ _ hf (same_new hf _) upd_same⟩
  exact ⟨z, us, 0, r, Heap.get?_push_size _ rfl⟩
end
section
variable {env : Env} {es : List Expr}
theorem star_Name {x p} : starEach (.Name x p :: es) env = (false, eval (.Name x p) env) :: starEach es env := by first | rfl | with_unfolding_all rfl
theorem star_Constant {x j p} : starEach (.Constant x j p :: es) env = (false, eval (.Constant x j p) env) :: starEach es env := by first | rfl | with_unfolding_all rfl
theorem star_BinOp {a o b p} : starEach (.BinOp a o b p :: es) env = (false, eval (.BinOp a o b p) env) :: starEach es env := by first | rfl | with_unfolding_all rfl
theorem star_Call {a o b p} : starEach (.Call a o b p :: es) env = (false, eval (.Call a o b p) env) :: starEach es env := by first | rfl | with_unfolding_all rfl
theorem star_Subscript {a o p} : starEach (.Subscript a o p :: es) env = (false, eval (.Subscript a o p) env) :: starEach es env := by first | rfl | with_unfolding_all rfl
theorem star_List {a p} : starEach (.List a p :: es) env = (false, eval (.List a p) env) :: starEach es env := by first | rfl | with_unfolding_all rfl
theorem star_Tuple {a k p} : starEach (.Tuple a k p :: es) env = (false, eval (.Tuple a k p) env) :: starEach es env := by first | rfl | with_unfolding_all rfl
end
theorem plain_Name {x p} : PlainIx (.Name x p) := fun _ _ => rfl
theorem plain_Constant {x j p} : PlainIx (.Constant x j p) := fun _ _ => rfl
theorem plain_BinOp {a o b p} : PlainIx (.BinOp a o b p) := fun _ _ => rfl
section
variable {X : Cx} {pos : Pos}
noncomputable def gN (i : Nat) : TG := fun v σ H Q => ∀ σ', σ' = σ.set i (some v) → Q σ' H
theorem pg_nameN {i : Nat} {x : Str} {pos' : Pos} (hN : X.N.Nodup) (hi : X.N[i]? = some x) (hx : Loc X.env.scope x) (hf : X.fn x = true ∨ X.env.scope.names.lookup x = some .local := by first | exact .inl rfl | exact .inr rfl | assumption) : PG X (.Name x pos') (gN i) := by
  intro pins s σ H v u Q I r h
  exact pg_name hN hi hx hf pins s σ H v u Q I r (h _ rfl)
theorem ps_setN {i : Nat} {x : Str} {e : Expr} {te : TE} {pos' : Pos} (hN : X.N.Nodup) (hi : X.N[i]? = some x) (hx : Loc X.env.scope x) (he : PE X e te) (hs : swapsWith e (some (.Name x pos')) pos.line X.env = pure false := by rfl) (hf : X.fn x = true ∨ X.env.scope.names.lookup x = some .local := by first | exact .inl rfl | exact .inr rfl | assumption) :
    PS X (.Assign [.Name x pos'] e pos) (tAsg te (gN i)) := by
  intro pins s σ H D I h
  exact wpAny_Assign_Name (thn (he pins s σ H _ I h) fun u s1 ⟨v, H1, I1, r1, q1⟩ => store_ok I1 hN hi hx r1 (fun s2 I2 => ⟨_, H1, I2, q1 _ rfl⟩) hf) hs
end
structure CxIs (X : Cx) (N : List Str) (sc : Scope) : Prop where
  n : X.N = N
  s : X.env.scope = sc
  calm : X.calm = true
  own : PassesOwn (model X.prog X.w) X.A X.env X.xe
section
variable {X : Cx} {N : List Str} {sc : Scope} {pos : Pos}
theorem xv (c : CxIs X N sc) {i : Nat} {x : Str} (hi : N[i]? = some x) (hv : sc.names.lookup x = some .local) (hd : (x == ("__debug__" : Str)) = false) (hcd : (x == ("__classdict__" : Str)) = false) : PE X (.Name x pos) (tVar i) :=
  pe_var (by rw [c.n]; exact hi) (Or.inl (by rw [c.s]; exact hv)) hd hcd
theorem xs (c : CxIs X N sc) (nd : N.Nodup) {i : Nat} {x : Str} {e : Expr} {te : TE} {pos' : Pos} (hi : N[i]? = some x) (hv : sc.names.lookup x = some .local) (he : PE X e te) (hs : swapsWith e (some (.Name x pos')) pos.line X.env = pure false) :
    PS X (.Assign [.Name x pos'] e pos) (tAsg te (gN i)) :=
  ps_setN (by rw [c.n]; exact nd) (by rw [c.n]; exact hi) (Or.inl (by rw [c.s]; exact hv)) he hs (Or.inr (by rw [c.s]; exact hv))
theorem xt (c : CxIs X N sc) (nd : N.Nodup) {i : Nat} {x : Str} (hi : N[i]? = some x) (hv : sc.names.lookup x = some .local) : PG X (.Name x pos) (gN i) :=
  pg_nameN (by rw [c.n]; exact nd) (by rw [c.n]; exact hi) (Or.inl (by rw [c.s]; exact hv)) (Or.inr (by rw [c.s]; exact hv))
theorem xg (c : CxIs X N sc) {x : Str} (hv : sc.names.lookup x = some .globalImplicit) : Gl X x := by
  show X.env.scope.names.lookup x = _
  rw [c.s]; exact hv
end
structure WE (X : Cx) (e : Expr) (t : TE) : Prop where
  h : PE X e t
structure WT (X : Cx) (e : Expr) (t : TT) : Prop where
  h : PT X e t
structure WW (X : Cx) (e : Expr) (t : TT) : Prop where
  h : PW X e t
structure WA (X : Cx) (e : List Expr) (t : TA) : Prop where
  h : PA X e t
structure WS (X : Cx) (e : Stmt) (t : TS) : Prop where
  h : PS X e t
structure WSs (X : Cx) (e : List Stmt) (t : TS) : Prop where
  h : PSs X e t
structure WG (X : Cx) (e : Expr) (t : TG) : Prop where
  h : PG X e t
structure WI (X : Cx) (tg e : Expr) (t : TI) : Prop where
  h : PI X tg e t
structure WO (X : Cx) (e : Option Expr) (t : TO) : Prop where
  h : PO X e t
theorem WW.pt {X : Cx} {e : Expr} {t : TT} (h : WW X e t) : WT X e t := ⟨h.h.pt⟩
section
variable {X : Cx} {a b c e o : Expr} {es rest : List Expr} {ta tb tc te to : TE} {tA tB' tC' : TT} {t : TA} {pos p apos cpos p2 pos' : Pos} {st : Stmt} {sts bd ob : List Stmt} {u v : TS} {x : Str} {lo hi : Option Expr} {tl th : TO} {tg : Expr}
theorem we_int {i j} : WE X (.Constant (.int i) j pos) (tC (.int i)) := ⟨pe_int⟩
theorem we_bl {i j} : WE X (.Constant (.bool i) j pos) (tC (.bl i)) := ⟨pe_bl⟩
theorem we_non {j} : WE X (.Constant .none j pos) (tC .non) := ⟨pe_non⟩
theorem we_str {i j} : WE X (.Constant (.str i) j pos) (tC (.str i)) := ⟨pe_str⟩
theorem we_op {op : Operator} {r : R2} (ho : OpR X (binaryOp op) r) (ha : WE X a ta) (hb : WE X b tb) : WE X (.BinOp a op b pos) (tOp r ta tb) := ⟨pe_op ho ha.h hb.h⟩
theorem we_one {op} (h : WE X a ta) : WE X (.BoolOp op [a] pos) ta := ⟨pe_one h.h⟩
theorem we_and (ha : WE X a ta) (hb : WE X (.BoolOp .And (b :: rest) pos) tb) : WE X (.BoolOp .And (a :: b :: rest) pos) (tAndV ta tb) := ⟨pe_and ha.h hb.h⟩
theorem we_cmpR {op : CmpOp} {r : R2} (ho : OpR X (compareOp op) r) (ha : WE X a ta) (hb : WE X b tb) (hm : behindInMarks op b = false) : WE X (.Compare a [op] [b] pos) (tOp r ta tb) := ⟨pe_cmpR ho ha.h hb.h hm⟩
theorem wt_cmpR {op : CmpOp} {r : R2} (ho : OpR X (compareOp op) r) (ha : WE X a ta) (hb : WE X b tb) (hm : behindInMarks op b = false) : WT X (.Compare a [op] [b] pos) (tTest (tOp r ta tb)) := ⟨pt_cmpR ho ha.h hb.h hm⟩
theorem ww_and (ha : WT X a tA) (hb : WW X (.BoolOp .And (b :: rest) pos) tB') : WW X (.BoolOp .And (a :: b :: rest) pos) (tAnd tA tB') := ⟨pw_and ha.h hb.h⟩
theorem ww_or (ha : WT X a tA) (hb : WW X (.BoolOp .Or (b :: rest) pos) tB') : WW X (.BoolOp .Or (a :: b :: rest) pos) (tOr tA tB') := ⟨pw_or ha.h hb.h⟩
theorem ww_and1 (ha : WT X a tA) : WW X (.BoolOp .And [a] pos) tA := ⟨pw_and1 ha.h⟩
theorem ww_or1 (ha : WT X a tA) : WW X (.BoolOp .Or [a] pos) tA := ⟨pw_or1 ha.h⟩
theorem wt_val (h : WE X e te) (he : ∀ whole, isTrue e X.env whole = (do let v ← whole; standAt e.pos; holding [v] (truthy v)) := by intro _; rfl) : WT X e (tB te) := ⟨pt_val h.h he⟩
theorem wa_nil : WA X [] tNil := ⟨pa_nil⟩
theorem wa_cons (ha : WE X e te) (hr : WA X es t) (hs : starEach (e :: es) X.env = (false, eval e X.env) :: starEach es X.env) : WA X (e :: es) (tCons te t) := ⟨pa_cons ha.h hr.h hs⟩
theorem we_lstO (h : WA X es t) : WE X (.List es pos) (tLstO t) := ⟨pe_lstO h.h⟩
theorem we_tupO {x1} (h : WA X es t) : WE X (.Tuple es x1 pos) (tTupO t) := ⟨pe_tupO h.h⟩
theorem we_ix {r : R2} (hr : IxR X r) (ha : WE X a ta) (hb : WE X b tb) (hs : PlainIx b) : WE X (.Subscript a b pos) (tOp r ta tb) := ⟨pe_ix hr ha.h hb.h hs⟩
theorem we_slice {r : V → Option Int → Option Int → Hp → VK → Prop} (hr : SlR X r) (he : WE X e te) (hl : WO X lo tl) (hu : WO X hi th) : WE X (.Subscript e (.Slice lo hi none p2) pos) (tSl r te tl th) := ⟨pe_slice hr he.h hl.h hu.h⟩
theorem wo_none : WO X none tNoPart := ⟨po_none⟩
theorem wo_some (h : WE X e te) : WO X (some e) (tPart te) := ⟨po_some h.h⟩
section
variable {CX : CXT} {k : Nat} {f C : Addr} {fd : FuncData} {ps : List Str} {sp : Sp} {dvs : List V} {ds : List Value} {E : XK} {m : Str} {id T : String} {r : List V → Hp → VK → Prop}
theorem we_call (F : FnOk X.prog X.w X.K X.mg X.base CX k f fd ps sp) (hr : Room k X.A) (hg : Gl X x) (hm : X.mg x = some (.ref f)) (hk : PySem.W.keepIn X.K (.ref f) = true) (hb : Binds X.K fd ps ds) (hd : Vals dvs ds) (hx : Passes CX X E)
    (ha : WA X (e :: es) t) (hdb : (x == ("__debug__" : Str)) = false := by decide) (he : starEach (e :: es) X.env = (false, eval e X.env) :: starEach es X.env := by rfl) (hpl : (backTo pos (starEach es X.env)).any (·.1) = false := by rfl) :
    WE X (.Call (.Name x p) (e :: es) [] pos) (tCall sp dvs E t) := ⟨pe_call F hr hg hm hk hb hd hx ha.h hdb he hpl⟩
theorem we_callB (hc : CallR X (.builtin id) r) (hg : Gl X x) (hm : X.mg x = none) (hv : bootBuiltins x = some (.builtin id)) (ha : WA X (e :: es) t) (hn : x ≠ "__name__" := by decide) (hdb : (x == ("__debug__" : Str)) = false := by decide)
    (he : starEach (e :: es) X.env = (false, eval e X.env) :: starEach es X.env := by rfl) (hpl : (backTo pos (starEach es X.env)).any (·.1) = false := by rfl) : WE X (.Call (.Name x p) (e :: es) [] pos) (tCB r t) := ⟨pe_callB hc hg hm hv ha.h hn hdb he hpl⟩
theorem we_callTy (hc : CallR X (.type T) r) (hg : Gl X x) (hm : X.mg x = none) (hv : bootBuiltins x = some (.type T)) (ha : WA X (e :: es) t) (hn : x ≠ "__name__" := by decide) (hdb : (x == ("__debug__" : Str)) = false := by decide)
    (he : starEach (e :: es) X.env = (false, eval e X.env) :: starEach es X.env := by rfl) (hpl : (backTo pos (starEach es X.env)).any (·.1) = false := by rfl) : WE X (.Call (.Name x p) (e :: es) [] pos) (tCB r t) := ⟨pe_callTy hc hg hm hv ha.h hn hdb he hpl⟩
end
section
variable {name : Str} {T id : String} {r : V → List V → Hp → VK → Prop}
theorem we_bm (pa : PlainAttrs T) (slot : Slot T name id) (hty : typeOf (.builtin id) = pure (.type "method_descriptor")) (hm : MtR X id r) (ho : WE X o to) (ha : WA X (e :: es) t)
    (hbase : attributeBase o name X.env (eval o X.env) = eval o X.env := by rfl)
    (hfew : ((backTo cpos (starEach (e :: es) X.env)).all (fun x => !x.1) && (backToKw cpos (keywordEach [] X.env)).all (fun x => x.1.isSome)
      && decide ((e :: es).length + ([] : List Keyword).length + (if ([] : List Keyword).isEmpty then 0 else 1) < 30)) = true := by rfl)
    (hline : (apos.endLine == cpos.line) = true := by rfl) (hs : starEach (e :: es) X.env = (false, eval e X.env) :: starEach es X.env := by rfl) (hplain : (backTo cpos (starEach es X.env)).any (·.1) = false := by rfl) :
    WE X (.Call (.Attribute o name apos) (e :: es) [] cpos) (tBM X.K T r to t) := ⟨pe_bm pa slot hty hm ho.h ha.h hbase hfew hline hs hplain⟩
end
section
variable {f : Str} {tv : TE} {value : Expr}
theorem we_fld (he : WE X e ta) (hb : attributeBase e f X.env (eval e X.env) = eval e X.env) : WE X (.Attribute e f pos) (tFld X.K ta f) := ⟨pe_fld he.h hb⟩
theorem ws_fld (ha : WE X o ta) (hv : WE X value tv) (hs : swapsWith value (some (.Attribute o f pos')) pos.line X.env = pure false) : WS X (.Assign [.Attribute o f pos'] value pos) (sFld X.K ta tv f) := ⟨ps_fld ha.h hv.h hs⟩
end
section
variable {CX : CXT} {k : Nat} {f C : Addr} {fd : FuncData} {ps : List Str} {sp : Sp} {dvs : List V} {ds : List Value} {E : XK} {m : Str}
theorem we_meth {pl : Sem Bool} (he : WE X o ta) (c : Cls X.K C) (hm : Meth X.K C m f) (F : FnOk X.prog X.w X.K X.mg X.base CX k f fd ps sp) (hr : Room k X.A) (hb : Binds X.K fd ps ds) (hd : Vals dvs ds) (hx : Passes CX X E) (ha : WA X (e :: es) t)
    (hst : starEach (e :: es) X.env = (false, eval e X.env) :: starEach es X.env := by rfl) (hpl : (backTo pos (starEach es X.env)).any (·.1) = false := by rfl)
    (ht : eval (.Call (.Attribute o m apos) (e :: es) [] pos) X.env = (do
      let ov ← eval o X.env
      standAt apos.atName
      let (f, first) ← holding [ov] (getMethod ov m pl)
      callWith pos f first (backTo pos (starEach (e :: es) X.env)) (backToKw pos (keywordEach [] X.env))) := by rfl) :
    WE X (.Call (.Attribute o m apos) (e :: es) [] pos) (tMeth C m sp dvs E ta t) := ⟨pe_meth he.h c hm F hr hb hd hx ha.h hst hpl ht⟩
theorem we_make (M : Mk X.K C f) (F : FnOk X.prog X.w X.K X.mg X.base CX k f fd ps sp) (hr : Room (k + 1) X.A) (hg : Gl X x) (hm : X.mg x = some (.ref C)) (hb : Binds X.K fd ps ds) (hd : Vals dvs ds) (hx : Passes CX X E)
    (ha : WA X (e :: es) t) (hdb : (x == ("__debug__" : Str)) = false := by decide) (he : starEach (e :: es) X.env = (false, eval e X.env) :: starEach es X.env := by rfl) (hpl : (backTo pos (starEach es X.env)).any (·.1) = false := by rfl) :
    WE X (.Call (.Name x p) (e :: es) [] pos) (tMake C sp dvs E t) := ⟨pe_make M F hr hg hm hb hd hx ha.h hdb he hpl⟩
end
theorem wss_nil : WSs X [] tNext := ⟨pss_nil⟩
theorem wss_cons (h1 : WS X st u) (h2 : WSs X sts v) : WSs X (st :: sts) (tSeq u v) := ⟨pss_cons h1.h h2.h⟩
theorem wss_one (h1 : WS X st u) : WSs X [st] u := ⟨pss_one h1.h⟩
theorem ws_never : WS X st tNever := ⟨ps_never⟩
theorem ws_if (hc : WT X c tA) (ha : WSs X bd u) (hb : WSs X ob v) : WS X (.If c bd ob pos) (tIfS tA u v) := ⟨ps_if hc.h ha.h hb.h⟩
theorem ws_ret (he : WE X e te) : WS X (.Return (some e) pos) (tRet te) := ⟨ps_ret he.h⟩
theorem ws_expr (he : WE X e te) (hs : swapsWith e none pos.line X.env = pure false := by rfl) : WS X (.Expr e pos) (tDrop te) := ⟨ps_expr he.h hs⟩
theorem ws_while (hp : PassesOwn (model X.prog X.w) X.A X.env X.xe) (hc : WT X c tA) (hb : WSs X bd u) : WS X (.While c bd [] pos) (tWhile tA u) := ⟨ps_while hp hc.h hb.h⟩
theorem ws_for {iter : Expr} {wi : TI} {g : TG} (hp : PassesOwn (model X.prog X.w) X.A X.env X.xe) (hc : X.calm = true) (hi : WI X tg iter wi) (hg : WG X tg g) (hb : WSs X bd u)
    (hs : ∀ x, foldedSetIterable iter X.env x = pure x := by intro _; rfl) : WS X (.For tg iter bd [] pos) (tFor wi g u) := ⟨ps_for hp hc hi.h hg.h hb.h hs⟩
theorem wi_list (hl : WE X e te) : WI X tg e (iList X.K te) := ⟨pi_list hl.h⟩
theorem wi_range1 (hg : Gl X "range") (hm : X.mg "range" = none) (ha : WA X [a] t) (hs : starEach [a] X.env = [(false, eval a X.env)] := by rfl) : WI X tg (.Call (.Name "range" p) [a] [] pos) (iRng1 t) := ⟨pi_range1 hg hm ha.h hs⟩
theorem wi_range2 (hg : Gl X "range") (hm : X.mg "range" = none) (ha : WA X [a, b] t) (hs : starEach [a, b] X.env = [(false, eval a X.env), (false, eval b X.env)] := by rfl) (hs2 : starEach [b] X.env = [(false, eval b X.env)] := by rfl) :
    WI X tg (.Call (.Name "range" p) [a, b] [] pos) (iRng2 t) := ⟨pi_range2 hg hm ha.h hs hs2⟩
theorem ws_asg {g : TG} (he : WE X e te) (hg : WG X tg g) (hs : swapsWithSole [tg] e pos.line X.env = pure false := by rfl) (hw : swappedStores [tg] e X.env = pure none := by rfl)
    (h1 : (assignEach [tg] X.env).map (·.2) = [assign tg X.env] := by rfl) : WS X (.Assign [tg] e pos) (tAsg te g) := ⟨ps_asg he.h hg.h hs hw h1⟩
end
section
variable {X : Cx} {N : List Str} {sc : Scope} {pos : Pos}
theorem wxv (c : CxIs X N sc) {i : Nat} {x : Str} (hi : N[i]? = some x) (hv : sc.names.lookup x = some .local) (hd : (x == ("__debug__" : Str)) = false) (hcd : (x == ("__classdict__" : Str)) = false) : WE X (.Name x pos) (tVar i) := ⟨xv c hi hv hd hcd⟩
theorem wxs (c : CxIs X N sc) (nd : N.Nodup) {i : Nat} {x : Str} {e : Expr} {te : TE} {pos' : Pos} (hi : N[i]? = some x) (hv : sc.names.lookup x = some .local) (he : WE X e te) (hs : swapsWith e (some (.Name x pos')) pos.line X.env = pure false) :
    WS X (.Assign [.Name x pos'] e pos) (tAsg te (gN i)) := ⟨xs c nd hi hv he.h hs⟩
theorem wxt (c : CxIs X N sc) (nd : N.Nodup) {i : Nat} {x : Str} (hi : N[i]? = some x) (hv : sc.names.lookup x = some .local) : WG X (.Name x pos) (gN i) := ⟨xt c nd hi hv⟩
end
theorem unW {X : Cx} {b : List Stmt} {D : Ends} {σ : St} {H : Hp} (h : ∃ t, WSs X b t ∧ t D σ H) : ∃ t, PSs X b t ∧ t D σ H := let ⟨t, h1, h2⟩ := h; ⟨t, h1.h, h2⟩
noncomputable def Cal (P : Program) (w : World) (K : PySem.W.Frag) (mg : Str → Option Value) (base : Heap) (x : Str) (k : Nat) (ps : List Str) (sp : Sp) : Prop :=
  ∃ (f : Addr) (fd : FuncData), FnOk P w K mg base CX0 k f fd ps sp ∧ Binds K fd ps [] ∧ PySem.W.keepIn K (.ref f) = true ∧ mg x = some (.ref f)
noncomputable def clsAt (K : PySem.W.Frag) (x : Str) : Addr := match PySem.W.nsIn K mainGlobals x with
  | some (some (.ref a)) => a
  | _ => 0
theorem clsAt_eq {K : PySem.W.Frag} {x : Str} {a : Addr} (h : PySem.W.nsIn K mainGlobals x = some (some (.ref a))) : clsAt K x = a := by unfold clsAt; rw [h]
noncomputable def CalM (P : Program) (w : World) (K : PySem.W.Frag) (mg : Str → Option Value) (base : Heap) (C : Addr) (m : Str) (k : Nat) (ps : List Str) (sp : Sp) : Prop :=
  ∃ (f : Addr) (fd : FuncData), FnOk P w K mg base CX0 k f fd ps sp ∧ Binds K fd ps [] ∧ Meth K C m f
noncomputable def CalI (P : Program) (w : World) (K : PySem.W.Frag) (mg : Str → Option Value) (base : Heap) (C : Addr) (k : Nat) (ps : List Str) (sp : Sp) : Prop :=
  ∃ (f : Addr) (fd : FuncData), FnOk P w K mg base CX0 k f fd ps sp ∧ Binds K fd ps [] ∧ Mk K C f
theorem ifT {c A B : Prop} [Decidable c] (hc : c) (h : A) : if decide c = true then A else B := by rw [decide_eq_true hc]; exact iteT h
theorem ifF {c A B : Prop} [Decidable c] (hc : ¬ c) (h : B) : if decide c = true then A else B := by rw [decide_eq_false hc]; exact iteF h
theorem if2 {c A B : Prop} [Decidable c] (h1 : c → A) (h2 : ¬ c → B) : if decide c = true then A else B := by
  by_cases h : c
  · exact ifT h (h1 h)
  · exact ifF h (h2 h)
theorem ifn2 {c A B : Prop} [Decidable c] (h1 : ¬ c → A) (h2 : c → B) : if (!decide c) = true then A else B := by
  by_cases h : c
  · rw [decide_eq_true h]; exact iteF (h2 h)
  · rw [decide_eq_false h]; exact iteT (h1 h)
theorem inj_int {i j : Int} (h : i = j) : V.int i = V.int j := by rw [h]
theorem ne_int {i j : Int} (h : ¬ i = j) : ¬ V.int i = V.int j := fun e => h (V.int.inj e)
theorem of_not_int {i j : Int} (h : ¬ V.int i = V.int j) : ¬ i = j := fun e => h (by rw [e])
theorem of_int {i j : Int} (h : V.int i = V.int j) : i = j := V.int.inj h
end L2
namespace L2
open PySem PySem.W PySem.Calls PyProof.Rows
theorem attach_callB {l : PySem.W.OpenLaw} {n : Nat} {q : Program} {loose : List Str} {XP : (Str → Option Value) → Heap → Prop} {YP : World → Heap → Prop} {d : DefRec}
    (hn : l.most = some n) (hdf : d.params.defaults = [])
    (call : ∀ (w : World) (s₀ s₁ : Shared) (mg mb : Str → Option Value) (fa : Addr) (o : Obj) (pm cd doc : Value) (a : Addr) (vs : List Value) (ns : List Int),
      Ground q loose [] XP w s₀ mg mb s₁.heap → YP w s₁.heap →
      s₁.heap.get? fa = some o → o.data = .func (docDef d.name d.params d.body d.scope pm cd doc) → s₁.heap.CodeRec cd d.name → mg d.name = some (.ref fa) →
      s₁.heap.get? a = some { cls := .type "list", data := .seq vs.toArray } → IntsAre vs ns → ns.length ≤ n → (∀ z ∈ ns, Builtin.Int.intBits z ≤ 1048576) → s₁.gens = #[] →
      codeAny (model l.prog w) callerA (.call (.ref fa) ⟨[.ref a], []⟩) (fun r s' => r = .ok (.ret (.bool true)) ∧ OldK s₁.heap s'.heap ∧ s'.os = s₁.os ∧ AllBare s'.gens) s₁) :
    PySem.W.WalkO q loose XP YP l.row.toRowW d [] (fun f vs => PySem.call f vs) := by
  intro w s₀ s₁ mg mb G Y fa o pm cd doc dV kV ho hd hcd hD hmg hg args vals as hpre hlay hrd hwl hlo
  obtain rfl : dV = .none := PySem.W.Dflts.none hD hdf
  obtain rfl : kV = .none := PySem.W.Dflts.noKw hD
  obtain ⟨a, vs, ns, rfl, rfl, hobj, hints, hlen⟩ := Att.script_of hn hpre hwl
  have hbits : ∀ z ∈ ns, Builtin.Int.intBits z ≤ 1048576 := fun z hz => by
    have h1 := PySem.W.layableW_arg hlay _ (List.mem_singleton.mpr rfl)
    have h2 := PySem.W.layableW_item h1 (.int z) (List.mem_map.mpr ⟨z, hz, rfl⟩)
    exact intBits_le_of_layable (show PyData.layable0 (.int z) = true from h2)
  refine PySem.W.enter_call (codeAny_mono (call w s₀ s₁ mg mb fa o pm cd doc a vs ns G Y ho (PySem.W.fd_plain hd) hcd hmg hobj hints hlen hbits hg) fun r s' hq => ?_)
  obtain ⟨rfl, h2, h3, h4⟩ := hq
  exact ⟨.inl ⟨.bool true, .bool true, [], rfl, fun _ => rfl, .bool true, Att.post_true l _, fun _ => ⟨List.Pairwise.nil, fun _ hm => (nomatch hm)⟩⟩, h2, h3, h4⟩
theorem walk_ofB {l : PySem.W.OpenLaw} {n k : Nat} {q : Program} {loose : List Str} {XP : (Str → Option Value) → Heap → Prop} {YP : World → Heap → Prop} {d : DefRec} {K : Params → PySem.W.Frag} {CX : World → CXT} {sp : World → Sp} {x : Str}
    (hn : l.most = some n) (hn2 : n ≤ sizeLine) (hdf : d.params.defaults = []) (hr : Room k callerA)
    (hY : ∀ (w : World) (h : Heap), YP w h → (K w.params).In h)
    (F : ∀ (w : World) (mg : Str → Option Value) (fa : Addr) (h : Heap), (K w.params).In h → h.Ns mainGlobals mg → mg d.name = some (.ref fa) →
      ∃ fd : FuncData, (∀ (s : Shared) (u : Value), BindsTo s fd ⟨[u], []⟩ [(x, u)]) ∧
        ∀ base : Heap, (K w.params).In base → base.Ns mainGlobals mg → FnOk l.prog w (K w.params) mg base (CX w) k fa fd [x] (sp w))
    (hsp : ∀ (w : World) (H : Hp) (a : Addr) (ns : List Int), ns.length ≤ n → (∀ z ∈ ns, Builtin.Int.intBits z ≤ 1048576) → Only H → SqL (K w.params) H a (ns.map V.int) → sp w [.ref a] H (fun v _ => v = .bl true) fun _ _ _ => False)
    (hCX : ∀ (w : World) (H : Hp) (s : Shared) (e : Value) (s' : Shared), CX w [] H s (fun _ _ _ => False) e s' → False) :
    PySem.W.WalkO q loose XP YP l.row.toRowW d [] (fun f vs => PySem.call f vs) := by
  refine attach_callB hn hdf fun w s₀ s₁ mg mb fa o pm cd doc a vs ns G Y ho hd hcd hmg hobj hints hlen hbits hg => ?_
  have KX := hY w _ Y
  obtain ⟨fd, hb, hF⟩ := F w mg fa _ KX G.T.g hmg
  exact law_call KX G.T.g G.T.b G.T.builtins G.T.nolimit hg hobj hints (Nat.le_trans hlen hn2) hr hF hb (fun H hO hS => hsp w H a ns hlen hbits hO hS) fun H e s' => hCX w H s₁ e s'
noncomputable def pick2 {α : Type} (i : Int) (a b : α) : α := if i = 0 then a else b
noncomputable def pick3 {α : Type} (i : Int) (a b c : α) : α := if i = 0 then a else if i = 1 then b else c
noncomputable def pick4 {α : Type} (i : Int) (a b c d : α) : α := if i = 0 then a else if i = 1 then b else if i = 2 then c else d
theorem at3 {a b c : V} {i : Int} (h0 : 0 ≤ i) (h1 : i < 3) : atI [a, b, c] i = some (pick3 i a b c) := by
  rcases (by omega : i = 0 ∨ i = 1 ∨ i = 2) with rfl | rfl | rfl <;> rfl
theorem at2i {a b i : Int} (h0 : 0 ≤ i) (h1 : i < 2) : atI [V.int a, V.int b] i = some (.int (pick2 i a b)) := by
  rcases (by omega : i = 0 ∨ i = 1) with rfl | rfl <;> rfl
theorem at4i {a b c d i : Int} (h0 : 0 ≤ i) (h1 : i < 4) : atI [V.int a, V.int b, V.int c, V.int d] i = some (.int (pick4 i a b c d)) := by
  rcases (by omega : i = 0 ∨ i = 1 ∨ i = 2 ∨ i = 3) with rfl | rfl | rfl | rfl <;> rfl
theorem at3s {a b c : Str} {i : Int} (h0 : 0 ≤ i) (h1 : i < 3) : atI [V.str a, V.str b, V.str c] i = some (.str (pick3 i a b c)) := by
  rcases (by omega : i = 0 ∨ i = 1 ∨ i = 2) with rfl | rfl | rfl <;> rfl
theorem pick2_of {α : Type} {P : α → Prop} {i : Int} {a b : α} (ha : P a) (hb : P b) : P (pick2 i a b) := by
  unfold pick2; split <;> assumption
theorem pick3_of {α : Type} {P : α → Prop} {i : Int} {a b c : α} (ha : P a) (hb : P b) (hc : P c) : P (pick3 i a b c) := by
  unfold pick3; split; assumption; split <;> assumption
theorem pick4_of {α : Type} {P : α → Prop} {i : Int} {a b c d : α} (ha : P a) (hb : P b) (hc : P c) (hd : P d) : P (pick4 i a b c d) := by
  unfold pick4; split; assumption; split; assumption; split <;> assumption
theorem md0 {x : Int} {n : Int} (h : 0 < n) : 0 ≤ x % n := Int.emod_nonneg x (by omega)
theorem md1 {x : Int} {n : Int} (h : 0 < n) : x % n < n := Int.emod_lt_of_pos x h
theorem gcd_turn {x y : Int} (hx : 0 ≤ x) (hy : 0 < y) : Int.gcd y (x % y) = Int.gcd x y := by
  obtain ⟨m, rfl⟩ := Int.eq_ofNat_of_zero_le hx
  obtain ⟨n, rfl⟩ := Int.eq_ofNat_of_zero_le (Int.le_of_lt hy)
  show Nat.gcd n ((m : Int) % (n : Int)).natAbs = Nat.gcd m n
  have e : ((m : Int) % (n : Int)).natAbs = m % n := by
    rw [← Int.natCast_emod]; rfl
  rw [e, Nat.gcd_comm n, Nat.gcd_comm m n]
  exact (Nat.gcd_rec n m).symm
theorem gcd_end {x y : Int} (hx : 0 ≤ x) (hy : y = 0) : x = ((Int.gcd x y : Nat) : Int) := by
  subst hy
  rw [Int.gcd_zero_right]; omega
theorem gcd_pos {x y : Int} (hy : 0 < y) : 0 < ((Int.gcd x y : Nat) : Int) := by
  have : 0 < Int.gcd x y := Int.gcd_pos_of_ne_zero_right x (by omega)
  omega
theorem gcd_le {x y : Int} (hy : 0 < y) : ((Int.gcd x y : Nat) : Int) ≤ y := Int.le_of_dvd hy (Int.gcd_dvd_right x y)
structure StepD where
  w : Str
  n : Int
  d : Int
  p : Int
  y : Str
  u : Int
noncomputable def StepD.vals (st : StepD) : List V := [.str st.w, .int st.n, .int st.d, .int st.p, .str st.y, .int st.u]
structure StepD.Ok (st : StepD) : Prop where
  w : st.w = "times" ∨ st.w = "add" ∨ st.w = "off"
  n0 : 1 ≤ st.n
  n1 : st.n ≤ 100
  d0 : 1 ≤ st.d
  d1 : st.d ≤ 100
  off : st.w = "off" → st.n < st.d
  p0 : 0 ≤ st.p
  p1 : st.p ≤ 10 ^ 30
  y : st.y = "down" ∨ st.y = "up" ∨ st.y = "near"
  u0 : 1 ≤ st.u
  u1 : st.u ≤ 100
noncomputable def StepD.num (st : StepD) : Int := if st.w = "add" then st.d + st.n else if st.w = "off" then st.d - st.n else st.n
theorem StepD.Ok.num0 {st : StepD} (h : st.Ok) : 1 ≤ st.num := by
  have := h.n0; have := h.d0; have := h.off
  unfold StepD.num
  split
  · omega
  · split
    · rename_i q; have := h.off q; omega
    · omega
theorem StepD.Ok.num1 {st : StepD} (h : st.Ok) : st.num ≤ 200 := by
  have := h.n0; have := h.d0; have := h.n1; have := h.d1
  unfold StepD.num
  split
  · omega
  · split <;> omega
noncomputable def StepD.g (st : StepD) : Int := ((Int.gcd st.num st.d : Nat) : Int)
noncomputable def StepD.sn (st : StepD) : Int := st.num / st.g
noncomputable def StepD.sd (st : StepD) : Int := st.d / st.g
theorem low_mul {x y g : Int} (hg : g = ((Int.gcd x y : Nat) : Int)) : x / g * g = x ∧ y / g * g = y := by
  subst hg
  exact ⟨Int.ediv_mul_cancel (Int.gcd_dvd_left x y), Int.ediv_mul_cancel (Int.gcd_dvd_right x y)⟩
theorem low_cross {x y g : Int} (hg : g = ((Int.gcd x y : Nat) : Int)) (hp : 0 < g) : x / g * y = x * (y / g) := by
  obtain ⟨a, b⟩ := low_mul hg
  have e1 : x / g * y = x / g * (y / g * g) := by rw [b]
  have e2 : x * (y / g) = x / g * g * (y / g) := by rw [a]
  rw [e1, e2, Int.mul_assoc, Int.mul_comm g]
theorem low_gcd {x y : Int} (hy : 0 < y) : Int.gcd (x / ((Int.gcd x y : Nat) : Int)) (y / ((Int.gcd x y : Nat) : Int)) = 1 := by
  have h : 0 < Int.gcd x y := Int.gcd_pos_of_ne_zero_right x (by omega)
  exact Int.gcd_ediv_gcd_ediv_gcd h
theorem low_pos {x y : Int} (hx : 0 < x) (hy : 0 < y) : 1 ≤ x / ((Int.gcd x y : Nat) : Int) := by
  have hg := gcd_pos (x := x) hy
  obtain ⟨a, _⟩ := low_mul (x := x) (y := y) rfl
  have : 0 < x / ((Int.gcd x y : Nat) : Int) := by
    refine Int.not_le.mp fun c => ?_
    have := Int.mul_le_mul_of_nonneg_right c (Int.le_of_lt hg)
    omega
  omega
theorem low_pos' {x y : Int} (hy : 0 < y) : 1 ≤ y / ((Int.gcd x y : Nat) : Int) := by
  have hg := gcd_pos (x := x) hy
  obtain ⟨_, a⟩ := low_mul (x := x) (y := y) rfl
  have : 0 < y / ((Int.gcd x y : Nat) : Int) := by
    refine Int.not_le.mp fun c => ?_
    have := Int.mul_le_mul_of_nonneg_right c (Int.le_of_lt hg)
    omega
  omega
theorem div_le' {x g : Int} (hx : 0 ≤ x) (hg : 0 < g) : x / g ≤ x := Int.ediv_le_self g hx
theorem StepD.Ok.g0 {st : StepD} (h : st.Ok) : 0 < st.g := gcd_pos (by have := h.d0; omega)
theorem StepD.Ok.sn0 {st : StepD} (h : st.Ok) : 1 ≤ st.sn := low_pos (by have := h.num0; omega) (by have := h.d0; omega)
theorem StepD.Ok.sn1 {st : StepD} (h : st.Ok) : st.sn ≤ 200 := Int.le_trans (div_le' (by have := h.num0; omega) h.g0) h.num1
theorem StepD.Ok.sd0 {st : StepD} (h : st.Ok) : 1 ≤ st.sd := low_pos' (by have := h.d0; omega)
theorem StepD.Ok.sd1 {st : StepD} (h : st.Ok) : st.sd ≤ 100 := Int.le_trans (div_le' (by have := h.d0; omega) h.g0) h.d1
theorem StepD.Ok.cross {st : StepD} (h : st.Ok) : st.sn * st.d = st.num * st.sd := low_cross rfl h.g0
theorem StepD.Ok.m1 {st : StepD} (h : st.Ok) : CMulB st.sn st.d := mul_r (by have := h.d0; omega) (by have := h.d1; omega)
theorem StepD.Ok.m2 {st : StepD} (h : st.Ok) : CMulB st.num st.sd := mul_r (by have := h.sd0; omega) (by have := h.sd1; omega)
theorem StepD.Ok.low {st : StepD} (h : st.Ok) : Int.gcd st.sn st.sd = 1 := low_gcd (by have := h.d0; omega)
theorem StepD.gn (st : StepD) : st.sn * st.g = st.num := (low_mul (x := st.num) (y := st.d) rfl).1
theorem StepD.gd (st : StepD) : st.sd * st.g = st.d := (low_mul (x := st.num) (y := st.d) rfl).2
noncomputable def roundI (num den unit : Int) (way : Str) : Int :=
  if way = "down" then num / (den * unit) * unit else if way = "up" then (num + den * unit - 1) / (den * unit) * unit else (2 * num + den * unit) / (2 * (den * unit)) * unit
theorem fl {x c : Int} (h : 0 < c) : c * (x / c) ≤ x ∧ x < c * (x / c) + c := ⟨Int.mul_ediv_self_le (by omega), Int.lt_mul_ediv_self_add h⟩
noncomputable def afterI (st : StepD) (m : Int) : Int := roundI (m * st.sn + st.p * st.sd) st.sd st.u st.y
theorem exact_g (st : StepD) (m : Int) : (m * st.sn + st.p * st.sd) * st.g = m * st.num + st.p * st.d := by
  rw [Int.add_mul, Int.mul_assoc, Int.mul_assoc, st.gn, st.gd]
theorem wide_g (st : StepD) : st.sd * st.u * st.g = st.d * st.u := by rw [Int.mul_right_comm, st.gd]
theorem sc_le {a b g : Int} (hg : 0 < g) (h : a ≤ b) : a * g ≤ b * g := Int.mul_le_mul_of_nonneg_right h (Int.le_of_lt hg)
theorem sc_lt {a b g : Int} (hg : 0 < g) (h : a < b) : a * g < b * g := Int.mul_lt_mul_of_pos_right h hg
theorem su_pos {st : StepD} (h : st.Ok) : 0 < st.sd * st.u := Int.mul_pos (by have := h.sd0; omega) (by have := h.u0; omega)
theorem ediv_is {a c z : Int} (hc : 0 < c) (h1 : z * c ≤ a) (h2 : a < z * c + c) : a / c = z := by
  have l1 : z ≤ a / c := (Int.le_ediv_iff_mul_le hc).mpr h1
  have l2 : a / c < z + 1 := (Int.ediv_lt_iff_lt_mul hc).mpr (by rw [Int.add_mul, Int.one_mul]; exact h2)
  omega
noncomputable def StepD.wide (st : StepD) : Int := st.d * st.u
noncomputable def StepD.exact (st : StepD) (m : Int) : Int := m * st.num + st.p * st.d
noncomputable def StepD.many (st : StepD) (m : Int) : Int :=
  if st.y = "up" ∧ 0 < st.exact m - st.exact m / st.wide * st.wide then st.exact m / st.wide + 1
  else if st.y = "near" ∧ st.wide ≤ 2 * (st.exact m - st.exact m / st.wide * st.wide) then st.exact m / st.wide + 1 else st.exact m / st.wide
theorem StepD.Ok.wide0 {st : StepD} (h : st.Ok) : 0 < st.wide := Int.mul_pos (by have := h.d0; omega) (by have := h.u0; omega)
theorem StepD.Ok.wide1 {st : StepD} (h : st.Ok) : st.wide ≤ 10000 := by
  have h1 : st.d * st.u ≤ st.d * 100 := Int.mul_le_mul_of_nonneg_left h.u1 (by have := h.d0; omega)
  have := h.d1
  unfold StepD.wide; omega
theorem StepD.Ok.y_up {st : StepD} (h : st.y = "up") : ¬ st.y = "down" ∧ ¬ st.y = "near" := by rw [h]; decide
theorem StepD.Ok.y_near {st : StepD} (h : st.y = "near") : ¬ st.y = "down" ∧ ¬ st.y = "up" := by rw [h]; decide
theorem StepD.Ok.y_down {st : StepD} (h : st.y = "down") : ¬ st.y = "up" ∧ ¬ st.y = "near" := by rw [h]; decide
theorem after_many {st : StepD} (h : st.Ok) (m : Int) : afterI st m = st.many m * st.u := by
  have hB := su_pos h
  have hg := h.g0
  have hE : st.exact m = (m * st.sn + st.p * st.sd) * st.g := (exact_g st m).symm
  have hW : st.wide = st.sd * st.u * st.g := (wide_g st).symm
  generalize hX : m * st.sn + st.p * st.sd = X at hE
  have eA : afterI st m = roundI X st.sd st.u st.y := by unfold afterI; rw [hX]
  rw [eA]
  generalize hb : st.sd * st.u = B at hB hW
  have hq : st.exact m / st.wide = X / B := by rw [hE, hW]; exact Int.mul_ediv_mul_of_pos_left X B hg
  have hl : st.exact m - st.exact m / st.wide * st.wide = (X - X / B * B) * st.g := by
    rw [hq, hE, hW, Int.sub_mul, Int.mul_assoc (X / B)]
  have f := fl (x := X) hB
  rw [Int.mul_comm B] at f
  unfold StepD.many roundI
  rw [hl, hq, hb, hW]
  generalize hqq : X / B = q at f
  rcases h.y with y | y | y
  · obtain ⟨n1, n2⟩ := StepD.Ok.y_down y
    rw [if_pos y, if_neg (fun z => n1 z.1), if_neg (fun z => n2 z.1)]
  · obtain ⟨n1, n2⟩ := StepD.Ok.y_up y
    rw [if_neg n1, if_pos y]
    by_cases c : 0 < X - q * B
    · have c' : 0 < (X - q * B) * st.g := Int.mul_pos c hg
      rw [if_pos ⟨y, c'⟩, ediv_is (z := q + 1) hB (by rw [Int.add_mul]; omega) (by rw [Int.add_mul]; omega)]
    · have c' : ¬ 0 < (X - q * B) * st.g := by
        have : X - q * B = 0 := by omega
        rw [this, Int.zero_mul]; decide
      rw [if_neg (fun z => c' z.2), if_neg (fun z => n2 z.1), ediv_is (z := q) hB (by omega) (by omega)]
  · obtain ⟨n1, n2⟩ := StepD.Ok.y_near y
    rw [if_neg n1, if_neg n2, if_neg (fun z => n2 z.1)]
    have hB2 : 0 < 2 * B := by omega
    have e2 : ∀ z : Int, z * (2 * B) = 2 * (z * B) := fun z => by rw [← Int.mul_assoc, Int.mul_comm z 2, Int.mul_assoc]
    by_cases c : B ≤ 2 * (X - q * B)
    · have c' : B * st.g ≤ 2 * ((X - q * B) * st.g) := by rw [← Int.mul_assoc]; exact sc_le hg c
      rw [if_pos ⟨y, c'⟩, ediv_is (z := q + 1) hB2 (by rw [e2, Int.add_mul]; omega) (by rw [e2, Int.add_mul]; omega)]
    · have c' : ¬ B * st.g ≤ 2 * ((X - q * B) * st.g) := by
        rw [← Int.mul_assoc]
        have := sc_lt hg (Int.not_le.mp c)
        omega
      rw [if_neg (fun z => c' z.2), ediv_is (z := q) hB2 (by rw [e2]; omega) (by rw [e2]; omega)]
noncomputable def StepD.cg (st : StepD) : Int := ((Int.gcd st.num st.wide : Nat) : Int)
noncomputable def StepD.cyc (st : StepD) : Int := st.wide / st.cg
noncomputable def StepD.kk (st : StepD) : Int := st.num / st.cg
theorem StepD.Ok.cg0 {st : StepD} (h : st.Ok) : 0 < st.cg := gcd_pos h.wide0
theorem StepD.Ok.cyc0 {st : StepD} (h : st.Ok) : 1 ≤ st.cyc := low_pos' h.wide0
theorem StepD.Ok.cyc1 {st : StepD} (h : st.Ok) : st.cyc ≤ 10000 := Int.le_trans (div_le' (Int.le_of_lt h.wide0) h.cg0) h.wide1
theorem StepD.Ok.kk0 {st : StepD} (h : st.Ok) : 1 ≤ st.kk := low_pos (by have := h.num0; omega) h.wide0
theorem StepD.Ok.kk1 {st : StepD} (h : st.Ok) : st.kk ≤ 200 := Int.le_trans (div_le' (by have := h.num0; omega) h.cg0) h.num1
theorem StepD.Ok.cyc_num {st : StepD} (h : st.Ok) : st.cyc * st.num = st.wide * st.kk := by
  have e := low_cross (x := st.num) (y := st.wide) (g := st.cg) rfl h.cg0
  show st.wide / st.cg * st.num = st.wide * (st.num / st.cg)
  rw [Int.mul_comm, ← e, Int.mul_comm]
theorem StepD.Ok.many_cyc {st : StepD} (h : st.Ok) (m : Int) : st.many (m + st.cyc) = st.many m + st.kk := by
  have hW := h.wide0
  have e : st.exact (m + st.cyc) = st.exact m + st.wide * st.kk := by
    unfold StepD.exact; rw [Int.add_mul, h.cyc_num]; omega
  have eq : st.exact (m + st.cyc) / st.wide = st.exact m / st.wide + st.kk := by
    rw [e, Int.add_mul_ediv_left _ _ (by omega)]
  have el : st.exact (m + st.cyc) - st.exact (m + st.cyc) / st.wide * st.wide = st.exact m - st.exact m / st.wide * st.wide := by
    rw [eq, e, Int.add_mul, Int.mul_comm st.kk]; omega
  unfold StepD.many
  rw [el, eq]
  split
  · omega
  · split <;> omega
structure Chn (K : PySem.W.Frag) (H : Hp) (l : Addr) (as : List Addr) (sts : List StepD) : Prop where
  lst : SqL K H l (as.map V.ref)
  len : as.length = sts.length
  item : ∀ (i : Nat) (a : Addr) (st : StepD), as[i]? = some a → sts[i]? = some st → SqT K H a st.vals
  ok : ∀ st ∈ sts, st.Ok
theorem Chn.same {K : PySem.W.Frag} {H H' : Hp} {l : Addr} {as : List Addr} {sts : List StepD} (c : Chn K H l as sts) (s : Same H H') : Chn K H' l as sts :=
  ⟨s.seq c.lst, c.len, fun i a st h1 h2 => s.seqT (c.item i a st h1 h2), c.ok⟩
theorem Chn.get {K : PySem.W.Frag} {H : Hp} {l : Addr} {as : List Addr} {sts : List StepD} (c : Chn K H l as sts) {i : Nat} {x : V} (h : (as.map V.ref)[i]? = some x) :
    ∃ a st, x = .ref a ∧ as[i]? = some a ∧ sts[i]? = some st ∧ SqT K H a st.vals ∧ st.Ok := by
  rw [List.getElem?_map] at h
  cases e : as[i]? with
  | none => rw [e] at h; cases h
  | some a =>
    rw [e] at h
    have hx : x = .ref a := (Option.some.inj h).symm
    have hi : i < sts.length := by rw [← c.len]; exact (List.getElem?_eq_some_iff.mp e).1
    have es : sts[i]? = some sts[i] := List.getElem?_eq_getElem hi
    exact ⟨a, sts[i], hx, rfl, es, c.item i a _ e es, c.ok _ (List.getElem_mem hi)⟩
theorem take_snoc {α : Type} {l : List α} {i : Nat} {x : α} (h : l[i]? = some x) : l.take (i + 1) = l.take i ++ [x] := by
  obtain ⟨hi, e⟩ := List.getElem?_eq_some_iff.mp h
  rw [← e, List.take_append_getElem hi]
theorem SqT.updL {K : PySem.W.Frag} {H : Hp} {a p : Addr} {xs ys : List V} {o : HO} (h : SqT K H a xs) (hp : H p = some (.lst ys)) : SqT K (upd H p o) a xs := by
  rcases h with (h | ⟨o', h⟩) | h
  · exact .inl (.inl (by rw [upd_ne (ne_of h hp (by intro z; cases z))]; exact h))
  · exact .inl (.inr ⟨o', by rw [upd_ne (ne_of h hp (by intro z; cases z))]; exact h⟩)
  · exact .inr h
noncomputable def prodI (sts : List StepD) : Int := sts.foldl (fun z st => z * st.cyc) 1
theorem prodI_snoc (sts : List StepD) (st : StepD) : prodI (sts ++ [st]) = prodI sts * st.cyc := by
  unfold prodI; rw [List.foldl_append]; rfl
noncomputable def endI (sts : List StepD) (m : Int) : Int := sts.foldl (fun z st => st.many z * st.u) m
theorem endI_snoc (sts : List StepD) (st : StepD) (m : Int) : endI (sts ++ [st]) m = st.many (endI sts m) * st.u := by
  unfold endI; rw [List.foldl_append]; rfl
theorem Same.drop {H H0 H1 : Hp} {p : Addr} {o : HO} (h : Same H H0) (hn : H p = none) (e : H1 = upd H0 p o) : Same H H1 := fun b u q => by
  rw [e, upd_ne (ne_of_none q hn)]; exact h b u q
theorem Chn.copy {K : PySem.W.Frag} {H H' : Hp} {l p : Addr} {as : List Addr} {sts : List StepD} (c : Chn K H l as sts) (s : Same H H') (f : H' p = some (.lst (as.map V.ref))) : Chn K H' p as sts :=
  ⟨SqL.of f, c.len, fun i a st h1 h2 => s.seqT (c.item i a st h1 h2), c.ok⟩
noncomputable def lineStep (z : Int × Int) (st : StepD) : Int × Int := (z.1 * st.num + st.p * z.2 * st.d, z.2 * st.d)
noncomputable def lineI (sts : List StepD) (m : Int) : Int × Int := sts.foldl lineStep (m, 1)
theorem lineI_snoc (sts : List StepD) (st : StepD) (m : Int) : lineI (sts ++ [st]) m = lineStep (lineI sts m) st := by
  unfold lineI; rw [List.foldl_append]; rfl
theorem ok_take {sts : List StepD} {i : Nat} (ok : ∀ st ∈ sts, st.Ok) : ∀ st ∈ sts.take i, st.Ok := fun st h => ok st (List.mem_of_mem_take h)
theorem Chn.cat {K : PySem.W.Frag} {H H' : Hp} {l1 l2 l : Addr} {as bs : List Addr} {sts tts : List StepD} (c : Chn K H l1 as sts) (d : Chn K H l2 bs tts) (s : Same H H') (f : H' l = some (.lst ((as ++ bs).map V.ref))) : Chn K H' l (as ++ bs) (sts ++ tts) := by
  refine ⟨SqL.of f, by rw [List.length_append, List.length_append, c.len, d.len], fun i a st h1 h2 => ?_, fun st h => ?_⟩
  · by_cases hi : i < as.length
    · rw [List.getElem?_append_left hi] at h1
      rw [List.getElem?_append_left (by rw [← c.len]; exact hi)] at h2
      exact s.seqT (c.item i a st h1 h2)
    · have hi' : as.length ≤ i := by omega
      rw [List.getElem?_append_right hi'] at h1
      rw [List.getElem?_append_right (by rw [← c.len]; exact hi'), ← c.len] at h2
      exact s.seqT (d.item _ a st h1 h2)
  · rcases List.mem_append.mp h with h | h
    · exact c.ok st h
    · exact d.ok st h
theorem Chn.one {K : PySem.W.Frag} {H : Hp} {l a : Addr} {st : StepD} (f : H l = some (.lst [V.ref a])) (t : SqT K H a st.vals) (o : st.Ok) : Chn K H l [a] [st] := by
  refine ⟨SqL.of f, rfl, fun i b st' h1 h2 => ?_, fun st' h => ?_⟩
  · cases i with
    | zero =>
      have e1 : a = b := Option.some.inj h1
      have e2 : st = st' := Option.some.inj h2
      subst e1 e2; exact t
    | succ i => simp at h1
  · rw [List.mem_singleton.mp h]; exact o
structure IsCyc (sts : List StepD) (c r : Int) : Prop where
  c0 : 1 ≤ c
  r0 : 1 ≤ r
  per : ∀ p, 0 ≤ p → endI sts (p + c) = endI sts p + r
  least : ∀ c' r', 1 ≤ c' → c' < c → ¬ ∀ p, 0 ≤ p → endI sts (p + c') = endI sts p + r'
noncomputable def endsI (sts : List StepD) (c : Int) : List Int := (List.range c.toNat).map fun i => endI sts (i : Nat)
noncomputable def FlatAt (K : PySem.W.Frag) (H : Hp) (x : Addr) (c r : Int) (es : List Int) : Prop :=
  ∃ dx fs p, H x = some (.ins (clsAt K "Flat") dx fs) ∧ fs.lookup ("cycle" : Str) = some (.int c) ∧ fs.lookup ("rise" : Str) = some (.int r) ∧ fs.lookup ("ends" : Str) = some (.ref p) ∧ fs.lookup ("end" : Str) = none ∧ SqT K H p (es.map V.int)
theorem FlatAt.same {K : PySem.W.Frag} {H H' : Hp} {x : Addr} {c r : Int} {es : List Int} (h : FlatAt K H x c r es) (s : Same H H') : FlatAt K H' x c r es :=
  let ⟨dx, fs, p, h1, h2, h3, h4, h5, h6⟩ := h; ⟨dx, fs, p, s _ _ h1, h2, h3, h4, h5, s.seqT h6⟩
theorem FlatAt.updL {K : PySem.W.Frag} {H : Hp} {x p : Addr} {c r : Int} {es : List Int} {ys : List V} {o : HO} (h : FlatAt K H x c r es) (hp : H p = some (.lst ys)) : FlatAt K (upd H p o) x c r es :=
  let ⟨dx, fs, q, h1, h2, h3, h4, h5, h6⟩ := h; ⟨dx, fs, q, by rw [upd_ne (ne_of h1 hp (by intro z; cases z))]; exact h1, h2, h3, h4, h5, h6.updL hp⟩
theorem FlatAt.ins {K : PySem.W.Frag} {H : Hp} {x : Addr} {c r : Int} {es : List Int} (h : FlatAt K H x c r es) : ∃ dx fs, H x = some (.ins (clsAt K "Flat") dx fs) ∧ fs.lookup ("end" : Str) = none :=
  let ⟨dx, fs, _, h1, _, _, _, h5, _⟩ := h; ⟨dx, fs, h1, h5⟩
theorem prodI_pos : ∀ {sts : List StepD}, (∀ st ∈ sts, st.Ok) → 1 ≤ prodI sts := by
  have key : ∀ (n : Nat) (sts : List StepD), sts.length = n → (∀ st ∈ sts, st.Ok) → 1 ≤ prodI sts := by
    intro n
    induction n with
    | zero => intro sts h _; rw [List.length_eq_zero_iff.mp h]; exact Int.le_refl _
    | succ n ih =>
      intro sts h ok
      rcases List.eq_nil_or_concat sts with e | ⟨t, st, e⟩
      · subst e; simp at h
      · subst e
        rw [List.concat_eq_append] at h ok ⊢
        rw [List.length_append] at h
        have h' : t.length = n := by have : [st].length = 1 := rfl; omega
        have a := ih t h' (fun s hs => ok s (List.mem_append_left _ hs))
        have o := (ok st (List.mem_append_right _ (List.mem_singleton.mpr rfl))).cyc0
        rw [prodI_snoc]
        have := Int.mul_le_mul a o (by decide) (by omega)
        omega
  intro sts ok
  exact key _ sts rfl ok
section
variable {X : Cx}
theorem call_list_ofO : CallR X (.type "list") (fun xs H Q => ∃ p ys, xs = [.ref p] ∧ (SqL X.K H p ys ∨ SqT X.K H p ys) ∧ ∀ l H', H l = none → Same H H' → H' l = some (.lst ys) → Q (.ref l) H') := by
  intro pins s σ H xs us Q I r ⟨p, ys, e, hq, q⟩
  exact call_list_of pins s σ H xs us Q I r ⟨p, ys, e, hq, fun l hl => q l _ hl (same_new hl _) upd_same⟩
theorem op_catO : OpR X (binaryOp .Add) (fun x y H Q => ∃ l b xs zs, x = .ref l ∧ y = .ref b ∧ H l = some (.lst xs) ∧ H b = some (.lst zs) ∧ xs.length + zs.length ≤ sizeLine ∧ ∀ p H', H p = none → Same H H' → H' p = some (.lst (xs ++ zs)) → Q (.ref p) H') := by
  intro pins s σ H x y v u Q I rx ry ⟨l, b, xs, zs, e1, e2, h1, h2, h3, q⟩
  exact op_cat pins s σ H x y v u Q I rx ry ⟨l, b, xs, zs, e1, e2, h1, h2, h3, fun p hp => q p _ hp (same_new hp _) upd_same⟩
end
theorem snoc_ind {P : List StepD → Prop} (h0 : P []) (h1 : ∀ t st, P t → P (t ++ [st])) : ∀ sts, P sts := by
  have key : ∀ (n : Nat) (sts : List StepD), sts.length = n → P sts := by
    intro n
    induction n with
    | zero => intro sts h; rw [List.length_eq_zero_iff.mp h]; exact h0
    | succ n ih =>
      intro sts h
      rcases List.eq_nil_or_concat sts with e | ⟨t, st, e⟩
      · subst e; simp at h
      · subst e
        rw [List.concat_eq_append] at h ⊢
        rw [List.length_append] at h
        have h' : t.length = n := by have : [st].length = 1 := rfl; omega
        exact h1 t st (ih t h')
  exact fun sts => key _ sts rfl
theorem per_n {f : Int → Int} {c r : Int} (hc : 0 ≤ c) (h : ∀ p, 0 ≤ p → f (p + c) = f p + r) : ∀ (n : Nat) (p : Int), 0 ≤ p → f (p + n * c) = f p + n * r := by
  intro n
  induction n with
  | zero => intro p _; simp
  | succ n ih =>
    intro p hp
    have hn : 0 ≤ (n : Int) * c := Int.mul_nonneg (Int.natCast_nonneg n) hc
    have e1 : p + ((n + 1 : Nat) : Int) * c = (p + n * c) + c := by rw [Int.natCast_succ, Int.add_mul, Int.one_mul]; omega
    rw [e1, h _ (by omega), ih p hp, Int.natCast_succ, Int.add_mul, Int.one_mul]; omega
theorem per_z {f : Int → Int} {c r n : Int} (hc : 0 ≤ c) (h : ∀ p, 0 ≤ p → f (p + c) = f p + r) (hn : 0 ≤ n) {p : Int} (hp : 0 ≤ p) : f (p + n * c) = f p + n * r := by
  obtain ⟨k, rfl⟩ := Int.eq_ofNat_of_zero_le hn
  exact per_n hc h k p hp
theorem StepD.Ok.many_n {st : StepD} (h : st.Ok) (n : Nat) (m : Int) : st.many (m + n * st.cyc) = st.many m + n * st.kk := by
  induction n with
  | zero => simp
  | succ n ih =>
    have e1 : m + ((n + 1 : Nat) : Int) * st.cyc = (m + n * st.cyc) + st.cyc := by rw [Int.natCast_succ, Int.add_mul, Int.one_mul]; omega
    rw [e1, h.many_cyc, ih, Int.natCast_succ, Int.add_mul, Int.one_mul]; omega
noncomputable def riseI (sts : List StepD) : Int := sts.foldl (fun z st => z * (st.kk * st.u)) 1
theorem riseI_snoc (sts : List StepD) (st : StepD) : riseI (sts ++ [st]) = riseI sts * (st.kk * st.u) := by
  unfold riseI; rw [List.foldl_append]; rfl
theorem riseI_pos : ∀ (sts : List StepD), (∀ st ∈ sts, st.Ok) → 1 ≤ riseI sts := by
  refine snoc_ind (fun _ => Int.le_refl _) fun t st ih ok => ?_
  have o := ok st (List.mem_append_right _ (List.mem_singleton.mpr rfl))
  have a := ih fun s hs => ok s (List.mem_append_left _ hs)
  have b := Int.mul_le_mul o.kk0 o.u0 (by decide) (by have := o.kk0; omega)
  rw [riseI_snoc]
  have := Int.mul_le_mul a b (by decide) (by omega)
  omega
theorem end_prod : ∀ (sts : List StepD), (∀ st ∈ sts, st.Ok) → ∀ p, 0 ≤ p → endI sts (p + prodI sts) = endI sts p + riseI sts := by
  refine snoc_ind (fun _ p _ => rfl) fun t st ih ok p hp => ?_
  have o := ok st (List.mem_append_right _ (List.mem_singleton.mpr rfl))
  have okt : ∀ s ∈ t, s.Ok := fun s hs => ok s (List.mem_append_left _ hs)
  have a := prodI_pos okt
  have b := riseI_pos t okt
  have c0 := o.cyc0
  rw [prodI_snoc, riseI_snoc, endI_snoc, endI_snoc, Int.mul_comm (prodI t), per_z (by omega) (ih okt) (by omega) hp]
  obtain ⟨k, hk⟩ := Int.eq_ofNat_of_zero_le (show 0 ≤ riseI t by omega)
  rw [Int.mul_comm st.cyc, hk, o.many_n, Int.add_mul, Int.mul_assoc]
theorem cyc_dvd {sts : List StepD} {c r : Int} (h : IsCyc sts c r) : ∀ {c' r' : Int}, 0 ≤ c' → (∀ p, 0 ≤ p → endI sts (p + c') = endI sts p + r') → c ∣ c' := by
  have key : ∀ (n : Nat) (c' r' : Int), c' = n → (∀ p, 0 ≤ p → endI sts (p + c') = endI sts p + r') → c ∣ c' := by
    intro n
    induction n using Nat.strongRecOn with
    | ind n ih =>
      intro c' r' e hp
      by_cases z : c' = 0
      · rw [z]; exact Int.dvd_zero c
      · by_cases hlt : c' < c
        · exact (h.least c' r' (by omega) hlt hp).elim
        · have c0 := h.c0
          have d : c ∣ c' - c := by
            refine ih (c' - c).toNat (by omega) (c' - c) (r' - r) (by omega) fun p pp => ?_
            have a := hp p pp
            have b := h.per (p + (c' - c)) (by omega)
            rw [show p + (c' - c) + c = p + c' by omega] at b
            omega
          have := Int.dvd_add d (Int.dvd_refl c)
          rwa [show c' - c + c = c' by omega] at this
  intro c' r' h0 hp
  exact key c'.toNat c' r' (by omega) hp
theorem IsCyc.dvd {sts : List StepD} {c r : Int} (h : IsCyc sts c r) (ok : ∀ st ∈ sts, st.Ok) : c ∣ prodI sts := cyc_dvd h (by have := prodI_pos ok; omega) (end_prod sts ok)
theorem flat_end {sts : List StepD} {c r m : Int} (h : IsCyc sts c r) (hm : 0 ≤ m) : endI sts m = endI sts (m % c) + m / c * r := by
  have c0 := h.c0
  have e := Int.emod_add_mul_ediv m c
  rw [Int.mul_comm] at e
  have a := per_z (by omega) h.per (Int.ediv_nonneg hm (show 0 ≤ c by omega)) (Int.emod_nonneg m (show c ≠ 0 by omega))
  rwa [e] at a
theorem endsI_at {sts : List StepD} {c i : Int} (h0 : 0 ≤ i) (h1 : i < c) : atI ((endsI sts c).map V.int) i = some (.int (endI sts i)) := by
  have hl : i.toNat < c.toNat := by omega
  have q := atI_nat (xs := (endsI sts c).map V.int) (j := i.toNat) (v := .int (endI sts i)) (by
    unfold endsI
    rw [List.getElem?_map, List.getElem?_map, List.getElem?_range hl]
    show some (V.int (endI sts ((i.toNat : Nat) : Int))) = _
    rw [show ((i.toNat : Nat) : Int) = i by omega])
  rwa [show ((i.toNat : Nat) : Int) = i by omega] at q
theorem rise_pos {sts : List StepD} {c r : Int} (ok : ∀ st ∈ sts, st.Ok) (c0 : 1 ≤ c) (per : ∀ p, 0 ≤ p → endI sts (p + c) = endI sts p + r) (hd : c ∣ prodI sts) : 1 ≤ r := by
  obtain ⟨k, hk⟩ := hd
  have a := prodI_pos ok
  have b := riseI_pos sts ok
  have k0 : 0 ≤ k := by
    refine Int.not_lt.mp fun z => ?_
    have := Int.mul_le_mul_of_nonneg_left (show k ≤ -1 by omega) (show 0 ≤ c by omega)
    omega
  have e1 := per_z (p := 0) (by omega) per k0 (Int.le_refl 0)
  have e2 := end_prod sts ok 0 (Int.le_refl 0)
  rw [Int.mul_comm k c, ← hk, e2] at e1
  have e3 : riseI sts = k * r := by omega
  refine Int.not_lt.mp fun z => ?_
  have := Int.mul_le_mul_of_nonneg_left (show r ≤ 0 by omega) k0
  omega
end L2
namespace L2
open PySem PySem.Spec PyProof.Rows
section
variable {X : Cx} {tg : Expr}
noncomputable def fromTo (i j : Int) : List Int := (List.range (j - i).toNat).map fun k => i + (k : Nat)
theorem call_list_rng (hc : X.calm = true) : CallR X (.type "list") (fun xs H Q => ∃ p i j, xs = [.ref p] ∧ H p = some (.rng i j) ∧ -(2 ^ 62) ≤ i ∧ i < 2 ^ 62 ∧ -(2 ^ 62) ≤ j ∧ j < 2 ^ 62 ∧ (j - i).toNat ≤ 1000000 ∧ ∀ l H', H l = none → Same H H' → H' l = some (.lst ((fromTo i j).map V.int)) → Q (.ref l) H') := by
  intro pins s σ H xs us Q I r h
  obtain ⟨p, i, j, rfl, hp, a1, a2, a3, a4, hz, q⟩ := h
  obtain ⟨u, rfl, rx⟩ := vals1 r
  cases rx
  obtain ⟨t, u, v, e⟩ := (show ObjOk X.prog X.w H s.heap p (.rng i j) from I.hok p _ hp)
  have hn : Builtin.Range.rangeSize i j 1 = ((j - i).toNat : Nat) := by rw [rangeSize_one]; split <;> omega
  refine call_list_range (I.ok.hd hc) e (small_one a1 a2 a3 a4) hn (by omega) fun h' tk acc' c' kp e' it => ?_
  have hf : H s.heap.objs.size = none := I.hok.fresh (Nat.le_refl _)
  have hlen : (fromTo i j).length = (j - i).toNat := by unfold fromTo; rw [List.length_map, List.length_range]
  have hv : Vals ((fromTo i j).map V.int) acc'.toList := by
    obtain ⟨sz, ev⟩ := it
    have key : ∀ (l : List Value) (k : Nat), l.length + k = (j - i).toNat → (∀ m v, l[m]? = some v → ∃ t, v = Value.int (i + ((k + m : Nat) : Int)) t) → Vals (((List.range' k l.length).map fun z => i + (z : Nat)).map V.int) l := by
      intro l
      induction l with
      | nil => intro k _ _; exact .nil
      | cons x xs ih =>
        intro k hk hx
        rw [List.length_cons, List.range'_succ, List.map_cons, List.map_cons]
        obtain ⟨t, et⟩ := hx 0 x rfl
        refine .cons ⟨t, by rw [et]; simp⟩ (ih (k + 1) (by rw [List.length_cons] at hk; omega) fun m v hm => ?_)
        obtain ⟨t, et⟩ := hx (m + 1) v (by simpa using hm)
        exact ⟨t, by rw [et]; congr 1; omega⟩
    have hs : acc'.toList.length = (j - i).toNat := by rw [Array.length_toList]; exact sz
    have := key acc'.toList 0 (by omega) fun m v hm => by
      obtain ⟨t, et⟩ := ev m v (by rw [← hm, Array.getElem?_toList])
      exact ⟨t, by rw [et, Int.mul_one, Nat.zero_add]⟩
    rw [hs] at this
    unfold fromTo
    rw [List.range_eq_range']
    exact this
  refine ⟨.ref s.heap.objs.size, upd H s.heap.objs.size (.lst ((fromTo i j).map V.int)), I.laid (t' := tk) kp (Nat.le_refl _) (show ObjOk X.prog X.w _ h' _ (.lst _) from ⟨?_, acc'.toList, c', hv, by simpa using e'⟩), rfl, q _ _ hf (same_new hf _) upd_same⟩
  rw [List.length_map, hlen]
  exact Nat.le_trans hz (by decide)
end
theorem boot_ty_range : bootBuiltins "range" = some (.type "range") := by decide +kernel
theorem seq_gen {t u : TS} {D : Ends} {σ : St} {H : Hp} (P : St → Hp → Prop) (h2 : ∀ σ H, P σ H → u D σ H) (h1 : ∀ R : St → Hp → Prop, (∀ σ H, P σ H → R σ H) → t { D with nx := R } σ H) : tSeq t u D σ H := h1 (u D) h2
section
variable {X : Cx}
theorem sl_listO : SlR X (fun x lo hi H Q => ∃ a xs, x = .ref a ∧ SqL X.K H a xs ∧ ∀ p H', H p = none → Same H H' → H' p = some (.lst (cutV xs lo hi)) → Q (.ref p) H') := by
  intro pins s σ H x v vl vu lo hi sl Q I rx hs pl pu h
  obtain ⟨a, xs, e, hq, q⟩ := h
  exact sl_list pins s σ H x v vl vu lo hi sl Q I rx hs pl pu ⟨a, xs, e, hq, fun p hp => q p _ hp (same_new hp _) upd_same⟩
end
theorem cut_take {α : Type} (f : α → V) (as : List α) (k : Nat) : cutV (as.map f) none (some (k : Int)) = (as.take k).map f := by
  unfold cutV
  rw [HT.sIx_none, HT.sIx_nat, List.drop_zero, Nat.sub_zero, List.map_take]
  rcases Nat.le_total k (as.map f).length with h | h
  · rw [Nat.min_eq_left h]
  · rw [Nat.min_eq_right h, List.take_length, List.take_of_length_le h]
theorem Chn.take {K : PySem.W.Frag} {H H' : Hp} {l p : Addr} {as : List Addr} {sts : List StepD} (c : Chn K H l as sts) (k : Nat) (s : Same H H') (f : H' p = some (.lst ((as.take k).map V.ref))) : Chn K H' p (as.take k) (sts.take k) := by
  refine ⟨SqL.of f, by rw [List.length_take, List.length_take, c.len], fun i a st h1 h2 => ?_, fun st h => c.ok st (List.mem_of_mem_take h)⟩
  have hi : i < k := by
    have := (List.getElem?_eq_some_iff.mp h1).1
    rw [List.length_take] at this; omega
  rw [List.getElem?_take_of_lt hi] at h1 h2
  exact s.seqT (c.item i a st h1 h2)
section
variable {X : Cx}
end
theorem IsCyc.same {sts : List StepD} {c r c' r' : Int} (h : IsCyc sts c r) (h' : IsCyc sts c' r') : c = c' ∧ r = r' := by
  have e : c = c' := by
    rcases Int.lt_trichotomy c c' with l | l | l
    · exact (h'.least c r h.c0 l h.per).elim
    · exact l
    · exact (h.least c' r' h'.c0 l h'.per).elim
  subst e
  have a := h.per 0 (Int.le_refl 0)
  have b := h'.per 0 (Int.le_refl 0)
  exact ⟨rfl, by omega⟩
section
variable {X : Cx}
end
theorem Chn.upd {K : PySem.W.Frag} {H : Hp} {l p : Addr} {as : List Addr} {sts : List StepD} {ys : List V} {o : HO} (c : Chn K H l as sts) (hp : H p = some (.lst ys)) (f : (upd H p o) l = some (.lst (as.map V.ref))) : Chn K (upd H p o) l as sts :=
  ⟨SqL.of f, c.len, fun i a st h1 h2 => (c.item i a st h1 h2).updL hp, c.ok⟩
end L2
set_option Elab.async false
set_option linter.all false
set_option maxRecDepth 100000
set_option maxHeartbeats 4000000
namespace L2
open PySem PySem.Spec PyProof.Rows
theorem low_step {a b A B sn sd n d p : Int} (h : a * B = A * b) (c : sn * d = n * sd) : (a * sn + p * (b * sd)) * (B * d) = (A * n + p * B * d) * (b * sd) := by
  have e1 : a * sn * (B * d) = (a * B) * (sn * d) := by
    simp only [Int.mul_comm, Int.mul_left_comm]
  have e2 : A * n * (b * sd) = (A * b) * (n * sd) := by
    simp only [Int.mul_comm, Int.mul_left_comm]
  have e3 : p * (b * sd) * (B * d) = p * B * d * (b * sd) := by
    simp only [Int.mul_comm, Int.mul_left_comm]
  rw [Int.add_mul, Int.add_mul, e1, e2, e3, h, c]
structure LineL (sts : List StepD) (m a b : Int) : Prop where
  a0 : 0 ≤ a
  b0 : 1 ≤ b
  b1 : b ≤ (lineI sts m).2
  e : a * (lineI sts m).2 = (lineI sts m).1 * b
theorem LineL.nil {m : Int} (h : 0 ≤ m) : LineL [] m m 1 := ⟨h, by decide, Int.le_refl _, rfl⟩
theorem LineL.snoc {sts : List StepD} {st : StepD} {m a b : Int} (l : LineL sts m a b) (o : st.Ok) : LineL (sts ++ [st]) m (a * st.sn + st.p * (b * st.sd)) (b * st.sd) := by
  have s0 := o.sn0
  have d0 := o.sd0
  have p0 := o.p0
  have hd : st.sd ≤ st.d := div_le' (by have := o.d0; omega) o.g0
  have b0 := l.b0
  have b1 := l.b1
  refine ⟨?_, ?_, ?_, ?_⟩
  · have h1 := Int.mul_nonneg l.a0 (show 0 ≤ st.sn by omega)
    have h2 := Int.mul_nonneg p0 (Int.mul_nonneg (show 0 ≤ b by omega) (show 0 ≤ st.sd by omega))
    omega
  · have := Int.mul_le_mul b0 d0 (by decide) (by omega)
    omega
  · rw [lineI_snoc]
    exact Int.mul_le_mul b1 hd (by omega) (by omega)
  · rw [lineI_snoc]
    exact low_step l.e o.cross
end L2
set_option Elab.async false
set_option linter.all false
set_option maxRecDepth 100000
set_option maxHeartbeats 4000000
namespace L2
open PySem PySem.Spec PyProof.Rows
noncomputable def relS (scope sc : Scope) : Scope :=
  { scope with names := scope.names.map fun (n, k) => if (k == .free && sc.kind == .function && sc.names.lookup n == some .cell) then (n, .cell) else (n, k) }
noncomputable abbrev Cx.block (X : Cx) (N : List Str) (s₀ : Shared) (H₀ : Hp) (env : Env) (ex : List Addr) (pn : List (Addr × Obj)) : Cx :=
  { X with N := N, s₀ := s₀, H₀ := H₀, env := env, outer := X.stack, ex := ex, fn := fun _ => false, pn := pn, xe := fun _ _ => False }
theorem clos_go {env : Env} {f : Str × NameKind → List (Str × Addr) → Sem (ForInStep (List (Str × Addr)))}
    (h1 : ∀ n k cs, k ≠ .free → f (n, k) cs = pure (.yield cs)) (h2 : ∀ n c cs, env.cells.lookup n = some c → f (n, .free) cs = pure (.yield ((n, c) :: cs))) :
    ∀ (l : List (Str × NameKind)) (acc : List (Str × Addr)), (∀ n, (n, .free) ∈ l → ∃ c, env.cells.lookup n = some c) → (∀ y c, acc.lookup y = some c → env.cells.lookup y = some c) →
      ∃ cl, forIn l acc f = pure cl ∧ (∀ y c, cl.lookup y = some c → env.cells.lookup y = some c) ∧ (∀ y, (y, .free) ∈ l → ∃ c, cl.lookup y = some c) ∧ ∀ y c, acc.lookup y = some c → ∃ c', cl.lookup y = some c' := by
  intro l
  induction l with
  | nil => intro acc _ h; exact ⟨acc, rfl, h, fun y hy => (List.not_mem_nil hy).elim, fun y c e => ⟨c, e⟩⟩
  | cons x l ih =>
    intro acc hf ha
    obtain ⟨n, k⟩ := x
    by_cases hk : k = .free
    · subst hk
      obtain ⟨c, hc⟩ := hf n List.mem_cons_self
      obtain ⟨cl, e, p1, p2, p3⟩ := ih ((n, c) :: acc) (fun y hy => hf y (List.mem_cons_of_mem _ hy)) fun y c' e => by
        by_cases hy : y = n
        · subst hy
          rw [List.lookup_cons_self] at e
          cases e; exact hc
        · rw [List.lookup_cons, beq_eq_false_iff_ne.mpr hy] at e
          exact ha y c' e
      refine ⟨cl, by rw [List.forIn_cons, h2 n c acc hc, pure_bind]; exact e, p1, fun y hy => ?_, fun y c' e' => ?_⟩
      · rcases List.mem_cons.mp hy with z | z
        · cases z
          exact p3 n c List.lookup_cons_self
        · exact p2 y z
      · by_cases hy : y = n
        · subst hy; exact p3 _ c List.lookup_cons_self
        · exact p3 y c' (by rw [List.lookup_cons, beq_eq_false_iff_ne.mpr hy]; exact e')
    · obtain ⟨cl, e, p1, p2, p3⟩ := ih acc (fun y hy => hf y (List.mem_cons_of_mem _ hy)) ha
      refine ⟨cl, by rw [List.forIn_cons, h1 n k acc hk, pure_bind]; exact e, p1, fun y hy => ?_, p3⟩
      rcases List.mem_cons.mp hy with z | z
      · cases z; exact (hk rfl).elim
      · exact p2 y z
theorem clos_of {scope : Scope} {env : Env} (h : ∀ n, (n, .free) ∈ scope.names → ∃ c, env.cells.lookup n = some c) :
    ∃ cl, closureFor scope env = pure cl ∧ (∀ y c, cl.lookup y = some c → env.cells.lookup y = some c) ∧ ∀ y, (y, .free) ∈ scope.names → ∃ c, cl.lookup y = some c := by
  have key := clos_go (env := env) (f := fun x cs => match x with | (name, kind) => if (kind == .free) = true then do let a ← cellOf env name; pure (.yield ((name, a) :: cs)) else pure (.yield cs))
    (fun n k cs hk => by
      have : (k == NameKind.free) = false := by simpa using hk
      simp only [this, Bool.false_eq_true, if_false]) (fun n c cs hc => by
      simp only [beq_self_eq_true, if_true]
      unfold cellOf
      rw [hc]
      rfl) scope.names [] h (fun y c e => by simp at e)
  obtain ⟨cl, e, p1, p2, _⟩ := key
  refine ⟨cl, ?_, p1, p2⟩
  rw [← e]
  simp only [closureFor]
  exact bind_pure _
noncomputable def CompR (J : It) (te : TE) (τ : List (Option V)) (Q : VK) (H1 : Hp) : Prop := ∀ p H0, H1 p = none → Same H1 H0 → H0 p = some (.lst []) →
  ∃ W : Nat → Nat → List V → Hp → Prop, (∃ m, W 0 m [] H0) ∧ ∀ i m ys H, W i m ys H → H p = some (.lst ys) →
    (J.stop i H ∧ Q (.ref p) H) ∨ (J.go i H ∧ ys.length < sizeLine ∧ ∀ x H', J.yld i H x H' → te (some x :: τ) H' fun y H2 => H2 p = some (.lst ys) ∧ ∃ m', m' < m ∧ W (i + 1) m' (ys ++ [y]) (upd H2 p (.lst (ys ++ [y]))))
noncomputable def tComp (wi : TI) (fr : List Nat) (te : TE) : TE := fun σ H Q => wi σ H fun J H1 => CompR J te (fr.map fun k => σ.getD k none) Q H1
structure CompN (X : Cx) (scope : Scope) (x : Str) (fs : List Str) (fr : List Nat) : Prop where
  kind : scope.kind = .function
  cell : ∀ y ∈ scope.names, y.2 ≠ .cell
  names : ∀ y ∈ scope.names, y.2 = .local → scope.names.lookup y.1 = some .local
  lx : scope.names.lookup x = some .local
  nd : (x :: fs).Nodup
  len : fs.length = fr.length
  frees : ∀ n, (n, NameKind.free) ∈ scope.names → X.env.scope.names.lookup n = some .cell
  fin : ∀ y ∈ fs, (y, NameKind.free) ∈ scope.names ∧ (relS scope X.env.scope).names.lookup y = some .cell
  cells : ∀ y, (relS scope X.env.scope).names.lookup y = some .cell ∨ (relS scope X.env.scope).names.lookup y = some .free → (y, NameKind.free) ∈ scope.names
  slot : ∀ (j k : Nat), fr[j]? = some k → X.N[k]? = fs[j]?
section
variable {X : Cx} {elt iter : Expr} {x : Str} {px pos : Pos} {scope : Scope} {fs : List Str} {fr : List Nat} {wi : TI} {te : TE}
theorem comp_core {pins : List (Addr × Obj)} {s : Shared} {σ : St} {H : Hp} {Q : VK} {cl : List (Str × Addr)} {RR : Value → Addr → Result → Shared → Prop} (n : CompN X scope x fs fr) (hc : X.calm = true) (hi : PI X (.Name x px) iter wi)
    (helt : ∀ s₀ H₀ env ex pn, CxIs (X.block (x :: fs) s₀ H₀ env ex pn) (x :: fs) (relS scope X.env.scope) → PE (X.block (x :: fs) s₀ H₀ env ex pn) elt te)
    (hcl1 : ∀ y c, cl.lookup y = some c → X.env.cells.lookup y = some c) (hcl2 : ∀ y, (y, NameKind.free) ∈ scope.names → ∃ c, cl.lookup y = some c)
    (I : Inv X pins σ H s) (h : tComp wi fr te σ H Q) (hRR : ∀ p C m H' s', Inv X pins σ H' s' → s'.heap.Ns C m → FpOk X pins H' C → Q (.ref p) H' → RR (.ref p) C (.ok .next) s') :
    wpAny (model X.prog X.w) X.A (eval iter X.env) (fun xv s₁ => wpAny (model X.prog X.w) X.A (pyIter xv) (fun it s₂ => wpAny (model X.prog X.w) X.A (newList []) (fun acc s₃ =>
      wpAny (model X.prog X.w) X.A (newFunctionEnv scope X.env.globals cl [] X.env.qual none .none (some X.env)) (fun cenv s₄ =>
        codeAny (model X.prog X.w) X.A (.compStart (.ListComp elt [⟨.Name x px, iter, [], 0⟩] scope pos) 0 it acc { cenv with scope := relabel scope X.env }) (RR acc cenv.locals) s₄) X.xe s₃) X.xe s₂) X.xe s₁) X.xe s := by
  refine thn (hi pins s σ H _ I h) fun v s1 h1 => thn h1 fun itv s2 h2 => ?_
  obtain ⟨it, fp, tn, J, H2, e, I2, T, st2, f2, q2⟩ := h2
  subst e
  refine wpAny_newObj_type (wpAny_newFunctionEnv n.cell (by intro y hy; simp at hy) (fun h₁ hns₁ hsb₁ => ?_) n.kind)
  dsimp only at hns₁ hsb₁ ⊢
  generalize hH3 : s2.heap.push { cls := .type "list", dict := none, data := .seq ([] : List Value).toArray } = h3 at hns₁ hsb₁ ⊢
  have hC : h3.objs.size = s2.heap.objs.size + 1 := by rw [← hH3, Heap.size_push]
  have k3 : ∀ b o, s2.heap.get? b = some o → h3.get? b = some o := fun b o e => by rw [← hH3]; exact Heap.get?_push_of_some _ e
  have hf : H2 s2.heap.objs.size = none := I2.hok.fresh (Nat.le_refl _)
  have I3 : Inv X pins σ (upd H2 s2.heap.objs.size (.lst [])) { s2 with heap := h3 } := I2.laid (t' := s2.toks) k3 (Nat.le_refl _) ⟨Nat.zero_le _, [], 0, .nil, by rw [← hH3]; exact Heap.get?_push_size _ rfl⟩
  obtain ⟨W, ⟨m0, w0⟩, turn⟩ := q2 s2.heap.objs.size _ hf (same_new hf _) upd_same
  have k4 : ∀ b o, h3.get? b = some o → h₁.get? b = some o := fun b o e => hsb₁.extBut b o (Nat.ne_of_lt (Heap.lt_size e)) (Heap.get?_push_of_some _ e)
  have hCf : h3.objs.size ∉ frs X.stack := fun z => by
    rcases List.mem_cons.mp (I3.stkSub _ z) with z | z
    · exact absurd I3.lt (by rw [← z]; exact Nat.lt_irrefl _)
    · exact I3.nofs (Nat.le_refl _) z
  have fpst : ∀ b ∈ fp, b ∉ frs X.stack := fun b hb z => by
    obtain ⟨_, f1, f2', _⟩ := f2 b hb
    rcases List.mem_cons.mp (I2.stkSub _ z) with z | z
    · exact f1 z
    · exact f2' z
  have fplt : ∀ b ∈ fp, b < s2.heap.objs.size := fun b hb => by
    obtain ⟨o, e, _⟩ := T.obj _ _ st2 b hb
    exact Heap.lt_size e
  let Y : Cx := X.block (x :: fs) { s2 with heap := h3 } (upd H2 s2.heap.objs.size (.lst [])) (compEnvC scope cl h3.objs.size X.env) fp (X.pn ++ pins)
  have hscope : Y.env.scope = relS scope X.env.scope := rfl
  have hx0 : Y.env.scope.names.lookup x = some .local := lookup_relabel_local n.lx
  have ok : Y.Ok := by
    refine ⟨I2.ok.mod, n.kind, I2.ok.glob, I2.ok.blt, Nat.le_refl _, fun y z c e1 e2 => I2.ok.inj y z c (hcl1 y c e1) (hcl1 z c e2), fun y hy => hcl2 y (n.cells y hy), (fun _ _ z _ => absurd z Bool.false_ne_true), I2.ok.hd, I2.ok.frames, .inl rfl,
      fun b hb => ⟨Nat.ne_of_lt (by rw [show Y.env.locals = h3.objs.size from rfl, hC]; exact Nat.lt_succ_of_lt (fplt b hb)), fun y c e => (f2 b hb).2.2.2.2.1 y c (hcl1 y c e)⟩,
      fun b o e => ⟨I3.bk b o e, (I3.bs b o e).2⟩, Nat.le_trans I2.ok.bsz I3.sz, fun b o e hb => ?_, fpst, I3.stack, fun b hb => I3.stkFree b hb⟩
    obtain ⟨_, _, _, f3, _⟩ := f2 b hb
    rcases f3 with z | z
    · exact I2.ok.noex b o e z
    · exact absurd (Nat.lt_of_lt_of_le (Heap.lt_size e) (Nat.le_trans I2.ok.bsz z)) (Nat.lt_irrefl _)
  have hlen : ∀ o : Option V, (o :: fr.map fun k => σ.getD k none).length = Y.N.length := fun o => by
    show _ = (x :: fs).length
    simp [n.len]
  have I4 : Inv Y [] (none :: fr.map fun k => σ.getD k none) (upd H2 s2.heap.objs.size (.lst [])) { s2 with heap := h₁, toks := s2.toks + ([] : List (Str × Value)).length } := by
    refine ⟨ok, rfl, I2.bare, Un.kept k4, ⟨_, hns₁, fun i y v e1 e2 e3 => ?_⟩, fun y c e => ?_, ?_, fun y c e => I3.freeC y c (hcl1 y c e), fun p hp => ?_, I3.hok.kept k4, hlen none⟩
    · cases i with
      | zero => simp at e2
      | succ j =>
        rw [List.getElem?_cons_succ, List.getElem?_map] at e2
        have e1' : fs[j]? = some y := by rw [← List.getElem?_cons_succ (a := x)]; exact e1
        cases hk : fr[j]? with
        | none => rw [hk] at e2; simp at e2
        | some k =>
          rw [hk] at e2
          have e2' : σ.getD k none = some v := by simpa using e2
          have e2'' : σ[k]? = some (some v) := by
            rw [List.getD_eq_getElem?_getD] at e2'
            cases q : σ[k]? with
            | none => rw [q] at e2'; simp at e2'
            | some o => rw [q] at e2'; simp at e2'; rw [e2']
          have hy : y ∈ fs := List.mem_of_getElem? e1'
          obtain ⟨hfree, hrel⟩ := n.fin y hy
          have hcell := n.frees y hfree
          obtain ⟨m, _, hl⟩ := I3.loc
          obtain ⟨u, r, l⟩ := hl k y v ((n.slot j k hk).trans e1') e2'' (.inr (.inl hcell))
          refine ⟨u, r, .inr ⟨.inl hrel, ?_⟩⟩
          rcases l with ⟨l, _⟩ | ⟨_, c, ec, hcv⟩
          · have : some NameKind.local = some NameKind.cell := l.symm.trans hcell
            cases this
          · obtain ⟨c', ec'⟩ := hcl2 y hfree
            have := hcl1 y c' ec'
            rw [ec] at this; cases this
            obtain ⟨o, ho, hd⟩ := hcv
            exact ⟨c, ec', o, k4 _ _ ho, hd⟩
    · obtain ⟨v, o, ho, hd⟩ := I3.cell y c (hcl1 y c e)
      exact ⟨v, o, k4 _ _ ho, hd⟩
    · exact I3.hok.fresh (Nat.le_refl _)
    · have hp' : p ∈ X.pn ++ pins := by rw [List.append_nil] at hp; exact hp
      obtain ⟨e, nn, ne, nf, d⟩ := I3.pin p hp'
      refine ⟨k4 _ _ e, nn, Nat.ne_of_lt (Heap.lt_size e), fun z => ?_, d⟩
      rcases List.mem_cons.mp (I3.stkSub _ z) with z | z
      · exact ne z
      · exact nf z
  have stat : ∀ {H' : Hp}, (∀ b ∈ fp, H' b = none) → ∀ b ∈ fp, FpOk Y [] H' b := fun hn b hb => by
    obtain ⟨_, _, _, _, f4, f5⟩ := f2 b hb
    exact ⟨hn b hb, (ok.exf b hb).1, fpst b hb, .inl hb, fun y c e => f4 y c (hcl1 y c e), fun p hp => f5 p (by rw [List.append_nil] at hp; exact hp)⟩
  have st4 : tn 0 h₁ := T.keep _ _ _ st2 fun b _ o e => k4 b o (k3 b o e)
  have fr4 : ∀ b ∈ fp, upd H2 s2.heap.objs.size (.lst []) b = none := fun b hb => by rw [upd_ne (Nat.ne_of_lt (fplt b hb))]; exact (f2 b hb).1
  have cis : CxIs Y (x :: fs) (relS scope X.env.scope) := ⟨rfl, rfl, hc, PassesOwn.never⟩
  have hE := helt _ _ _ _ _ cis
  have loop : ∀ s₃ : Shared, s₃ = { s2 with heap := h₁, toks := s2.toks + ([] : List (Str × Value)).length } →
      codeAny (model X.prog X.w) X.A (.compLoop (.ListComp elt [⟨.Name x px, iter, [], 0⟩] scope pos) 0 (.ref it) (.ref s2.heap.objs.size) (compEnvC scope cl h3.objs.size X.env)) (RR (.ref s2.heap.objs.size) h3.objs.size) s₃ := by
    rintro s₃ rfl
    refine codeAny_loop rfl (fun m s' => ∃ i ys o H', Inv Y [] (o :: fr.map fun k => σ.getD k none) H' s' ∧ tn i s'.heap ∧ (∀ b ∈ fp, H' b = none) ∧ H' s2.heap.objs.size = some (.lst ys) ∧ W i m ys H') (fun m s' hI => ?_) m0 ⟨0, [], none, _, I4, st4, fr4, upd_same, w0⟩
    obtain ⟨i, ys, o, H5, I5, st5, fr5, hp5, w5⟩ := hI
    show wpAny _ _ ((compTurn (.ListComp elt [⟨.Name x px, iter, [], 0⟩] scope pos) 0 (.ref it) (.ref s2.heap.objs.size) Y.env).onRaise (fun x => do noteFrame x Y.env; theTreesLotGoes x)) _ _ s'
    refine wpAny_noted ?_
    rw [compTurn_list1]
    refine wpAny_bind (wpAny_standAt (wpAny_bind ?_))
    rcases turn i m ys H5 w5 hp5 with ⟨stop, qn⟩ | ⟨go, hz, step⟩
    · refine thn (T.done Y rfl rfl rfl hc i [] s' _ H5 _ I5 (stat fr5) st5 stop) fun r s6 ⟨hr, I6⟩ => ?_
      subst hr
      refine wpAny_pure ?_
      obtain ⟨mm, hn, _⟩ := I6.loc
      have u : Un (frs X.stack) fp H2 H5 s2.heap s6.heap := (Un.laid k3 (Nat.le_refl _) hf).trans I6.base
      have I7 : Inv X pins σ H5 s6 := I2.call' (ch := fp) I6.os u I6.hok I6.bare fun b hb => by
        obtain ⟨_, g1, _, g3, g4, g5⟩ := f2 b hb
        exact ⟨g3, g1, g4, g5⟩
      exact hRR _ _ mm H5 s6 I7 hn (I2.fpOk (by rw [hC]; exact Nat.le_succ _) I6.free) qn
    · refine thn (T.item Y rfl rfl rfl hc i [] s' _ H5 _ I5 (stat fr5) st5 go) fun r s6 ⟨u, hr, h6⟩ => ?_
      subst hr
      refine wpAny_bind (thn h6 fun _ s7 ⟨xv, H7, I7, r7, y7, st7, fr7⟩ => ?_)
      have I7' := I7.pinned (stat fr7) (T.obj _ _ st7)
      refine wpAny_bind (wpAny_assign_Name (store_ok (i := 0) I7' n.nd rfl (.inl hx0) r7 (fun s8 I8 => ?_) (.inr hx0)))
      refine wpAny_bind (wpAny_bind (wpAny_mono (hE _ s8 _ H7 _ I8 (step xv H7 y7)) (fun yv s9 h9 => ?_) fun _ _ z => z.elim))
      obtain ⟨y, H9, I9, r9, hp9, m', hm, w9⟩ := h9
      refine wpAny_bind (wpAny_mono (mt_append (X := Y) _ s9 _ H9 (.ref s2.heap.objs.size) [y] (.ref s2.heap.objs.size) [yv] (fun _ H' => H' = upd H9 s2.heap.objs.size (.lst (ys ++ [y]))) I9 rfl (.cons r9 .nil) ⟨_, ys, y, rfl, rfl, hp9, hz, rfl⟩) (fun _ s10 h10 => ?_) fun _ _ z => z.elim)
      obtain ⟨_, H10, I10, _, e10⟩ := h10
      subst e10
      refine wpAny_pure (wpAny_pure ⟨rfl, m', hm, i + 1, ys ++ [y], some xv, _, I10.unpinned (pins := []), T.keep _ _ _ st7 fun b hb o e => (I10.pin (b, o) (List.mem_append_right _ (List.mem_append_right _ (mem_pinsAt hb e)))).1, fun b hb => ?_, upd_same, w9⟩)
      obtain ⟨o, e, d⟩ := T.obj _ _ st7 b hb
      exact (I10.pin (b, o) (List.mem_append_right _ (List.mem_append_right _ (mem_pinsAt hb e)))).2.1
  exact codeAny_compStart_list (loop _ rfl) (T.self _ 0 _ _ _ st4 (loop _ rfl))
theorem ps_comp {y : Str} {py spos : Pos} {i : Nat} (n : CompN X scope x fs fr) (hc : X.calm = true) (hN : X.N.Nodup) (hiy : X.N[i]? = some y) (hy : X.env.scope.names.lookup y = some .local) (hi : PI X (.Name x px) iter wi)
    (helt : ∀ s₀ H₀ env ex pn, CxIs (X.block (x :: fs) s₀ H₀ env ex pn) (x :: fs) (relS scope X.env.scope) → PE (X.block (x :: fs) s₀ H₀ env ex pn) elt te)
    (hsw : swapsWith (.ListComp elt [⟨.Name x px, iter, [], 0⟩] scope pos) (some (.Name y py)) spos.line X.env = pure true)
    (hs : ∀ x, foldedSetIterable iter X.env x = pure x := by intro _; rfl) : PS X (.Assign [.Name y py] (.ListComp elt [⟨.Name x px, iter, [], 0⟩] scope pos) spos) (tAsg (tComp wi fr te) (gN i)) := by
  intro pins s σ H D I h
  obtain ⟨cl, e, p1, p2⟩ := clos_of fun y hy => I.ok.has y (.inl (n.frees y hy))
  rw [exec_Assign_Name_used _ _ _ _ hsw]
  refine wpAny_bind (wpAny_standAt (wpAny_bind ?_))
  show wpAny _ X.A (do let _ ← comprehension (.ListComp elt [⟨.Name x px, iter, [], 0⟩] scope pos) scope X.env _ (newList []) false (eval iter X.env) (some (assign (.Name y py) X.env))) _ _ s
  refine wpAny_bind (wpAny_mono (wpAny_comprehension_free (use := some (assign (.Name y py) X.env)) (Q := fun _ s' => SP X pins D .next s') rfl hs e n.kind n.names
    (comp_core (RR := fun acc C => compPost (model X.prog X.w) X.A X.xe (some (assign (.Name y py) X.env)) (fun _ s' => SP X pins D .next s') acc C) n hc hi helt p1 p2 I h fun p C m H' s' I' hn hf q => ?_)) (fun _ s' hq => wpAny_pure (wpAny_pure hq)) fun _ _ e => e)
  obtain ⟨g0, g1, g2, g3, g4, g5⟩ := hf
  show wpAny _ X.A (assign (.Name y py) X.env (.ref p)) _ _ _
  refine wpAny_assign_Name (store_ok2 (v := .ref p) I' hN hiy (.inl hy) rfl (fun s'' I'' ⟨a, sb, ha⟩ => ⟨m, hn.sameBut sb ?_, fun h' sb' => ⟨_, H', I''.turned (t' := s''.toks) (fun b o hb e => (sb'.2 b hb).trans e) g0 g1 g3 g4 g5, q _ rfl⟩⟩) (.inr hy))
  rcases ha with z | z
  · rw [z]; exact g1
  · exact fun w => g4 _ _ z w.symm
end
structure CompS (N : List Str) (sc scope : Scope) (x : Str) (fs : List Str) (fr : List Nat) : Prop where
  kind : scope.kind = .function
  cell : ∀ y ∈ scope.names, y.2 ≠ .cell
  names : ∀ y ∈ scope.names, y.2 = .local → scope.names.lookup y.1 = some .local
  lx : scope.names.lookup x = some .local
  nd : (x :: fs).Nodup
  frees : ∀ y ∈ scope.names, y.2 = .free → sc.names.lookup y.1 = some .cell
  fin : ∀ y ∈ fs, (y, NameKind.free) ∈ scope.names ∧ (relS scope sc).names.lookup y = some .cell
  cells : ∀ y ∈ (relS scope sc).names, y.2 = .cell ∨ y.2 = .free → (y.1, NameKind.free) ∈ scope.names
  slot : fr.map (fun k => N[k]?) = fs.map some
theorem mem_of_lookup {α : Type} : ∀ {l : List (Str × α)} {y : Str} {k : α}, l.lookup y = some k → (y, k) ∈ l
  | (n, v) :: r, y, k, h => by
    by_cases e : y = n
    · subst e
      rw [List.lookup_cons_self] at h
      cases h; exact List.mem_cons_self
    · rw [List.lookup_cons, beq_eq_false_iff_ne.mpr e] at h
      exact List.mem_cons_of_mem _ (mem_of_lookup h)
theorem CompS.of {X : Cx} {N : List Str} {sc scope : Scope} {x : Str} {fs : List Str} {fr : List Nat} (c : CxIs X N sc) (h : CompS N sc scope x fs fr) : CompN X scope x fs fr := by
  have hl : fs.length = fr.length := by
    have := congrArg List.length h.slot
    rw [List.length_map, List.length_map] at this
    exact this.symm
  refine ⟨h.kind, h.cell, h.names, h.lx, h.nd, hl, fun n hn => by rw [c.s]; exact h.frees _ hn rfl, fun y hy => by rw [c.s]; exact h.fin y hy, fun y hy => ?_, fun j k e => ?_⟩
  · rw [c.s] at hy
    rcases hy with hy | hy
    · exact h.cells _ (mem_of_lookup hy) (.inl rfl)
    · exact h.cells _ (mem_of_lookup hy) (.inr rfl)
  · rw [c.n]
    have := congrArg (fun l => l[j]?) h.slot
    simp only [List.getElem?_map, e, Option.map_some] at this
    cases q : fs[j]? with
    | none => rw [q] at this; cases this
    | some y => rw [q] at this; simpa using this
noncomputable instance {N sc scope x fs fr} : Decidable (CompS N sc scope x fs fr) :=
  decidable_of_iff (scope.kind = .function ∧ (∀ y ∈ scope.names, y.2 ≠ .cell) ∧ (∀ y ∈ scope.names, y.2 = .local → scope.names.lookup y.1 = some .local) ∧ scope.names.lookup x = some .local ∧ (x :: fs).Nodup ∧ (∀ y ∈ scope.names, y.2 = .free → sc.names.lookup y.1 = some .cell) ∧
    (∀ y ∈ fs, (y, NameKind.free) ∈ scope.names ∧ (relS scope sc).names.lookup y = some .cell) ∧ (∀ y ∈ (relS scope sc).names, y.2 = .cell ∨ y.2 = .free → (y.1, NameKind.free) ∈ scope.names) ∧ fr.map (fun k => N[k]?) = fs.map some)
    ⟨fun ⟨a, b, c, d, e, f, g, h, i⟩ => ⟨a, b, c, d, e, f, g, h, i⟩, fun ⟨a, b, c, d, e, f, g, h, i⟩ => ⟨a, b, c, d, e, f, g, h, i⟩⟩
section
variable {X : Cx} {elt iter : Expr} {x : Str} {px pos : Pos} {scope sc : Scope} {N fs : List Str} {fr : List Nat} {wi : TI} {te : TE}
theorem ws_comp {y : Str} {py spos : Pos} {i : Nat} (c : CxIs X N sc) (nd : N.Nodup) (n : CompS N sc scope x fs fr) (hiy : N[i]? = some y) (hy : sc.names.lookup y = some .local) (hi : WI X (.Name x px) iter wi)
    (helt : ∀ s₀ H₀ env ex pn, CxIs (X.block (x :: fs) s₀ H₀ env ex pn) (x :: fs) (relS scope sc) → WE (X.block (x :: fs) s₀ H₀ env ex pn) elt te)
    (hk : sc.kind = .function) (hln : py.line = pos.line) (hnx : (scope.names.any fun (n, k) => n == y && (k == .local || k == .cell)) = false)
    (hs : ∀ x, foldedSetIterable iter X.env x = pure x := by intro _; rfl) : WS X (.Assign [.Name y py] (.ListComp elt [⟨.Name x px, iter, [], 0⟩] scope pos) spos) (tAsg (tComp wi fr te) (gN i)) := by
  refine ⟨ps_comp (n.of c) c.calm (by rw [c.n]; exact nd) (by rw [c.n]; exact hiy) (by rw [c.s]; exact hy) hi.h (fun s₀ H₀ env ex pn cc => (helt s₀ H₀ env ex pn (by rw [c.s] at cc; exact cc)).h) ?_ hs⟩
  show (pure _ : Sem Bool) = pure true
  congr 1
  have h1 : (X.env.blockKind == ScopeKind.function) = true := by
    unfold Env.blockKind
    rw [c.s, hk]; rfl
  have h2 : (X.env.kindOf y == some NameKind.local) = true := by
    show (X.env.scope.names.lookup y == _) = true
    rw [c.s, hy]; rfl
  rw [h1, h2, hnx]
  show (true && true && (py.line == pos.line) && !false) = true
  rw [hln]
  simp
end
theorem comp_list {K : PySem.W.Frag} {a : Addr} {xs : List V} {te : TE} {τ : List (Option V)} {Q : VK} {H1 : Hp} (hz : xs.length ≤ sizeLine) (Pv : Addr → Nat → List V → Hp → Prop) (h0 : ∀ p H', H1 p = none → Same H1 H' → Pv p 0 [] H')
    (hl : ∀ p i ys H, i ≤ xs.length → Pv p i ys H → SqL K H a xs ∧ ys.length = i)
    (hs : ∀ p (i : Nat) x ys H, H1 p = none → xs[i]? = some x → Pv p i ys H → H p = some (.lst ys) → ∀ R : VK, (∀ y H2, H2 p = some (.lst ys) → Pv p (i + 1) (ys ++ [y]) (upd H2 p (.lst (ys ++ [y]))) → R y H2) → te (some x :: τ) H R)
    (hd : ∀ p ys H, H1 p = none → Pv p xs.length ys H → H p = some (.lst ys) → Q (.ref p) H) :
    CompR (Itl K a) te τ Q H1 := by
  intro p H0 hp s0 f0
  refine ⟨fun i m ys H => m = xs.length - i ∧ i ≤ xs.length ∧ Pv p i ys H, ⟨xs.length, by simp, Nat.zero_le _, h0 p H0 hp s0⟩, ?_⟩
  rintro i m ys H ⟨rfl, hi, hP⟩ hH
  obtain ⟨q, ql⟩ := hl p i ys H hi hP
  by_cases hlt : i < xs.length
  · refine .inr ⟨⟨xs, xs[i], q, by simp [hlt]⟩, by omega, fun x H' y => ?_⟩
    obtain ⟨e, y⟩ := y
    subst e
    exact hs p i x ys _ hp (y xs q) hP hH _ fun y H2 h1 h2 => ⟨h1, _, Nat.lt_of_lt_of_le (show xs.length - (i + 1) < xs.length - i by omega) (Nat.le_refl _), rfl, hlt, h2⟩
  · have e : i = xs.length := by omega
    subst e
    exact .inl ⟨⟨xs, q, Nat.le_refl _⟩, hd p ys H hp hP hH⟩
theorem comp_map {K : PySem.W.Frag} {a : Addr} {xs ys : List V} {te : TE} {τ : List (Option V)} {Q : VK} {H1 : Hp} (hz : xs.length ≤ sizeLine) (hS : SqL K H1 a xs) (hlen : xs.length = ys.length)
    (step : ∀ (i : Nat) x y H, xs[i]? = some x → ys[i]? = some y → Same H1 H → ∀ R : VK, (∀ H2, Same H H2 → R y H2) → te (some x :: τ) H R) (fin : ∀ p H', H1 p = none → Same H1 H' → H' p = some (.lst ys) → Q (.ref p) H') :
    CompR (Itl K a) te τ Q H1 := by
  refine comp_list hz (fun p i zs H => Same H1 H ∧ zs = ys.take i) (fun p H' _ s => ⟨s, rfl⟩) (fun p i zs H hi ⟨s, e⟩ => ⟨s.seq hS, by rw [e, List.length_take]; omega⟩) ?_ ?_
  · rintro p i x zs H hp hx ⟨s, rfl⟩ hH R hR
    have hi : i < ys.length := by rw [← hlen]; exact (List.getElem?_eq_some_iff.mp hx).1
    have hy : ys[i]? = some ys[i] := List.getElem?_eq_getElem hi
    refine step i x _ H hx hy s R fun H2 s2 => hR _ H2 (s2 _ _ hH) ⟨(s.trans s2).drop hp rfl, ?_⟩
    exact (take_snoc hy).symm
  · rintro p zs H hp ⟨s, e⟩ hH
    rw [hlen, List.take_length] at e
    subst e
    exact fin p H hp s hH
end L2
namespace L2
open PySem PySem.Spec PyProof.Rows
section
variable {X : Cx} {N : List Str} {sc : Scope} {pos : Pos} {i : Nat} {x : Str}
theorem wxvC (c : CxIs X N sc) (hi : N[i]? = some x) (hv : sc.names.lookup x = some .cell) (hd : (x == ("__debug__" : Str)) = false) (hcd : (x == ("__classdict__" : Str)) = false) : WE X (.Name x pos) (tVar i) :=
  ⟨pe_var (by rw [c.n]; exact hi) (.inr (.inl (by rw [c.s]; exact hv))) hd hcd⟩
theorem wxtC (c : CxIs X N sc) (hf : ∀ x, X.fn x = true) (nd : N.Nodup) (hi : N[i]? = some x) (hv : sc.names.lookup x = some .cell) : WG X (.Name x pos) (gN i) :=
  ⟨pg_nameN (by rw [c.n]; exact nd) (by rw [c.n]; exact hi) (Or.inr (by rw [c.s]; exact hv)) (Or.inl (hf x))⟩
end
end L2
set_option Elab.async false
set_option linter.all false
set_option maxRecDepth 100000
set_option maxHeartbeats 4000000
namespace L2
open PySem PySem.Spec PyProof.Rows
noncomputable def Prm (p : Int) : Prop := 2 ≤ p ∧ ∀ d, 1 < d → d < p → ¬ d ∣ p
noncomputable def prodL : List Int → Int
  | [] => 1
  | p :: r => p * prodL r
theorem prodL_snoc : ∀ (l : List Int) (p : Int), prodL (l ++ [p]) = prodL l * p
  | [], p => by show p * 1 = 1 * p; omega
  | q :: r, p => by show q * prodL (r ++ [p]) = q * prodL r * p; rw [prodL_snoc r p, Int.mul_assoc]
theorem cop_dvd {q p r : Int} (e : Int.gcd q p = 1) (hd : q ∣ p * r) : q ∣ r := by
  have h1 : Nat.Coprime q.natAbs p.natAbs := e
  have h2 : q.natAbs ∣ p.natAbs * r.natAbs := by rw [← Int.natAbs_mul]; exact Int.natAbs_dvd_natAbs.mpr hd
  exact Int.natAbs_dvd_natAbs.mp (Nat.Coprime.dvd_of_dvd_mul_left h1 h2)
theorem prm_cop {p q r : Int} (hp : Prm p) (h : ¬ p ∣ q) (hd : q ∣ p * r) : q ∣ r := by
  refine cop_dvd ?_ hd
  have hg : 0 < Int.gcd q p := Int.gcd_pos_of_ne_zero_right q (by have := hp.1; omega)
  by_cases e : Int.gcd q p = 1
  · exact e
  · have h1 : ((Int.gcd q p : Nat) : Int) ∣ p := Int.gcd_dvd_right q p
    have h2 : ((Int.gcd q p : Nat) : Int) ∣ q := Int.gcd_dvd_left q p
    have h3 : ((Int.gcd q p : Nat) : Int) ≤ p := Int.le_of_dvd (by have := hp.1; omega) h1
    by_cases e2 : ((Int.gcd q p : Nat) : Int) = p
    · rw [e2] at h2; exact (h h2).elim
    · exact (hp.2 _ (by omega) (by omega) h1).elim
noncomputable def Per (sts : List StepD) (c r : Int) : Prop := ∀ p, 0 ≤ p → endI sts (p + c) = endI sts p + r
theorem dvd_least {sts : List StepD} {c r : Int} (c0 : 1 ≤ c) (hp : Per sts c r) (hl : ∀ c' r', 1 ≤ c' → c' < c → ¬ Per sts c' r') : ∀ {c' r' : Int}, 0 ≤ c' → Per sts c' r' → c ∣ c' := by
  have key2 : ∀ (m : Nat) (c' r' : Int), c' = m → Per sts c' r' → c ∣ c' := by
    intro m
    induction m using Nat.strongRecOn with
    | ind m ihm =>
      intro c' r' e' hp'
      by_cases z : c' = 0
      · rw [z]; exact Int.dvd_zero c
      · by_cases hlt : c' < c
        · exact (hl c' r' (by omega) hlt hp').elim
        · have d : c ∣ c' - c := by
            refine ihm (c' - c).toNat (by omega) (c' - c) (r' - r) (by omega) fun p pp => ?_
            have a := hp' p pp
            have b := hp (p + (c' - c)) (by omega)
            rw [show p + (c' - c) + c = p + c' by omega] at b
            omega
          have := Int.dvd_add d (Int.dvd_refl c)
          rwa [show c' - c + c = c' by omega] at this
  intro c' r' h0 hp'
  exact key2 c'.toNat c' r' (by omega) hp'
theorem least_ex {sts : List StepD} (ok : ∀ st ∈ sts, st.Ok) : ∃ c r, IsCyc sts c r := by
  have pr := prodI_pos ok
  have key : ∀ (n : Nat) (c r : Int), c = n → 1 ≤ c → Per sts c r → ∃ c r, IsCyc sts c r := by
    intro n
    induction n using Nat.strongRecOn with
    | ind n ih =>
      intro c r e c0 hp
      by_cases hex : ∃ c' r', 1 ≤ c' ∧ c' < c ∧ Per sts c' r'
      · obtain ⟨c', r', a, b, d⟩ := hex
        exact ih c'.toNat (by omega) c' r' (by omega) a d
      · have hl : ∀ c' r', 1 ≤ c' → c' < c → ¬ Per sts c' r' := fun c' r' a b d => hex ⟨c', r', a, b, d⟩
        exact ⟨c, r, c0, rise_pos ok c0 hp (dvd_least c0 hp hl (by omega) (end_prod sts ok)), hp, hl⟩
  exact key (prodI sts).toNat (prodI sts) (riseI sts) (by omega) (by omega) (end_prod sts ok)
theorem Per.inj {sts : List StepD} {c r r' : Int} (h : Per sts c r) (h' : Per sts c r') : r = r' := by
  have a := h 0 (Int.le_refl 0)
  have b := h' 0 (Int.le_refl 0)
  omega
theorem Per.mul {sts : List StepD} {c r n : Int} (h : Per sts c r) (hc : 0 ≤ c) (hn : 0 ≤ n) : Per sts (n * c) (n * r) := fun p hp => per_z hc h hn hp
structure Down (sts : List StepD) (c r : Int) (rest : List Int) : Prop where
  c0 : 1 ≤ c
  per : Per sts c r
  left : prodL rest ∣ c
  way : ∃ L rL k, IsCyc sts L rL ∧ c = k * L ∧ k ∣ prodL rest
theorem Down.start {sts : List StepD} {c r : Int} {l : List Int} (ok : ∀ st ∈ sts, st.Ok) (c0 : 1 ≤ c) (per : Per sts c r) (hl : prodL l = c) : Down sts c r l := by
  obtain ⟨L, rL, h⟩ := least_ex ok
  obtain ⟨k, hk⟩ := cyc_dvd h (show 0 ≤ c by omega) per
  exact ⟨c0, per, by rw [hl]; exact Int.dvd_refl c, L, rL, k, h, by rw [hk, Int.mul_comm], by rw [hl, hk]; exact Int.dvd_mul_left L k⟩
theorem Down.fin {sts : List StepD} {c r : Int} (d : Down sts c r []) : IsCyc sts c r := by
  obtain ⟨L, rL, k, h, e, hk⟩ := d.way
  have c0 := d.c0
  have L0 := h.c0
  have hk1 : k = 1 := by
    have hk' : k ∣ 1 := hk
    have : 0 < k := by
      refine Int.not_le.mp fun z => ?_
      have := Int.mul_le_mul_of_nonneg_right z (show 0 ≤ L by omega)
      omega
    exact Int.eq_one_of_dvd_one (by omega) hk'
  subst hk1
  rw [Int.one_mul] at e
  subst e
  rw [Per.inj d.per h.per]
  exact h
theorem Down.yes {sts : List StepD} {c r p : Int} {l : List Int} (d : Down sts c r (p :: l)) (hp : Prm p) {c' r' : Int} (hc : c = p * c') (per : Per sts c' r') : Down sts c' r' l := by
  have c0 := d.c0
  have p0 := hp.1
  have c1 : 1 ≤ c' := by
    refine Int.not_lt.mp fun z => ?_
    have := Int.mul_le_mul_of_nonneg_left (show c' ≤ 0 by omega) (show 0 ≤ p by omega)
    omega
  obtain ⟨L, rL, k, h, e, hk⟩ := d.way
  refine ⟨c1, per, ?_, ?_⟩
  · have : p * prodL l ∣ p * c' := by rw [← hc]; exact d.left
    exact Int.dvd_of_mul_dvd_mul_left (by omega) this
  · obtain ⟨k', hk'⟩ := cyc_dvd h (show 0 ≤ c' by omega) per
    refine ⟨L, rL, k', h, by rw [hk', Int.mul_comm], ?_⟩
    have L0 := h.c0
    have ek : k = p * k' := by
      refine Int.eq_of_mul_eq_mul_right (show L ≠ 0 by omega) ?_
      rw [← e, hc, hk', Int.mul_assoc, Int.mul_comm k']
    have : p * k' ∣ p * prodL l := by rw [← ek]; exact hk
    exact Int.dvd_of_mul_dvd_mul_left (by omega) this
theorem Down.no {sts : List StepD} {c r p : Int} {l : List Int} (d : Down sts c r (p :: l)) (hp : Prm p) (hn : ∀ c' r', c = p * c' → r = p * r' → ¬ Per sts c' r') : Down sts c r l := by
  obtain ⟨L, rL, k, h, e, hk⟩ := d.way
  have c0 := d.c0
  have L0 := h.c0
  refine ⟨c0, d.per, Int.dvd_trans (Int.dvd_mul_left _ _) d.left, L, rL, k, h, e, prm_cop hp (fun hd => ?_) hk⟩
  obtain ⟨k', ek⟩ := hd
  have p0 := hp.1
  have k0 : 0 ≤ k' := by
    refine Int.not_lt.mp fun z => ?_
    have h1 := Int.mul_le_mul_of_nonneg_left (show k' ≤ -1 by omega) (show 0 ≤ p by omega)
    rw [← ek] at h1
    have := Int.mul_le_mul_of_nonneg_right (show k ≤ 0 by omega) (show 0 ≤ L by omega)
    omega
  have per' : Per sts (k' * L) (k' * rL) := Per.mul h.per (by omega) k0
  refine hn (k' * L) (k' * rL) (by rw [e, ek, Int.mul_assoc]) ?_ per'
  have hper : Per sts c (p * (k' * rL)) := by
    have := Per.mul per' (Int.mul_nonneg k0 (by omega)) (show 0 ≤ p by omega)
    rwa [show p * (k' * L) = c by rw [e, ek, Int.mul_assoc]] at this
  exact Per.inj d.per hper
theorem part_per {sts : List StepD} {part rise n : Int} (hn : 1 ≤ n) (hp : 1 ≤ part) (per : Per sts (n * part) (n * rise)) (h : ∀ q, 0 ≤ q → q + part < n * part → endI sts (q + part) = endI sts q + rise) : Per sts part rise := by
  have c0 : 0 < n * part := Int.mul_pos (by omega) (by omega)
  have up : ∀ (j : Nat) (t : Int), 0 ≤ t → t < part → (j : Int) ≤ n - 1 → endI sts (t + j * part) = endI sts t + j * rise := by
    intro j
    induction j with
    | zero => intro t _ _ _; simp
    | succ j ih =>
      intro t t0 t1 hj
      have hj' : ((j : Nat) : Int) + 1 ≤ n - 1 := by omega
      have e1 : t + ((j + 1 : Nat) : Int) * part = (t + j * part) + part := by rw [Int.natCast_succ, Int.add_mul, Int.one_mul]; omega
      have b : (((j : Nat) : Int) + 1) * part ≤ (n - 1) * part := Int.mul_le_mul_of_nonneg_right hj' (by omega)
      have b0 : 0 ≤ ((j : Nat) : Int) * part := Int.mul_nonneg (Int.natCast_nonneg j) (by omega)
      rw [Int.add_mul, Int.one_mul, Int.sub_mul, Int.one_mul] at b
      rw [e1, h (t + j * part) (by omega) (by omega), ih t t0 t1 (by omega), Int.natCast_succ, Int.add_mul, Int.one_mul]; omega
  have low : ∀ p, 0 ≤ p → p < n * part → endI sts (p + part) = endI sts p + rise := by
    intro p p0 p1
    by_cases hlt : p + part < n * part
    · exact h p p0 hlt
    · obtain ⟨j, hj⟩ := Int.eq_ofNat_of_zero_le (show 0 ≤ n - 1 by omega)
      have e1 : (n - 1) * part = n * part - part := by rw [Int.sub_mul, Int.one_mul]
      have a := up j (p - (n - 1) * part) (by omega) (by omega) (by omega)
      rw [← hj] at a
      rw [show p - (n - 1) * part + (n - 1) * part = p by omega] at a
      have b := per (p - (n - 1) * part) (by omega)
      rw [show p - (n - 1) * part + n * part = p + part by omega] at b
      have e2 : (n - 1) * rise = n * rise - rise := by rw [Int.sub_mul, Int.one_mul]
      omega
  intro p pp
  have m0 : 0 ≤ p % (n * part) := Int.emod_nonneg p (by omega)
  have m1 : p % (n * part) < n * part := Int.emod_lt_of_pos p c0
  have d0 : 0 ≤ p / (n * part) := Int.ediv_nonneg pp (by omega)
  have e := Int.emod_add_mul_ediv p (n * part)
  rw [Int.mul_comm (n * part)] at e
  have a1 := per_z (by omega) per d0 m0
  have a2 := per_z (by omega) per d0 (show 0 ≤ p % (n * part) + part by omega)
  have a3 := low (p % (n * part)) m0 m1
  rw [e] at a1
  rw [show p % (n * part) + part + p / (n * part) * (n * part) = p + part by omega] at a2
  rw [a2, a1, a3]; omega
theorem per_step {sts : List StepD} {st : StepD} {c r : Int} (o : st.Ok) (c0 : 1 ≤ c) (r0 : 1 ≤ r) (per : Per sts c r) (nn : ∀ p, 0 ≤ p → 0 ≤ endI sts p) {g many : Int} (hg : g = ((Int.gcd r st.cyc : Nat) : Int)) (hm : many = st.cyc / g) :
    Per (sts ++ [st]) (c * many) (r * many / st.cyc * (st.kk * st.u)) ∧ 1 ≤ many ∧ many ∣ st.cyc ∧ 1 ≤ r * many / st.cyc := by
  have y0 := o.cyc0
  have g0 : 0 < g := by rw [hg]; exact gcd_pos (by omega)
  have gd : g ∣ st.cyc := by rw [hg]; exact Int.gcd_dvd_right _ _
  have gr : g ∣ r := by rw [hg]; exact Int.gcd_dvd_left _ _
  have em : many * g = st.cyc := by rw [hm]; exact Int.ediv_mul_cancel gd
  have er : r / g * g = r := Int.ediv_mul_cancel gr
  have m0 : 1 ≤ many := by
    refine Int.not_lt.mp fun z => ?_
    have := Int.mul_le_mul_of_nonneg_right (show many ≤ 0 by omega) (show 0 ≤ g by omega)
    omega
  have rg0 : 1 ≤ r / g := by
    refine Int.not_lt.mp fun z => ?_
    have := Int.mul_le_mul_of_nonneg_right (show r / g ≤ 0 by omega) (show 0 ≤ g by omega)
    omega
  have eq : r * many = r / g * st.cyc := by
    have : r * many = r / g * g * many := by rw [er]
    rw [this, ← em, Int.mul_assoc, Int.mul_comm g]
  have eqd : r * many / st.cyc = r / g := by rw [eq]; exact Int.mul_ediv_cancel _ (by omega)
  refine ⟨fun p hp => ?_, m0, ⟨g, em.symm⟩, by rw [eqd]; exact rg0⟩
  rw [eqd, endI_snoc, endI_snoc, Int.mul_comm c many, per_z (by omega) per (show 0 ≤ many by omega) hp, Int.mul_comm many r, eq]
  obtain ⟨k, hk⟩ := Int.eq_ofNat_of_zero_le (show 0 ≤ r / g by omega)
  rw [hk, o.many_n, Int.add_mul, Int.mul_assoc]
theorem many_nn {st : StepD} (o : st.Ok) {m : Int} (hm : 0 ≤ m) : 0 ≤ st.many m := by
  have e0 : 0 ≤ st.exact m := by
    unfold StepD.exact
    have h1 := Int.mul_nonneg hm (show 0 ≤ st.num by have := o.num0; omega)
    have h2 := Int.mul_nonneg o.p0 (show 0 ≤ st.d by have := o.d0; omega)
    omega
  have d0 := Int.ediv_nonneg e0 (Int.le_of_lt o.wide0)
  unfold StepD.many
  split
  · omega
  · split <;> omega
theorem endI_nn : ∀ (sts : List StepD), (∀ st ∈ sts, st.Ok) → ∀ p, 0 ≤ p → 0 ≤ endI sts p := by
  refine snoc_ind (fun _ p hp => hp) fun t st ih ok p hp => ?_
  have o := ok st (List.mem_append_right _ (List.mem_singleton.mpr rfl))
  rw [endI_snoc]
  exact Int.mul_nonneg (many_nn o (ih (fun s hs => ok s (List.mem_append_left _ hs)) p hp)) (by have := o.u0; omega)
structure Fac (n0 n q : Int) (fs : List Int) : Prop where
  n1 : 1 ≤ n
  q2 : 2 ≤ q
  prm : ∀ p ∈ fs, Prm p
  prod : prodL fs * n = n0
  none : ∀ d, 1 < d → d < q → ¬ d ∣ n
  len : (fs.length : Int) ≤ n0 - n
theorem Fac.start {n : Int} (h : 1 ≤ n) : Fac n n 2 [] := ⟨h, by omega, fun p hp => (List.not_mem_nil hp).elim, by show 1 * n = n; omega, fun d h1 h2 => by omega, by show ((0 : Nat) : Int) ≤ n - n; omega⟩
theorem Fac.hit {n0 n q : Int} {fs : List Int} (f : Fac n0 n q fs) (hq : q ∣ n) : Fac n0 (n / q) q (fs ++ [q]) ∧ n / q < n ∧ Prm q := by
  have q2 := f.q2
  have n1 := f.n1
  have e : n / q * q = n := Int.ediv_mul_cancel hq
  have h1 : 1 ≤ n / q := by
    refine Int.not_lt.mp fun z => ?_
    have := Int.mul_le_mul_of_nonneg_right (show n / q ≤ 0 by omega) (show 0 ≤ q by omega)
    omega
  have lt : n / q < n := by
    have := Int.mul_le_mul_of_nonneg_left q2 (show 0 ≤ n / q by omega)
    omega
  have pq : Prm q := ⟨q2, fun d h1 h2 hd => f.none d h1 h2 (Int.dvd_trans hd hq)⟩
  refine ⟨⟨h1, q2, fun p hp => ?_, ?_, fun d h1 h2 hd => f.none d h1 h2 (Int.dvd_trans hd ⟨q, e.symm⟩), ?_⟩, lt, pq⟩
  · rcases List.mem_append.mp hp with z | z
    · exact f.prm p z
    · rw [List.mem_singleton.mp z]; exact pq
  · rw [prodL_snoc, Int.mul_assoc, Int.mul_comm q, e, f.prod]
  · have := f.len
    rw [List.length_append, List.length_singleton]
    omega
theorem Fac.miss {n0 n q : Int} {fs : List Int} (f : Fac n0 n q fs) (hq : ¬ q ∣ n) : Fac n0 n (q + 1) fs :=
  ⟨f.n1, by have := f.q2; omega, f.prm, f.prod, fun d h1 h2 hd => by
    by_cases e : d = q
    · rw [e] at hd; exact hq hd
    · exact f.none d h1 (by omega) hd, f.len⟩
theorem Fac.last {n0 n q : Int} {fs : List Int} (f : Fac n0 n q fs) (h : n < q * q) (hn : 1 < n) : Prm n ∧ prodL (fs ++ [n]) = n0 := by
  refine ⟨⟨by omega, fun d h1 h2 hd => ?_⟩, by rw [prodL_snoc]; exact f.prod⟩
  have q2 := f.q2
  by_cases hlt : d < q
  · exact f.none d h1 hlt hd
  · obtain ⟨e, he⟩ := hd
    have e1 : 1 < e := by
      refine Int.not_le.mp fun z => ?_
      have := Int.mul_le_mul_of_nonneg_left z (show 0 ≤ d by omega)
      omega
    have e2 : e < q := by
      refine Int.not_le.mp fun z => ?_
      have := Int.mul_le_mul (show q ≤ d by omega) z (by omega) (by omega)
      omega
    exact f.none e e1 e2 ⟨d, by rw [he, Int.mul_comm]⟩
theorem Fac.one {n0 n q : Int} {fs : List Int} (f : Fac n0 n q fs) (hn : ¬ 1 < n) : prodL fs = n0 := by
  have n1 := f.n1
  have e : n = 1 := by omega
  have := f.prod
  rw [e, Int.mul_one] at this
  exact this
section
variable {X : Cx}
theorem call_range1 : CallR X (.type "range") (fun xs H Q => ∃ j, xs = [.int j] ∧ ∀ p H', H p = none → Same H H' → H' p = some (.rng 0 j) → Q (.ref p) H') := by
  intro pins s σ H xs us Q I r h
  obtain ⟨j, rfl, q⟩ := h
  obtain ⟨u, rfl, ⟨t, rfl⟩⟩ := vals1 r
  have hf : H s.heap.objs.size = none := I.hok.fresh (Nat.le_refl _)
  exact call_range_1 ⟨.ref s.heap.objs.size, upd H s.heap.objs.size (.rng 0 j), I.laid (t' := s.toks + 1 + 1) (fun b u e => Heap.get?_push_of_some _ e) (Nat.le_refl _) ⟨_, _, _, Heap.get?_push_size _ rfl⟩, rfl, q _ _ hf (same_new hf _) upd_same⟩
theorem call_tuple_ofO : CallR X (.type "tuple") (fun xs H Q => ∃ p ys, xs = [.ref p] ∧ SqL X.K H p ys ∧ ∀ l H', H l = none → Same H H' → H' l = some (.tup ys) → Q (.ref l) H') := by
  intro pins s σ H xs us Q I r ⟨p, ys, e, hq, q⟩
  exact call_tuple_of pins s σ H xs us Q I r ⟨p, ys, e, .inl ⟨hq, fun l hl => q l _ hl (same_new hl _) upd_same⟩⟩
end
theorem SqT.updI {K : PySem.W.Frag} {H : Hp} {a p C dx : Addr} {xs : List V} {fs : List (Str × V)} {o : HO} (h : SqT K H a xs) (hp : H p = some (.ins C dx fs)) : SqT K (upd H p o) a xs := by
  rcases h with (h | ⟨o', h⟩) | h
  · exact .inl (.inl (by rw [upd_ne (ne_of h hp (by intro z; cases z))]; exact h))
  · exact .inl (.inr ⟨o', by rw [upd_ne (ne_of h hp (by intro z; cases z))]; exact h⟩)
  · exact .inr h
theorem endsI_nil (c : Int) : (endsI [] c).map V.int = (fromTo 0 c).map V.int := by
  unfold endsI fromTo
  rw [Int.sub_zero]
  congr 1
  refine List.map_congr_left fun i _ => ?_
  show ((i : Nat) : Int) = 0 + (i : Nat)
  omega
theorem endsI_get {sts : List StepD} {c : Int} {i : Nat} {x : V} (h : ((endsI sts c).map V.int)[i]? = some x) : x = .int (endI sts (i : Nat)) ∧ i < c.toNat := by
  unfold endsI at h
  rw [List.getElem?_map, List.getElem?_map] at h
  have hi : i < c.toNat := by
    refine Nat.lt_of_not_le fun z => ?_
    rw [List.getElem?_eq_none (by rw [List.length_range]; exact z)] at h
    cases h
  rw [List.getElem?_range hi] at h
  exact ⟨(Option.some.inj h).symm, hi⟩
theorem endsI_take {sts : List StepD} {c d : Int} (h0 : 0 ≤ d) (h : d ≤ c) : cutV ((endsI sts c).map V.int) none (some d) = (endsI sts d).map V.int := by
  obtain ⟨k, rfl⟩ := Int.eq_ofNat_of_zero_le h0
  rw [cut_take]
  congr 1
  unfold endsI
  rw [← List.map_take, List.take_range]
  congr 2
  omega
theorem endsI_size {sts : List StepD} {c : Int} : ((endsI sts c).map V.int).length = c.toNat := by
  unfold endsI; rw [List.length_map, List.length_map, List.length_range]
theorem riseI_le : ∀ (sts : List StepD), (∀ st ∈ sts, st.Ok) → riseI sts ≤ 20000 ^ sts.length := by
  refine snoc_ind (fun _ => Int.le_refl _) fun t st ih ok => ?_
  have o := ok st (List.mem_append_right _ (List.mem_singleton.mpr rfl))
  have okt : ∀ s ∈ t, s.Ok := fun s hs => ok s (List.mem_append_left _ hs)
  have a := ih okt
  have a0 := riseI_pos t okt
  have k0 := o.kk0
  have u0 := o.u0
  have b : st.kk * st.u ≤ 200 * 100 := Int.mul_le_mul o.kk1 o.u1 (by omega) (by omega)
  have b0 := Int.mul_nonneg (show 0 ≤ st.kk by omega) (show 0 ≤ st.u by omega)
  rw [riseI_snoc, List.length_append, List.length_singleton, Int.pow_succ]
  exact Int.mul_le_mul a b b0 (by omega)
theorem IsCyc.rise_le {sts : List StepD} {c r : Int} (h : IsCyc sts c r) (ok : ∀ st ∈ sts, st.Ok) (h6 : sts.length ≤ 6) : r < 2 ^ 100 := by
  obtain ⟨k, hk⟩ := h.dvd ok
  have a := prodI_pos ok
  have c0 := h.c0
  have r0 := h.r0
  have k0 : 1 ≤ k := by
    refine Int.not_lt.mp fun z => ?_
    have := Int.mul_le_mul_of_nonneg_left (show k ≤ 0 by omega) (show 0 ≤ c by omega)
    omega
  have e1 := per_z (p := 0) (by omega) h.per (show 0 ≤ k by omega) (Int.le_refl 0)
  have e2 := end_prod sts ok 0 (Int.le_refl 0)
  rw [Int.mul_comm k c, ← hk, e2] at e1
  have e3 : riseI sts = k * r := by omega
  have e4 : 1 * r ≤ k * r := Int.mul_le_mul_of_nonneg_right k0 (by omega)
  have e5 := riseI_le sts ok
  have e6 : (20000 : Int) ^ sts.length ≤ 20000 ^ 6 := by
    have : (20000 : Nat) ^ sts.length ≤ 20000 ^ 6 := Nat.pow_le_pow_right (by decide) h6
    exact_mod_cast this
  have e7 : (20000 : Int) ^ 6 < 2 ^ 100 := by decide
  omega
theorem bits_of {i : Int} (h0 : 0 ≤ i) (h : i < 2 ^ 400) : Builtin.Int.intBits i ≤ 2 ^ 20 := by
  have : Builtin.Int.intBits i ≤ 401 := by
    unfold Builtin.Int.intBits
    split
    · omega
    · rename_i hz
      have hz' : ¬ i = 0 := fun e => hz (by rw [e]; rfl)
      have hne : i.natAbs ≠ 0 := by omega
      have : i.natAbs.log2 < 400 := (Nat.log2_lt hne).mpr (by omega)
      omega
  omega
theorem mul_400 {i j : Int} (h0 : 0 ≤ i) (h : i < 2 ^ 400) (g0 : 0 ≤ j) (g : j < 2 ^ 400) : CMulB i j := IntMulOk.of_bits (bits_of h0 h) (bits_of g0 g)
end L2
set_option Elab.async false
set_option linter.all false
set_option maxRecDepth 100000
set_option maxHeartbeats 4000000
namespace L2
open PySem PySem.Spec PyProof.Rows
section
variable {X : Cx}
end
section
variable {X : Cx} {tg : Expr}
end
section
variable {X : Cx} {a b : Expr} {rest : List Expr} {ta tb : TE} {pos : Pos}
end
noncomputable abbrev TJ := Str → St → Hp → VK → Prop
section
variable {X : Cx} {e v1 v2 : Expr} {es : List Expr} {te : TE} {t : TJ} {pos : Pos}
end
section
variable {env : Env} {es : List Expr}
end
noncomputable def oInt : Option Int → V
  | none => .non
  | some x => .int x
end L2
set_option Elab.async false
set_option linter.all false
set_option maxRecDepth 100000
set_option maxHeartbeats 4000000
namespace L2
open PySem PySem.Spec PyProof.Rows PySem.NumText
noncomputable def numS (v : Int) : Str := Str.ofString (toString v)
noncomputable instance (l : List Nat) : Decidable (AllDigits l) := inferInstanceAs (Decidable (∀ c ∈ l, 48 ≤ c ∧ c ≤ 57))
noncomputable def numT (t : Str) (low high : Int) : Option Int :=
  if t = "" ∨ (numS high).length < t.length then none
  else if ¬ AllDigits t.cps.toList then none
  else if t.cps.toList.head? = some 48 ∧ ¬ t = "0" then none
  else if ((digitsVal t.cps.toList : Nat) : Int) < low ∨ high < ((digitsVal t.cps.toList : Nat) : Int) then none else some ((digitsVal t.cps.toList : Nat) : Int)
noncomputable def fracT (t w : Str) : Option (Int × Int) :=
  match (Txt.split t "/").map fun p => numT p 1 100 with
  | [some n, some d] => if w = "off" ∧ d ≤ n then none else some (n, d)
  | _ => none
noncomputable def partW (ws : List Str) (k : Nat) (al : List Str) : Option Str := if k + 1 < ws.length ∧ ws.getD k "" ∈ al then some (ws.getD k "") else none
noncomputable def sA (ws : List Str) : Option Str → Option (Int × Int) × Nat
  | none => (some (1, 1), 0)
  | some x => (fracT (ws.getD 1 "") x, 2)
noncomputable def sB (ws : List Str) (k : Nat) : Option Str → Option Int × Nat
  | none => (some 0, k)
  | some _ => (numT (ws.getD (k + 1) "") 0 (10 ^ 30), k + 2)
noncomputable def sC (ws : List Str) (k : Nat) : Option Str → Option Int × Nat
  | none => (some 1, k)
  | some _ => (numT (ws.getD (k + 1) "") 1 100, k + 2)
noncomputable def sD (w y : Option Str) : Option (Int × Int) → Option Int → Option Int → Option StepD
  | some (n, d), some pn, some un => some ⟨w.getD "times", n, d, pn, y.getD "near", un⟩
  | _, _, _ => none
noncomputable def wordsA : List Str := ["times", "add", "off"]
noncomputable def waysA : List Str := ["down", "up", "near"]
noncomputable def stepE (ws : List Str) (w y : Option Str) (f : Option (Int × Int)) (p u : Option Int) (k : Nat) : Option StepD := if k < ws.length then none else sD w y f p u
noncomputable def stepV (ws : List Str) (w pl y : Option Str) (f : Option (Int × Int) × Nat) (p u : Option Int × Nat) (r : Option StepD) : Prop :=
  w = partW ws 0 wordsA ∧ f = sA ws w ∧ pl = partW ws f.2 ["plus"] ∧ p = sB ws f.2 pl ∧ y = partW ws p.2 waysA ∧ u = sC ws p.2 y ∧ r = stepE ws w y f.1 p.1 u.1 u.2
noncomputable def stepW (ws : List Str) : Option StepD :=
  let w := partW ws 0 wordsA
  let f := sA ws w
  let p := sB ws f.2 (partW ws f.2 ["plus"])
  let y := partW ws p.2 waysA
  let u := sC ws p.2 y
  stepE ws w y f.1 p.1 u.1 u.2
theorem stepV.eq {ws : List Str} {w pl y : Option Str} {f : Option (Int × Int) × Nat} {p u : Option Int × Nat} {r : Option StepD} (h : stepV ws w pl y f p u r) : stepW ws = r := by
  obtain ⟨e1, e2, e3, e4, e5, e6, e7⟩ := h
  unfold stepW
  rw [e7, e6, e5, e4, e3, e2, e1]
section
variable {X : Cx}
end
section
variable {X : Cx} {K : PySem.W.Frag}
end
end L2
set_option Elab.async false
set_option linter.all false
set_option maxRecDepth 100000
set_option maxHeartbeats 4000000
namespace L2
open PySem PySem.Spec PyProof.Rows
theorem roundI_mono {x y den unit : Int} {way : Str} (h : x ≤ y) (hd : 0 < den * unit) (hu : 0 ≤ unit) : roundI x den unit way ≤ roundI y den unit way := by
  unfold roundI
  split
  · exact Int.mul_le_mul_of_nonneg_right (Int.ediv_le_ediv hd h) hu
  · split
    · exact Int.mul_le_mul_of_nonneg_right (Int.ediv_le_ediv hd (by omega)) hu
    · exact Int.mul_le_mul_of_nonneg_right (Int.ediv_le_ediv (by omega) (by omega)) hu
theorem afterI_mono {st : StepD} (o : st.Ok) {x y : Int} (h : x ≤ y) : afterI st x ≤ afterI st y := by
  unfold afterI
  refine roundI_mono ?_ (su_pos o) (by have := o.u0; omega)
  have := Int.mul_le_mul_of_nonneg_right h (show 0 ≤ st.sn by have := o.sn0; omega)
  omega
theorem endI_mono : ∀ (sts : List StepD), (∀ st ∈ sts, st.Ok) → ∀ x y, x ≤ y → endI sts x ≤ endI sts y := by
  refine snoc_ind (fun _ x y h => h) fun t st ih ok x y h => ?_
  have o := ok st (List.mem_append_right _ (List.mem_singleton.mpr rfl))
  rw [endI_snoc, endI_snoc, ← after_many o, ← after_many o]
  exact afterI_mono o (ih (fun s hs => ok s (List.mem_append_left _ hs)) x y h)
structure Low (sts : List StepD) (e m : Int) : Prop where
  m0 : 0 ≤ m
  ge : e ≤ endI sts m
  lt : ∀ p, 0 ≤ p → p < m → endI sts p < e
theorem Low.uniq {sts : List StepD} {e m m' : Int} (h : Low sts e m) (h' : Low sts e m') : m = m' := by
  rcases Int.lt_trichotomy m m' with l | l | l
  · have := h'.lt m h.m0 l
    have := h.ge
    omega
  · exact l
  · have := h.lt m' h'.m0 l
    have := h'.ge
    omega
theorem Low.le {sts : List StepD} {e m p : Int} (h : Low sts e m) (hp : 0 ≤ p) (he : e ≤ endI sts p) : m ≤ p := Int.not_lt.mp fun z => by
  have := h.lt p hp z
  omega
structure From (sts : List StepD) (e first last : Int) : Prop where
  a : Low sts e first
  he : endI sts first = e
  b : Low sts (e + 1) (last + 1)
theorem From.le {sts : List StepD} {e f l : Int} (h : From sts e f l) : f ≤ l := by
  have h1 := h.a.le h.b.m0 (by have := h.b.ge; omega)
  have h2 : f ≠ l + 1 := fun z => by
    have := h.b.ge
    have := h.he
    rw [z] at this
    omega
  omega
theorem From.mid {sts : List StepD} {e f l p : Int} (h : From sts e f l) (ok : ∀ st ∈ sts, st.Ok) (h1 : f ≤ p) (h2 : p ≤ l) : endI sts p = e := by
  have a := endI_mono sts ok f p h1
  have f0 := h.a.m0
  have b := h.b.lt p (by omega) (by omega)
  have := h.he
  omega
theorem From.has {sts : List StepD} {e f l p : Int} (h : From sts e f l) (ok : ∀ st ∈ sts, st.Ok) (hp : 0 ≤ p) (he : endI sts p = e) : f ≤ p ∧ p ≤ l := by
  refine ⟨h.a.le hp (by omega), Int.not_lt.mp fun z => ?_⟩
  have a := endI_mono sts ok (l + 1) p (by omega)
  have := h.b.ge
  omega
theorem Low.hit {sts : List StepD} {m p : Int} (ok : ∀ st ∈ sts, st.Ok) (h : Low sts (endI sts p) m) (hp : 0 ≤ p) : endI sts m = endI sts p := by
  have a := h.le hp (Int.le_refl _)
  have b := endI_mono sts ok m p a
  have := h.ge
  omega
structure WGs (X : Cx) (es : List Expr) (t : TGs) : Prop where
  h : PGs X es t
section
variable {X : Cx} {e : Expr} {es : List Expr} {t : TG} {u : TGs} {pos : Pos}
theorem wgs_nil : WGs X [] gNil := ⟨pgs_nil⟩
theorem wgs_cons (h1 : WG X e t) (h2 : WGs X es u) (hs : (assignEach (e :: es) X.env).map (·.2) = assign e X.env :: (assignEach es X.env).map (·.2) := by rfl) : WGs X (e :: es) (gCons t u) := ⟨pgs_cons h1.h h2.h hs⟩
theorem wg_tup {k n : Nat} (hc : X.calm = true) (h : WGs X es u) (hn : (assignEach es X.env).length = n := by rfl) (hst : (assignEach es X.env).findIdx? (·.1) = none := by rfl) : WG X (.Tuple es k pos) (gTup X.K n u) := ⟨pg_tup hc h.h hn hst⟩
end
noncomputable def Part (s1 s2 : List StepD) : Option Int → Prop
  | none => ∀ p, 0 ≤ p → endI s1 p = endI s2 p
  | some m => 0 ≤ m ∧ ¬ endI s1 m = endI s2 m ∧ ∀ p, 0 ≤ p → p < m → endI s1 p = endI s2 p
theorem Part.uniq {s1 s2 : List StepD} {r r' : Option Int} (h : Part s1 s2 r) (h' : Part s1 s2 r') : r = r' := by
  cases r with
  | none =>
    cases r' with
    | none => rfl
    | some m => exact (h'.2.1 (h m h'.1)).elim
  | some m =>
    cases r' with
    | none => exact (h.2.1 (h' m h.1)).elim
    | some m' =>
      rcases Int.lt_trichotomy m m' with l | l | l
      · exact (h.2.1 (h'.2.2 m h.1 l)).elim
      · rw [l]
      · exact (h'.2.1 (h.2.2 m' h'.1 l)).elim
theorem Part.symm {s1 s2 : List StepD} {r : Option Int} (h : Part s1 s2 r) : Part s2 s1 r := by
  cases r with
  | none => exact fun p hp => (h p hp).symm
  | some m => exact ⟨h.1, fun z => h.2.1 z.symm, fun p a b => (h.2.2 p a b).symm⟩
theorem part_of {s1 s2 : List StepD} {w r1 r2 : Int} (w0 : 1 ≤ w) (p1 : Per s1 w r1) (p2 : Per s2 w r2) (h : ∀ p, 0 ≤ p → p ≤ w → endI s1 p = endI s2 p) : Part s1 s2 none := by
  have a1 := p1 0 (Int.le_refl 0)
  have a2 := p2 0 (Int.le_refl 0)
  have h0 := h 0 (Int.le_refl 0) (by omega)
  have hw := h w (by omega) (Int.le_refl w)
  rw [Int.zero_add] at a1 a2
  have er : r1 = r2 := by omega
  subst er
  intro p pp
  have m0 : 0 ≤ p % w := Int.emod_nonneg p (by omega)
  have m1 : p % w < w := Int.emod_lt_of_pos p (by omega)
  have d0 : 0 ≤ p / w := Int.ediv_nonneg pp (by omega)
  have e := Int.emod_add_mul_ediv p w
  rw [Int.mul_comm] at e
  have b1 := per_z (by omega) p1 d0 m0
  have b2 := per_z (by omega) p2 d0 m0
  rw [e] at b1 b2
  rw [b1, b2, h _ m0 (by omega)]
structure SameStep (a b : StepD) : Prop where
  num : b.num = a.num
  d : b.d = a.d
  p : b.p = a.p
  y : b.y = a.y
  u : b.u = a.u
theorem SameStep.many {a b : StepD} (h : SameStep a b) (m : Int) : b.many m = a.many m := by
  unfold StepD.many StepD.exact StepD.wide
  rw [h.num, h.d, h.p, h.y, h.u]
theorem SameStep.cyc {a b : StepD} (h : SameStep a b) : b.cyc = a.cyc := by
  unfold StepD.cyc StepD.cg StepD.wide
  rw [h.num, h.d, h.u]
theorem chn_new {K : PySem.W.Frag} {H : Hp} {l : Addr} {as : List Addr} {sts : List StepD} (f : H l = some (.lst (as.map V.ref))) (hl : as.length = sts.length) (h : ∀ (i : Nat) a st, as[i]? = some a → sts[i]? = some st → SqT K H a st.vals ∧ st.Ok) : Chn K H l as sts := by
  refine ⟨SqL.of f, hl, fun i a st h1 h2 => (h i a st h1 h2).1, fun st hs => ?_⟩
  obtain ⟨i, hi⟩ := List.getElem?_of_mem hs
  have hi' := (List.getElem?_eq_some_iff.mp hi).1
  exact (h i (as[i]'(by omega)) st (List.getElem?_eq_getElem (by omega)) hi).2
theorem cut_drop {α : Type} (f : α → V) (as : List α) (k : Nat) (h : k ≤ as.length) : cutV (as.map f) (some (k : Int)) none = (as.drop k).map f := by
  unfold cutV
  rw [HT.sIx_none, HT.sIx_nat, List.length_map, Nat.min_eq_left h, ← List.map_drop, List.take_of_length_le (by rw [List.length_map, List.length_drop]; omega)]
theorem prd_app {α β : Type} {F : α → β → Prop} : ∀ {a b : List α} {c d : List β}, Paired F a c → Paired F b d → Paired F (a ++ b) (c ++ d)
  | _, _, _, _, .nil, s => s
  | _, _, _, _, .cons r t, s => .cons r (prd_app t s)
theorem prd_take {α β : Type} {F : α → β → Prop} : ∀ {a : List α} {c : List β} (n : Nat), Paired F a c → Paired F (a.take n) (c.take n)
  | _, _, 0, _ => .nil
  | _, _, _ + 1, .nil => .nil
  | _, _, n + 1, .cons r t => .cons r (prd_take n t)
theorem prd_drop {α β : Type} {F : α → β → Prop} : ∀ {a : List α} {c : List β} (n : Nat), Paired F a c → Paired F (a.drop n) (c.drop n)
  | _, _, 0, r => r
  | _, _, _ + 1, .nil => .nil
  | _, _, n + 1, .cons _ t => prd_drop n t
theorem prd_get {α β : Type} {F : α → β → Prop} : ∀ {a : List α} {c : List β} {i : Nat} {x : α} {y : β}, Paired F a c → a[i]? = some x → c[i]? = some y → F x y
  | _, _, _, _, _, .nil, e, _ => by simp at e
  | _, _, 0, _, _, .cons r _, e, e' => by simp at e e'; subst e e'; exact r
  | _, _, i + 1, x, y, .cons _ t, e, e' => prd_get (i := i) t (by simpa using e) (by simpa using e')
theorem prd_of {α β : Type} {F : α → β → Prop} : ∀ {a : List α} {c : List β}, a.length = c.length → (∀ (i : Nat) x y, a[i]? = some x → c[i]? = some y → F x y) → Paired F a c
  | [], [], _, _ => .nil
  | x :: a, y :: c, h, f => .cons (f 0 x y rfl rfl) (prd_of (by simpa using h) fun i x' y' h1 h2 => f (i + 1) x' y' (by simpa using h1) (by simpa using h2))
noncomputable def StepAt (K : PySem.W.Frag) (H : Hp) (a : Addr) (st : StepD) : Prop := SqT K H a st.vals ∧ st.Ok
theorem Chn.prd {K : PySem.W.Frag} {H : Hp} {l : Addr} {as : List Addr} {sts : List StepD} (c : Chn K H l as sts) : Paired (StepAt K H) as sts :=
  prd_of c.len fun i a st h1 h2 => ⟨c.item i a st h1 h2, c.ok st (List.mem_of_getElem? h2)⟩
theorem prd_same {K : PySem.W.Frag} {H H' : Hp} {as : List Addr} {sts : List StepD} (p : Paired (StepAt K H) as sts) (s : Same H H') : Paired (StepAt K H') as sts := Paired.mapP p fun _ _ h => ⟨s.seqT h.1, h.2⟩
theorem chn_prd {K : PySem.W.Frag} {H : Hp} {l : Addr} {as : List Addr} {sts : List StepD} (f : H l = some (.lst (as.map V.ref))) (p : Paired (StepAt K H) as sts) : Chn K H l as sts := by
  refine chn_new f (Paired.length p) fun i a st h1 h2 => ?_
  have h : StepAt K H a st := prd_get p h1 h2
  exact h
theorem oInt_non {r : Option Int} : decide (oInt r = .non) = decide (r = none) := by cases r <;> rfl
theorem Same.none {H H' : Hp} {p : Addr} (s : Same H H') (h : H' p = none) : H p = none := by
  cases z : H p with
  | none => rfl
  | some o => have := s _ _ z; rw [h] at this; cases this
theorem part_of2 {s1 s2 : List StepD} {w r : Int} (w0 : 1 ≤ w) (p1 : Per s1 w r) (p2 : Per s2 w r) (h : ∀ p, 0 ≤ p → p < w → endI s1 p = endI s2 p) : Part s1 s2 none := by
  refine part_of w0 p1 p2 fun p p0 p1' => ?_
  by_cases hlt : p < w
  · exact h p p0 hlt
  · have e : p = 0 + w := by omega
    rw [e, p1 0 (Int.le_refl 0), p2 0 (Int.le_refl 0), h 0 (Int.le_refl 0) (by omega)]
theorem line_den : ∀ (sts : List StepD) (m : Int), (lineI sts m).2 = (lineI sts 0).2 := by
  intro sts m
  revert sts
  refine snoc_ind rfl fun t st ih => ?_
  rw [lineI_snoc, lineI_snoc]
  show (lineI t m).2 * st.d = (lineI t 0).2 * st.d
  rw [ih]
noncomputable def denI (sts : List StepD) : Int := (lineI sts 0).2
noncomputable def addI (sts : List StepD) (p : Int) : Int := endI sts p * (lineI sts p).2 - (lineI sts p).1
end L2
set_option Elab.async false
set_option linter.all false
set_option maxRecDepth 100000
set_option maxHeartbeats 4000000
namespace L2
open PySem PySem.Spec PyProof.Rows
section
variable {X : Cx}
end
theorem denI_snoc (sts : List StepD) (st : StepD) : denI (sts ++ [st]) = denI sts * st.d := by unfold denI; rw [lineI_snoc]; rfl
end L2
set_option Elab.async false
set_option linter.all false
set_option maxRecDepth 100000
set_option maxHeartbeats 4000000
namespace L2
open PySem PySem.Spec PyProof.Rows
section
variable {prog : Program} {w : World} {A : Around} {E : Value → Shared → Prop} {s : Shared}
end
structure Next (sts : List StepD) (p m : Int) : Prop where
  lt : p < m
  ne : ¬ endI sts m = endI sts p
  same : ∀ j, p ≤ j → j < m → endI sts j = endI sts p
theorem Next.low {sts : List StepD} {p m : Int} (h : Next sts p m) (ok : ∀ st ∈ sts, st.Ok) (p0 : 0 ≤ p) : Low sts (endI sts p + 1) m := by
  have a := endI_mono sts ok p m (by have := h.lt; omega)
  have n := h.ne
  refine ⟨by have := h.lt; omega, by omega, fun j j0 j1 => ?_⟩
  by_cases hj : p ≤ j
  · rw [h.same j hj j1]; omega
  · have := endI_mono sts ok j p (by omega)
    omega
end L2
set_option Elab.async false
set_option linter.all false
set_option maxRecDepth 100000
set_option maxHeartbeats 4000000
namespace L2
open PySem PySem.Spec PyProof.Rows
section
variable {X : Cx} {tg : Expr}
end
noncomputable def Thr (sts : List StepD) (e m : Int) : Prop := 0 ≤ m ∧ ∀ q, 0 ≤ q → (e ≤ endI sts q ↔ m ≤ q)
theorem Thr.low {sts : List StepD} {e m : Int} (h : Thr sts e m) : Low sts e m :=
  ⟨h.1, (h.2 m h.1).mpr (Int.le_refl _), fun p p0 p1 => Int.not_le.mp fun z => by have := (h.2 p p0).mp z; omega⟩
theorem Thr.nil {e : Int} : Thr [] e (if 0 > e then 0 else e) := by
  refine ⟨by split <;> omega, fun q q0 => ?_⟩
  show e ≤ q ↔ _
  split <;> omega
theorem endI_cons (st : StepD) (t : List StepD) (m : Int) : endI (st :: t) m = endI t (st.many m * st.u) := rfl
theorem after_nn {st : StepD} (o : st.Ok) {m : Int} (h : 0 ≤ m) : 0 ≤ afterI st m := by
  rw [after_many o]
  have := endI_nn [st] (fun s hs => by rw [List.mem_singleton.mp hs]; exact o) m h
  exact this
theorem Thr.cons {st : StepD} {t : List StepD} {e m m' : Int} (o : st.Ok) (h : Thr t e m) (h0 : 0 ≤ m') (hs : ∀ q, 0 ≤ q → (m ≤ afterI st q ↔ m' ≤ q)) : Thr (st :: t) e m' := by
  refine ⟨h0, fun q q0 => ?_⟩
  rw [endI_cons, ← after_many o, h.2 _ (after_nn o q0)]
  exact hs q q0
theorem alike_sum {s1 s2 : List StepD} {c1 r1 c2 r2 : Int} (h1 : 1 ≤ c1) (h2 : 1 ≤ c2) (p1 : Per s1 c1 r1) (p2 : Per s2 c2 r2) (h : ∀ p, 0 ≤ p → p < c1 + c2 → endI s1 p = endI s2 p) : Part s1 s2 none := by
  have D0 : ∀ p, 0 ≤ p → p < c2 → endI s2 (p + c1) = endI s2 p + r1 := fun p p0 p1' => by
    rw [← h (p + c1) (by omega) (by omega), ← h p p0 (by omega)]; exact p1 p p0
  have Dp : Per s2 c1 r1 := fun p pp => by
    have m0 : 0 ≤ p % c2 := Int.emod_nonneg p (by omega)
    have m1 : p % c2 < c2 := Int.emod_lt_of_pos p (by omega)
    have d0 : 0 ≤ p / c2 := Int.ediv_nonneg pp (by omega)
    have e := Int.emod_add_mul_ediv p c2
    rw [Int.mul_comm] at e
    have b1 := per_z (by omega) p2 d0 m0
    have b2 := per_z (by omega) p2 d0 (show 0 ≤ p % c2 + c1 by omega)
    rw [show p % c2 + c1 + p / c2 * c2 = p + c1 by omega] at b2
    rw [e] at b1
    rw [b2, D0 _ m0 m1, b1]
    omega
  exact part_of2 h1 p1 Dp fun p p0 p1' => h p p0 (by omega)
structure LineT (sts : List StepD) (t mo d : Int) : Prop where
  t0 : 1 ≤ t
  t1 : t ≤ 200 ^ sts.length
  m0 : 0 ≤ mo
  d0 : 1 ≤ d
  d1 : d ≤ denI sts
  e : ∀ m, (m * t + mo) * (lineI sts m).2 = (lineI sts m).1 * d
theorem LineT.nil : LineT [] 1 0 1 := ⟨by decide, by decide, by decide, by decide, Int.le_refl _, fun m => by show (m * 1 + 0) * 1 = m * 1; omega⟩
theorem LineT.snoc {sts : List StepD} {st : StepD} {t mo d : Int} (l : LineT sts t mo d) (o : st.Ok) : LineT (sts ++ [st]) (t * st.sn) (mo * st.sn + st.p * (d * st.sd)) (d * st.sd) := by
  have s0 := o.sn0
  have s1 := o.sn1
  have d0 := o.sd0
  have p0 := o.p0
  have hd : st.sd ≤ st.d := div_le' (by have := o.d0; omega) o.g0
  have b0 := l.d0
  have b1 := l.d1
  have t0 := l.t0
  have m0 := l.m0
  refine ⟨?_, ?_, ?_, ?_, ?_, fun m => ?_⟩
  · have := Int.mul_le_mul t0 s0 (by decide) (by omega)
    omega
  · rw [List.length_append, List.length_singleton, Int.pow_succ]
    exact Int.mul_le_mul l.t1 s1 (by omega) (Int.le_trans (show (0 : Int) ≤ t by omega) l.t1)
  · have h1 := Int.mul_nonneg m0 (show 0 ≤ st.sn by omega)
    have h2 := Int.mul_nonneg p0 (Int.mul_nonneg (show 0 ≤ d by omega) (show 0 ≤ st.sd by omega))
    omega
  · have := Int.mul_le_mul b0 d0 (by decide) (by omega)
    omega
  · rw [denI_snoc]
    exact Int.mul_le_mul b1 hd (by omega) (by omega)
  · have e1 : m * (t * st.sn) + (mo * st.sn + st.p * (d * st.sd)) = (m * t + mo) * st.sn + st.p * (d * st.sd) := by rw [Int.add_mul, ← Int.mul_assoc]; omega
    rw [e1, lineI_snoc]
    exact low_step (l.e m) o.cross
theorem LineT.t6 {sts : List StepD} {t mo d : Int} (l : LineT sts t mo d) (h : sts.length ≤ 6) : t ≤ 10 ^ 14 := by
  have e : (200 : Int) ^ sts.length ≤ 200 ^ 6 := by
    have : (200 : Nat) ^ sts.length ≤ 200 ^ 6 := Nat.pow_le_pow_right (by decide) h
    exact_mod_cast this
  have := l.t1
  omega
noncomputable def adjI (sts : List StepD) (t mo d p : Int) : Int := endI sts p * d - (p * t + mo)
theorem LineT.adj {sts : List StepD} {t mo d : Int} (l : LineT sts t mo d) (p : Int) : adjI sts t mo d p * denI sts = addI sts p * d := by
  have e := l.e p
  unfold adjI addI
  rw [line_den sts p] at e ⊢
  show (endI sts p * d - (p * t + mo)) * (lineI sts 0).2 = _
  rw [Int.sub_mul, Int.sub_mul, e, Int.mul_right_comm]
theorem LineT.le {sts : List StepD} {t mo d : Int} (l : LineT sts t mo d) (D0 : 1 ≤ denI sts) {p q : Int} : adjI sts t mo d p ≤ adjI sts t mo d q ↔ addI sts p ≤ addI sts q := by
  have a := l.adj p
  have b := l.adj q
  have d0 := l.d0
  constructor
  · intro h
    have := Int.mul_le_mul_of_nonneg_right h (show 0 ≤ denI sts by omega)
    rw [a, b] at this
    exact Int.le_of_mul_le_mul_right this (by omega)
  · intro h
    have := Int.mul_le_mul_of_nonneg_right h (show 0 ≤ d by omega)
    rw [← a, ← b] at this
    exact Int.le_of_mul_le_mul_right this (by omega)
end L2
set_option Elab.async false
set_option linter.all false
set_option maxRecDepth 100000
set_option maxHeartbeats 4000000
namespace L2
open PySem PySem.Spec PyProof.Rows
section
variable {sts : List StepD} {c r n : Int}
end
end L2
set_option Elab.async false
set_option linter.all false
set_option maxRecDepth 100000
set_option maxHeartbeats 4000000
namespace L2
open PySem PySem.Spec PyProof.Rows
noncomputable def Trc (B h : Heap) (e : Addr) (cls : Value) (od : Option Addr) (fl : Value) : Prop :=
  ∃ oe vs T oT ts, h.get? e = some oe ∧ (oe.cls = cls ∧ oe.dict = od) ∧ oe.data = .fields vs ∧ vs[1]? = some (.ref T) ∧ B.get? T = none ∧ T ≠ e ∧ h.get? T = some oT ∧ oT.data = .fields ts ∧ ts[3]? = some fl
section
variable {M : Model} {A : Around} {E : Value → Shared → Prop} {s : Shared} {B : Heap} {env : Env} {outer : List Env} {L e : Addr}
end
section
variable {P : Program} {w : World} {K : PySem.W.Frag} {mg : Str → Option Value} {base : Heap} {N : List Str} {qual : Str} {scope : Scope} {f : Addr} {cd : Value} {A : Around} {outer : List Env} {s : Shared} {H : Hp} {E : XK}
end
section
variable {X : Cx} {CX : CXT} {k : Nat} {f C : Addr} {fd : FuncData} {ps : List Str} {sp : Sp} {dvs : List V} {ds : List Value} {E : St → XK} {x m : Str} {p pos apos : Pos} {e o : Expr} {es : List Expr} {ta : TE} {t : TA}
end
end L2
set_option Elab.async false
set_option linter.all false
set_option maxRecDepth 100000
set_option maxHeartbeats 4000000
namespace L2
open PySem PySem.Spec PyProof.Rows
section
variable {X : Cx} {pins pl : List (Addr × Obj)} {σ : St} {H H' : Hp} {s : Shared} {ea : Addr} {oe : Obj} {E : Value → Shared → Prop}
end
structure Cau (X : Cx) (pins : List (Addr × Obj)) (σ : St) (H : Hp) (ea : Addr) (cls : Value) (od : Option Addr) (s : Shared) (B : Heap) : Prop where
  inv : ∀ g, B.StaysIn g → s.heap.UpToSlots g → Inv X pins σ H { s with heap := g }
  st : B.StaysIn s.heap
  ff : s.heap.FunFrames B X.stack
  tr : Trc B s.heap ea cls od .none
  fe : H ea = none
theorem Cau.here {X : Cx} {pins : List (Addr × Obj)} {σ : St} {H : Hp} {ea : Addr} {cls : Value} {od : Option Addr} {s : Shared} {B : Heap} (c : Cau X pins σ H ea cls od s B) : Inv X pins σ H s := c.inv _ c.st (Heap.UpToSlots.refl _)
theorem Cau.nofr {X : Cx} {pins : List (Addr × Obj)} {σ : St} {H : Hp} {ea : Addr} {cls : Value} {od : Option Addr} {s : Shared} {B : Heap} (c : Cau X pins σ H ea cls od s B) : ea ∉ frs X.stack := fun z => by
  obtain ⟨oe, vs, T, oT, ts, ge, _, de, _⟩ := c.tr
  obtain ⟨_, o, q, n⟩ := c.ff.mem z
  rw [ge] at q
  cases q
  exact n vs de
noncomputable abbrev TH := Addr → Value → Option Addr → TS
section
variable {X : Cx} {C : Addr} {x : Str} {np hpos : Pos} {b₀ : Stmt} {su : List Stmt} {rest : List ExceptHandler} {ts tr : TH}
theorem Trc.look {M : Model} {B h : Heap} {e : Addr} {cls : Value} {od : Option Addr} {fl : Value} (t : Trc B h e cls od fl) : PySem.W.Looks M h (typeOf (.ref e)) cls := by
  obtain ⟨oe, vs, T, oT, ts, ge, ⟨hc, _⟩, _⟩ := t
  exact hc ▸ (PySem.W.Looks.ld ge).andThen .now
end
section
variable {X : Cx} {N : List Str} {sc : Scope} {pos : Pos} {i : Nat} {x : Str}
end
section
variable {prog : Program} {w : World} {A : Around} {E : Value → Shared → Prop} {s : Shared} {K : PySem.W.Frag} {x D : Addr} {ox : Obj} {odo : Option Obj}
end
section
variable {X : Cx} {ea : Addr} {oe : Obj} {cls : Value} {od : Option Addr}
end
end L2
set_option Elab.async false
set_option linter.all false
set_option maxRecDepth 100000
set_option maxHeartbeats 4000000
namespace L2
open PySem PySem.Spec PyProof.Rows
section
variable {X : Cx} {elt iter tst : Expr} {x : Str} {px pos : Pos} {scope : Scope} {fs : List Str} {fr : List Nat} {wi : TI} {te : TE} {tt : TT}
end
section
variable {X : Cx} {elt iter tst : Expr} {x : Str} {px pos : Pos} {scope sc : Scope} {N fs : List Str} {fr : List Nat} {wi : TI} {te : TE} {tt : TT}
end
section
variable {X : Cx} {o i value : Expr} {pos pos' : Pos} {td ty tv : TE}
theorem we_dget (hu : X.A.units + 1 < cLine) (ho : WE X o td) (hi : WE X i ty) (hs : NoSl i) : WE X (.Subscript o i pos) (tDGet td ty) := ⟨pe_dget hu ho.h hi.h hs⟩
end
end L2
set_option Elab.async false
set_option linter.all false
set_option maxRecDepth 100000
set_option maxHeartbeats 4000000
namespace L2
open PySem PySem.Spec PyProof.Rows
noncomputable def mny (y : Str) (e w : Int) : Int :=
  if y = "up" ∧ 0 < e - e / w * w then e / w + 1 else if y = "near" ∧ w ≤ 2 * (e - e / w * w) then e / w + 1 else e / w
theorem many_mny (st : StepD) (m : Int) : st.many m = mny st.y (st.exact m) st.wide := rfl
structure Rd3 (y : Str) (e w k : Int) : Prop where
  dn : y = "down" → k * w ≤ e ∧ e < k * w + w
  up : y = "up" → k * w - w < e ∧ e ≤ k * w
  nr : y = "near" → 2 * (k * w) - w ≤ 2 * e ∧ 2 * e < 2 * (k * w) + w
theorem rd3_mny {y : Str} {e w : Int} (hw : 0 < w) : Rd3 y e w (mny y e w) := by
  have f := fl (x := e) (c := w) hw
  rw [Int.mul_comm] at f
  have e1 : (e / w + 1) * w = e / w * w + w := by rw [Int.add_mul, Int.one_mul]
  have a1 : ¬ ("down" : Str) = "up" := by decide +kernel
  have a2 : ¬ ("down" : Str) = "near" := by decide +kernel
  have a3 : ¬ ("up" : Str) = "near" := by decide +kernel
  have a4 : ¬ ("near" : Str) = "up" := by decide +kernel
  unfold mny
  refine ⟨fun h => ?_, fun h => ?_, fun h => ?_⟩ <;> subst h
  · rw [if_neg (fun z => a1 z.1), if_neg (fun z => a2 z.1)]
    omega
  · by_cases c : 0 < e - e / w * w
    · rw [if_pos ⟨rfl, c⟩, e1]; omega
    · rw [if_neg (fun z => c z.2), if_neg (fun z => a3 z.1)]; omega
  · rw [if_neg (fun z => a4 z.1)]
    by_cases c : w ≤ 2 * (e - e / w * w)
    · rw [if_pos ⟨rfl, c⟩, e1]; omega
    · rw [if_neg (fun z => c z.2)]; omega
theorem rd3_lt {w k k' : Int} (hw : 0 < w) (h : k < k') : k * w + w ≤ k' * w := by
  have := Int.mul_le_mul_of_nonneg_right (show k + 1 ≤ k' by omega) (Int.le_of_lt hw)
  rw [Int.add_mul, Int.one_mul] at this
  exact this
theorem Rd3.uniq {y : Str} {e w k k' : Int} (hy : y = "down" ∨ y = "up" ∨ y = "near") (hw : 0 < w) (a : Rd3 y e w k) (b : Rd3 y e w k') : k = k' := by
  rcases Int.lt_trichotomy k k' with h | h | h
  · have := rd3_lt hw h
    rcases hy with z | z | z
    · have := a.dn z; have := b.dn z; omega
    · have := a.up z; have := b.up z; omega
    · have := a.nr z; have := b.nr z; omega
  · exact h
  · have := rd3_lt hw h
    rcases hy with z | z | z
    · have := a.dn z; have := b.dn z; omega
    · have := a.up z; have := b.up z; omega
    · have := a.nr z; have := b.nr z; omega
theorem Rd3.mny {y : Str} {e w k : Int} (hy : y = "down" ∨ y = "up" ∨ y = "near") (hw : 0 < w) (a : Rd3 y e w k) : L2.mny y e w = k := (rd3_mny hw).uniq hy hw a
theorem endI_nil (m : Int) : endI [] m = m := rfl
theorem endI_app (a b : List StepD) (m : Int) : endI (a ++ b) m = endI b (endI a m) := by unfold endI; rw [List.foldl_append]
noncomputable def StEq (a b : List StepD) : Prop := ∀ m, endI a m = endI b m
theorem StEq.mid {a b : List StepD} (h : StEq a b) (l r : List StepD) : StEq (l ++ a ++ r) (l ++ b ++ r) := fun m => by
  rw [endI_app, endI_app, endI_app, endI_app, h]
theorem StEq.trans {a b c : List StepD} (h : StEq a b) (k : StEq b c) : StEq a c := fun m => (h m).trans (k m)
theorem StEq.rfl' {a : List StepD} : StEq a a := fun _ => rfl
theorem eq_twice {w y : Str} {n d p u : Int} (o : (StepD.mk w n d p y u).Ok) : StEq [⟨w, 2 * n, 2 * d, p, y, u⟩] [⟨w, n, d, p, y, u⟩] := fun m => by
  have hw := o.wide0
  rw [endI_cons, endI_cons, endI_nil, endI_nil]
  dsimp only
  congr 1
  have en : (StepD.mk w (2 * n) (2 * d) p y u).num = 2 * (StepD.mk w n d p y u).num := by
    unfold StepD.num
    dsimp only
    split
    · omega
    · split <;> omega
  have ee : (StepD.mk w (2 * n) (2 * d) p y u).exact m = 2 * (StepD.mk w n d p y u).exact m := by
    unfold StepD.exact
    rw [en]
    dsimp only
    rw [Int.mul_left_comm m 2, Int.mul_left_comm p 2, ← Int.mul_add]
  have ew : (StepD.mk w (2 * n) (2 * d) p y u).wide = 2 * (StepD.mk w n d p y u).wide := by
    unfold StepD.wide
    dsimp only
    rw [Int.mul_assoc]
  rw [many_mny, many_mny, ee, ew]
  dsimp only
  generalize (StepD.mk w n d p y u).exact m = e
  generalize (StepD.mk w n d p y u).wide = W at hw
  have r := rd3_mny (y := y) (e := e) hw
  generalize L2.mny y e W = k at r
  have ek : k * (2 * W) = 2 * (k * W) := Int.mul_left_comm k 2 W
  refine Rd3.mny o.y (by omega) ⟨fun z => ?_, fun z => ?_, fun z => ?_⟩
  · have := r.dn z; omega
  · have := r.up z; omega
  · have := r.nr z; omega
theorem eq_whole {y : Str} {k : Int} (hy : y = "down" ∨ y = "up" ∨ y = "near") (hk : 0 < k) (m : Int) : endI [⟨"times", k, k, 0, y, 1⟩] m = m := by
  have kt : ¬ ("times" : Str) = "off" := by decide +kernel
  have kt2 : ¬ ("times" : Str) = "add" := by decide +kernel
  rw [endI_cons, endI_nil, many_mny]
  dsimp only
  have en : (StepD.mk "times" k k 0 y 1).num = k := by unfold StepD.num; dsimp only; rw [if_neg kt2, if_neg kt]
  have ee : (StepD.mk "times" k k 0 y 1).exact m = m * k := by
    unfold StepD.exact; rw [en]; dsimp only; omega
  have ew : (StepD.mk "times" k k 0 y 1).wide = k := by unfold StepD.wide; dsimp only; omega
  rw [ee, ew, Rd3.mny (k := m) hy hk ⟨fun _ => by omega, fun _ => by omega, fun _ => by omega⟩]
  omega
theorem eq_split {w y y2 : Str} {n d p u : Int} (o : (StepD.mk w n d p y u).Ok) (hy : y2 = "down" ∨ y2 = "up" ∨ y2 = "near") (hp : p % u = 0) :
    StEq [⟨w, n, d, 0, y, u⟩, ⟨"times", 1, 1, p, y2, u⟩] [⟨w, n, d, p, y, u⟩] := fun m => by
  have kt : ¬ ("times" : Str) = "off" := by decide +kernel
  have kt2 : ¬ ("times" : Str) = "add" := by decide +kernel
  have hw := o.wide0
  have hu := o.u0
  dsimp only at hu
  obtain ⟨c, hc⟩ := Int.dvd_of_emod_eq_zero hp
  subst hc
  rw [endI_cons, endI_cons, endI_cons, endI_nil, endI_nil]
  dsimp only
  have en : (StepD.mk w n d 0 y u).num = (StepD.mk w n d (u * c) y u).num := rfl
  have ew : (StepD.mk w n d 0 y u).wide = (StepD.mk w n d (u * c) y u).wide := rfl
  have ee : (StepD.mk w n d (u * c) y u).exact m = (StepD.mk w n d 0 y u).exact m + c * (StepD.mk w n d (u * c) y u).wide := by
    unfold StepD.exact StepD.wide
    rw [en]
    dsimp only
    rw [Int.zero_mul, Int.add_zero, Int.mul_comm u c, Int.mul_assoc, Int.mul_comm u d]
  rw [many_mny (StepD.mk w n d (u * c) y u), ee]
  rw [many_mny (StepD.mk w n d 0 y u), ew]
  dsimp only
  generalize (StepD.mk w n d 0 y u).exact m = e
  generalize (StepD.mk w n d (u * c) y u).wide = W at hw
  have r := rd3_mny (y := y) (e := e) hw
  generalize L2.mny y e W = k at r
  have ek : (k + c) * W = k * W + c * W := Int.add_mul ..
  have e1 : L2.mny y (e + c * W) W = k + c := by
    refine Rd3.mny o.y hw ⟨fun z => ?_, fun z => ?_, fun z => ?_⟩
    · have := r.dn z; omega
    · have := r.up z; omega
    · have := r.nr z; omega
  rw [e1]
  have en2 : (StepD.mk "times" 1 1 (u * c) y2 u).num = 1 := by unfold StepD.num; dsimp only; rw [if_neg kt2, if_neg kt]
  have ee2 : (StepD.mk "times" 1 1 (u * c) y2 u).exact (k * u) = (k + c) * u := by
    unfold StepD.exact; rw [en2]; dsimp only; rw [Int.mul_one, Int.mul_one, Int.add_mul, Int.mul_comm u c]
  have ew2 : (StepD.mk "times" 1 1 (u * c) y2 u).wide = u := by unfold StepD.wide; dsimp only; omega
  rw [many_mny, ee2, ew2]
  dsimp only
  congr 1
  exact Rd3.mny hy (by omega) ⟨fun _ => by omega, fun _ => by omega, fun _ => by omega⟩
theorem eq_down {w y : Str} {n p u q : Int} (o : (StepD.mk w n 1 p y u).Ok) (hq : (y = "down" → q = 0) ∧ (y = "up" → q = u - 1) ∧ (y = "near" → q = u / 2)) :
    StEq [⟨w, n, 1, p + q, "down", u⟩] [⟨w, n, 1, p, y, u⟩] := fun m => by
  have hu := o.u0
  dsimp only at hu
  rw [endI_cons, endI_cons, endI_nil, endI_nil]
  dsimp only
  congr 1
  have en : (StepD.mk w n 1 (p + q) "down" u).num = (StepD.mk w n 1 p y u).num := rfl
  have ee : (StepD.mk w n 1 (p + q) "down" u).exact m = (StepD.mk w n 1 p y u).exact m + q := by
    unfold StepD.exact; rw [en]; dsimp only; omega
  have ew : (StepD.mk w n 1 (p + q) "down" u).wide = u := by unfold StepD.wide; dsimp only; omega
  have ew2 : (StepD.mk w n 1 p y u).wide = u := by unfold StepD.wide; dsimp only; omega
  rw [many_mny, many_mny, ee, ew, ew2]
  dsimp only
  generalize (StepD.mk w n 1 p y u).exact m = e
  have r := rd3_mny (y := y) (e := e) (w := u) (by omega)
  generalize L2.mny y e u = k at r
  have dk : ∀ {a b : Str}, a = b → ¬ b = "down" → ¬ a = "down" := fun h g z => g (h ▸ z)
  refine Rd3.mny (.inl rfl) (by omega) ⟨fun _ => ?_, fun z => absurd z (by decide +kernel), fun z => absurd z (by decide +kernel)⟩
  rcases o.y with z | z | z <;> dsimp only at z
  · have := r.dn z; have := hq.1 z; omega
  · have := r.up z; have := hq.2.1 z; omega
  · have := r.nr z; have := hq.2.2 z; omega
theorem eq_back {x y : Str} {t b : Int} (hb : 1 ≤ b) (ht : b < t) (h : (x = "near" ∧ y = "near") ∨ (x = "down" ∧ y = "up") ∨ (x = "up" ∧ y = "down")) (m : Int) :
    endI [⟨"times", t, b, 0, x, 1⟩, ⟨"times", b, t, 0, y, 1⟩] m = m := by
  have kt : ¬ ("times" : Str) = "off" := by decide +kernel
  have kt2 : ¬ ("times" : Str) = "add" := by decide +kernel
  rw [endI_cons, endI_cons, endI_nil, many_mny, many_mny]
  dsimp only
  have num : ∀ (n d : Int) (z : Str), (StepD.mk "times" n d 0 z 1).num = n := fun n d z => by unfold StepD.num; dsimp only; rw [if_neg kt2, if_neg kt]
  have ex : ∀ (n d q : Int) (z : Str), (StepD.mk "times" n d 0 z 1).exact q = q * n := fun n d q z => by unfold StepD.exact; rw [num]; dsimp only; omega
  have wd : ∀ (n d : Int) (z : Str), (StepD.mk "times" n d 0 z 1).wide = d := fun n d z => by unfold StepD.wide; dsimp only; omega
  rw [ex, ex, wd, wd, Int.mul_one, Int.mul_one]
  have r := rd3_mny (y := x) (e := m * t) (w := b) (by omega)
  generalize L2.mny x (m * t) b = a at r
  have dn : ¬ ("down" : Str) = "up" := by decide +kernel
  have dn2 : ¬ ("down" : Str) = "near" := by decide +kernel
  have un : ¬ ("up" : Str) = "near" := by decide +kernel
  rcases h with ⟨h1, h2⟩ | ⟨h1, h2⟩ | ⟨h1, h2⟩ <;> subst h2
  · have := r.nr h1
    exact Rd3.mny (.inr (.inr rfl)) (by omega) ⟨fun z => absurd z.symm dn2, fun z => absurd z.symm un, fun _ => by omega⟩
  · have := r.dn h1
    exact Rd3.mny (.inr (.inl rfl)) (by omega) ⟨fun z => absurd z.symm dn, fun _ => by omega, fun z => absurd z un⟩
  · have := r.up h1
    exact Rd3.mny (.inl rfl) (by omega) ⟨fun _ => by omega, fun z => absurd z dn, fun z => absurd z dn2⟩
section
variable {X : Cx}
theorem op_isB : OpR X (compareOp .Is) (fun x y H Q => ∃ a b, x = .bl a ∧ y = .bl b ∧ Q (.bl (a == b)) H) := by
  intro pins s σ H x y v u Q I rx ry h
  obtain ⟨a, b, rfl, rfl, q⟩ := h
  cases rx
  cases ry
  refine wpAny_is_plain (by rfl) (fin_bl I q ?_)
  cases a <;> cases b <;> rfl
theorem op_notB : OpR X (compareOp .IsNot) (fun x y H Q => ∃ a b, x = .bl a ∧ y = .bl b ∧ Q (.bl (!(a == b))) H) := by
  intro pins s σ H x y v u Q I rx ry h
  obtain ⟨a, b, rfl, rfl, q⟩ := h
  cases rx
  cases ry
  refine wpAny_isNot_plain (by rfl) (fin_bl I q ?_)
  cases a <;> cases b <;> rfl
theorem wps_nil {pos : Pos} : PPs X pos [] [] [] := pps_nil
theorem wps_cons {pos : Pos} {k v : Expr} {ks : List (Option Expr)} {vs : List Expr} {tk tv : TE} {trs : List (TE × TE)} (hk : WE X k tk) (hv : WE X v tv) (hr : PPs X pos ks vs trs) :
    PPs X pos (some k :: ks) (v :: vs) ((tk, tv) :: trs) := pps_cons hk.h hv.h hr
theorem we_disp {pos : Pos} {keys : List (Option Expr)} {values : List Expr} {trs : List (TE × TE)} (h : PPs X pos keys values trs) (hall : keys.all (·.isSome) = true := by rfl) (hl : keys.length = values.length := by rfl) (h0 : keys ≠ [] := by exact List.cons_ne_nil _ _)
    (h15 : keys.length ≤ 15 := by decide) : WE X (.Dict keys values pos) (tDisp trs) := ⟨pe_disp h hall hl h0 h15⟩
end
theorem wayP {i : Int} (h0 : 0 ≤ i) (h1 : i < 3) : ∃ y : Str, (y = "down" ∨ y = "up" ∨ y = "near") ∧ pick3 i (V.str "down") (V.str "up") (V.str "near") = V.str y := by
  rcases (show i = 0 ∨ i = 1 ∨ i = 2 by omega) with z | z | z <;> subst z
  · exact ⟨"down", .inl rfl, rfl⟩
  · exact ⟨"up", .inr (.inl rfl), rfl⟩
  · exact ⟨"near", .inr (.inr rfl), rfl⟩
theorem moreP {y : Str} (hy : y = "down" ∨ y = "up" ∨ y = "near") (u : Int) : ∃ mo : Int, valV (mergeK [] [((Sum.inr "down" : Key), V.int 0), (Sum.inr "up", .int (u - 1)), (Sum.inr "near", .int (u / 2))]) (Sum.inr y) = some (.int mo) ∧ ((y = "down" → mo = 0) ∧ (y = "up" → mo = u - 1) ∧ (y = "near" → mo = u / 2)) := by
  have a1 : ¬ ("down" : Str) = "up" := by decide +kernel
  have a2 : ¬ ("down" : Str) = "near" := by decide +kernel
  have a3 : ¬ ("up" : Str) = "near" := by decide +kernel
  rcases hy with z | z | z <;> subst z
  · exact ⟨0, rfl, fun _ => rfl, fun z => absurd z a1, fun z => absurd z a2⟩
  · exact ⟨u - 1, rfl, fun z => absurd z.symm a1, fun _ => rfl, fun z => absurd z a3⟩
  · exact ⟨u / 2, rfl, fun z => absurd z.symm a2, fun z => absurd z.symm a3, fun _ => rfl⟩
theorem plus_down {v : Int} (h : 0 ≤ v) (m : Int) : endI [⟨"times", 1, 1, v, "down", 1⟩] m = m + v := by
  have kt : ¬ ("times" : Str) = "off" := by decide +kernel
  have kt2 : ¬ ("times" : Str) = "add" := by decide +kernel
  rw [endI_cons, endI_nil, many_mny]
  dsimp only
  have en : (StepD.mk "times" 1 1 v "down" 1).num = 1 := by unfold StepD.num; dsimp only; rw [if_neg kt2, if_neg kt]
  have ee : (StepD.mk "times" 1 1 v "down" 1).exact m = m + v := by unfold StepD.exact; rw [en]; dsimp only; omega
  have ew : (StepD.mk "times" 1 1 v "down" 1).wide = 1 := rfl
  rw [ee, ew, Rd3.mny (k := m + v) (.inl rfl) (by decide) ⟨fun _ => by omega, fun z => absurd z (by decide +kernel), fun z => absurd z (by decide +kernel)⟩]
  omega
end L2
set_option Elab.async false
set_option linter.all false
set_option maxRecDepth 100000
set_option maxHeartbeats 4000000
namespace My
open PySem L2
noncomputable def top (i : Nat) : Stmt := PySem.Challenge.pw_roundprice_k18_rewritten.main.body.getD i (.Pass ⟨0, 0, 0, 0⟩)
noncomputable abbrev s_check_price : Stmt := top 4
theorem sc_check_price : FnScope ["price"] ["price"] (defScope s_check_price) := ⟨rfl, rfl, rfl, by decide +kernel, rfl, by decide +kernel, by decide +kernel⟩
noncomputable abbrev s_common_divisor : Stmt := top 6
theorem sc_common_divisor : FnScope ["one", "other", "rest"] ["one", "other"] (defScope s_common_divisor) := ⟨rfl, rfl, rfl, by decide +kernel, rfl, by decide +kernel, by decide +kernel⟩
noncomputable abbrev s_lowest : Stmt := top 7
theorem sc_lowest : FnScope ["num", "den", "divisor"] ["num", "den"] (defScope s_lowest) := ⟨rfl, rfl, rfl, by decide +kernel, rfl, by decide +kernel, by decide +kernel⟩
noncomputable abbrev s_prime_factors : Stmt := top 8
theorem sc_prime_factors : FnScope ["number", "factors", "prime"] ["number"] (defScope s_prime_factors) := ⟨rfl, rfl, rfl, by decide +kernel, rfl, by decide +kernel, by decide +kernel⟩
noncomputable abbrev s_share : Stmt := top 10
theorem sc_share : FnScope ["step", "word", "n", "d"] ["step"] (defScope s_share) := ⟨rfl, rfl, rfl, by decide +kernel, rfl, by decide +kernel, by decide +kernel⟩
noncomputable abbrev s_rounded : Stmt := top 11
theorem sc_rounded : FnScope ["num", "den", "unit", "way", "block"] ["num", "den", "unit", "way"] (defScope s_rounded) := ⟨rfl, rfl, rfl, by decide +kernel, rfl, by decide +kernel, by decide +kernel⟩
noncomputable abbrev s_after : Stmt := top 12
theorem sc_after : FnScope ["step", "amount", "pennies", "way", "unit", "part", "num"] ["step", "amount"] (defScope s_after) := ⟨rfl, rfl, rfl, by decide +kernel, rfl, by decide +kernel, by decide +kernel⟩
noncomputable abbrev s_own_cycle : Stmt := top 13
theorem sc_own_cycle : FnScope ["step", "unit", "part", "block", "divisor"] ["step"] (defScope s_own_cycle) := ⟨rfl, rfl, rfl, by decide +kernel, rfl, by decide +kernel, by decide +kernel⟩
noncomputable abbrev s_Flat___init__ : Stmt := inClass (top 15) 0
theorem sc_Flat___init__ : FnScope ["self", "cycle", "rise", "ends"] ["self", "cycle", "rise", "ends"] (defScope s_Flat___init__) := ⟨rfl, rfl, rfl, by decide +kernel, rfl, by decide +kernel, by decide +kernel⟩
noncomputable abbrev s_Flat_end : Stmt := inClass (top 15) 1
theorem sc_Flat_end : FnScope ["self", "price"] ["self", "price"] (defScope s_Flat_end) := ⟨rfl, rfl, rfl, by decide +kernel, rfl, by decide +kernel, by decide +kernel⟩
noncomputable abbrev s_flatten : Stmt := top 16
theorem sc_flatten : FnScope ["chain", "found", "ends", "least"] ["chain"] (defScope s_flatten) := ⟨rfl, rfl, rfl, by decide +kernel, rfl, by decide +kernel, by decide +kernel⟩
noncomputable abbrev s_some_cycle : Stmt := top 17
theorem sc_some_cycle : FnScope ["chain", "cycle", "rise", "step", "own", "many"] ["chain"] (defScope s_some_cycle) := ⟨rfl, rfl, rfl, by decide +kernel, rfl, by decide +kernel, by decide +kernel⟩
noncomputable abbrev s_first_ends : Stmt := top 18
theorem sc_first_ends : FnScope ["chain", "many", "ends", "step"] ["chain", "many"] (defScope s_first_ends) := ⟨rfl, rfl, rfl, by decide +kernel, rfl, by decide +kernel, by decide +kernel⟩
noncomputable abbrev s_least_cycle : Stmt := top 19
theorem sc_least_cycle : FnScope ["ends", "rise", "cycle", "prime"] ["ends", "rise"] (defScope s_least_cycle) := ⟨rfl, rfl, rfl, by decide +kernel, rfl, by decide +kernel, by decide +kernel⟩
noncomputable abbrev s_repeats : Stmt := top 20
theorem sc_repeats : FnScope ["ends", "part", "rise", "price"] ["ends", "part", "rise"] (defScope s_repeats) := ⟨rfl, rfl, rfl, by decide +kernel, rfl, by decide +kernel, by decide +kernel⟩
noncomputable abbrev s_parting : Stmt := top 22
theorem sc_parting : FnScope ["one", "other", "first", "second", "price"] ["one", "other"] (defScope s_parting) := ⟨rfl, rfl, rfl, by decide +kernel, rfl, by decide +kernel, by decide +kernel⟩
noncomputable abbrev s_alike : Stmt := top 23
theorem sc_alike : FnScope ["one", "other"] ["one", "other"] (defScope s_alike) := ⟨rfl, rfl, rfl, by decide +kernel, rfl, by decide +kernel, by decide +kernel⟩
noncomputable abbrev s_law_at : Stmt := top 25
theorem sc_law_at : FnScope ["_law_script", "_law_k"] ["_law_script", "_law_k"] (defScope s_law_at) := ⟨rfl, rfl, rfl, by decide +kernel, rfl, by decide +kernel, by decide +kernel⟩
noncomputable abbrev s_law_draw : Stmt := top 26
theorem sc_law_draw : FnScope ["_law_script", "_law_k", "_law_cell"] ["_law_script", "_law_k"] (defScope s_law_draw) := ⟨rfl, rfl, rfl, by decide +kernel, rfl, by decide +kernel, by decide +kernel⟩
noncomputable abbrev s_law_whole : Stmt := top 27
theorem sc_law_whole : FnScope ["_law_found"] ["_law_found"] (defScope s_law_whole) := ⟨rfl, rfl, rfl, by decide +kernel, rfl, by decide +kernel, by decide +kernel⟩
noncomputable abbrev s_law_gcd : Stmt := top 28
theorem sc_law_gcd : FnScope ["_law_one", "_law_other"] ["_law_one", "_law_other"] (defScope s_law_gcd) := ⟨rfl, rfl, rfl, by decide +kernel, rfl, by decide +kernel, by decide +kernel⟩
noncomputable abbrev s_law_step : Stmt := top 29
theorem sc_law_step : FnScope ["_law_cell", "_law_size", "_law_most", "_law_units", "_law_word", "_law_left", "_law_bottom", "_law_top", "_law_unit", "_law_way", "_law_pennies"] ["_law_cell", "_law_size"] (defScope s_law_step) := ⟨rfl, rfl, rfl, by decide +kernel, rfl, by decide +kernel, by decide +kernel⟩
noncomputable abbrev s_law_num : Stmt := top 30
theorem sc_law_num : FnScope ["_law_step_here"] ["_law_step_here"] (defScope s_law_num) := ⟨rfl, rfl, rfl, by decide +kernel, rfl, by decide +kernel, by decide +kernel⟩
noncomputable abbrev s_law_own : Stmt := top 31
theorem sc_law_own : FnScope ["_law_step_here", "_law_wide"] ["_law_step_here"] (defScope s_law_own) := ⟨rfl, rfl, rfl, by decide +kernel, rfl, by decide +kernel, by decide +kernel⟩
noncomputable abbrev s_law_product : Stmt := top 32
theorem sc_law_product : FnScope ["_law_steps", "_law_wide", "_law_step_here"] ["_law_steps"] (defScope s_law_product) := ⟨rfl, rfl, rfl, by decide +kernel, rfl, by decide +kernel, by decide +kernel⟩
noncomputable abbrev s_law_chain : Stmt := top 33
theorem sc_law_chain : FnScope ["_law_script", "_law_base", "_law_many", "_law_limit", "_law_size", "_law_steps", "_law_k", "_law_cell", "_law_step_here"] ["_law_script", "_law_base", "_law_many", "_law_limit"] (defScope s_law_chain) := ⟨rfl, rfl, rfl, by decide +kernel, rfl, by decide +kernel, by decide +kernel⟩
noncomputable abbrev s_law_worded : Stmt := top 34
theorem sc_law_worded : FnScope ["_law_step_here", "_law_word", "_law_top", "_law_bottom", "_law_pennies", "_law_way", "_law_unit"] ["_law_step_here"] (defScope s_law_worded) := ⟨rfl, rfl, rfl, by decide +kernel, rfl, by decide +kernel, by decide +kernel⟩
noncomputable abbrev s_law_there_and_back : Stmt := top 35
theorem sc_law_there_and_back : FnScope ["_law_cell", "_law_bottom", "_law_top", "_law_ways"] ["_law_cell"] (defScope s_law_there_and_back) := ⟨rfl, rfl, rfl, by decide +kernel, rfl, by decide +kernel, by decide +kernel⟩
noncomputable abbrev s_law_short : Stmt := top 36
theorem sc_law_short : FnScope ["_law_made", "_law_steps"] ["_law_made", "_law_steps"] (defScope s_law_short) := ⟨rfl, rfl, rfl, by decide +kernel, rfl, by decide +kernel, by decide +kernel⟩
noncomputable abbrev s_law_anew : Stmt := top 37
theorem sc_law_anew : FnScope ["_law_steps", "_law_cell", "_law_kind", "_law_left", "_law_at_here", "_law_new", "_law_word", "_law_top", "_law_bottom", "_law_pennies", "_law_way", "_law_unit", "_law_more"] ["_law_steps", "_law_cell"] (defScope s_law_anew) := ⟨rfl, rfl, rfl, by decide +kernel, rfl, by decide +kernel, by decide +kernel⟩
noncomputable abbrev s_law : Stmt := top 38
theorem sc_law : FnScope ["_law_script", "_law_one", "_law_two", "_law_k", "_law_pair", "_law_three", "_law_found"] ["_law_script"] (defScope s_law) := ⟨rfl, rfl, rfl, by decide +kernel, rfl, by decide +kernel, by decide +kernel⟩
structure Txt_Flat (K : PySem.W.Frag) (mg : Str → Option Value) : Prop where
  cl : Cls K (clsAt K "Flat")
  g : mg "Flat" = some (.ref (clsAt K "Flat"))
  ha : PySem.W.findIn K (.ref (clsAt K "Flat")) "__class__" = some (some (.builtin "object.__class__"))
  hn : PySem.W.specialIn K (.builtin "object.__class__") "__get__" = some (some (.builtin "getset_descriptor.__get__"))
  htk : PySem.W.takesIn K (.builtin "object.__class__") = some true
  hm : PySem.W.mroIn K (clsAt K "Flat") (.type "object") = some true
  n_cycle : NoAttr K (clsAt K "Flat") "cycle"
  n_rise : NoAttr K (clsAt K "Flat") "rise"
  n_ends : NoAttr K (clsAt K "Flat") "ends"
theorem lk_check_price_0 : (defScope s_check_price).names.lookup ("price" : Str) = some .local := by decide +kernel
theorem pv_check_price_0 {X : Cx} (c : CxIs X ["price"] (defScope s_check_price)) {pos : Pos} : WE X (.Name "price" pos) (tVar 0) := wxv c rfl lk_check_price_0 (by decide) (by decide)
theorem st_check_price (v0 : V) : L2.start ["price"] [v0] = [some v0] := rfl
noncomputable def sp_check_price (K : PySem.W.Frag) : Sp := fun vs H Q _ => ∃ (m : Int), vs = [.int m] ∧ 0 ≤ m ∧ m ≤ 10 ^ 30 ∧ Q .non H
theorem body_check_price {X : Cx} (c : CxIs X ["price"] (defScope s_check_price)) (hr : Room 0 X.A) {E : XK}   {vs : List V} {H : Hp} {Q : VK} (h : sp_check_price X.K vs H Q E) : ∃ t, WSs X (defBody s_check_price) t ∧ t { nx := fun _ H' => Q .non H', rt := Q } (L2.start ["price"] vs) H := by
  · obtain ⟨m, rfl, h0, h1, q⟩ := h
    refine ⟨_, (wss_one (ws_if (WW.pt (ww_or (wt_cmpR op_lt (pv_check_price_0 c) we_int (nomark _)) (ww_or1 (wt_cmpR op_gt (pv_check_price_0 c) (we_op op_pow we_int we_int) (nomark _)))))
      (wss_one ws_never)
      wss_nil)), ?_⟩
    rw [st_check_price]
    refine ⟨_, rfl, _, _, rfl, rfl, _, rfl, ?_⟩
    refine ifF (by omega) ?_
    refine ⟨_, rfl, _, _, rfl, rfl, ⟨by decide, by decide, by decide⟩, _, _, rfl, rfl, _, rfl, ?_⟩
    refine ifF (by rw [show Int.toNat 30 = 30 from rfl]; omega) ?_
    exact q
theorem cal_check_price {P : Program} {w : World} {K : PySem.W.Frag} {mg : Str → Option Value} {base : Heap} {f : Addr} {fd : FuncData} (F : Fun K "check_price" "check_price" s_check_price f fd) (b : Binds K fd ["price"] []) (m : mg "check_price" = some (.ref f))  : Cal P w K mg base "check_price" 1 ["price"] (sp_check_price K) :=
  ⟨f, fd, F.ok sc_check_price (fun vs H Q E h => by first | (obtain ⟨_, rfl, _⟩ := h; rfl) | (obtain ⟨_, _, rfl, _⟩ := h; rfl) | (obtain ⟨_, _, _, rfl, _⟩ := h; rfl) | (obtain ⟨_, _, _, _, rfl, _⟩ := h; rfl) | (obtain ⟨_, _, _, _, _, rfl, _⟩ := h; rfl) | (obtain ⟨_, _, _, _, _, _, rfl, _⟩ := h; rfl) | (obtain ⟨_, _, _, _, _, _, _, rfl, _⟩ := h; rfl) | (obtain ⟨_, _, _, _, _, _, _, _, rfl, _⟩ := h; rfl) | (obtain ⟨_, _, _, _, _, _, _, _, _, rfl, _⟩ := h; rfl)) (fun cdv A outer s H vs Q E hr h => unW (body_check_price (X := (cxOf CX0 P w K mg base ["price"] "check_price" (defScope s_check_price) f cdv A outer s H E).nox) ⟨rfl, rfl, rfl, PassesOwn.never⟩ hr  h)), b, F.kp, m⟩
theorem gcd_turnZ {x y : Int} (hy : 0 < y) : Int.gcd y (x % y) = Int.gcd x y := by
  rw [Int.gcd_comm x y]
  have e : x % y = x - y * (x / y) := Int.emod_def x y
  refine Nat.dvd_antisymm ?_ ?_
  · have a := Int.gcd_dvd_left y (x % y)
    have b := Int.gcd_dvd_right y (x % y)
    have b' : ((Int.gcd y (x % y) : Nat) : Int) ∣ x % y + y * (x / y) := Int.dvd_add b (Int.dvd_mul_of_dvd_left a)
    rw [Int.emod_add_mul_ediv] at b'
    exact Int.dvd_gcd a b'
  · have a := Int.gcd_dvd_left y x
    have b := Int.gcd_dvd_right y x
    refine Int.dvd_gcd a ?_
    rw [e]
    exact Int.dvd_sub b (Int.dvd_mul_of_dvd_left a)
noncomputable def sp_common_divisor (K : PySem.W.Frag) : Sp := fun vs H Q _ => ∃ (x y : Int), vs = [.int x, .int y] ∧ (0 ≤ x ∨ 0 < y) ∧ 0 ≤ y ∧ Q (.int ((Int.gcd x y : Nat) : Int)) H
theorem cal_common_divisor {P : Program} {w : World} {K : PySem.W.Frag} {mg : Str → Option Value} {base : Heap} {f : Addr} {fd : FuncData} (F : Fun K "common_divisor" "common_divisor" s_common_divisor f fd) (b : Binds K fd ["one", "other"] []) (m : mg "common_divisor" = some (.ref f))  : Cal P w K mg base "common_divisor" 1 ["one", "other"] (sp_common_divisor K) := by
  refine ⟨f, fd, F.ok sc_common_divisor (fun vs H Q E h => ?_) (fun cdv A outer s H vs Q E hr h => ?_), b, F.kp, m⟩
  · first | (obtain ⟨_, rfl, _⟩ := h; rfl) | (obtain ⟨_, _, rfl, _⟩ := h; rfl) | (obtain ⟨_, _, _, rfl, _⟩ := h; rfl) | (obtain ⟨_, _, _, _, rfl, _⟩ := h; rfl) | (obtain ⟨_, _, _, _, _, rfl, _⟩ := h; rfl) | (obtain ⟨_, _, _, _, _, _, rfl, _⟩ := h; rfl) | (obtain ⟨_, _, _, _, _, _, _, rfl, _⟩ := h; rfl) | (obtain ⟨_, _, _, _, _, _, _, _, rfl, _⟩ := h; rfl) | (obtain ⟨_, _, _, _, _, _, _, _, _, rfl, _⟩ := h; rfl)
  · obtain ⟨x0, y0, rfl, h1, h2, q⟩ := h
    refine ⟨_, (pss_cons (ps_while PassesOwn.never (pt_cmpR op_gt (pv 1) pe_int (nomark _))
      (pss_cons (ps_set (i := 2) sc_common_divisor.nd rfl (Or.inl rfl) (pe_op op_mod (pv 0) (pv 1)))
      (pss_cons (ps_set (i := 0) sc_common_divisor.nd rfl (Or.inl rfl) (pv 1))
      (pss_one (ps_set (i := 1) sc_common_divisor.nd rfl (Or.inl rfl) (pv 2))))))
      (pss_one (ps_ret (pv 0)))), ?_⟩
    refine while_by (fun σ H' => ∃ x y r, σ = [some (.int x), some (.int y), r] ∧ H' = H ∧ (0 ≤ x ∨ 0 < y) ∧ 0 ≤ y ∧ Int.gcd x y = Int.gcd x0 y0)
      (fun σ _ => match σ with | (_ :: some (.int y) :: _) => y.toNat | _ => 0) ⟨x0, y0, _, rfl, rfl, h1, h2, rfl⟩ ?_ ?_
    · rintro σ H' ⟨x, y, _, rfl, rfl, hx, hy, hg⟩
      refine ⟨_, rfl, _, _, rfl, rfl, _, rfl, ?_⟩
      refine if2 (fun c => ?_) (fun c => ?_)
      · have hm0 := md0 (x := x) c
        have hm1 := md1 (x := x) c
        refine ⟨_, rfl, _, rfl, _, _, rfl, rfl, c, _, rfl, _, rfl, ?_⟩
        refine ⟨⟨y, x % y, _, rfl, rfl, .inl hy, hm0, by rw [gcd_turnZ c]; exact hg⟩, ?_⟩
        show (x % y).toNat < y.toNat
        omega
      · have e := gcd_end (x := x) (y := y) (by omega) (by omega)
        rw [← hg, ← e] at q
        exact ⟨_, rfl, q⟩
    · rintro σ H' R R' hq ⟨v, e, i, j, e1, e2, k, e3, h⟩
      exact ⟨v, e, i, j, e1, e2, k, e3, hq _ _ h⟩
theorem lk_prime_factors_0 : (defScope s_prime_factors).names.lookup ("number" : Str) = some .local := by decide +kernel
theorem pv_prime_factors_0 {X : Cx} (c : CxIs X ["number", "factors", "prime"] (defScope s_prime_factors)) {pos : Pos} : WE X (.Name "number" pos) (tVar 0) := wxv c rfl lk_prime_factors_0 (by decide) (by decide)
theorem ss_prime_factors_0 {X : Cx} (c : CxIs X ["number", "factors", "prime"] (defScope s_prime_factors)) {pos pos' : Pos} {e : Expr} {te : TE} (he : WE X e te) (hs : swapsWith e (some (.Name "number" pos')) pos.line X.env = pure false := by rfl) : WS X (.Assign [.Name "number" pos'] e pos) (tAsg te (gN 0)) := wxs c sc_prime_factors.nd rfl lk_prime_factors_0 he hs
theorem lk_prime_factors_1 : (defScope s_prime_factors).names.lookup ("factors" : Str) = some .local := by decide +kernel
theorem pv_prime_factors_1 {X : Cx} (c : CxIs X ["number", "factors", "prime"] (defScope s_prime_factors)) {pos : Pos} : WE X (.Name "factors" pos) (tVar 1) := wxv c rfl lk_prime_factors_1 (by decide) (by decide)
theorem ss_prime_factors_1 {X : Cx} (c : CxIs X ["number", "factors", "prime"] (defScope s_prime_factors)) {pos pos' : Pos} {e : Expr} {te : TE} (he : WE X e te) (hs : swapsWith e (some (.Name "factors" pos')) pos.line X.env = pure false := by rfl) : WS X (.Assign [.Name "factors" pos'] e pos) (tAsg te (gN 1)) := wxs c sc_prime_factors.nd rfl lk_prime_factors_1 he hs
theorem lk_prime_factors_2 : (defScope s_prime_factors).names.lookup ("prime" : Str) = some .local := by decide +kernel
theorem pv_prime_factors_2 {X : Cx} (c : CxIs X ["number", "factors", "prime"] (defScope s_prime_factors)) {pos : Pos} : WE X (.Name "prime" pos) (tVar 2) := wxv c rfl lk_prime_factors_2 (by decide) (by decide)
theorem ss_prime_factors_2 {X : Cx} (c : CxIs X ["number", "factors", "prime"] (defScope s_prime_factors)) {pos pos' : Pos} {e : Expr} {te : TE} (he : WE X e te) (hs : swapsWith e (some (.Name "prime" pos')) pos.line X.env = pure false := by rfl) : WS X (.Assign [.Name "prime" pos'] e pos) (tAsg te (gN 2)) := wxs c sc_prime_factors.nd rfl lk_prime_factors_2 he hs
theorem st_prime_factors (v0 : V) : L2.start ["number", "factors", "prime"] [v0] = [some v0, none, none] := rfl
noncomputable def sp_prime_factors (K : PySem.W.Frag) : Sp := fun vs H Q _ => ∃ n : Int, vs = [.int n] ∧ 1 ≤ n ∧ n ≤ 20000 ∧ ∀ p H' (fs : List Int), Same H H' → H p = none → H' p = some (.lst (fs.map V.int)) → (∀ z ∈ fs, Prm z) → prodL fs = n → Q (.ref p) H'
theorem body_prime_factors {X : Cx} (c : CxIs X ["number", "factors", "prime"] (defScope s_prime_factors)) (hr : Room 0 X.A) {E : XK}   {vs : List V} {H : Hp} {Q : VK} (h : sp_prime_factors X.K vs H Q E) : ∃ t, WSs X (defBody s_prime_factors) t ∧ t { nx := fun _ H' => Q .non H', rt := Q } (L2.start ["number", "factors", "prime"] vs) H := by
  · obtain ⟨n0, rfl, h1, h2, q⟩ := h
    refine ⟨_, (wss_cons (ss_prime_factors_1 c (we_lstO wa_nil))
      (wss_cons (ss_prime_factors_2 c we_int)
      (wss_cons (ws_while c.own (wt_cmpR op_le (we_op op_mulB (pv_prime_factors_2 c) (pv_prime_factors_2 c)) (pv_prime_factors_0 c) (nomark _))
      (wss_one (ws_if (wt_cmpR op_eq (we_op op_mod (pv_prime_factors_0 c) (pv_prime_factors_2 c)) we_int (nomark _))
      (wss_cons (ws_expr (we_bm PySem.F.plainAttrs_list PySem.F.slot_list_append PySem.F.type_list_append mt_append (pv_prime_factors_1 c) (wa_cons (pv_prime_factors_2 c) wa_nil star_Name)))
      (wss_one (ss_prime_factors_0 c (we_op op_fdivB (pv_prime_factors_0 c) (pv_prime_factors_2 c)))))
      (wss_one (ss_prime_factors_2 c (we_op op_add (pv_prime_factors_2 c) we_int))))))
      (wss_cons (ws_if (wt_cmpR op_gt (pv_prime_factors_0 c) we_int (nomark _))
      (wss_one (ws_expr (we_bm PySem.F.plainAttrs_list PySem.F.slot_list_append PySem.F.type_list_append mt_append (pv_prime_factors_1 c) (wa_cons (pv_prime_factors_0 c) wa_nil star_Name))))
      wss_nil)
      (wss_one (ws_ret (pv_prime_factors_1 c))))))), ?_⟩
    rw [st_prime_factors]
    refine ⟨(small' (by show 0 ≤ 1000; decide)), fun p1 H1 n1 s1 f1 σ e => ?_⟩
    dsimp only [List.set] at e
    subst e
    intro σ e
    dsimp only [List.set] at e
    subst e
    refine while_by (fun σ H' => ∃ n r fs, σ = [some (.int n), some (.ref p1), some (.int r)] ∧ Same H H' ∧ H' p1 = some (.lst (fs.map V.int)) ∧ Fac n0 n r fs ∧ r ≤ 20001)
      (fun σ _ => match σ with | [some (.int n), _, some (.int r)] => (n - r).toNat | _ => 0) ⟨n0, 2, [], rfl, s1, f1, Fac.start h1, by omega⟩ ?_ ?_
    · rintro σ H' ⟨n, r, fs, rfl, s0, f0, F, hr'⟩
      have r2 := F.q2
      have n1' := F.n1
      have fl := F.len
      have n2 : n ≤ n0 := by
        have := Int.natCast_nonneg fs.length
        omega
      refine ⟨_, rfl, _, rfl, _, _, rfl, rfl, mul_r (by omega) (by omega), _, rfl, _, _, rfl, rfl, _, rfl, ?_⟩
      refine if2 (fun c => ?_) (fun c => ?_)
      · have rlt : r < n := by
          have := Int.mul_le_mul_of_nonneg_right r2 (show 0 ≤ r by omega)
          omega
        refine ⟨_, rfl, _, rfl, _, _, rfl, rfl, (show 0 < r by omega), rfl, _, rfl, ?_⟩
        refine if2 (fun d => ?_) (fun d => ?_)
        · obtain ⟨F', lt, _⟩ := F.hit (Int.dvd_of_emod_eq_zero (of_int d))
          have ge : r ≤ n / r := (Int.le_ediv_iff_mul_le (by omega)).mpr c
          refine ⟨_, rfl, .inl ⟨rfl, _, SqL.of f0⟩, _, rfl, p1, _, _, rfl, rfl, f0, Nat.lt_of_le_of_lt (show _ ≤ 20000 by rw [List.length_map]; omega) (by decide), ?_⟩
          refine ⟨_, rfl, _, rfl, _, _, rfl, rfl, ⟨by omega, by omega⟩, fun σ e => ?_⟩
          dsimp only [List.set] at e
          subst e
          refine ⟨⟨_, _, fs ++ [r], rfl, s0.drop n1 rfl, by rw [upd_same, List.map_append]; rfl, F', hr'⟩, ?_⟩
          show (n / r - r).toNat < (n - r).toNat
          omega
        · refine ⟨_, rfl, _, _, rfl, rfl, fun σ e => ?_⟩
          dsimp only [List.set] at e
          subst e
          refine ⟨⟨_, _, fs, rfl, s0, f0, F.miss fun z => of_not_int d (Int.emod_eq_zero_of_dvd z), by omega⟩, ?_⟩
          show (n - (r + 1)).toNat < (n - r).toNat
          omega
      · refine ⟨_, rfl, _, _, rfl, rfl, _, rfl, ?_⟩
        refine if2 (fun d => ?_) (fun d => ?_)
        · obtain ⟨P, E⟩ := F.last (by omega) d
          refine ⟨_, rfl, .inl ⟨rfl, _, SqL.of f0⟩, _, rfl, p1, _, _, rfl, rfl, f0, Nat.lt_of_le_of_lt (show _ ≤ 20000 by rw [List.length_map]; omega) (by decide), ?_⟩
          refine ⟨_, rfl, q p1 _ (fs ++ [n]) (s0.drop n1 rfl) n1 (by rw [upd_same, List.map_append]; rfl) (fun z hz => ?_) E⟩
          rcases List.mem_append.mp hz with y | y
          · exact F.prm z y
          · rw [List.mem_singleton.mp y]; exact P
        · exact ⟨_, rfl, q p1 _ fs s0 n1 f0 F.prm (F.one d)⟩
    · rintro σ H' R R' hq ⟨v, e, v2, e2, i, j, e3, e4, m, v3, e5, i2, j2, e6, e7, k, e8, h⟩
      exact ⟨v, e, v2, e2, i, j, e3, e4, m, v3, e5, i2, j2, e6, e7, k, e8, hq _ _ h⟩
theorem cal_prime_factors {P : Program} {w : World} {K : PySem.W.Frag} {mg : Str → Option Value} {base : Heap} {f : Addr} {fd : FuncData} (F : Fun K "prime_factors" "prime_factors" s_prime_factors f fd) (b : Binds K fd ["number"] []) (m : mg "prime_factors" = some (.ref f))  : Cal P w K mg base "prime_factors" 1 ["number"] (sp_prime_factors K) :=
  ⟨f, fd, F.ok sc_prime_factors (fun vs H Q E h => by first | (obtain ⟨_, rfl, _⟩ := h; rfl) | (obtain ⟨_, _, rfl, _⟩ := h; rfl) | (obtain ⟨_, _, _, rfl, _⟩ := h; rfl) | (obtain ⟨_, _, _, _, rfl, _⟩ := h; rfl) | (obtain ⟨_, _, _, _, _, rfl, _⟩ := h; rfl) | (obtain ⟨_, _, _, _, _, _, rfl, _⟩ := h; rfl) | (obtain ⟨_, _, _, _, _, _, _, rfl, _⟩ := h; rfl) | (obtain ⟨_, _, _, _, _, _, _, _, rfl, _⟩ := h; rfl) | (obtain ⟨_, _, _, _, _, _, _, _, _, rfl, _⟩ := h; rfl)) (fun cdv A outer s H vs Q E hr h => unW (body_prime_factors (X := (cxOf CX0 P w K mg base ["number", "factors", "prime"] "prime_factors" (defScope s_prime_factors) f cdv A outer s H E).nox) ⟨rfl, rfl, rfl, PassesOwn.never⟩ hr  h)), b, F.kp, m⟩
noncomputable def sp_rounded (K : PySem.W.Frag) : Sp := fun vs H Q _ => ∃ (num den unit : Int) (way : Str), vs = [.int num, .int den, .int unit, .str way] ∧ 1 ≤ den ∧ den < 2 ^ 300 ∧ 1 ≤ unit ∧ unit ≤ 100 ∧ Q (.int (roundI num den unit way)) H
theorem cal_rounded {P : Program} {w : World} {K : PySem.W.Frag} {mg : Str → Option Value} {base : Heap} {f : Addr} {fd : FuncData} (F : Fun K "rounded" "rounded" s_rounded f fd) (b : Binds K fd ["num", "den", "unit", "way"] []) (m : mg "rounded" = some (.ref f))  : Cal P w K mg base "rounded" 1 ["num", "den", "unit", "way"] (sp_rounded K) := by
  refine ⟨f, fd, F.ok sc_rounded (fun vs H Q E h => ?_) (fun cdv A outer s H vs Q E hr h => ?_), b, F.kp, m⟩
  · first | (obtain ⟨_, rfl, _⟩ := h; rfl) | (obtain ⟨_, _, rfl, _⟩ := h; rfl) | (obtain ⟨_, _, _, rfl, _⟩ := h; rfl) | (obtain ⟨_, _, _, _, rfl, _⟩ := h; rfl) | (obtain ⟨_, _, _, _, _, rfl, _⟩ := h; rfl) | (obtain ⟨_, _, _, _, _, _, rfl, _⟩ := h; rfl) | (obtain ⟨_, _, _, _, _, _, _, rfl, _⟩ := h; rfl) | (obtain ⟨_, _, _, _, _, _, _, _, rfl, _⟩ := h; rfl) | (obtain ⟨_, _, _, _, _, _, _, _, _, rfl, _⟩ := h; rfl)
  · obtain ⟨num, den, unit, way, rfl, h1, h2, h3, h4, q⟩ := h
    have p0 : 0 < den * unit := Int.mul_pos (by omega) (by omega)
    have p1 : den * unit ≤ den * 100 := Int.mul_le_mul_of_nonneg_left h4 (by omega)
    have p2 : den * unit < 2 ^ 310 := by omega
    have u1 : ∀ z, CMulB z unit := fun z => mul_r (by omega) (by omega)
    refine ⟨_, (pss_cons (ps_set (i := 4) sc_rounded.nd rfl (Or.inl rfl) (pe_op op_mulB (pv 1) (pv 2)))
      (pss_cons (ps_if (pt_cmpR op_eq (pv 3) pe_str (nomark _))
      (pss_one (ps_ret (pe_op op_mulB (pe_op op_fdivB (pv 0) (pv 4)) (pv 2))))
      pss_nil)
      (pss_cons (ps_if (pt_cmpR op_eq (pv 3) pe_str (nomark _))
      (pss_one (ps_ret (pe_op op_mulB (pe_op op_fdivB (pe_op op_sub (pe_op op_add (pv 0) (pv 4)) pe_int) (pv 4)) (pv 2))))
      pss_nil)
      (pss_one (ps_ret (pe_op op_mulB (pe_op op_fdivB (pe_op op_add (pe_op op_mulB pe_int (pv 0)) (pv 4)) (pe_op op_mulB pe_int (pv 4))) (pv 2))))))), ?_⟩
    refine ⟨_, rfl, _, rfl, _, _, rfl, rfl, u1 _, _, rfl, rfl, _, rfl, ?_⟩
    refine if2 (fun c => ?_) (fun c => ?_)
    · have e : roundI num den unit way = num / (den * unit) * unit := if_pos (V.str.inj c)
      rw [e] at q
      exact ⟨_, rfl, _, rfl, _, _, rfl, rfl, ⟨p0, by omega⟩, _, rfl, _, _, rfl, rfl, u1 _, q⟩
    refine ⟨_, rfl, rfl, _, rfl, ?_⟩
    have c' : ¬ way = "down" := fun z => c (by rw [z])
    refine if2 (fun d => ?_) (fun d => ?_)
    · have e : roundI num den unit way = (num + den * unit - 1) / (den * unit) * unit := by unfold roundI; rw [if_neg c', if_pos (V.str.inj d)]
      rw [e] at q
      exact ⟨_, rfl, _, rfl, _, _, rfl, rfl, _, _, rfl, rfl, _, rfl, _, _, rfl, rfl, ⟨p0, by omega⟩, _, rfl, _, _, rfl, rfl, u1 _, q⟩
    · have d' : ¬ way = "up" := fun z => d (by rw [z])
      have e : roundI num den unit way = (2 * num + den * unit) / (2 * (den * unit)) * unit := by unfold roundI; rw [if_neg c', if_neg d']
      rw [e] at q
      exact ⟨_, rfl, _, _, rfl, rfl, mul_l (by decide) (by decide), _, rfl, _, _, rfl, rfl, _, rfl, _, _, rfl, rfl, mul_l (by decide) (by decide), _, _, rfl, rfl, ⟨by omega, by omega⟩, _, rfl, _, _, rfl, rfl, u1 _, q⟩
theorem lk_Flat___init___0 : (defScope s_Flat___init__).names.lookup ("self" : Str) = some .local := by decide +kernel
theorem pv_Flat___init___0 {X : Cx} (c : CxIs X ["self", "cycle", "rise", "ends"] (defScope s_Flat___init__)) {pos : Pos} : WE X (.Name "self" pos) (tVar 0) := wxv c rfl lk_Flat___init___0 (by decide) (by decide)
theorem lk_Flat___init___1 : (defScope s_Flat___init__).names.lookup ("cycle" : Str) = some .local := by decide +kernel
theorem pv_Flat___init___1 {X : Cx} (c : CxIs X ["self", "cycle", "rise", "ends"] (defScope s_Flat___init__)) {pos : Pos} : WE X (.Name "cycle" pos) (tVar 1) := wxv c rfl lk_Flat___init___1 (by decide) (by decide)
theorem lk_Flat___init___2 : (defScope s_Flat___init__).names.lookup ("rise" : Str) = some .local := by decide +kernel
theorem pv_Flat___init___2 {X : Cx} (c : CxIs X ["self", "cycle", "rise", "ends"] (defScope s_Flat___init__)) {pos : Pos} : WE X (.Name "rise" pos) (tVar 2) := wxv c rfl lk_Flat___init___2 (by decide) (by decide)
theorem lk_Flat___init___3 : (defScope s_Flat___init__).names.lookup ("ends" : Str) = some .local := by decide +kernel
theorem pv_Flat___init___3 {X : Cx} (c : CxIs X ["self", "cycle", "rise", "ends"] (defScope s_Flat___init__)) {pos : Pos} : WE X (.Name "ends" pos) (tVar 3) := wxv c rfl lk_Flat___init___3 (by decide) (by decide)
theorem st_Flat___init__ (v0 v1 v2 v3 : V) : L2.start ["self", "cycle", "rise", "ends"] [v0, v1, v2, v3] = [some v0, some v1, some v2, some v3] := rfl
noncomputable def sp_Flat___init__ (K : PySem.W.Frag) : Sp := fun vs H Q _ => ∃ (x dx p : Addr) (cc r : Int) (es : List Int), vs = [.ref x, .int cc, .int r, .ref p] ∧ H x = some (.ins (clsAt K "Flat") dx []) ∧ SqT K H p (es.map V.int) ∧ (∀ H', FlatAt K H' x cc r es → (∀ b o, H b = some o → b ≠ x → H' b = some o) → Q .non H')
theorem body_Flat___init__ {X : Cx} (c : CxIs X ["self", "cycle", "rise", "ends"] (defScope s_Flat___init__)) (hr : Room 0 X.A) {E : XK}  (T_Flat : Txt_Flat X.K X.mg) {vs : List V} {H : Hp} {Q : VK} (h : sp_Flat___init__ X.K vs H Q E) : ∃ t, WSs X (defBody s_Flat___init__) t ∧ t { nx := fun _ H' => Q .non H', rt := Q } (L2.start ["self", "cycle", "rise", "ends"] vs) H := by
  · obtain ⟨x, dx, p, cc, r, es, rfl, hx, hT, q⟩ := h
    refine ⟨_, (wss_cons (ws_fld (pv_Flat___init___0 c) (pv_Flat___init___1 c) rfl)
      (wss_cons (ws_fld (pv_Flat___init___0 c) (pv_Flat___init___2 c) rfl)
      (wss_one (ws_fld (pv_Flat___init___0 c) (pv_Flat___init___3 c) rfl)))), ?_⟩
    rw [st_Flat___init__]
    refine ⟨_, rfl, _, rfl, x, _, dx, _, rfl, hx, T_Flat.cl, T_Flat.n_cycle, (by show 0 < 1000; decide), ?_⟩
    refine ⟨_, rfl, _, rfl, x, _, dx, _, rfl, upd_same, T_Flat.cl, T_Flat.n_rise, Nat.lt_of_le_of_lt (length_putF _ _ _) (by decide), ?_⟩
    refine ⟨_, rfl, _, rfl, x, _, dx, _, rfl, upd_same, T_Flat.cl, T_Flat.n_ends, Nat.lt_of_le_of_lt (length_putF _ _ _) (by have := length_putF "cycle" (V.int cc) []; have e : ([] : List (Str × V)).length = 0 := rfl; omega), ?_⟩
    refine q _ ⟨dx, _, p, upd_same, ?_, ?_, ?_, ?_, ?_⟩ ?_
    · rw [lookup_putF, if_neg (by decide +kernel), lookup_putF, if_neg (by decide +kernel), lookup_putF, if_pos rfl]
    · rw [lookup_putF, if_neg (by decide +kernel), lookup_putF, if_pos rfl]
    · rw [lookup_putF, if_pos rfl]
    · rw [lookup_putF, if_neg (by decide +kernel), lookup_putF, if_neg (by decide +kernel), lookup_putF, if_neg (by decide +kernel)]; rfl
    · exact ((hT.updI hx).updI upd_same).updI upd_same
    · intro b o hb hn
      rw [upd_ne hn, upd_ne hn, upd_ne hn]; exact hb
theorem cal_Flat___init__ {P : Program} {w : World} {K : PySem.W.Frag} {mg : Str → Option Value} {base : Heap} {f : Addr} {fd : FuncData} (F : Fun K "__init__" "Flat.__init__" s_Flat___init__ f fd) (b : Binds K fd ["self", "cycle", "rise", "ends"] []) (m : Mk K (clsAt K "Flat") f) (T_Flat : Txt_Flat K mg) : CalI P w K mg base (clsAt K "Flat") 1 ["self", "cycle", "rise", "ends"] (sp_Flat___init__ K) :=
  ⟨f, fd, F.ok sc_Flat___init__ (fun vs H Q E h => by first | (obtain ⟨_, rfl, _⟩ := h; rfl) | (obtain ⟨_, _, rfl, _⟩ := h; rfl) | (obtain ⟨_, _, _, rfl, _⟩ := h; rfl) | (obtain ⟨_, _, _, _, rfl, _⟩ := h; rfl) | (obtain ⟨_, _, _, _, _, rfl, _⟩ := h; rfl) | (obtain ⟨_, _, _, _, _, _, rfl, _⟩ := h; rfl) | (obtain ⟨_, _, _, _, _, _, _, rfl, _⟩ := h; rfl) | (obtain ⟨_, _, _, _, _, _, _, _, rfl, _⟩ := h; rfl) | (obtain ⟨_, _, _, _, _, _, _, _, _, rfl, _⟩ := h; rfl)) (fun cdv A outer s H vs Q E hr h => unW (body_Flat___init__ (X := (cxOf CX0 P w K mg base ["self", "cycle", "rise", "ends"] "Flat.__init__" (defScope s_Flat___init__) f cdv A outer s H E).nox) ⟨rfl, rfl, rfl, PassesOwn.never⟩ hr T_Flat h)), b, m⟩
theorem lk_repeats_0 : (defScope s_repeats).names.lookup ("ends" : Str) = some .local := by decide +kernel
theorem pv_repeats_0 {X : Cx} (c : CxIs X ["ends", "part", "rise", "price"] (defScope s_repeats)) {pos : Pos} : WE X (.Name "ends" pos) (tVar 0) := wxv c rfl lk_repeats_0 (by decide) (by decide)
theorem lk_repeats_1 : (defScope s_repeats).names.lookup ("part" : Str) = some .local := by decide +kernel
theorem pv_repeats_1 {X : Cx} (c : CxIs X ["ends", "part", "rise", "price"] (defScope s_repeats)) {pos : Pos} : WE X (.Name "part" pos) (tVar 1) := wxv c rfl lk_repeats_1 (by decide) (by decide)
theorem lk_repeats_2 : (defScope s_repeats).names.lookup ("rise" : Str) = some .local := by decide +kernel
theorem pv_repeats_2 {X : Cx} (c : CxIs X ["ends", "part", "rise", "price"] (defScope s_repeats)) {pos : Pos} : WE X (.Name "rise" pos) (tVar 2) := wxv c rfl lk_repeats_2 (by decide) (by decide)
theorem lk_repeats_3 : (defScope s_repeats).names.lookup ("price" : Str) = some .local := by decide +kernel
theorem pv_repeats_3 {X : Cx} (c : CxIs X ["ends", "part", "rise", "price"] (defScope s_repeats)) {pos : Pos} : WE X (.Name "price" pos) (tVar 3) := wxv c rfl lk_repeats_3 (by decide) (by decide)
theorem sg_repeats_3 {X : Cx} (c : CxIs X ["ends", "part", "rise", "price"] (defScope s_repeats)) {pos : Pos} : WG X (.Name "price" pos) (gN 3) := wxt c sc_repeats.nd rfl lk_repeats_3
theorem gl_repeats_range {X : Cx} (c : CxIs X ["ends", "part", "rise", "price"] (defScope s_repeats)) : Gl X "range" := xg c (by decide +kernel)
theorem gl_repeats_len {X : Cx} (c : CxIs X ["ends", "part", "rise", "price"] (defScope s_repeats)) : Gl X "len" := xg c (by decide +kernel)
theorem st_repeats (v0 v1 v2 : V) : L2.start ["ends", "part", "rise", "price"] [v0, v1, v2] = [some v0, some v1, some v2, none] := rfl
noncomputable def sp_repeats (K : PySem.W.Frag) : Sp := fun vs H Q _ => ∃ (a : Addr) (sts : List StepD) (c part rise : Int), vs = [.ref a, .int part, .int rise] ∧ SqL K H a ((endsI sts c).map V.int) ∧ 0 ≤ c ∧ c ≤ 20000 ∧ 1 ≤ part ∧ part ≤ 20000 ∧
  ((∀ q, 0 ≤ q → q + part < c → endI sts (q + part) = endI sts q + rise) → Q (.bl true) H) ∧ ((¬ ∀ q, 0 ≤ q → q + part < c → endI sts (q + part) = endI sts q + rise) → Q (.bl false) H)
theorem body_repeats {X : Cx} (c : CxIs X ["ends", "part", "rise", "price"] (defScope s_repeats)) (hr : Room 0 X.A) {E : XK}  (z_range : X.mg "range" = none) (z_len : X.mg "len" = none) {vs : List V} {H : Hp} {Q : VK} (h : sp_repeats X.K vs H Q E) : ∃ t, WSs X (defBody s_repeats) t ∧ t { nx := fun _ H' => Q .non H', rt := Q } (L2.start ["ends", "part", "rise", "price"] vs) H := by
  · obtain ⟨a, sts, cc, part, rise, rfl, hL, c0, c1, p0, p1, qt, qf⟩ := h
    refine ⟨_, (wss_cons (ws_for c.own c.calm (wi_range2 (gl_repeats_range c) z_range (wa_cons (pv_repeats_1 c) (wa_cons (we_callB call_len_seq (gl_repeats_len c) z_len PySem.boot_len (wa_cons (pv_repeats_0 c) wa_nil star_Name)) wa_nil star_Call) star_Name)) (sg_repeats_3 c)
      (wss_one (ws_if (wt_cmpR op_ne (we_ix ix_list (pv_repeats_0 c) (pv_repeats_3 c) plain_Name) (we_op op_add (we_ix ix_list (pv_repeats_0 c) (we_op op_sub (pv_repeats_3 c) (pv_repeats_1 c)) plain_BinOp) (pv_repeats_2 c)) (nomark _))
      (wss_one (ws_ret we_bl))
      wss_nil)))
      (wss_one (ws_ret we_bl))), ?_⟩
    rw [st_repeats]
    have hl : ((endsI sts cc).map V.int).length = cc.toNat := endsI_size
    refine ⟨_, rfl, _, rfl, _, _, rfl, .inl hL, _, _, rfl, ⟨by omega, by omega, by rw [hl]; omega, by rw [hl]; omega⟩, for_range (fun i σ H' => H' = H ∧ (∀ q : Int, 0 ≤ q → q < (i : Int) → q + part < cc → endI sts (q + part) = endI sts q + rise) ∧ ∃ v, σ = [some (.ref a), some (.int part), some (.int rise), v])
      ⟨rfl, fun q _ _ => by omega, _, rfl⟩ ?_ ?_⟩
    · rintro i σ H' hi ⟨rfl, hq, v, rfl⟩ σ e
      dsimp only [List.set] at e
      subst e
      rw [hl] at hi
      have a1 := endsI_at (sts := sts) (c := cc) (i := part + (i : Int)) (by omega) (by omega)
      have a2 := endsI_at (sts := sts) (c := cc) (i := part + (i : Int) - part) (by omega) (by omega)
      refine ⟨_, rfl, _, rfl, a, _, _, _, rfl, rfl, hL, a1, _, rfl, _, rfl, _, rfl, _, _, rfl, rfl, a, _, _, _, rfl, rfl, hL, a2, _, rfl, _, _, rfl, rfl, rfl, _, rfl, ?_⟩
      refine ifn2 (fun d => ?_) (fun d => ?_)
      · refine qf fun z => ?_
        have := z (i : Int) (by omega) (by omega)
        rw [show part + (i : Int) - part = i by omega, Int.add_comm part] at d
        exact of_not_int d this
      · refine ⟨rfl, fun q q0 q1 q2 => ?_, _, rfl⟩
        by_cases hlt : q < (i : Int)
        · exact hq q q0 hlt q2
        · have : q = i := by omega
          subst this
          have d' := of_int d
          rw [show part + (i : Int) - part = i by omega, Int.add_comm part] at d'
          exact d'
    · rintro σ H' ⟨rfl, hq, v, rfl⟩
      rw [hl] at hq
      exact qt fun q q0 q2 => hq q q0 (by omega) q2
theorem cal_repeats {P : Program} {w : World} {K : PySem.W.Frag} {mg : Str → Option Value} {base : Heap} {f : Addr} {fd : FuncData} (F : Fun K "repeats" "repeats" s_repeats f fd) (b : Binds K fd ["ends", "part", "rise"] []) (m : mg "repeats" = some (.ref f)) (z_range : mg "range" = none) (z_len : mg "len" = none) : Cal P w K mg base "repeats" 1 ["ends", "part", "rise"] (sp_repeats K) :=
  ⟨f, fd, F.ok sc_repeats (fun vs H Q E h => by first | (obtain ⟨_, rfl, _⟩ := h; rfl) | (obtain ⟨_, _, rfl, _⟩ := h; rfl) | (obtain ⟨_, _, _, rfl, _⟩ := h; rfl) | (obtain ⟨_, _, _, _, rfl, _⟩ := h; rfl) | (obtain ⟨_, _, _, _, _, rfl, _⟩ := h; rfl) | (obtain ⟨_, _, _, _, _, _, rfl, _⟩ := h; rfl) | (obtain ⟨_, _, _, _, _, _, _, rfl, _⟩ := h; rfl) | (obtain ⟨_, _, _, _, _, _, _, _, rfl, _⟩ := h; rfl) | (obtain ⟨_, _, _, _, _, _, _, _, _, rfl, _⟩ := h; rfl)) (fun cdv A outer s H vs Q E hr h => unW (body_repeats (X := (cxOf CX0 P w K mg base ["ends", "part", "rise", "price"] "repeats" (defScope s_repeats) f cdv A outer s H E).nox) ⟨rfl, rfl, rfl, PassesOwn.never⟩ hr z_range z_len h)), b, F.kp, m⟩
noncomputable def cell (ns : List Int) (k : Int) : Int := ns.getD k.toNat 0
noncomputable def sp_law_at (K : PySem.W.Frag) : Sp := fun vs H Q _ => ∃ (a : Addr) (ns : List Int) (k : Int), vs = [.ref a, .int k] ∧ SqL K H a (ns.map V.int) ∧ 0 ≤ k ∧ Q (.int (cell ns k)) H
theorem cal_law_at {P : Program} {w : World} {K : PySem.W.Frag} {mg : Str → Option Value} {base : Heap} {f : Addr} {fd : FuncData} (F : Fun K "_law_at" "_law_at" s_law_at f fd) (b : Binds K fd ["_law_script", "_law_k"] []) (m : mg "_law_at" = some (.ref f)) (z_len : mg "len" = none) : Cal P w K mg base "_law_at" 1 ["_law_script", "_law_k"] (sp_law_at K) := by
  refine ⟨f, fd, F.ok sc_law_at (fun vs H Q E h => ?_) (fun cdv A outer s H vs Q E hr h => ?_), b, F.kp, m⟩
  · first | (obtain ⟨_, rfl, _⟩ := h; rfl) | (obtain ⟨_, _, rfl, _⟩ := h; rfl) | (obtain ⟨_, _, _, rfl, _⟩ := h; rfl) | (obtain ⟨_, _, _, _, rfl, _⟩ := h; rfl) | (obtain ⟨_, _, _, _, _, rfl, _⟩ := h; rfl) | (obtain ⟨_, _, _, _, _, _, rfl, _⟩ := h; rfl) | (obtain ⟨_, _, _, _, _, _, _, rfl, _⟩ := h; rfl) | (obtain ⟨_, _, _, _, _, _, _, _, rfl, _⟩ := h; rfl) | (obtain ⟨_, _, _, _, _, _, _, _, _, rfl, _⟩ := h; rfl)
  · obtain ⟨a, ns, k, rfl, hS, h0, q⟩ := h
    have hl : (ns.map V.int).length = ns.length := List.length_map _
    refine ⟨_, (pss_cons (ps_if (pt_cmpR op_lt (pv 1) (pe_callB call_len_seq rfl z_len PySem.boot_len (pa_cons (pv 0) pa_nil)) (nomark _))
      (pss_one (ps_ret (pe_ix ix_list (pv 0) (pv 1) (fun _ _ => rfl))))
      pss_nil)
      (pss_one (ps_ret pe_int))), ?_⟩
    refine ⟨_, rfl, _, rfl, a, _, rfl, .inl hS, _, _, rfl, rfl, _, rfl, ?_⟩
    refine if2 (fun c => ?_) (fun c => ?_)
    · rw [hl] at c
      have hk : k.toNat < ns.length := by omega
      have e : cell ns k = ns[k.toNat] := by unfold cell; simp [List.getD, hk]
      have hv : atI (ns.map V.int) k = some (.int (cell ns k)) := by
        have q := atI_nat (xs := ns.map V.int) (j := k.toNat) (v := .int ns[k.toNat]) (by rw [List.getElem?_map, List.getElem?_eq_getElem hk]; rfl)
        rw [show ((k.toNat : Nat) : Int) = k by omega] at q
        rw [e]; exact q
      exact ⟨_, rfl, _, rfl, a, _, _, _, rfl, rfl, hS, hv, q⟩
    · rw [hl] at c
      have e : cell ns k = 0 := by unfold cell; simp [List.getD, show ns.length ≤ k.toNat by omega]
      rw [e] at q
      exact q
noncomputable def sp_law_whole (K : PySem.W.Frag) : Sp := fun vs H Q _ => ∃ (i : Int), vs = [.int i] ∧ Q (.bl true) H
theorem cal_law_whole {P : Program} {w : World} {K : PySem.W.Frag} {mg : Str → Option Value} {base : Heap} {f : Addr} {fd : FuncData} (F : Fun K "_law_whole" "_law_whole" s_law_whole f fd) (b : Binds K fd ["_law_found"] []) (m : mg "_law_whole" = some (.ref f)) (z_isinstance : mg "isinstance" = none) (z_int : mg "int" = none) (z_bool : mg "bool" = none) : Cal P w K mg base "_law_whole" 1 ["_law_found"] (sp_law_whole K) := by
  refine ⟨f, fd, F.ok sc_law_whole (fun vs H Q E h => ?_) (fun cdv A outer s H vs Q E hr h => ?_), b, F.kp, m⟩
  · first | (obtain ⟨_, rfl, _⟩ := h; rfl) | (obtain ⟨_, _, rfl, _⟩ := h; rfl) | (obtain ⟨_, _, _, rfl, _⟩ := h; rfl) | (obtain ⟨_, _, _, _, rfl, _⟩ := h; rfl) | (obtain ⟨_, _, _, _, _, rfl, _⟩ := h; rfl) | (obtain ⟨_, _, _, _, _, _, rfl, _⟩ := h; rfl) | (obtain ⟨_, _, _, _, _, _, _, rfl, _⟩ := h; rfl) | (obtain ⟨_, _, _, _, _, _, _, _, rfl, _⟩ := h; rfl) | (obtain ⟨_, _, _, _, _, _, _, _, _, rfl, _⟩ := h; rfl)
  · obtain ⟨i, rfl, q⟩ := h
    refine ⟨_, (pss_one (ps_ret (pe_and (pe_callB call_isinst rfl z_isinstance boot_isinstance (pa_cons (pv 0) (pa_cons (pe_bltn (v := .ty "int") rfl z_int boot_ty_int rfl) pa_nil))) (pe_one (pe_not (pe_callB call_isinst rfl z_isinstance boot_isinstance (pa_cons (pv 0) (pa_cons (pe_bltn (v := .ty "bool") rfl z_bool boot_ty_bool rfl) pa_nil)))))))), ?_⟩
    refine ⟨_, rfl, _, _, _, _, rfl, TyS.int, kit_int_int, _, rfl, ?_⟩
    refine iteT ?_
    exact ⟨_, rfl, _, _, _, _, rfl, TyS.int, kit_int_bool, _, rfl, q⟩
noncomputable def sp_law_gcd (K : PySem.W.Frag) : Sp := fun vs H Q _ => ∃ (x y : Int), vs = [.int x, .int y] ∧ 0 ≤ x ∧ 0 ≤ y ∧ Q (.int ((Int.gcd x y : Nat) : Int)) H
theorem cal_law_gcd {P : Program} {w : World} {K : PySem.W.Frag} {mg : Str → Option Value} {base : Heap} {f : Addr} {fd : FuncData} (F : Fun K "_law_gcd" "_law_gcd" s_law_gcd f fd) (b : Binds K fd ["_law_one", "_law_other"] []) (m : mg "_law_gcd" = some (.ref f))  : Cal P w K mg base "_law_gcd" 1 ["_law_one", "_law_other"] (sp_law_gcd K) := by
  refine ⟨f, fd, F.ok sc_law_gcd (fun vs H Q E h => ?_) (fun cdv A outer s H vs Q E hr h => ?_), b, F.kp, m⟩
  · first | (obtain ⟨_, rfl, _⟩ := h; rfl) | (obtain ⟨_, _, rfl, _⟩ := h; rfl) | (obtain ⟨_, _, _, rfl, _⟩ := h; rfl) | (obtain ⟨_, _, _, _, rfl, _⟩ := h; rfl) | (obtain ⟨_, _, _, _, _, rfl, _⟩ := h; rfl) | (obtain ⟨_, _, _, _, _, _, rfl, _⟩ := h; rfl) | (obtain ⟨_, _, _, _, _, _, _, rfl, _⟩ := h; rfl) | (obtain ⟨_, _, _, _, _, _, _, _, rfl, _⟩ := h; rfl) | (obtain ⟨_, _, _, _, _, _, _, _, _, rfl, _⟩ := h; rfl)
  · obtain ⟨x0, y0, rfl, h1, h2, q⟩ := h
    refine ⟨_, (pss_cons (ps_while PassesOwn.never (pt_cmpR op_gt (pv 1) pe_int (nomark _))
      (pss_one (ps_par (i := 0) (j := 1) rfl sc_law_gcd.nd rfl rfl (by decide) rfl rfl (pa_cons (pv 1) (pa_cons (pe_op op_mod (pv 0) (pv 1)) pa_nil)) rfl)))
      (pss_one (ps_ret (pv 0)))), ?_⟩
    refine while_by (fun σ H' => ∃ x y , σ = [some (.int x), some (.int y)] ∧ H' = H ∧ 0 ≤ x ∧ 0 ≤ y ∧ Int.gcd x y = Int.gcd x0 y0)
      (fun σ _ => match σ with | (_ :: some (.int y) :: _) => y.toNat | _ => 0) ⟨x0, y0, rfl, rfl, h1, h2, rfl⟩ ?_ ?_
    · rintro σ H' ⟨x, y, rfl, rfl, hx, hy, hg⟩
      refine ⟨_, rfl, _, _, rfl, rfl, _, rfl, ?_⟩
      refine if2 (fun c => ?_) (fun c => ?_)
      · have hm0 := md0 (x := x) c
        have hm1 := md1 (x := x) c
        refine ⟨_, rfl, _, rfl, _, rfl, _, _, rfl, rfl, c, _, _, rfl, ?_⟩
        refine ⟨⟨y, x % y, rfl, rfl, hy, hm0, by rw [gcd_turn hx c]; exact hg⟩, ?_⟩
        show (x % y).toNat < y.toNat
        omega
      · have e := gcd_end (y := y) hx (by omega)
        rw [← hg, ← e] at q
        exact ⟨_, rfl, q⟩
    · rintro σ H' R R' hq ⟨v, e, i, j, e1, e2, k, e3, h⟩
      exact ⟨v, e, i, j, e1, e2, k, e3, hq _ _ h⟩
theorem lk_law_step_0 : (defScope s_law_step).names.lookup ("_law_cell" : Str) = some .local := by decide +kernel
theorem pv_law_step_0 {X : Cx} (c : CxIs X ["_law_cell", "_law_size", "_law_most", "_law_units", "_law_word", "_law_left", "_law_bottom", "_law_top", "_law_unit", "_law_way", "_law_pennies"] (defScope s_law_step)) {pos : Pos} : WE X (.Name "_law_cell" pos) (tVar 0) := wxv c rfl lk_law_step_0 (by decide) (by decide)
theorem lk_law_step_1 : (defScope s_law_step).names.lookup ("_law_size" : Str) = some .local := by decide +kernel
theorem pv_law_step_1 {X : Cx} (c : CxIs X ["_law_cell", "_law_size", "_law_most", "_law_units", "_law_word", "_law_left", "_law_bottom", "_law_top", "_law_unit", "_law_way", "_law_pennies"] (defScope s_law_step)) {pos : Pos} : WE X (.Name "_law_size" pos) (tVar 1) := wxv c rfl lk_law_step_1 (by decide) (by decide)
theorem lk_law_step_2 : (defScope s_law_step).names.lookup ("_law_most" : Str) = some .local := by decide +kernel
theorem pv_law_step_2 {X : Cx} (c : CxIs X ["_law_cell", "_law_size", "_law_most", "_law_units", "_law_word", "_law_left", "_law_bottom", "_law_top", "_law_unit", "_law_way", "_law_pennies"] (defScope s_law_step)) {pos : Pos} : WE X (.Name "_law_most" pos) (tVar 2) := wxv c rfl lk_law_step_2 (by decide) (by decide)
theorem ss_law_step_2 {X : Cx} (c : CxIs X ["_law_cell", "_law_size", "_law_most", "_law_units", "_law_word", "_law_left", "_law_bottom", "_law_top", "_law_unit", "_law_way", "_law_pennies"] (defScope s_law_step)) {pos pos' : Pos} {e : Expr} {te : TE} (he : WE X e te) (hs : swapsWith e (some (.Name "_law_most" pos')) pos.line X.env = pure false := by rfl) : WS X (.Assign [.Name "_law_most" pos'] e pos) (tAsg te (gN 2)) := wxs c sc_law_step.nd rfl lk_law_step_2 he hs
theorem lk_law_step_3 : (defScope s_law_step).names.lookup ("_law_units" : Str) = some .local := by decide +kernel
theorem pv_law_step_3 {X : Cx} (c : CxIs X ["_law_cell", "_law_size", "_law_most", "_law_units", "_law_word", "_law_left", "_law_bottom", "_law_top", "_law_unit", "_law_way", "_law_pennies"] (defScope s_law_step)) {pos : Pos} : WE X (.Name "_law_units" pos) (tVar 3) := wxv c rfl lk_law_step_3 (by decide) (by decide)
theorem ss_law_step_3 {X : Cx} (c : CxIs X ["_law_cell", "_law_size", "_law_most", "_law_units", "_law_word", "_law_left", "_law_bottom", "_law_top", "_law_unit", "_law_way", "_law_pennies"] (defScope s_law_step)) {pos pos' : Pos} {e : Expr} {te : TE} (he : WE X e te) (hs : swapsWith e (some (.Name "_law_units" pos')) pos.line X.env = pure false := by rfl) : WS X (.Assign [.Name "_law_units" pos'] e pos) (tAsg te (gN 3)) := wxs c sc_law_step.nd rfl lk_law_step_3 he hs
theorem lk_law_step_4 : (defScope s_law_step).names.lookup ("_law_word" : Str) = some .local := by decide +kernel
theorem pv_law_step_4 {X : Cx} (c : CxIs X ["_law_cell", "_law_size", "_law_most", "_law_units", "_law_word", "_law_left", "_law_bottom", "_law_top", "_law_unit", "_law_way", "_law_pennies"] (defScope s_law_step)) {pos : Pos} : WE X (.Name "_law_word" pos) (tVar 4) := wxv c rfl lk_law_step_4 (by decide) (by decide)
theorem ss_law_step_4 {X : Cx} (c : CxIs X ["_law_cell", "_law_size", "_law_most", "_law_units", "_law_word", "_law_left", "_law_bottom", "_law_top", "_law_unit", "_law_way", "_law_pennies"] (defScope s_law_step)) {pos pos' : Pos} {e : Expr} {te : TE} (he : WE X e te) (hs : swapsWith e (some (.Name "_law_word" pos')) pos.line X.env = pure false := by rfl) : WS X (.Assign [.Name "_law_word" pos'] e pos) (tAsg te (gN 4)) := wxs c sc_law_step.nd rfl lk_law_step_4 he hs
theorem lk_law_step_5 : (defScope s_law_step).names.lookup ("_law_left" : Str) = some .local := by decide +kernel
theorem pv_law_step_5 {X : Cx} (c : CxIs X ["_law_cell", "_law_size", "_law_most", "_law_units", "_law_word", "_law_left", "_law_bottom", "_law_top", "_law_unit", "_law_way", "_law_pennies"] (defScope s_law_step)) {pos : Pos} : WE X (.Name "_law_left" pos) (tVar 5) := wxv c rfl lk_law_step_5 (by decide) (by decide)
theorem ss_law_step_5 {X : Cx} (c : CxIs X ["_law_cell", "_law_size", "_law_most", "_law_units", "_law_word", "_law_left", "_law_bottom", "_law_top", "_law_unit", "_law_way", "_law_pennies"] (defScope s_law_step)) {pos pos' : Pos} {e : Expr} {te : TE} (he : WE X e te) (hs : swapsWith e (some (.Name "_law_left" pos')) pos.line X.env = pure false := by rfl) : WS X (.Assign [.Name "_law_left" pos'] e pos) (tAsg te (gN 5)) := wxs c sc_law_step.nd rfl lk_law_step_5 he hs
theorem lk_law_step_6 : (defScope s_law_step).names.lookup ("_law_bottom" : Str) = some .local := by decide +kernel
theorem pv_law_step_6 {X : Cx} (c : CxIs X ["_law_cell", "_law_size", "_law_most", "_law_units", "_law_word", "_law_left", "_law_bottom", "_law_top", "_law_unit", "_law_way", "_law_pennies"] (defScope s_law_step)) {pos : Pos} : WE X (.Name "_law_bottom" pos) (tVar 6) := wxv c rfl lk_law_step_6 (by decide) (by decide)
theorem ss_law_step_6 {X : Cx} (c : CxIs X ["_law_cell", "_law_size", "_law_most", "_law_units", "_law_word", "_law_left", "_law_bottom", "_law_top", "_law_unit", "_law_way", "_law_pennies"] (defScope s_law_step)) {pos pos' : Pos} {e : Expr} {te : TE} (he : WE X e te) (hs : swapsWith e (some (.Name "_law_bottom" pos')) pos.line X.env = pure false := by rfl) : WS X (.Assign [.Name "_law_bottom" pos'] e pos) (tAsg te (gN 6)) := wxs c sc_law_step.nd rfl lk_law_step_6 he hs
theorem lk_law_step_7 : (defScope s_law_step).names.lookup ("_law_top" : Str) = some .local := by decide +kernel
theorem pv_law_step_7 {X : Cx} (c : CxIs X ["_law_cell", "_law_size", "_law_most", "_law_units", "_law_word", "_law_left", "_law_bottom", "_law_top", "_law_unit", "_law_way", "_law_pennies"] (defScope s_law_step)) {pos : Pos} : WE X (.Name "_law_top" pos) (tVar 7) := wxv c rfl lk_law_step_7 (by decide) (by decide)
theorem ss_law_step_7 {X : Cx} (c : CxIs X ["_law_cell", "_law_size", "_law_most", "_law_units", "_law_word", "_law_left", "_law_bottom", "_law_top", "_law_unit", "_law_way", "_law_pennies"] (defScope s_law_step)) {pos pos' : Pos} {e : Expr} {te : TE} (he : WE X e te) (hs : swapsWith e (some (.Name "_law_top" pos')) pos.line X.env = pure false := by rfl) : WS X (.Assign [.Name "_law_top" pos'] e pos) (tAsg te (gN 7)) := wxs c sc_law_step.nd rfl lk_law_step_7 he hs
theorem lk_law_step_8 : (defScope s_law_step).names.lookup ("_law_unit" : Str) = some .local := by decide +kernel
theorem pv_law_step_8 {X : Cx} (c : CxIs X ["_law_cell", "_law_size", "_law_most", "_law_units", "_law_word", "_law_left", "_law_bottom", "_law_top", "_law_unit", "_law_way", "_law_pennies"] (defScope s_law_step)) {pos : Pos} : WE X (.Name "_law_unit" pos) (tVar 8) := wxv c rfl lk_law_step_8 (by decide) (by decide)
theorem ss_law_step_8 {X : Cx} (c : CxIs X ["_law_cell", "_law_size", "_law_most", "_law_units", "_law_word", "_law_left", "_law_bottom", "_law_top", "_law_unit", "_law_way", "_law_pennies"] (defScope s_law_step)) {pos pos' : Pos} {e : Expr} {te : TE} (he : WE X e te) (hs : swapsWith e (some (.Name "_law_unit" pos')) pos.line X.env = pure false := by rfl) : WS X (.Assign [.Name "_law_unit" pos'] e pos) (tAsg te (gN 8)) := wxs c sc_law_step.nd rfl lk_law_step_8 he hs
theorem lk_law_step_9 : (defScope s_law_step).names.lookup ("_law_way" : Str) = some .local := by decide +kernel
theorem pv_law_step_9 {X : Cx} (c : CxIs X ["_law_cell", "_law_size", "_law_most", "_law_units", "_law_word", "_law_left", "_law_bottom", "_law_top", "_law_unit", "_law_way", "_law_pennies"] (defScope s_law_step)) {pos : Pos} : WE X (.Name "_law_way" pos) (tVar 9) := wxv c rfl lk_law_step_9 (by decide) (by decide)
theorem ss_law_step_9 {X : Cx} (c : CxIs X ["_law_cell", "_law_size", "_law_most", "_law_units", "_law_word", "_law_left", "_law_bottom", "_law_top", "_law_unit", "_law_way", "_law_pennies"] (defScope s_law_step)) {pos pos' : Pos} {e : Expr} {te : TE} (he : WE X e te) (hs : swapsWith e (some (.Name "_law_way" pos')) pos.line X.env = pure false := by rfl) : WS X (.Assign [.Name "_law_way" pos'] e pos) (tAsg te (gN 9)) := wxs c sc_law_step.nd rfl lk_law_step_9 he hs
theorem lk_law_step_10 : (defScope s_law_step).names.lookup ("_law_pennies" : Str) = some .local := by decide +kernel
theorem pv_law_step_10 {X : Cx} (c : CxIs X ["_law_cell", "_law_size", "_law_most", "_law_units", "_law_word", "_law_left", "_law_bottom", "_law_top", "_law_unit", "_law_way", "_law_pennies"] (defScope s_law_step)) {pos : Pos} : WE X (.Name "_law_pennies" pos) (tVar 10) := wxv c rfl lk_law_step_10 (by decide) (by decide)
theorem ss_law_step_10 {X : Cx} (c : CxIs X ["_law_cell", "_law_size", "_law_most", "_law_units", "_law_word", "_law_left", "_law_bottom", "_law_top", "_law_unit", "_law_way", "_law_pennies"] (defScope s_law_step)) {pos pos' : Pos} {e : Expr} {te : TE} (he : WE X e te) (hs : swapsWith e (some (.Name "_law_pennies" pos')) pos.line X.env = pure false := by rfl) : WS X (.Assign [.Name "_law_pennies" pos'] e pos) (tAsg te (gN 10)) := wxs c sc_law_step.nd rfl lk_law_step_10 he hs
theorem st_law_step (v0 v1 : V) : L2.start ["_law_cell", "_law_size", "_law_most", "_law_units", "_law_word", "_law_left", "_law_bottom", "_law_top", "_law_unit", "_law_way", "_law_pennies"] [v0, v1] = [some v0, some v1, none, none, none, none, none, none, none, none, none] := rfl
noncomputable def sp_law_step (K : PySem.W.Frag) : Sp := fun vs H Q _ => ∃ (cell size : Int), vs = [.int cell, .int size] ∧ 0 ≤ size ∧ size < 4 ∧ ∀ p (st : StepD) H', Same H H' → SqT K H' p st.vals → st.Ok → Q (.ref p) H'
theorem body_law_step {X : Cx} (c : CxIs X ["_law_cell", "_law_size", "_law_most", "_law_units", "_law_word", "_law_left", "_law_bottom", "_law_top", "_law_unit", "_law_way", "_law_pennies"] (defScope s_law_step)) (hr : Room 0 X.A) {E : XK}   {vs : List V} {H : Hp} {Q : VK} (h : sp_law_step X.K vs H Q E) : ∃ t, WSs X (defBody s_law_step) t ∧ t { nx := fun _ H' => Q .non H', rt := Q } (L2.start ["_law_cell", "_law_size", "_law_most", "_law_units", "_law_word", "_law_left", "_law_bottom", "_law_top", "_law_unit", "_law_way", "_law_pennies"] vs) H := by
  · obtain ⟨cell, size, rfl, h0, h1, q⟩ := h
    refine ⟨_, (wss_cons (ss_law_step_2 c (we_ix ix_list (we_lstO (wa_cons we_int (wa_cons we_int (wa_cons we_int (wa_cons we_int wa_nil star_Constant) star_Constant) star_Constant) star_Constant)) (pv_law_step_1 c) plain_Name))
      (wss_cons (ss_law_step_3 c (we_ix ix_list (we_lstO (wa_cons we_int (wa_cons we_int (wa_cons we_int (wa_cons we_int wa_nil star_Constant) star_Constant) star_Constant) star_Constant)) (pv_law_step_1 c) plain_Name))
      (wss_cons (ss_law_step_4 c (we_ix ix_list (we_lstO (wa_cons we_str (wa_cons we_str (wa_cons we_str wa_nil star_Constant) star_Constant) star_Constant)) (we_op op_mod (pv_law_step_0 c) we_int) plain_BinOp))
      (wss_cons (ss_law_step_5 c (we_op op_fdivB (pv_law_step_0 c) we_int))
      (wss_cons (ss_law_step_6 c (we_op op_add we_int (we_op op_mod (pv_law_step_5 c) (pv_law_step_2 c))))
      (wss_cons (ss_law_step_5 c (we_op op_fdivB (pv_law_step_5 c) (pv_law_step_2 c)))
      (wss_cons (ss_law_step_7 c (we_op op_add we_int (we_op op_mod (pv_law_step_5 c) (pv_law_step_2 c))))
      (wss_cons (ss_law_step_5 c (we_op op_fdivB (pv_law_step_5 c) (pv_law_step_2 c)))
      (wss_cons (ss_law_step_8 c (we_op op_add we_int (we_op op_mod (pv_law_step_5 c) (pv_law_step_3 c))))
      (wss_cons (ss_law_step_5 c (we_op op_fdivB (pv_law_step_5 c) (pv_law_step_3 c)))
      (wss_cons (ss_law_step_9 c (we_ix ix_list (we_lstO (wa_cons we_str (wa_cons we_str (wa_cons we_str wa_nil star_Constant) star_Constant) star_Constant)) (we_op op_mod (pv_law_step_5 c) we_int) plain_BinOp))
      (wss_cons (ss_law_step_5 c (we_op op_fdivB (pv_law_step_5 c) we_int))
      (wss_cons (ss_law_step_10 c (we_ix ix_list (we_lstO (wa_cons we_int (wa_cons (we_op op_mod (we_op op_fdivB (pv_law_step_5 c) we_int) (we_ix ix_list (we_lstO (wa_cons we_int (wa_cons we_int (wa_cons we_int (wa_cons (we_op op_add (we_op op_pow we_int we_int) we_int) wa_nil star_BinOp) star_Constant) star_Constant) star_Constant)) (pv_law_step_1 c) plain_Name)) wa_nil star_BinOp) star_Constant)) (we_op op_mod (pv_law_step_5 c) we_int) plain_BinOp))
      (wss_cons (ws_if (WW.pt (ww_and (wt_cmpR op_eq (pv_law_step_4 c) we_str (nomark _)) (ww_and1 (wt_cmpR op_eq (pv_law_step_6 c) we_int (nomark _)))))
      (wss_one (ss_law_step_4 c we_str))
      wss_nil)
      (wss_cons (ws_if (wt_cmpR op_eq (pv_law_step_4 c) we_str (nomark _))
      (wss_one (ss_law_step_7 c (we_op op_add we_int (we_op op_mod (we_op op_sub (pv_law_step_7 c) we_int) (we_op op_sub (pv_law_step_6 c) we_int)))))
      wss_nil)
      (wss_one (ws_ret (we_tupO (wa_cons (pv_law_step_4 c) (wa_cons (pv_law_step_7 c) (wa_cons (pv_law_step_6 c) (wa_cons (pv_law_step_10 c) (wa_cons (pv_law_step_9 c) (wa_cons (pv_law_step_8 c) wa_nil star_Name) star_Name) star_Name) star_Name) star_Name) star_Name))))))))))))))))))), ?_⟩
    rw [st_law_step]
    have dv3 : ∀ z : Int, CDivB z 3 := fun _ => ⟨by decide, by decide +kernel⟩
    refine ⟨(small' (by decide)), fun p1 H1 _ s1 f1 => ?_⟩
    refine ⟨_, rfl, p1, _, _, _, rfl, rfl, SqL.of f1, at4i h0 h1, fun σ e => ?_⟩
    have hm := pick4_of (P := fun z : Int => 1 ≤ z ∧ z ≤ 100) (i := size) (a := 4) (b := 12) (c := 100) (d := 100) (by decide) (by decide) (by decide) (by decide)
    dsimp only [List.set] at e
    generalize pick4 size (4 : Int) 12 100 100 = most at hm e
    subst e
    refine ⟨(small' (by decide)), fun p2 H2 _ t2 f2 => ?_⟩
    have s2 := s1.trans t2
    refine ⟨_, rfl, p2, _, _, _, rfl, rfl, SqL.of f2, at4i h0 h1, fun σ e => ?_⟩
    have hu := pick4_of (P := fun z : Int => 1 ≤ z ∧ z ≤ 100) (i := size) (a := 3) (b := 10) (c := 100) (d := 100) (by decide) (by decide) (by decide) (by decide)
    dsimp only [List.set] at e
    generalize pick4 size (3 : Int) 10 100 100 = units at hu e
    subst e
    refine ⟨(small' (by decide)), fun p3 H3 _ t3 f3 => ?_⟩
    have s3 := s2.trans t3
    refine ⟨_, rfl, _, _, rfl, rfl, (by decide : (0 : Int) < 3), p3, _, _, _, rfl, rfl, SqL.of f3, at3s (md0 (by decide)) (md1 (by decide)), fun σ e => ?_⟩
    have hw := pick3_of (P := fun z => z = Str.ofString "times" ∨ z = Str.ofString "add" ∨ z = Str.ofString "off") (i := cell % 3) (.inl rfl) (.inr (.inl rfl)) (.inr (.inr rfl))
    dsimp only [List.set] at e
    generalize pick3 (cell % 3) (Str.ofString "times") (Str.ofString "add") (Str.ofString "off") = word at hw e
    subst e
    refine ⟨_, rfl, _, _, rfl, rfl, dv3 _, fun σ e => ?_⟩
    dsimp only [List.set] at e
    generalize cell / 3 = l1 at e
    subst e
    refine ⟨_, rfl, _, rfl, _, _, rfl, rfl, (show 0 < most by omega), _, _, rfl, rfl, fun σ e => ?_⟩
    have b0 := md0 (x := l1) (n := most) (by omega)
    have b1 := md1 (x := l1) (n := most) (by omega)
    dsimp only [List.set] at e
    generalize l1 % most = bot at b0 b1 e
    subst e
    refine ⟨_, rfl, _, rfl, _, _, rfl, rfl, ⟨by omega, by omega⟩, fun σ e => ?_⟩
    dsimp only [List.set] at e
    generalize l1 / most = l2 at e
    subst e
    refine ⟨_, rfl, _, rfl, _, _, rfl, rfl, (show 0 < most by omega), _, _, rfl, rfl, fun σ e => ?_⟩
    have t0 := md0 (x := l2) (n := most) (by omega)
    have t1 := md1 (x := l2) (n := most) (by omega)
    dsimp only [List.set] at e
    generalize l2 % most = top' at t0 t1 e
    subst e
    refine ⟨_, rfl, _, rfl, _, _, rfl, rfl, ⟨by omega, by omega⟩, fun σ e => ?_⟩
    dsimp only [List.set] at e
    generalize l2 / most = l3 at e
    subst e
    refine ⟨_, rfl, _, rfl, _, _, rfl, rfl, (show 0 < units by omega), _, _, rfl, rfl, fun σ e => ?_⟩
    have u0 := md0 (x := l3) (n := units) (by omega)
    have u1 := md1 (x := l3) (n := units) (by omega)
    dsimp only [List.set] at e
    generalize l3 % units = un at u0 u1 e
    subst e
    refine ⟨_, rfl, _, rfl, _, _, rfl, rfl, ⟨by omega, by omega⟩, fun σ e => ?_⟩
    dsimp only [List.set] at e
    generalize l3 / units = l4 at e
    subst e
    refine ⟨(small' (by decide)), fun p4 H4 _ t4 f4 => ?_⟩
    have s4 := s3.trans t4
    refine ⟨_, rfl, _, _, rfl, rfl, (by decide : (0 : Int) < 3), p4, _, _, _, rfl, rfl, SqL.of f4, at3s (md0 (by decide)) (md1 (by decide)), fun σ e => ?_⟩
    have hy := pick3_of (P := fun z => z = Str.ofString "down" ∨ z = Str.ofString "up" ∨ z = Str.ofString "near") (i := l4 % 3) (.inl rfl) (.inr (.inl rfl)) (.inr (.inr rfl))
    dsimp only [List.set] at e
    generalize pick3 (l4 % 3) (Str.ofString "down") (Str.ofString "up") (Str.ofString "near") = way at hy e
    subst e
    refine ⟨_, rfl, _, _, rfl, rfl, dv3 _, fun σ e => ?_⟩
    dsimp only [List.set] at e
    generalize l4 / 3 = l5 at e
    subst e
    refine ⟨_, rfl, _, _, rfl, rfl, ⟨by decide, by decide +kernel⟩, _, _, rfl, rfl, ⟨by decide, by decide, by decide⟩, _, _, rfl, rfl, (small' (by decide)), fun p5 H5 _ t5 f5 => ?_⟩
    have s5 := s4.trans t5
    have hp := pick4_of (P := fun z : Int => 1 ≤ z ∧ z ≤ 10 ^ 30 + 1) (i := size) (a := 6) (b := 60) (c := 1000) (d := 10 ^ Int.toNat 30 + 1) (by decide) (by decide) (by decide) (by decide)
    refine ⟨_, rfl, p5, _, _, _, rfl, rfl, SqL.of f5, at4i h0 h1, _, _, rfl, rfl, Int.lt_of_lt_of_le (by decide) hp.1, (small' (by show 2 ≤ 1000; decide)), fun p6 H6 _ t6 f6 => ?_⟩
    have g0 := md0 (x := l5 / 2) (n := pick4 size (6 : Int) 60 1000 (10 ^ Int.toNat 30 + 1)) (by omega)
    have g1 := md1 (x := l5 / 2) (n := pick4 size (6 : Int) 60 1000 (10 ^ Int.toNat 30 + 1)) (by omega)
    have s6 := s5.trans t6
    refine ⟨_, rfl, _, _, rfl, rfl, (by decide : (0 : Int) < 2), p6, _, _, _, rfl, rfl, SqL.of f6, at2i (md0 (by decide)) (md1 (by decide)), fun σ e => ?_⟩
    have hpen := pick2_of (P := fun z : Int => 0 ≤ z ∧ z ≤ 10 ^ 30) (i := l5 % 2) (a := 0) (b := l5 / 2 % pick4 size (6 : Int) 60 1000 (10 ^ Int.toNat 30 + 1)) (by decide) ⟨g0, by omega⟩
    dsimp only [List.set] at e
    generalize pick2 (l5 % 2) (0 : Int) (l5 / 2 % pick4 size (6 : Int) 60 1000 (10 ^ Int.toNat 30 + 1)) = pen at hpen e
    subst e
    have key : ∀ (x : Str) (n : Int), (x = "times" ∨ x = "add" ∨ x = "off") → 1 ≤ n → n ≤ 100 → (x = "off" → n < 1 + bot) → StepD.Ok ⟨x, n, 1 + bot, pen, way, 1 + un⟩ := fun x n h1 h2 h3 h4 => ⟨h1, h2, h3, by dsimp only; omega, by dsimp only; omega, h4, hpen.1, hpen.2, hy, by dsimp only; omega, by dsimp only; omega⟩
    refine ⟨_, rfl, rfl, _, rfl, ?_⟩
    refine if2 (fun c => ?_) (fun c => ?_)
    · have c' : word = "off" := V.str.inj c
      refine ⟨_, rfl, rfl, _, rfl, ?_⟩
      refine if2 (fun d => ?_) (fun d => ?_)
      · intro σ e
        dsimp only [List.set] at e
        subst e
        refine ⟨_, rfl, rfl, _, rfl, ?_⟩
        refine ifF (by decide) ?_
        refine ⟨_, rfl, _, rfl, _, rfl, _, rfl, _, rfl, _, rfl, (small' (by show 6 ≤ 1000; decide)), fun p7 H7 _ t7 f7 => ?_⟩
        exact q p7 ⟨_, _, _, _, _, _⟩ _ (s6.trans t7) (SqT.of f7) (key _ _ (.inl rfl) (by omega) (by omega) (fun z => absurd z (by decide)))
      · have d' := of_not_int d
        refine ⟨_, rfl, rfl, _, rfl, ?_⟩
        refine ifT c ?_
        have w0 := md0 (x := 1 + top' - 1) (n := 1 + bot - 1) (by omega)
        have w1 := md1 (x := 1 + top' - 1) (n := 1 + bot - 1) (by omega)
        refine ⟨_, rfl, _, _, rfl, rfl, _, rfl, _, _, rfl, rfl, _, _, rfl, rfl, (show 0 < 1 + bot - 1 by omega), _, _, rfl, rfl, fun σ e => ?_⟩
        dsimp only [List.set] at e
        subst e
        refine ⟨_, rfl, _, rfl, _, rfl, _, rfl, _, rfl, _, rfl, (small' (by show 6 ≤ 1000; decide)), fun p7 H7 _ t7 f7 => ?_⟩
        exact q p7 ⟨_, _, _, _, _, _⟩ _ (s6.trans t7) (SqT.of f7) (key _ _ hw (by omega) (by omega) (fun _ => by omega))
    · refine ⟨_, rfl, rfl, _, rfl, ?_⟩
      refine ifF c ?_
      refine ⟨_, rfl, _, rfl, _, rfl, _, rfl, _, rfl, _, rfl, (small' (by show 6 ≤ 1000; decide)), fun p7 H7 _ t7 f7 => ?_⟩
      exact q p7 ⟨_, _, _, _, _, _⟩ _ (s6.trans t7) (SqT.of f7) (key _ _ hw (by omega) (by omega) (fun z => absurd (by rw [z]) c))
theorem cal_law_step {P : Program} {w : World} {K : PySem.W.Frag} {mg : Str → Option Value} {base : Heap} {f : Addr} {fd : FuncData} (F : Fun K "_law_step" "_law_step" s_law_step f fd) (b : Binds K fd ["_law_cell", "_law_size"] []) (m : mg "_law_step" = some (.ref f))  : Cal P w K mg base "_law_step" 1 ["_law_cell", "_law_size"] (sp_law_step K) :=
  ⟨f, fd, F.ok sc_law_step (fun vs H Q E h => by first | (obtain ⟨_, rfl, _⟩ := h; rfl) | (obtain ⟨_, _, rfl, _⟩ := h; rfl) | (obtain ⟨_, _, _, rfl, _⟩ := h; rfl) | (obtain ⟨_, _, _, _, rfl, _⟩ := h; rfl) | (obtain ⟨_, _, _, _, _, rfl, _⟩ := h; rfl) | (obtain ⟨_, _, _, _, _, _, rfl, _⟩ := h; rfl) | (obtain ⟨_, _, _, _, _, _, _, rfl, _⟩ := h; rfl) | (obtain ⟨_, _, _, _, _, _, _, _, rfl, _⟩ := h; rfl) | (obtain ⟨_, _, _, _, _, _, _, _, _, rfl, _⟩ := h; rfl)) (fun cdv A outer s H vs Q E hr h => unW (body_law_step (X := (cxOf CX0 P w K mg base ["_law_cell", "_law_size", "_law_most", "_law_units", "_law_word", "_law_left", "_law_bottom", "_law_top", "_law_unit", "_law_way", "_law_pennies"] "_law_step" (defScope s_law_step) f cdv A outer s H E).nox) ⟨rfl, rfl, rfl, PassesOwn.never⟩ hr  h)), b, F.kp, m⟩
noncomputable def sp_law_num (K : PySem.W.Frag) : Sp := fun vs H Q _ => ∃ (a : Addr) (st : StepD), vs = [.ref a] ∧ SqT K H a st.vals ∧ Q (.int st.num) H
theorem cal_law_num {P : Program} {w : World} {K : PySem.W.Frag} {mg : Str → Option Value} {base : Heap} {f : Addr} {fd : FuncData} (F : Fun K "_law_num" "_law_num" s_law_num f fd) (b : Binds K fd ["_law_step_here"] []) (m : mg "_law_num" = some (.ref f))  : Cal P w K mg base "_law_num" 1 ["_law_step_here"] (sp_law_num K) := by
  refine ⟨f, fd, F.ok sc_law_num (fun vs H Q E h => ?_) (fun cdv A outer s H vs Q E hr h => ?_), b, F.kp, m⟩
  · first | (obtain ⟨_, rfl, _⟩ := h; rfl) | (obtain ⟨_, _, rfl, _⟩ := h; rfl) | (obtain ⟨_, _, _, rfl, _⟩ := h; rfl) | (obtain ⟨_, _, _, _, rfl, _⟩ := h; rfl) | (obtain ⟨_, _, _, _, _, rfl, _⟩ := h; rfl) | (obtain ⟨_, _, _, _, _, _, rfl, _⟩ := h; rfl) | (obtain ⟨_, _, _, _, _, _, _, rfl, _⟩ := h; rfl) | (obtain ⟨_, _, _, _, _, _, _, _, rfl, _⟩ := h; rfl) | (obtain ⟨_, _, _, _, _, _, _, _, _, rfl, _⟩ := h; rfl)
  · obtain ⟨a, st, rfl, hT, q⟩ := h
    refine ⟨_, (pss_cons (ps_if (pt_cmpR op_eq (pe_ix ix_tup (pv 0) pe_int (fun _ _ => rfl)) pe_str (nomark _))
      (pss_one (ps_ret (pe_op op_add (pe_ix ix_tup (pv 0) pe_int (fun _ _ => rfl)) (pe_ix ix_tup (pv 0) pe_int (fun _ _ => rfl)))))
      pss_nil)
      (pss_cons (ps_if (pt_cmpR op_eq (pe_ix ix_tup (pv 0) pe_int (fun _ _ => rfl)) pe_str (nomark _))
      (pss_one (ps_ret (pe_op op_sub (pe_ix ix_tup (pv 0) pe_int (fun _ _ => rfl)) (pe_ix ix_tup (pv 0) pe_int (fun _ _ => rfl)))))
      pss_nil)
      (pss_one (ps_ret (pe_ix ix_tup (pv 0) pe_int (fun _ _ => rfl)))))), ?_⟩
    refine ⟨_, rfl, a, _, _, _, rfl, rfl, hT, rfl, rfl, _, rfl, ?_⟩
    refine if2 (fun c => ?_) (fun c => ?_)
    · have e : st.num = st.d + st.n := if_pos (V.str.inj c)
      rw [e] at q
      exact ⟨_, rfl, a, _, _, _, rfl, rfl, hT, rfl, _, rfl, a, _, _, _, rfl, rfl, hT, rfl, _, _, rfl, rfl, q⟩
    have c' : ¬ st.w = "add" := fun z => c (by rw [z])
    refine ⟨_, rfl, a, _, _, _, rfl, rfl, hT, rfl, rfl, _, rfl, ?_⟩
    refine if2 (fun c2 => ?_) (fun c2 => ?_)
    · have e : st.num = st.d - st.n := by unfold StepD.num; rw [if_neg c', if_pos (V.str.inj c2)]
      rw [e] at q
      exact ⟨_, rfl, a, _, _, _, rfl, rfl, hT, rfl, _, rfl, a, _, _, _, rfl, rfl, hT, rfl, _, _, rfl, rfl, q⟩
    · have c2' : ¬ st.w = "off" := fun z => c2 (by rw [z])
      have e : st.num = st.n := by unfold StepD.num; rw [if_neg c', if_neg c2']
      rw [e] at q
      exact ⟨_, rfl, a, _, _, _, rfl, rfl, hT, rfl, q⟩
theorem lk_law_worded_0 : (defScope s_law_worded).names.lookup ("_law_step_here" : Str) = some .local := by decide +kernel
theorem pv_law_worded_0 {X : Cx} (c : CxIs X ["_law_step_here", "_law_word", "_law_top", "_law_bottom", "_law_pennies", "_law_way", "_law_unit"] (defScope s_law_worded)) {pos : Pos} : WE X (.Name "_law_step_here" pos) (tVar 0) := wxv c rfl lk_law_worded_0 (by decide) (by decide)
theorem lk_law_worded_1 : (defScope s_law_worded).names.lookup ("_law_word" : Str) = some .local := by decide +kernel
theorem pv_law_worded_1 {X : Cx} (c : CxIs X ["_law_step_here", "_law_word", "_law_top", "_law_bottom", "_law_pennies", "_law_way", "_law_unit"] (defScope s_law_worded)) {pos : Pos} : WE X (.Name "_law_word" pos) (tVar 1) := wxv c rfl lk_law_worded_1 (by decide) (by decide)
theorem sg_law_worded_1 {X : Cx} (c : CxIs X ["_law_step_here", "_law_word", "_law_top", "_law_bottom", "_law_pennies", "_law_way", "_law_unit"] (defScope s_law_worded)) {pos : Pos} : WG X (.Name "_law_word" pos) (gN 1) := wxt c sc_law_worded.nd rfl lk_law_worded_1
theorem lk_law_worded_2 : (defScope s_law_worded).names.lookup ("_law_top" : Str) = some .local := by decide +kernel
theorem pv_law_worded_2 {X : Cx} (c : CxIs X ["_law_step_here", "_law_word", "_law_top", "_law_bottom", "_law_pennies", "_law_way", "_law_unit"] (defScope s_law_worded)) {pos : Pos} : WE X (.Name "_law_top" pos) (tVar 2) := wxv c rfl lk_law_worded_2 (by decide) (by decide)
theorem sg_law_worded_2 {X : Cx} (c : CxIs X ["_law_step_here", "_law_word", "_law_top", "_law_bottom", "_law_pennies", "_law_way", "_law_unit"] (defScope s_law_worded)) {pos : Pos} : WG X (.Name "_law_top" pos) (gN 2) := wxt c sc_law_worded.nd rfl lk_law_worded_2
theorem lk_law_worded_3 : (defScope s_law_worded).names.lookup ("_law_bottom" : Str) = some .local := by decide +kernel
theorem pv_law_worded_3 {X : Cx} (c : CxIs X ["_law_step_here", "_law_word", "_law_top", "_law_bottom", "_law_pennies", "_law_way", "_law_unit"] (defScope s_law_worded)) {pos : Pos} : WE X (.Name "_law_bottom" pos) (tVar 3) := wxv c rfl lk_law_worded_3 (by decide) (by decide)
theorem sg_law_worded_3 {X : Cx} (c : CxIs X ["_law_step_here", "_law_word", "_law_top", "_law_bottom", "_law_pennies", "_law_way", "_law_unit"] (defScope s_law_worded)) {pos : Pos} : WG X (.Name "_law_bottom" pos) (gN 3) := wxt c sc_law_worded.nd rfl lk_law_worded_3
theorem lk_law_worded_4 : (defScope s_law_worded).names.lookup ("_law_pennies" : Str) = some .local := by decide +kernel
theorem pv_law_worded_4 {X : Cx} (c : CxIs X ["_law_step_here", "_law_word", "_law_top", "_law_bottom", "_law_pennies", "_law_way", "_law_unit"] (defScope s_law_worded)) {pos : Pos} : WE X (.Name "_law_pennies" pos) (tVar 4) := wxv c rfl lk_law_worded_4 (by decide) (by decide)
theorem sg_law_worded_4 {X : Cx} (c : CxIs X ["_law_step_here", "_law_word", "_law_top", "_law_bottom", "_law_pennies", "_law_way", "_law_unit"] (defScope s_law_worded)) {pos : Pos} : WG X (.Name "_law_pennies" pos) (gN 4) := wxt c sc_law_worded.nd rfl lk_law_worded_4
theorem lk_law_worded_5 : (defScope s_law_worded).names.lookup ("_law_way" : Str) = some .local := by decide +kernel
theorem pv_law_worded_5 {X : Cx} (c : CxIs X ["_law_step_here", "_law_word", "_law_top", "_law_bottom", "_law_pennies", "_law_way", "_law_unit"] (defScope s_law_worded)) {pos : Pos} : WE X (.Name "_law_way" pos) (tVar 5) := wxv c rfl lk_law_worded_5 (by decide) (by decide)
theorem sg_law_worded_5 {X : Cx} (c : CxIs X ["_law_step_here", "_law_word", "_law_top", "_law_bottom", "_law_pennies", "_law_way", "_law_unit"] (defScope s_law_worded)) {pos : Pos} : WG X (.Name "_law_way" pos) (gN 5) := wxt c sc_law_worded.nd rfl lk_law_worded_5
theorem lk_law_worded_6 : (defScope s_law_worded).names.lookup ("_law_unit" : Str) = some .local := by decide +kernel
theorem pv_law_worded_6 {X : Cx} (c : CxIs X ["_law_step_here", "_law_word", "_law_top", "_law_bottom", "_law_pennies", "_law_way", "_law_unit"] (defScope s_law_worded)) {pos : Pos} : WE X (.Name "_law_unit" pos) (tVar 6) := wxv c rfl lk_law_worded_6 (by decide) (by decide)
theorem sg_law_worded_6 {X : Cx} (c : CxIs X ["_law_step_here", "_law_word", "_law_top", "_law_bottom", "_law_pennies", "_law_way", "_law_unit"] (defScope s_law_worded)) {pos : Pos} : WG X (.Name "_law_unit" pos) (gN 6) := wxt c sc_law_worded.nd rfl lk_law_worded_6
theorem st_law_worded (v0 : V) : L2.start ["_law_step_here", "_law_word", "_law_top", "_law_bottom", "_law_pennies", "_law_way", "_law_unit"] [v0] = [some v0, none, none, none, none, none, none] := rfl
noncomputable def sp_law_worded (K : PySem.W.Frag) : Sp := fun vs H Q _ => ∃ (a : Addr) (st : StepD), vs = [.ref a] ∧ SqT K H a st.vals ∧ st.Ok ∧ ∀ p st' H', Same H H' → SqT K H' p (StepD.vals st') → st'.Ok → SameStep st st' → Q (.ref p) H'
theorem body_law_worded {X : Cx} (c : CxIs X ["_law_step_here", "_law_word", "_law_top", "_law_bottom", "_law_pennies", "_law_way", "_law_unit"] (defScope s_law_worded)) (hr : Room 0 X.A) {E : XK}   {vs : List V} {H : Hp} {Q : VK} (h : sp_law_worded X.K vs H Q E) : ∃ t, WSs X (defBody s_law_worded) t ∧ t { nx := fun _ H' => Q .non H', rt := Q } (L2.start ["_law_step_here", "_law_word", "_law_top", "_law_bottom", "_law_pennies", "_law_way", "_law_unit"] vs) H := by
  · obtain ⟨a, st, rfl, hT, hO, q⟩ := h
    refine ⟨_, (wss_cons (ws_asg (pv_law_worded_0 c) (wg_tup c.calm (wgs_cons (sg_law_worded_1 c) (wgs_cons (sg_law_worded_2 c) (wgs_cons (sg_law_worded_3 c) (wgs_cons (sg_law_worded_4 c) (wgs_cons (sg_law_worded_5 c) (wgs_cons (sg_law_worded_6 c) wgs_nil))))))))
      (wss_cons (ws_if (WW.pt (ww_and (wt_cmpR op_eq (pv_law_worded_1 c) we_str (nomark _)) (ww_and1 (wt_cmpR op_gt (pv_law_worded_2 c) (pv_law_worded_3 c) (nomark _)))))
      (wss_one (ws_ret (we_tupO (wa_cons we_str (wa_cons (we_op op_sub (pv_law_worded_2 c) (pv_law_worded_3 c)) (wa_cons (pv_law_worded_3 c) (wa_cons (pv_law_worded_4 c) (wa_cons (pv_law_worded_5 c) (wa_cons (pv_law_worded_6 c) wa_nil star_Name) star_Name) star_Name) star_Name) star_BinOp) star_Constant))))
      wss_nil)
      (wss_cons (ws_if (WW.pt (ww_and (wt_cmpR op_eq (pv_law_worded_1 c) we_str (nomark _)) (ww_and1 (wt_cmpR op_lt (pv_law_worded_2 c) (pv_law_worded_3 c) (nomark _)))))
      (wss_one (ws_ret (we_tupO (wa_cons we_str (wa_cons (we_op op_sub (pv_law_worded_3 c) (pv_law_worded_2 c)) (wa_cons (pv_law_worded_3 c) (wa_cons (pv_law_worded_4 c) (wa_cons (pv_law_worded_5 c) (wa_cons (pv_law_worded_6 c) wa_nil star_Name) star_Name) star_Name) star_Name) star_BinOp) star_Constant))))
      wss_nil)
      (wss_cons (ws_if (wt_cmpR op_eq (pv_law_worded_1 c) we_str (nomark _))
      (wss_one (ws_ret (we_tupO (wa_cons we_str (wa_cons (we_op op_sub (pv_law_worded_3 c) (pv_law_worded_2 c)) (wa_cons (pv_law_worded_3 c) (wa_cons (pv_law_worded_4 c) (wa_cons (pv_law_worded_5 c) (wa_cons (pv_law_worded_6 c) wa_nil star_Name) star_Name) star_Name) star_Name) star_BinOp) star_Constant))))
      wss_nil)
      (wss_cons (ws_if (WW.pt (ww_and (wt_cmpR op_eq (pv_law_worded_1 c) we_str (nomark _)) (ww_and1 (wt_cmpR op_le (we_op op_add (pv_law_worded_2 c) (pv_law_worded_3 c)) we_int (nomark _)))))
      (wss_one (ws_ret (we_tupO (wa_cons we_str (wa_cons (we_op op_add (pv_law_worded_2 c) (pv_law_worded_3 c)) (wa_cons (pv_law_worded_3 c) (wa_cons (pv_law_worded_4 c) (wa_cons (pv_law_worded_5 c) (wa_cons (pv_law_worded_6 c) wa_nil star_Name) star_Name) star_Name) star_Name) star_BinOp) star_Constant))))
      wss_nil)
      (wss_one (ws_ret (pv_law_worded_0 c)))))))), ?_⟩
    rw [st_law_worded]
    obtain ⟨w, n, d, p, y, u⟩ := st
    refine ⟨_, rfl, a, _, rfl, hT, rfl, _, _, rfl, fun σ e => ?_⟩
    dsimp only [List.set] at e
    subst e
    refine ⟨_, _, rfl, fun σ e => ?_⟩
    dsimp only [List.set] at e
    subst e
    refine ⟨_, _, rfl, fun σ e => ?_⟩
    dsimp only [List.set] at e
    subst e
    refine ⟨_, _, rfl, fun σ e => ?_⟩
    dsimp only [List.set] at e
    subst e
    refine ⟨_, _, rfl, fun σ e => ?_⟩
    dsimp only [List.set] at e
    subst e
    refine ⟨_, _, rfl, fun σ e => ?_⟩
    dsimp only [List.set] at e
    subst e
    refine ⟨rfl, ?_⟩
    have n0 := hO.n0
    have n1 := hO.n1
    have d0 := hO.d0
    have d1 := hO.d1
    have hoff := hO.off
    dsimp only at n0 n1 d0 d1 hoff
    have kt : ¬ ("times" : Str) = "off" := by decide +kernel
    have kt2 : ¬ ("times" : Str) = "add" := by decide +kernel
    have kf : ¬ ("off" : Str) = "add" := by decide +kernel
    have kf2 : ¬ ("off" : Str) = "times" := by decide +kernel
    have ka : ¬ ("add" : Str) = "off" := by decide +kernel
    have ka2 : ¬ ("add" : Str) = "times" := by decide +kernel
    have mk : ∀ (w' : Str) (n' : Int), (w' = "times" ∨ w' = "add" ∨ w' = "off") → 1 ≤ n' → n' ≤ 100 → (w' = "off" → n' < d) → (StepD.mk w' n' d p y u).num = (StepD.mk w n d p y u).num → ∀ pp H', Same H H' → H' pp = some (.tup [.str w', .int n', .int d, .int p, .str y, .int u]) → Q (.ref pp) H' := fun w' n' h1 h2 h3 h4 h5 pp H' s' f' =>
      q pp ⟨w', n', d, p, y, u⟩ H' s' (SqT.of f') ⟨h1, h2, h3, hO.d0, hO.d1, h4, hO.p0, hO.p1, hO.y, hO.u0, hO.u1⟩ ⟨h5, rfl, rfl, rfl, rfl⟩
    have same : Q (.ref a) H := q a ⟨w, n, d, p, y, u⟩ H (Same.refl _) hT hO ⟨rfl, rfl, rfl, rfl, rfl⟩
    rcases hO.w with hw | hw | hw <;> dsimp only at hw <;> subst hw
    · refine ⟨_, rfl, (by simp [scal]), _, rfl, ?_⟩
      refine ifT rfl ?_
      refine ⟨_, rfl, _, rfl, _, _, rfl, rfl, _, rfl, ?_⟩
      refine if2 (fun c => ?_) (fun c => ?_)
      · refine ⟨_, rfl, _, rfl, _, _, rfl, rfl, _, rfl, _, rfl, _, rfl, _, rfl, (small' (by show 6 ≤ 1000; decide)), fun pp H' _ s' f' => mk "add" (n - d) (.inr (.inl rfl)) (by omega) (by omega) (fun z => absurd z ka) ?_ pp H' s' f'⟩
        unfold StepD.num
        dsimp only
        rw [if_pos rfl, if_neg kt2, if_neg kt]; omega
      · refine ⟨_, rfl, (by simp [scal]), _, rfl, ?_⟩
        refine ifT rfl ?_
        refine ⟨_, rfl, _, rfl, _, _, rfl, rfl, _, rfl, ?_⟩
        refine if2 (fun c2 => ?_) (fun c2 => ?_)
        · refine ⟨_, rfl, _, rfl, _, _, rfl, rfl, _, rfl, _, rfl, _, rfl, _, rfl, (small' (by show 6 ≤ 1000; decide)), fun pp H' _ s' f' => mk "off" (d - n) (.inr (.inr rfl)) (by omega) (by omega) (fun _ => by omega) ?_ pp H' s' f'⟩
          unfold StepD.num
          dsimp only
          rw [if_neg kf, if_pos rfl, if_neg kt2, if_neg kt]; omega
        · refine ⟨_, rfl, (by simp [scal]), _, rfl, ?_⟩
          refine ifF (fun z => kt (V.str.inj z)) ?_
          refine ⟨_, rfl, (by simp [scal]), _, rfl, ?_⟩
          refine ifF (fun z => kt2 (V.str.inj z)) ?_
          refine iteF ?_
          exact ⟨_, rfl, same⟩
    · refine ⟨_, rfl, (by simp [scal]), _, rfl, ?_⟩
      refine ifF (fun z => ka2 (V.str.inj z)) ?_
      refine iteF ?_
      refine ⟨_, rfl, (by simp [scal]), _, rfl, ?_⟩
      refine ifF (fun z => ka2 (V.str.inj z)) ?_
      refine iteF ?_
      refine ⟨_, rfl, (by simp [scal]), _, rfl, ?_⟩
      refine ifF (fun z => ka (V.str.inj z)) ?_
      refine ⟨_, rfl, (by simp [scal]), _, rfl, ?_⟩
      refine ifT rfl ?_
      refine ⟨_, rfl, _, rfl, _, _, rfl, rfl, _, _, rfl, rfl, _, rfl, ?_⟩
      refine if2 (fun c => ?_) (fun c => ?_)
      · refine ⟨_, rfl, _, rfl, _, _, rfl, rfl, _, rfl, _, rfl, _, rfl, _, rfl, (small' (by show 6 ≤ 1000; decide)), fun pp H' _ s' f' => mk "times" (n + d) (.inl rfl) (by omega) (by omega) (fun z => absurd z kt) ?_ pp H' s' f'⟩
        unfold StepD.num
        dsimp only
        rw [if_neg kt2, if_neg kt, if_pos rfl]; omega
      · exact ⟨_, rfl, same⟩
    · have lt := hoff rfl
      refine ⟨_, rfl, (by simp [scal]), _, rfl, ?_⟩
      refine ifF (fun z => kf2 (V.str.inj z)) ?_
      refine iteF ?_
      refine ⟨_, rfl, (by simp [scal]), _, rfl, ?_⟩
      refine ifF (fun z => kf2 (V.str.inj z)) ?_
      refine iteF ?_
      refine ⟨_, rfl, (by simp [scal]), _, rfl, ?_⟩
      refine ifT rfl ?_
      refine ⟨_, rfl, _, rfl, _, _, rfl, rfl, _, rfl, _, rfl, _, rfl, _, rfl, (small' (by show 6 ≤ 1000; decide)), fun pp H' _ s' f' => mk "times" (d - n) (.inl rfl) (by omega) (by omega) (fun z => absurd z kt) ?_ pp H' s' f'⟩
      unfold StepD.num
      dsimp only
      rw [if_neg kt2, if_neg kt, if_neg kf, if_pos rfl]
theorem cal_law_worded {P : Program} {w : World} {K : PySem.W.Frag} {mg : Str → Option Value} {base : Heap} {f : Addr} {fd : FuncData} (F : Fun K "_law_worded" "_law_worded" s_law_worded f fd) (b : Binds K fd ["_law_step_here"] []) (m : mg "_law_worded" = some (.ref f))  : Cal P w K mg base "_law_worded" 1 ["_law_step_here"] (sp_law_worded K) :=
  ⟨f, fd, F.ok sc_law_worded (fun vs H Q E h => by first | (obtain ⟨_, rfl, _⟩ := h; rfl) | (obtain ⟨_, _, rfl, _⟩ := h; rfl) | (obtain ⟨_, _, _, rfl, _⟩ := h; rfl) | (obtain ⟨_, _, _, _, rfl, _⟩ := h; rfl) | (obtain ⟨_, _, _, _, _, rfl, _⟩ := h; rfl) | (obtain ⟨_, _, _, _, _, _, rfl, _⟩ := h; rfl) | (obtain ⟨_, _, _, _, _, _, _, rfl, _⟩ := h; rfl) | (obtain ⟨_, _, _, _, _, _, _, _, rfl, _⟩ := h; rfl) | (obtain ⟨_, _, _, _, _, _, _, _, _, rfl, _⟩ := h; rfl)) (fun cdv A outer s H vs Q E hr h => unW (body_law_worded (X := (cxOf CX0 P w K mg base ["_law_step_here", "_law_word", "_law_top", "_law_bottom", "_law_pennies", "_law_way", "_law_unit"] "_law_worded" (defScope s_law_worded) f cdv A outer s H E).nox) ⟨rfl, rfl, rfl, PassesOwn.never⟩ hr  h)), b, F.kp, m⟩
theorem lk_law_there_and_back_0 : (defScope s_law_there_and_back).names.lookup ("_law_cell" : Str) = some .local := by decide +kernel
theorem pv_law_there_and_back_0 {X : Cx} (c : CxIs X ["_law_cell", "_law_bottom", "_law_top", "_law_ways"] (defScope s_law_there_and_back)) {pos : Pos} : WE X (.Name "_law_cell" pos) (tVar 0) := wxv c rfl lk_law_there_and_back_0 (by decide) (by decide)
theorem lk_law_there_and_back_1 : (defScope s_law_there_and_back).names.lookup ("_law_bottom" : Str) = some .local := by decide +kernel
theorem pv_law_there_and_back_1 {X : Cx} (c : CxIs X ["_law_cell", "_law_bottom", "_law_top", "_law_ways"] (defScope s_law_there_and_back)) {pos : Pos} : WE X (.Name "_law_bottom" pos) (tVar 1) := wxv c rfl lk_law_there_and_back_1 (by decide) (by decide)
theorem ss_law_there_and_back_1 {X : Cx} (c : CxIs X ["_law_cell", "_law_bottom", "_law_top", "_law_ways"] (defScope s_law_there_and_back)) {pos pos' : Pos} {e : Expr} {te : TE} (he : WE X e te) (hs : swapsWith e (some (.Name "_law_bottom" pos')) pos.line X.env = pure false := by rfl) : WS X (.Assign [.Name "_law_bottom" pos'] e pos) (tAsg te (gN 1)) := wxs c sc_law_there_and_back.nd rfl lk_law_there_and_back_1 he hs
theorem lk_law_there_and_back_2 : (defScope s_law_there_and_back).names.lookup ("_law_top" : Str) = some .local := by decide +kernel
theorem pv_law_there_and_back_2 {X : Cx} (c : CxIs X ["_law_cell", "_law_bottom", "_law_top", "_law_ways"] (defScope s_law_there_and_back)) {pos : Pos} : WE X (.Name "_law_top" pos) (tVar 2) := wxv c rfl lk_law_there_and_back_2 (by decide) (by decide)
theorem ss_law_there_and_back_2 {X : Cx} (c : CxIs X ["_law_cell", "_law_bottom", "_law_top", "_law_ways"] (defScope s_law_there_and_back)) {pos pos' : Pos} {e : Expr} {te : TE} (he : WE X e te) (hs : swapsWith e (some (.Name "_law_top" pos')) pos.line X.env = pure false := by rfl) : WS X (.Assign [.Name "_law_top" pos'] e pos) (tAsg te (gN 2)) := wxs c sc_law_there_and_back.nd rfl lk_law_there_and_back_2 he hs
theorem lk_law_there_and_back_3 : (defScope s_law_there_and_back).names.lookup ("_law_ways" : Str) = some .local := by decide +kernel
theorem pv_law_there_and_back_3 {X : Cx} (c : CxIs X ["_law_cell", "_law_bottom", "_law_top", "_law_ways"] (defScope s_law_there_and_back)) {pos : Pos} : WE X (.Name "_law_ways" pos) (tVar 3) := wxv c rfl lk_law_there_and_back_3 (by decide) (by decide)
theorem ss_law_there_and_back_3 {X : Cx} (c : CxIs X ["_law_cell", "_law_bottom", "_law_top", "_law_ways"] (defScope s_law_there_and_back)) {pos pos' : Pos} {e : Expr} {te : TE} (he : WE X e te) (hs : swapsWith e (some (.Name "_law_ways" pos')) pos.line X.env = pure false := by rfl) : WS X (.Assign [.Name "_law_ways" pos'] e pos) (tAsg te (gN 3)) := wxs c sc_law_there_and_back.nd rfl lk_law_there_and_back_3 he hs
theorem st_law_there_and_back (v0 : V) : L2.start ["_law_cell", "_law_bottom", "_law_top", "_law_ways"] [v0] = [some v0, none, none, none] := rfl
noncomputable def sp_law_there_and_back (K : PySem.W.Frag) : Sp := fun vs H Q _ => ∃ (cl : Int), vs = [.int cl] ∧ ∀ (l : Addr) (as : List Addr) (sts : List StepD) (H' : Hp), Same H H' → H l = none → H' l = some (.lst (as.map V.ref)) → Chn K H' l as sts → sts.length ≤ 2 → (∀ m, endI sts m = m) → Q (.ref l) H'
theorem body_law_there_and_back {X : Cx} (c : CxIs X ["_law_cell", "_law_bottom", "_law_top", "_law_ways"] (defScope s_law_there_and_back)) (hr : Room 0 X.A) {E : XK}   {vs : List V} {H : Hp} {Q : VK} (h : sp_law_there_and_back X.K vs H Q E) : ∃ t, WSs X (defBody s_law_there_and_back) t ∧ t { nx := fun _ H' => Q .non H', rt := Q } (L2.start ["_law_cell", "_law_bottom", "_law_top", "_law_ways"] vs) H := by
  · obtain ⟨cl, rfl, q⟩ := h
    refine ⟨_, (wss_cons (ss_law_there_and_back_1 c (we_op op_add we_int (we_op op_mod (pv_law_there_and_back_0 c) we_int)))
      (wss_cons (ss_law_there_and_back_2 c (we_op op_add (we_op op_add (pv_law_there_and_back_1 c) we_int) (we_op op_mod (we_op op_fdivB (pv_law_there_and_back_0 c) we_int) we_int)))
      (wss_cons (ss_law_there_and_back_3 c (we_ix ix_list (we_lstO (wa_cons (we_tupO (wa_cons we_str (wa_cons we_str wa_nil star_Constant) star_Constant)) (wa_cons (we_tupO (wa_cons we_str (wa_cons we_str wa_nil star_Constant) star_Constant)) (wa_cons (we_tupO (wa_cons we_str (wa_cons we_str wa_nil star_Constant) star_Constant)) wa_nil star_Tuple) star_Tuple) star_Tuple)) (we_op op_mod (we_op op_fdivB (pv_law_there_and_back_0 c) we_int) we_int) plain_BinOp))
      (wss_one (ws_ret (we_lstO (wa_cons (we_tupO (wa_cons we_str (wa_cons (pv_law_there_and_back_2 c) (wa_cons (pv_law_there_and_back_1 c) (wa_cons we_int (wa_cons (we_ix ix_tup (pv_law_there_and_back_3 c) we_int plain_Constant) (wa_cons we_int wa_nil star_Constant) star_Subscript) star_Constant) star_Name) star_Name) star_Constant)) (wa_cons (we_tupO (wa_cons we_str (wa_cons (pv_law_there_and_back_1 c) (wa_cons (pv_law_there_and_back_2 c) (wa_cons we_int (wa_cons (we_ix ix_tup (pv_law_there_and_back_3 c) we_int plain_Constant) (wa_cons we_int wa_nil star_Constant) star_Subscript) star_Constant) star_Name) star_Name) star_Constant)) wa_nil star_Tuple) star_Tuple))))))), ?_⟩
    rw [st_law_there_and_back]
    have dv : ∀ c z : Int, 0 < c → c < 10 ^ 12 → CDivB z c := fun c z h1 h2 => ⟨h1, Int.lt_trans h2 (by decide +kernel)⟩
    refine ⟨_, rfl, _, _, rfl, rfl, (by decide : (0 : Int) < 29), _, _, rfl, rfl, fun σ e => ?_⟩
    dsimp only [List.set] at e
    have a0 := md0 (x := cl) (n := 29) (by decide)
    have a1 := md1 (x := cl) (n := 29) (by decide)
    generalize cl % 29 = bo at e a0 a1
    subst e
    refine ⟨_, rfl, _, _, rfl, rfl, _, rfl, _, _, rfl, rfl, dv _ _ (by decide) (by decide), _, _, rfl, rfl, (by decide : (0 : Int) < 8), _, _, rfl, rfl, fun σ e => ?_⟩
    dsimp only [List.set] at e
    have b0 := md0 (x := cl / 29) (n := 8) (by decide)
    have b1 := md1 (x := cl / 29) (n := 8) (by decide)
    generalize cl / 29 % 8 = to at e b0 b1
    subst e
    refine ⟨(small' (by decide)), fun q1 J1 m1 t1 g1 => ?_⟩
    refine ⟨(small' (by decide)), fun q2 J2 m2 t2 g2 => ?_⟩
    refine ⟨(small' (by decide)), fun q3 J3 m3 t3 g3 => ?_⟩
    refine ⟨(small' (by show 3 ≤ 1000; decide)), fun q4 J4 m4 t4 g4 => ?_⟩
    have z0 := md0 (x := cl / 232) (n := 3) (by decide)
    have z1 := md1 (x := cl / 232) (n := 3) (by decide)
    refine ⟨_, rfl, _, _, rfl, rfl, dv _ _ (by decide) (by decide), _, _, rfl, rfl, (by decide : (0 : Int) < 3), q4, _, _, _, rfl, rfl, SqL.of g4, at3 z0 z1, fun σ e => ?_⟩
    dsimp only [List.set] at e
    obtain ⟨w, x, y, hw, hx, hy, hxy, hT⟩ : ∃ (w : Addr) (x y : Str), pick3 (cl / 232 % 3) (V.ref q1) (V.ref q2) (V.ref q3) = V.ref w ∧ (x = "down" ∨ x = "up" ∨ x = "near") ∧ (y = "down" ∨ y = "up" ∨ y = "near") ∧ ((x = "near" ∧ y = "near") ∨ (x = "down" ∧ y = "up") ∨ (x = "up" ∧ y = "down")) ∧ SqT X.K J4 w [.str x, .str y] := by
      rcases (show cl / 232 % 3 = 0 ∨ cl / 232 % 3 = 1 ∨ cl / 232 % 3 = 2 by omega) with z | z | z
      · exact ⟨q1, "near", "near", by rw [z]; rfl, .inr (.inr rfl), .inr (.inr rfl), .inl ⟨rfl, rfl⟩, (t2.trans (t3.trans t4)).seqT (SqT.of g1)⟩
      · exact ⟨q2, "down", "up", by rw [z]; rfl, .inl rfl, .inr (.inl rfl), .inr (.inl ⟨rfl, rfl⟩), (t3.trans t4).seqT (SqT.of g2)⟩
      · exact ⟨q3, "up", "down", by rw [z]; rfl, .inr (.inl rfl), .inl rfl, .inr (.inr ⟨rfl, rfl⟩), t4.seqT (SqT.of g3)⟩
    rw [hw] at e
    subst e
    refine ⟨_, rfl, _, rfl, _, rfl, w, _, _, _, rfl, rfl, hT, rfl, (small' (by show 6 ≤ 1000; decide)), fun q5 J5 m5 t5 g5 => ?_⟩
    refine ⟨_, rfl, _, rfl, _, rfl, w, _, _, _, rfl, rfl, t5.seqT hT, rfl, (small' (by show 6 ≤ 1000; decide)), fun q6 J6 m6 t6 g6 => ?_⟩
    refine ⟨(small' (by show 2 ≤ 1000; decide)), fun q7 J7 m7 t7 g7 => ?_⟩
    have o1 : StepD.Ok ⟨"times", 2 + bo + 1 + to, 2 + bo, 0, x, 1⟩ := ⟨.inl rfl, by dsimp only; omega, by dsimp only; omega, by dsimp only; omega, by dsimp only; omega, fun z => absurd z (by dsimp only; decide), by dsimp only; omega, by dsimp only; omega, hx, by dsimp only; omega, by dsimp only; omega⟩
    have o2 : StepD.Ok ⟨"times", 2 + bo, 2 + bo + 1 + to, 0, y, 1⟩ := ⟨.inl rfl, by dsimp only; omega, by dsimp only; omega, by dsimp only; omega, by dsimp only; omega, fun z => absurd z (by dsimp only; decide), by dsimp only; omega, by dsimp only; omega, hy, by dsimp only; omega, by dsimp only; omega⟩
    refine q q7 [q5, q6] [⟨"times", 2 + bo + 1 + to, 2 + bo, 0, x, 1⟩, ⟨"times", 2 + bo, 2 + bo + 1 + to, 0, y, 1⟩] J7 (t1.trans (t2.trans (t3.trans (t4.trans (t5.trans (t6.trans t7)))))) (t1.free (t2.free (t3.free (t4.free (t5.free (t6.free m7)))))) g7 ?_ (Nat.le_refl 2) (eq_back (by omega) (by omega) hxy)
    refine ⟨SqL.of g7, rfl, fun i a st h1 h2 => ?_, fun st h => ?_⟩
    · rcases i with _ | _ | i
      · cases h1; cases h2; exact (t6.trans t7).seqT (SqT.of g5)
      · cases h1; cases h2; exact t7.seqT (SqT.of g6)
      · simp at h1
    · rcases List.mem_cons.mp h with h | h
      · rw [h]; exact o1
      · rw [List.mem_singleton.mp h]; exact o2
theorem cal_law_there_and_back {P : Program} {w : World} {K : PySem.W.Frag} {mg : Str → Option Value} {base : Heap} {f : Addr} {fd : FuncData} (F : Fun K "_law_there_and_back" "_law_there_and_back" s_law_there_and_back f fd) (b : Binds K fd ["_law_cell"] []) (m : mg "_law_there_and_back" = some (.ref f))  : Cal P w K mg base "_law_there_and_back" 1 ["_law_cell"] (sp_law_there_and_back K) :=
  ⟨f, fd, F.ok sc_law_there_and_back (fun vs H Q E h => by first | (obtain ⟨_, rfl, _⟩ := h; rfl) | (obtain ⟨_, _, rfl, _⟩ := h; rfl) | (obtain ⟨_, _, _, rfl, _⟩ := h; rfl) | (obtain ⟨_, _, _, _, rfl, _⟩ := h; rfl) | (obtain ⟨_, _, _, _, _, rfl, _⟩ := h; rfl) | (obtain ⟨_, _, _, _, _, _, rfl, _⟩ := h; rfl) | (obtain ⟨_, _, _, _, _, _, _, rfl, _⟩ := h; rfl) | (obtain ⟨_, _, _, _, _, _, _, _, rfl, _⟩ := h; rfl) | (obtain ⟨_, _, _, _, _, _, _, _, _, rfl, _⟩ := h; rfl)) (fun cdv A outer s H vs Q E hr h => unW (body_law_there_and_back (X := (cxOf CX0 P w K mg base ["_law_cell", "_law_bottom", "_law_top", "_law_ways"] "_law_there_and_back" (defScope s_law_there_and_back) f cdv A outer s H E).nox) ⟨rfl, rfl, rfl, PassesOwn.never⟩ hr  h)), b, F.kp, m⟩
noncomputable def sp_lowest (K : PySem.W.Frag) : Sp := fun vs H Q _ => ∃ (x y : Int), vs = [.int x, .int y] ∧ (0 ≤ x ∨ x < 0) ∧ 1 ≤ y ∧ y < 2 ^ 350 ∧ ∀ p H', Same H H' → SqT K H' p [.int (x / ((Int.gcd x y : Nat) : Int)), .int (y / ((Int.gcd x y : Nat) : Int))] → Q (.ref p) H'
theorem cal_lowest {P : Program} {w : World} {K : PySem.W.Frag} {mg : Str → Option Value} {base : Heap} {f : Addr} {fd : FuncData} (F : Fun K "lowest" "lowest" s_lowest f fd) (b : Binds K fd ["num", "den"] []) (m : mg "lowest" = some (.ref f)) (C_common_divisor : Cal P w K mg base "common_divisor" 1 ["one", "other"] (sp_common_divisor K)) : Cal P w K mg base "lowest" 2 ["num", "den"] (sp_lowest K) := by
  obtain ⟨f_common_divisor, d_common_divisor, G_common_divisor, b_common_divisor, k_common_divisor, m_common_divisor⟩ := C_common_divisor
  refine ⟨f, fd, F.ok sc_lowest (fun vs H Q E h => ?_) (fun cdv A outer s H vs Q E hr h => ?_), b, F.kp, m⟩
  · first | (obtain ⟨_, rfl, _⟩ := h; rfl) | (obtain ⟨_, _, rfl, _⟩ := h; rfl) | (obtain ⟨_, _, _, rfl, _⟩ := h; rfl) | (obtain ⟨_, _, _, _, rfl, _⟩ := h; rfl) | (obtain ⟨_, _, _, _, _, rfl, _⟩ := h; rfl) | (obtain ⟨_, _, _, _, _, _, rfl, _⟩ := h; rfl) | (obtain ⟨_, _, _, _, _, _, _, rfl, _⟩ := h; rfl) | (obtain ⟨_, _, _, _, _, _, _, _, rfl, _⟩ := h; rfl) | (obtain ⟨_, _, _, _, _, _, _, _, _, rfl, _⟩ := h; rfl)
  · obtain ⟨x, y, rfl, h1, h2, h3, q⟩ := h
    refine ⟨_, (pss_cons (ps_set (i := 2) sc_lowest.nd rfl (Or.inl rfl) (pe_call (G_common_divisor.mono (by decide)) hr rfl m_common_divisor k_common_divisor b_common_divisor .nil pass0 (pa_cons (pv 0) (pa_cons (pv 1) pa_nil))))
      (pss_one (ps_ret (pe_tup (pa_cons (pe_op op_fdivB (pv 0) (pv 2)) (pa_cons (pe_op op_fdivB (pv 1) (pv 2)) pa_nil)))))), ?_⟩
    have g0 := gcd_pos (x := x) (y := y) (by omega)
    have g1 := gcd_le (x := x) (y := y) (by omega)
    have hd : CDivB 0 ((Int.gcd x y : Nat) : Int) := ⟨g0, by omega⟩
    refine ⟨_, rfl, _, rfl, _, _, rfl, (by omega), (by omega), ?_⟩
    refine ⟨_, rfl, _, rfl, _, _, rfl, rfl, hd, _, rfl, _, rfl, _, _, rfl, rfl, hd, (small' (by show 2 ≤ 1000; decide)), fun p hp => ?_⟩
    exact q p _ (same_new hp _) (SqT.of upd_same)
theorem lk_Flat_end_0 : (defScope s_Flat_end).names.lookup ("self" : Str) = some .local := by decide +kernel
theorem pv_Flat_end_0 {X : Cx} (c : CxIs X ["self", "price"] (defScope s_Flat_end)) {pos : Pos} : WE X (.Name "self" pos) (tVar 0) := wxv c rfl lk_Flat_end_0 (by decide) (by decide)
theorem lk_Flat_end_1 : (defScope s_Flat_end).names.lookup ("price" : Str) = some .local := by decide +kernel
theorem pv_Flat_end_1 {X : Cx} (c : CxIs X ["self", "price"] (defScope s_Flat_end)) {pos : Pos} : WE X (.Name "price" pos) (tVar 1) := wxv c rfl lk_Flat_end_1 (by decide) (by decide)
theorem gl_Flat_end_check_price {X : Cx} (c : CxIs X ["self", "price"] (defScope s_Flat_end)) : Gl X "check_price" := xg c (by decide +kernel)
theorem st_Flat_end (v0 v1 : V) : L2.start ["self", "price"] [v0, v1] = [some v0, some v1] := rfl
noncomputable def sp_Flat_end (K : PySem.W.Frag) : Sp := fun vs H Q _ => ∃ (x : Addr) (sts : List StepD) (cc r m : Int), vs = [.ref x, .int m] ∧ FlatAt K H x cc r (endsI sts cc) ∧ IsCyc sts cc r ∧ cc ≤ 20000 ∧ (sts.length ≤ 6 ∧ ∀ st ∈ sts, st.Ok) ∧ 0 ≤ m ∧ m ≤ 10 ^ 30 ∧ ∀ H', Same H H' → Q (.int (endI sts m)) H'
theorem body_Flat_end {X : Cx} (c : CxIs X ["self", "price"] (defScope s_Flat_end)) (hr : Room 1 X.A) {E : XK}  (T_Flat : Txt_Flat X.K X.mg) (C_check_price : Cal X.prog X.w X.K X.mg X.base "check_price" 1 ["price"] (sp_check_price X.K)) {vs : List V} {H : Hp} {Q : VK} (h : sp_Flat_end X.K vs H Q E) : ∃ t, WSs X (defBody s_Flat_end) t ∧ t { nx := fun _ H' => Q .non H', rt := Q } (L2.start ["self", "price"] vs) H := by
  obtain ⟨f_check_price, d_check_price, G_check_price, b_check_price, k_check_price, m_check_price⟩ := C_check_price
  · obtain ⟨x, sts, cc, r, m, rfl, hF, hY, h2, ⟨h6, ok⟩, h0, h1, q⟩ := h
    obtain ⟨dx, fs, p, f1, f2, f3, f4, f5, f6⟩ := hF
    refine ⟨_, (wss_cons (ws_expr (we_call (G_check_price.mono (by decide)) hr (gl_Flat_end_check_price c) m_check_price k_check_price b_check_price .nil pass0 (wa_cons (pv_Flat_end_1 c) wa_nil star_Name)))
      (wss_one (ws_ret (we_op op_add (we_op op_mulB (we_op op_fdivB (pv_Flat_end_1 c) (we_fld (pv_Flat_end_0 c) rfl)) (we_fld (pv_Flat_end_0 c) rfl)) (we_ix ix_tup (we_fld (pv_Flat_end_0 c) rfl) (we_op op_mod (pv_Flat_end_1 c) (we_fld (pv_Flat_end_0 c) rfl)) plain_BinOp))))), ?_⟩
    rw [st_Flat_end]
    have y0 := hY.c0
    have r0 := hY.r0
    have r1 := hY.rise_le ok h6
    have d0 : 0 ≤ m / cc := Int.ediv_nonneg h0 (by omega)
    have d1 : m / cc ≤ m := div_le' h0 (by omega)
    have m0 := md0 (x := m) (n := cc) (by omega)
    have m1 := md1 (x := m) (n := cc) (by omega)
    refine ⟨_, rfl, m, rfl, h0, h1, ?_⟩
    refine ⟨_, rfl, _, rfl, x, _, dx, fs, _, rfl, f1, T_Flat.cl, T_Flat.n_cycle, f2, _, _, rfl, rfl, ⟨by omega, by omega⟩, _, rfl, x, _, dx, fs, _, rfl, f1, T_Flat.cl, T_Flat.n_rise, f3, _, _, rfl, rfl, mul_400 d0 (by omega) (by omega) (by omega), _, rfl, x, _, dx, fs, _, rfl, f1, T_Flat.cl, T_Flat.n_ends, f4, _, rfl, _, rfl, x, _, dx, fs, _, rfl, f1, T_Flat.cl, T_Flat.n_cycle, f2, _, _, rfl, rfl, (show 0 < cc by omega), p, _, _, _, rfl, rfl, f6, endsI_at m0 m1, _, _, rfl, rfl, ?_⟩
    have := q H (Same.refl _)
    rw [flat_end hY h0, Int.add_comm] at this
    exact this
theorem cal_Flat_end {P : Program} {w : World} {K : PySem.W.Frag} {mg : Str → Option Value} {base : Heap} {f : Addr} {fd : FuncData} (F : Fun K "end" "Flat.end" s_Flat_end f fd) (b : Binds K fd ["self", "price"] []) (m : Meth K (clsAt K "Flat") "end" f) (T_Flat : Txt_Flat K mg) (C_check_price : Cal P w K mg base "check_price" 1 ["price"] (sp_check_price K)) : CalM P w K mg base (clsAt K "Flat") "end" 2 ["self", "price"] (sp_Flat_end K) :=
  ⟨f, fd, F.ok sc_Flat_end (fun vs H Q E h => by first | (obtain ⟨_, rfl, _⟩ := h; rfl) | (obtain ⟨_, _, rfl, _⟩ := h; rfl) | (obtain ⟨_, _, _, rfl, _⟩ := h; rfl) | (obtain ⟨_, _, _, _, rfl, _⟩ := h; rfl) | (obtain ⟨_, _, _, _, _, rfl, _⟩ := h; rfl) | (obtain ⟨_, _, _, _, _, _, rfl, _⟩ := h; rfl) | (obtain ⟨_, _, _, _, _, _, _, rfl, _⟩ := h; rfl) | (obtain ⟨_, _, _, _, _, _, _, _, rfl, _⟩ := h; rfl) | (obtain ⟨_, _, _, _, _, _, _, _, _, rfl, _⟩ := h; rfl)) (fun cdv A outer s H vs Q E hr h => unW (body_Flat_end (X := (cxOf CX0 P w K mg base ["self", "price"] "Flat.end" (defScope s_Flat_end) f cdv A outer s H E).nox) ⟨rfl, rfl, rfl, PassesOwn.never⟩ hr T_Flat C_check_price h)), b, m⟩
theorem lk_least_cycle_0 : (defScope s_least_cycle).names.lookup ("ends" : Str) = some .local := by decide +kernel
theorem pv_least_cycle_0 {X : Cx} (c : CxIs X ["ends", "rise", "cycle", "prime"] (defScope s_least_cycle)) {pos : Pos} : WE X (.Name "ends" pos) (tVar 0) := wxv c rfl lk_least_cycle_0 (by decide) (by decide)
theorem lk_least_cycle_1 : (defScope s_least_cycle).names.lookup ("rise" : Str) = some .local := by decide +kernel
theorem pv_least_cycle_1 {X : Cx} (c : CxIs X ["ends", "rise", "cycle", "prime"] (defScope s_least_cycle)) {pos : Pos} : WE X (.Name "rise" pos) (tVar 1) := wxv c rfl lk_least_cycle_1 (by decide) (by decide)
theorem ss_least_cycle_1 {X : Cx} (c : CxIs X ["ends", "rise", "cycle", "prime"] (defScope s_least_cycle)) {pos pos' : Pos} {e : Expr} {te : TE} (he : WE X e te) (hs : swapsWith e (some (.Name "rise" pos')) pos.line X.env = pure false := by rfl) : WS X (.Assign [.Name "rise" pos'] e pos) (tAsg te (gN 1)) := wxs c sc_least_cycle.nd rfl lk_least_cycle_1 he hs
theorem lk_least_cycle_2 : (defScope s_least_cycle).names.lookup ("cycle" : Str) = some .local := by decide +kernel
theorem pv_least_cycle_2 {X : Cx} (c : CxIs X ["ends", "rise", "cycle", "prime"] (defScope s_least_cycle)) {pos : Pos} : WE X (.Name "cycle" pos) (tVar 2) := wxv c rfl lk_least_cycle_2 (by decide) (by decide)
theorem ss_least_cycle_2 {X : Cx} (c : CxIs X ["ends", "rise", "cycle", "prime"] (defScope s_least_cycle)) {pos pos' : Pos} {e : Expr} {te : TE} (he : WE X e te) (hs : swapsWith e (some (.Name "cycle" pos')) pos.line X.env = pure false := by rfl) : WS X (.Assign [.Name "cycle" pos'] e pos) (tAsg te (gN 2)) := wxs c sc_least_cycle.nd rfl lk_least_cycle_2 he hs
theorem lk_least_cycle_3 : (defScope s_least_cycle).names.lookup ("prime" : Str) = some .local := by decide +kernel
theorem pv_least_cycle_3 {X : Cx} (c : CxIs X ["ends", "rise", "cycle", "prime"] (defScope s_least_cycle)) {pos : Pos} : WE X (.Name "prime" pos) (tVar 3) := wxv c rfl lk_least_cycle_3 (by decide) (by decide)
theorem sg_least_cycle_3 {X : Cx} (c : CxIs X ["ends", "rise", "cycle", "prime"] (defScope s_least_cycle)) {pos : Pos} : WG X (.Name "prime" pos) (gN 3) := wxt c sc_least_cycle.nd rfl lk_least_cycle_3
theorem gl_least_cycle_prime_factors {X : Cx} (c : CxIs X ["ends", "rise", "cycle", "prime"] (defScope s_least_cycle)) : Gl X "prime_factors" := xg c (by decide +kernel)
theorem gl_least_cycle_repeats {X : Cx} (c : CxIs X ["ends", "rise", "cycle", "prime"] (defScope s_least_cycle)) : Gl X "repeats" := xg c (by decide +kernel)
theorem gl_least_cycle_len {X : Cx} (c : CxIs X ["ends", "rise", "cycle", "prime"] (defScope s_least_cycle)) : Gl X "len" := xg c (by decide +kernel)
theorem st_least_cycle (v0 v1 : V) : L2.start ["ends", "rise", "cycle", "prime"] [v0, v1] = [some v0, some v1, none, none] := rfl
noncomputable def sp_least_cycle (K : PySem.W.Frag) : Sp := fun vs H Q _ => ∃ (a : Addr) (sts : List StepD) (cc r : Int), vs = [.ref a, .int r] ∧ SqL K H a ((endsI sts cc).map V.int) ∧ 1 ≤ cc ∧ cc ≤ 20000 ∧ (∀ st ∈ sts, st.Ok) ∧ Per sts cc r ∧
  ∀ p c' r' H', Same H H' → SqT K H' p [.int c', .int r'] → IsCyc sts c' r' → c' ≤ cc → Q (.ref p) H'
theorem drop_at {l : List Int} {i : Nat} {x : Int} (h : l[i]? = some x) : l.drop i = x :: l.drop (i + 1) := by
  obtain ⟨hi, e⟩ := List.getElem?_eq_some_iff.mp h
  rw [← e]; exact List.drop_eq_getElem_cons hi
theorem body_least_cycle {X : Cx} (c : CxIs X ["ends", "rise", "cycle", "prime"] (defScope s_least_cycle)) (hr : Room 1 X.A) {E : XK}  (z_len : X.mg "len" = none) (C_prime_factors : Cal X.prog X.w X.K X.mg X.base "prime_factors" 1 ["number"] (sp_prime_factors X.K)) (C_repeats : Cal X.prog X.w X.K X.mg X.base "repeats" 1 ["ends", "part", "rise"] (sp_repeats X.K)) {vs : List V} {H : Hp} {Q : VK} (h : sp_least_cycle X.K vs H Q E) : ∃ t, WSs X (defBody s_least_cycle) t ∧ t { nx := fun _ H' => Q .non H', rt := Q } (L2.start ["ends", "rise", "cycle", "prime"] vs) H := by
  obtain ⟨f_prime_factors, d_prime_factors, G_prime_factors, b_prime_factors, k_prime_factors, m_prime_factors⟩ := C_prime_factors
  obtain ⟨f_repeats, d_repeats, G_repeats, b_repeats, k_repeats, m_repeats⟩ := C_repeats
  · obtain ⟨a, sts, cc, r, rfl, hL, c0, c1, ok, per, q⟩ := h
    refine ⟨_, (wss_cons (ss_least_cycle_2 c (we_callB call_len_seq (gl_least_cycle_len c) z_len PySem.boot_len (wa_cons (pv_least_cycle_0 c) wa_nil star_Name)))
      (wss_cons (ws_for c.own c.calm (wi_list (we_call (G_prime_factors.mono (by decide)) hr (gl_least_cycle_prime_factors c) m_prime_factors k_prime_factors b_prime_factors .nil pass0 (wa_cons (pv_least_cycle_2 c) wa_nil star_Name))) (sg_least_cycle_3 c)
      (wss_one (ws_if (WW.pt (ww_and (wt_cmpR op_eq (we_op op_mod (pv_least_cycle_1 c) (pv_least_cycle_3 c)) we_int (nomark _)) (ww_and1 (wt_val (we_call (G_repeats.mono (by decide)) hr (gl_least_cycle_repeats c) m_repeats k_repeats b_repeats .nil pass0 (wa_cons (we_slice sl_listO (pv_least_cycle_0 c) wo_none (wo_some (pv_least_cycle_2 c))) (wa_cons (we_op op_fdivB (pv_least_cycle_2 c) (pv_least_cycle_3 c)) (wa_cons (we_op op_fdivB (pv_least_cycle_1 c) (pv_least_cycle_3 c)) wa_nil star_BinOp) star_BinOp) star_Subscript))))))
      (wss_cons (ss_least_cycle_2 c (we_op op_fdivB (pv_least_cycle_2 c) (pv_least_cycle_3 c)))
      (wss_one (ss_least_cycle_1 c (we_op op_fdivB (pv_least_cycle_1 c) (pv_least_cycle_3 c)))))
      wss_nil)))
      (wss_one (ws_ret (we_tupO (wa_cons (pv_least_cycle_2 c) (wa_cons (pv_least_cycle_1 c) wa_nil star_Name) star_Name)))))), ?_⟩
    rw [st_least_cycle]
    refine ⟨_, rfl, _, _, rfl, .inl hL, fun σ e => ?_⟩
    rw [endsI_size, show ((cc.toNat : Nat) : Int) = cc by omega] at e
    dsimp only [List.set] at e
    subst e
    refine ⟨_, rfl, cc, rfl, c0, c1, fun p1 H1 fs s1 n1 f1 hp he => ?_⟩
    refine ⟨p1, rfl, ⟨_, SqL.of f1⟩, for_list (K := X.K) (a := p1) (xs := fs.map V.int) (fun i σ H' => Same H1 H' ∧ ∃ c' r', Down sts c' r' (fs.drop i) ∧ c' ≤ cc ∧ ∃ v, σ = [some (.ref a), some (.int r'), some (.int c'), v])
      ⟨Same.refl _, cc, r, Down.start ok c0 per he, Int.le_refl _, _, rfl⟩ (fun i σ H' _ ⟨e, _⟩ => SqL.of (e _ _ f1)) ?_ ?_⟩
    · rintro i z σ H' hi ⟨s0, c', r', D, hc, v, rfl⟩ σ e
      dsimp only [List.set] at e
      subst e
      rw [List.getElem?_map] at hi
      cases hz : fs[i]? with
      | none => rw [hz] at hi; cases hi
      | some p =>
        rw [hz] at hi
        cases hi
        rw [drop_at hz] at D
        have P := hp p (List.mem_of_getElem? hz)
        have p2 := P.1
        have d0 := D.c0
        have pd : p ∣ c' := Int.dvd_trans ⟨_, rfl⟩ D.left
        have ec : p * (c' / p) = c' := Int.mul_ediv_cancel' pd
        have part0 : 1 ≤ c' / p := by
          refine Int.not_lt.mp fun w => ?_
          have := Int.mul_le_mul_of_nonneg_left (show c' / p ≤ 0 by omega) (show 0 ≤ p by omega)
          omega
        have part1 : c' / p ≤ c' := div_le' (by omega) (by omega)
        have ple : p ≤ c' := Int.le_of_dvd (by omega) pd
        refine ⟨_, rfl, _, rfl, _, _, rfl, rfl, (show 0 < p by omega), rfl, _, rfl, ?_⟩
        refine if2 (fun d => ?_) (fun d => ?_)
        · have er : p * (r' / p) = r' := Int.mul_ediv_cancel' (Int.dvd_of_emod_eq_zero (of_int d))
          refine ⟨_, rfl, _, rfl, _, rfl, a, _, rfl, (s1.trans s0).seq hL, fun p3 H3 n3 s3 f3 => ?_⟩
          rw [endsI_take (by omega) hc] at f3
          refine ⟨_, rfl, _, rfl, _, _, rfl, rfl, ⟨by omega, by omega⟩, _, rfl, _, rfl, _, _, rfl, rfl, ⟨by omega, by omega⟩, p3, sts, c', c' / p, r' / p, rfl, SqL.of f3, by omega, by omega, part0, by omega, fun y => ?_, fun y => ?_⟩
          · refine ⟨_, rfl, ?_⟩
            refine iteT ?_
            refine ⟨_, rfl, _, rfl, _, _, rfl, rfl, ⟨by omega, by omega⟩, fun σ e => ?_⟩
            dsimp only [List.set] at e
            subst e
            refine ⟨_, rfl, _, rfl, _, _, rfl, rfl, ⟨by omega, by omega⟩, fun σ e => ?_⟩
            dsimp only [List.set] at e
            subst e
            refine ⟨s0.trans s3, _, _, D.yes P ec.symm (part_per (n := p) (by omega) part0 (by rw [ec, er]; exact D.per) fun q q0 q1 => y q q0 (by omega)), by omega, _, rfl⟩
          · refine ⟨_, rfl, ?_⟩
            refine iteF ?_
            refine ⟨s0.trans s3, _, _, D.no P (fun c2 r2 e1 e2 hper => y fun q q0 _ => ?_), hc, _, rfl⟩
            have e3 : c' / p = c2 := by rw [e1]; exact Int.mul_ediv_cancel_left _ (by omega)
            have e4 : r' / p = r2 := by rw [e2]; exact Int.mul_ediv_cancel_left _ (by omega)
            rw [e3, e4]
            exact hper q q0
        · refine iteF ?_
          refine ⟨s0, _, _, D.no P (fun c2 r2 e1 e2 _ => of_not_int d ?_), hc, _, rfl⟩
          rw [e2]; exact Int.mul_emod_right _ _
    · rintro σ H' ⟨s0, c', r', D, hc, v, rfl⟩
      rw [List.length_map, List.drop_length] at D
      refine ⟨_, rfl, _, rfl, (small' (by show 2 ≤ 1000; decide)), fun p3 H3 _ s3 f3 => ?_⟩
      exact q p3 c' r' H3 ((s1.trans s0).trans s3) (SqT.of f3) D.fin hc
theorem cal_least_cycle {P : Program} {w : World} {K : PySem.W.Frag} {mg : Str → Option Value} {base : Heap} {f : Addr} {fd : FuncData} (F : Fun K "least_cycle" "least_cycle" s_least_cycle f fd) (b : Binds K fd ["ends", "rise"] []) (m : mg "least_cycle" = some (.ref f)) (z_len : mg "len" = none) (C_prime_factors : Cal P w K mg base "prime_factors" 1 ["number"] (sp_prime_factors K)) (C_repeats : Cal P w K mg base "repeats" 1 ["ends", "part", "rise"] (sp_repeats K)) : Cal P w K mg base "least_cycle" 2 ["ends", "rise"] (sp_least_cycle K) :=
  ⟨f, fd, F.ok sc_least_cycle (fun vs H Q E h => by first | (obtain ⟨_, rfl, _⟩ := h; rfl) | (obtain ⟨_, _, rfl, _⟩ := h; rfl) | (obtain ⟨_, _, _, rfl, _⟩ := h; rfl) | (obtain ⟨_, _, _, _, rfl, _⟩ := h; rfl) | (obtain ⟨_, _, _, _, _, rfl, _⟩ := h; rfl) | (obtain ⟨_, _, _, _, _, _, rfl, _⟩ := h; rfl) | (obtain ⟨_, _, _, _, _, _, _, rfl, _⟩ := h; rfl) | (obtain ⟨_, _, _, _, _, _, _, _, rfl, _⟩ := h; rfl) | (obtain ⟨_, _, _, _, _, _, _, _, _, rfl, _⟩ := h; rfl)) (fun cdv A outer s H vs Q E hr h => unW (body_least_cycle (X := (cxOf CX0 P w K mg base ["ends", "rise", "cycle", "prime"] "least_cycle" (defScope s_least_cycle) f cdv A outer s H E).nox) ⟨rfl, rfl, rfl, PassesOwn.never⟩ hr z_len C_prime_factors C_repeats h)), b, F.kp, m⟩
noncomputable def mixI (c k : Int) : Int := ((c + 7 * k + 1) * 48271 % 2147483647 + k) * 69621 % 2147483647
noncomputable def drawAt (ns : List Int) (k : Int) : Int := if cell ns 0 % 2 = 1 then mixI (cell ns k) k else cell ns k
noncomputable def BitsOk (ns : List Int) : Prop := ∀ z ∈ ns, Builtin.Int.intBits z ≤ 1048576
noncomputable def sp_law_draw (K : PySem.W.Frag) : Sp := fun vs H Q _ => ∃ (a : Addr) (ns : List Int) (k : Int), vs = [.ref a, .int k] ∧ SqL K H a (ns.map V.int) ∧ 0 ≤ k ∧ k ≤ 1000 ∧ Q (.int (drawAt ns k)) H
theorem cal_law_draw {P : Program} {w : World} {K : PySem.W.Frag} {mg : Str → Option Value} {base : Heap} {f : Addr} {fd : FuncData} (F : Fun K "_law_draw" "_law_draw" s_law_draw f fd) (b : Binds K fd ["_law_script", "_law_k"] []) (m : mg "_law_draw" = some (.ref f)) (C_law_at : Cal P w K mg base "_law_at" 1 ["_law_script", "_law_k"] (sp_law_at K)) : Cal P w K mg base "_law_draw" 2 ["_law_script", "_law_k"] (sp_law_draw K) := by
  obtain ⟨f_law_at, d_law_at, G_law_at, b_law_at, k_law_at, m_law_at⟩ := C_law_at
  refine ⟨f, fd, F.ok sc_law_draw (fun vs H Q E h => ?_) (fun cdv A outer s H vs Q E hr h => ?_), b, F.kp, m⟩
  · first | (obtain ⟨_, rfl, _⟩ := h; rfl) | (obtain ⟨_, _, rfl, _⟩ := h; rfl) | (obtain ⟨_, _, _, rfl, _⟩ := h; rfl) | (obtain ⟨_, _, _, _, rfl, _⟩ := h; rfl) | (obtain ⟨_, _, _, _, _, rfl, _⟩ := h; rfl) | (obtain ⟨_, _, _, _, _, _, rfl, _⟩ := h; rfl) | (obtain ⟨_, _, _, _, _, _, _, rfl, _⟩ := h; rfl) | (obtain ⟨_, _, _, _, _, _, _, _, rfl, _⟩ := h; rfl) | (obtain ⟨_, _, _, _, _, _, _, _, _, rfl, _⟩ := h; rfl)
  · obtain ⟨a, ns, k, rfl, hS, h0, h1, q⟩ := h
    refine ⟨_, (pss_cons (ps_set (i := 2) sc_law_draw.nd rfl (Or.inl rfl) (pe_call (G_law_at.mono (by decide)) hr rfl m_law_at k_law_at b_law_at .nil pass0 (pa_cons (pv 0) (pa_cons (pv 1) pa_nil))))
      (pss_cons (ps_if (pt_cmpR op_eq (pe_op op_mod (pe_call (G_law_at.mono (by decide)) hr rfl m_law_at k_law_at b_law_at .nil pass0 (pa_cons (pv 0) (pa_cons pe_int pa_nil))) pe_int) pe_int (nomark _))
      (pss_one (ps_set (i := 2) sc_law_draw.nd rfl (Or.inl rfl) (pe_op op_mod (pe_op op_mulB (pe_op op_add (pe_op op_mod (pe_op op_mulB (pe_op op_add (pe_op op_add (pv 2) (pe_op op_mulB pe_int (pv 1))) pe_int) pe_int) pe_int) (pv 1)) pe_int) pe_int)))
      pss_nil)
      (pss_one (ps_ret (pv 2))))), ?_⟩
    refine ⟨_, rfl, _, rfl, a, ns, _, rfl, hS, h0, ?_⟩
    refine ⟨_, rfl, a, ns, _, rfl, hS, by decide, _, _, rfl, rfl, (by decide : (0 : Int) < 2), rfl, _, rfl, ?_⟩
    refine if2 (fun c => ?_) (fun c => ?_)
    · have e : drawAt ns k = mixI (cell ns k) k := if_pos (of_int c)
      rw [e] at q
      exact ⟨_, rfl, _, rfl, _, _, rfl, rfl, mul_l (by decide) (by decide), _, _, rfl, rfl, _, _, rfl, rfl, _, _, rfl, rfl, mul_r (by decide) (by decide), _, _, rfl, rfl, (by decide : (0 : Int) < 2147483647), _, rfl, _, _, rfl, rfl, _, _, rfl, rfl, mul_r (by decide) (by decide), _, _, rfl, rfl, (by decide : (0 : Int) < 2147483647), _, rfl, q⟩
    · have e : drawAt ns k = cell ns k := if_neg fun z => c (inj_int z)
      rw [e] at q
      exact ⟨_, rfl, q⟩
theorem lk_law_own_0 : (defScope s_law_own).names.lookup ("_law_step_here" : Str) = some .local := by decide +kernel
theorem pv_law_own_0 {X : Cx} (c : CxIs X ["_law_step_here", "_law_wide"] (defScope s_law_own)) {pos : Pos} : WE X (.Name "_law_step_here" pos) (tVar 0) := wxv c rfl lk_law_own_0 (by decide) (by decide)
theorem lk_law_own_1 : (defScope s_law_own).names.lookup ("_law_wide" : Str) = some .local := by decide +kernel
theorem pv_law_own_1 {X : Cx} (c : CxIs X ["_law_step_here", "_law_wide"] (defScope s_law_own)) {pos : Pos} : WE X (.Name "_law_wide" pos) (tVar 1) := wxv c rfl lk_law_own_1 (by decide) (by decide)
theorem ss_law_own_1 {X : Cx} (c : CxIs X ["_law_step_here", "_law_wide"] (defScope s_law_own)) {pos pos' : Pos} {e : Expr} {te : TE} (he : WE X e te) (hs : swapsWith e (some (.Name "_law_wide" pos')) pos.line X.env = pure false := by rfl) : WS X (.Assign [.Name "_law_wide" pos'] e pos) (tAsg te (gN 1)) := wxs c sc_law_own.nd rfl lk_law_own_1 he hs
theorem gl_law_own_law_gcd {X : Cx} (c : CxIs X ["_law_step_here", "_law_wide"] (defScope s_law_own)) : Gl X "_law_gcd" := xg c (by decide +kernel)
theorem gl_law_own_law_num {X : Cx} (c : CxIs X ["_law_step_here", "_law_wide"] (defScope s_law_own)) : Gl X "_law_num" := xg c (by decide +kernel)
theorem st_law_own (v0 : V) : L2.start ["_law_step_here", "_law_wide"] [v0] = [some v0, none] := rfl
noncomputable def sp_law_own (K : PySem.W.Frag) : Sp := fun vs H Q _ => ∃ (a : Addr) (st : StepD), vs = [.ref a] ∧ SqT K H a st.vals ∧ st.Ok ∧ Q (.int st.cyc) H
theorem body_law_own {X : Cx} (c : CxIs X ["_law_step_here", "_law_wide"] (defScope s_law_own)) (hr : Room 1 X.A) {E : XK}  (C_law_gcd : Cal X.prog X.w X.K X.mg X.base "_law_gcd" 1 ["_law_one", "_law_other"] (sp_law_gcd X.K)) (C_law_num : Cal X.prog X.w X.K X.mg X.base "_law_num" 1 ["_law_step_here"] (sp_law_num X.K)) {vs : List V} {H : Hp} {Q : VK} (h : sp_law_own X.K vs H Q E) : ∃ t, WSs X (defBody s_law_own) t ∧ t { nx := fun _ H' => Q .non H', rt := Q } (L2.start ["_law_step_here", "_law_wide"] vs) H := by
  obtain ⟨f_law_gcd, d_law_gcd, G_law_gcd, b_law_gcd, k_law_gcd, m_law_gcd⟩ := C_law_gcd
  obtain ⟨f_law_num, d_law_num, G_law_num, b_law_num, k_law_num, m_law_num⟩ := C_law_num
  · obtain ⟨a, st, rfl, hT, hO, q⟩ := h
    refine ⟨_, (wss_cons (ss_law_own_1 c (we_op op_mulB (we_ix ix_tup (pv_law_own_0 c) we_int plain_Constant) (we_ix ix_tup (pv_law_own_0 c) we_int plain_Constant)))
      (wss_one (ws_ret (we_op op_fdivB (pv_law_own_1 c) (we_call (G_law_gcd.mono (by decide)) hr (gl_law_own_law_gcd c) m_law_gcd k_law_gcd b_law_gcd .nil pass0 (wa_cons (we_call (G_law_num.mono (by decide)) hr (gl_law_own_law_num c) m_law_num k_law_num b_law_num .nil pass0 (wa_cons (pv_law_own_0 c) wa_nil star_Name)) (wa_cons (pv_law_own_1 c) wa_nil star_Name) star_Call)))))), ?_⟩
    rw [st_law_own]
    have u0 := hO.u0
    have u1 := hO.u1
    have w0 := hO.wide0
    have w1 := hO.wide1
    have n0 := hO.num0
    have g0 := hO.cg0
    have g1 : st.cg ≤ st.wide := gcd_le w0
    refine ⟨_, rfl, a, _, _, _, rfl, rfl, hT, rfl, _, rfl, a, _, _, _, rfl, rfl, hT, rfl, _, _, rfl, rfl, mul_r (by omega) (by omega), fun σ e => ?_⟩
    dsimp only [List.set] at e
    subst e
    exact ⟨_, rfl, _, rfl, a, st, rfl, hT, _, rfl, _, _, rfl, (by omega), Int.le_of_lt w0, _, _, rfl, rfl, ⟨g0, Int.lt_of_le_of_lt g1 (Int.lt_of_le_of_lt w1 (by decide +kernel))⟩, q⟩
theorem cal_law_own {P : Program} {w : World} {K : PySem.W.Frag} {mg : Str → Option Value} {base : Heap} {f : Addr} {fd : FuncData} (F : Fun K "_law_own" "_law_own" s_law_own f fd) (b : Binds K fd ["_law_step_here"] []) (m : mg "_law_own" = some (.ref f)) (C_law_gcd : Cal P w K mg base "_law_gcd" 1 ["_law_one", "_law_other"] (sp_law_gcd K)) (C_law_num : Cal P w K mg base "_law_num" 1 ["_law_step_here"] (sp_law_num K)) : Cal P w K mg base "_law_own" 2 ["_law_step_here"] (sp_law_own K) :=
  ⟨f, fd, F.ok sc_law_own (fun vs H Q E h => by first | (obtain ⟨_, rfl, _⟩ := h; rfl) | (obtain ⟨_, _, rfl, _⟩ := h; rfl) | (obtain ⟨_, _, _, rfl, _⟩ := h; rfl) | (obtain ⟨_, _, _, _, rfl, _⟩ := h; rfl) | (obtain ⟨_, _, _, _, _, rfl, _⟩ := h; rfl) | (obtain ⟨_, _, _, _, _, _, rfl, _⟩ := h; rfl) | (obtain ⟨_, _, _, _, _, _, _, rfl, _⟩ := h; rfl) | (obtain ⟨_, _, _, _, _, _, _, _, rfl, _⟩ := h; rfl) | (obtain ⟨_, _, _, _, _, _, _, _, _, rfl, _⟩ := h; rfl)) (fun cdv A outer s H vs Q E hr h => unW (body_law_own (X := (cxOf CX0 P w K mg base ["_law_step_here", "_law_wide"] "_law_own" (defScope s_law_own) f cdv A outer s H E).nox) ⟨rfl, rfl, rfl, PassesOwn.never⟩ hr C_law_gcd C_law_num h)), b, F.kp, m⟩
noncomputable def sp_share (K : PySem.W.Frag) : Sp := fun vs H Q _ => ∃ (a : Addr) (st : StepD), vs = [.ref a] ∧ SqT K H a st.vals ∧ st.Ok ∧ ∀ p H', Same H H' → SqT K H' p [.int st.sn, .int st.sd] → st.Ok → Q (.ref p) H'
theorem cal_share {P : Program} {w : World} {K : PySem.W.Frag} {mg : Str → Option Value} {base : Heap} {f : Addr} {fd : FuncData} (F : Fun K "share" "share" s_share f fd) (b : Binds K fd ["step"] []) (m : mg "share" = some (.ref f)) (C_lowest : Cal P w K mg base "lowest" 2 ["num", "den"] (sp_lowest K)) : Cal P w K mg base "share" 3 ["step"] (sp_share K) := by
  obtain ⟨f_lowest, d_lowest, G_lowest, b_lowest, k_lowest, m_lowest⟩ := C_lowest
  refine ⟨f, fd, F.ok sc_share (fun vs H Q E h => ?_) (fun cdv A outer s H vs Q E hr h => ?_), b, F.kp, m⟩
  · first | (obtain ⟨_, rfl, _⟩ := h; rfl) | (obtain ⟨_, _, rfl, _⟩ := h; rfl) | (obtain ⟨_, _, _, rfl, _⟩ := h; rfl) | (obtain ⟨_, _, _, _, rfl, _⟩ := h; rfl) | (obtain ⟨_, _, _, _, _, rfl, _⟩ := h; rfl) | (obtain ⟨_, _, _, _, _, _, rfl, _⟩ := h; rfl) | (obtain ⟨_, _, _, _, _, _, _, rfl, _⟩ := h; rfl) | (obtain ⟨_, _, _, _, _, _, _, _, rfl, _⟩ := h; rfl) | (obtain ⟨_, _, _, _, _, _, _, _, _, rfl, _⟩ := h; rfl)
  · obtain ⟨a, st, rfl, hT, hO, q⟩ := h
    refine ⟨_, (pss_cons (ps_set (i := 1) sc_share.nd rfl (Or.inl rfl) (pe_ix ix_tup (pv 0) pe_int (fun _ _ => rfl)))
      (pss_cons (ps_set (i := 2) sc_share.nd rfl (Or.inl rfl) (pe_ix ix_tup (pv 0) pe_int (fun _ _ => rfl)))
      (pss_cons (ps_set (i := 3) sc_share.nd rfl (Or.inl rfl) (pe_ix ix_tup (pv 0) pe_int (fun _ _ => rfl)))
      (pss_cons (ps_if (pt_cmpR op_eq (pv 1) pe_str (nomark _))
      (pss_one (ps_ret (pe_call (G_lowest.mono (by decide)) hr rfl m_lowest k_lowest b_lowest .nil pass0 (pa_cons (pe_op op_add (pv 3) (pv 2)) (pa_cons (pv 3) pa_nil)))))
      pss_nil)
      (pss_cons (ps_if (pt_cmpR op_eq (pv 1) pe_str (nomark _))
      (pss_one (ps_ret (pe_call (G_lowest.mono (by decide)) hr rfl m_lowest k_lowest b_lowest .nil pass0 (pa_cons (pe_op op_sub (pv 3) (pv 2)) (pa_cons (pv 3) pa_nil)))))
      pss_nil)
      (pss_one (ps_ret (pe_call (G_lowest.mono (by decide)) hr rfl m_lowest k_lowest b_lowest .nil pass0 (pa_cons (pv 2) (pa_cons (pv 3) pa_nil)))))))))), ?_⟩
    have n0 := hO.num0
    have d0 := hO.d0
    have d1 := hO.d1
    have dd : st.d < 2 ^ 350 := by omega
    refine ⟨_, rfl, a, _, _, _, rfl, rfl, hT, rfl, ?_⟩
    refine ⟨_, rfl, a, _, _, _, rfl, rfl, hT, rfl, ?_⟩
    refine ⟨_, rfl, a, _, _, _, rfl, rfl, hT, rfl, ?_⟩
    refine ⟨_, rfl, rfl, _, rfl, ?_⟩
    refine if2 (fun c => ?_) (fun c => ?_)
    · have e : st.num = st.d + st.n := if_pos (V.str.inj c)
      refine ⟨_, rfl, _, rfl, _, _, rfl, rfl, _, rfl, _, _, rfl, by omega, d0, dd, fun p H' sH hP => q p H' sH ?_ hO⟩
      unfold StepD.sn StepD.sd StepD.g; rw [e]; exact hP
    have c' : ¬ st.w = "add" := fun z => c (by rw [z])
    refine ⟨_, rfl, rfl, _, rfl, ?_⟩
    refine if2 (fun c2 => ?_) (fun c2 => ?_)
    · have e : st.num = st.d - st.n := by unfold StepD.num; rw [if_neg c', if_pos (V.str.inj c2)]
      refine ⟨_, rfl, _, rfl, _, _, rfl, rfl, _, rfl, _, _, rfl, by omega, d0, dd, fun p H' sH hP => q p H' sH ?_ hO⟩
      unfold StepD.sn StepD.sd StepD.g; rw [e]; exact hP
    · have c2' : ¬ st.w = "off" := fun z => c2 (by rw [z])
      have e : st.num = st.n := by unfold StepD.num; rw [if_neg c', if_neg c2']
      refine ⟨_, rfl, _, rfl, _, _, rfl, by omega, d0, dd, fun p H' sH hP => q p H' sH ?_ hO⟩
      unfold StepD.sn StepD.sd StepD.g; rw [e]; exact hP
theorem lk_law_product_0 : (defScope s_law_product).names.lookup ("_law_steps" : Str) = some .local := by decide +kernel
theorem pv_law_product_0 {X : Cx} (c : CxIs X ["_law_steps", "_law_wide", "_law_step_here"] (defScope s_law_product)) {pos : Pos} : WE X (.Name "_law_steps" pos) (tVar 0) := wxv c rfl lk_law_product_0 (by decide) (by decide)
theorem lk_law_product_1 : (defScope s_law_product).names.lookup ("_law_wide" : Str) = some .local := by decide +kernel
theorem pv_law_product_1 {X : Cx} (c : CxIs X ["_law_steps", "_law_wide", "_law_step_here"] (defScope s_law_product)) {pos : Pos} : WE X (.Name "_law_wide" pos) (tVar 1) := wxv c rfl lk_law_product_1 (by decide) (by decide)
theorem ss_law_product_1 {X : Cx} (c : CxIs X ["_law_steps", "_law_wide", "_law_step_here"] (defScope s_law_product)) {pos pos' : Pos} {e : Expr} {te : TE} (he : WE X e te) (hs : swapsWith e (some (.Name "_law_wide" pos')) pos.line X.env = pure false := by rfl) : WS X (.Assign [.Name "_law_wide" pos'] e pos) (tAsg te (gN 1)) := wxs c sc_law_product.nd rfl lk_law_product_1 he hs
theorem lk_law_product_2 : (defScope s_law_product).names.lookup ("_law_step_here" : Str) = some .local := by decide +kernel
theorem pv_law_product_2 {X : Cx} (c : CxIs X ["_law_steps", "_law_wide", "_law_step_here"] (defScope s_law_product)) {pos : Pos} : WE X (.Name "_law_step_here" pos) (tVar 2) := wxv c rfl lk_law_product_2 (by decide) (by decide)
theorem sg_law_product_2 {X : Cx} (c : CxIs X ["_law_steps", "_law_wide", "_law_step_here"] (defScope s_law_product)) {pos : Pos} : WG X (.Name "_law_step_here" pos) (gN 2) := wxt c sc_law_product.nd rfl lk_law_product_2
theorem gl_law_product_law_own {X : Cx} (c : CxIs X ["_law_steps", "_law_wide", "_law_step_here"] (defScope s_law_product)) : Gl X "_law_own" := xg c (by decide +kernel)
theorem st_law_product (v0 : V) : L2.start ["_law_steps", "_law_wide", "_law_step_here"] [v0] = [some v0, none, none] := rfl
noncomputable def sp_law_product (K : PySem.W.Frag) : Sp := fun vs H Q _ => ∃ (l : Addr) (as : List Addr) (sts : List StepD), vs = [.ref l] ∧ Chn K H l as sts ∧ Q (.int (prodI sts)) H
theorem body_law_product {X : Cx} (c : CxIs X ["_law_steps", "_law_wide", "_law_step_here"] (defScope s_law_product)) (hr : Room 2 X.A) {E : XK}  (C_law_own : Cal X.prog X.w X.K X.mg X.base "_law_own" 2 ["_law_step_here"] (sp_law_own X.K)) {vs : List V} {H : Hp} {Q : VK} (h : sp_law_product X.K vs H Q E) : ∃ t, WSs X (defBody s_law_product) t ∧ t { nx := fun _ H' => Q .non H', rt := Q } (L2.start ["_law_steps", "_law_wide", "_law_step_here"] vs) H := by
  obtain ⟨f_law_own, d_law_own, G_law_own, b_law_own, k_law_own, m_law_own⟩ := C_law_own
  · obtain ⟨l, as, sts, rfl, hC, q⟩ := h
    refine ⟨_, (wss_cons (ss_law_product_1 c we_int)
      (wss_cons (ws_for c.own c.calm (wi_list (pv_law_product_0 c)) (sg_law_product_2 c)
      (wss_one (ss_law_product_1 c (we_op op_mulB (pv_law_product_1 c) (we_call (G_law_own.mono (by decide)) hr (gl_law_product_law_own c) m_law_own k_law_own b_law_own .nil pass0 (wa_cons (pv_law_product_2 c) wa_nil star_Name))))))
      (wss_one (ws_ret (pv_law_product_1 c))))), ?_⟩
    rw [st_law_product]
    intro σ e
    dsimp only [List.set] at e
    subst e
    refine ⟨_, rfl, l, rfl, ⟨_, hC.lst⟩, for_list (K := X.K) (a := l) (xs := as.map V.ref) (fun i σ H' => H' = H ∧ ∃ v, σ = [some (.ref l), some (.int (prodI (sts.take i))), v])
      ⟨rfl, _, rfl⟩ (fun i σ H' _ ⟨e, _⟩ => by rw [e]; exact hC.lst) ?_ ?_⟩
    · rintro i x σ H' hi ⟨rfl, v, rfl⟩ σ e
      obtain ⟨a, st, rfl, h1, h2, hT, hO⟩ := hC.get hi
      dsimp only [List.set] at e
      subst e
      have c0 := hO.cyc0
      have c1 := hO.cyc1
      refine ⟨_, rfl, _, rfl, a, st, rfl, hT, hO, _, _, rfl, rfl, mul_r (by omega) (by omega), fun σ e => ?_⟩
      dsimp only [List.set] at e
      subst e
      exact ⟨rfl, _, by rw [take_snoc h2, prodI_snoc]⟩
    · rintro σ H' ⟨rfl, v, rfl⟩
      refine ⟨_, rfl, ?_⟩
      have e : sts.take (as.map V.ref).length = sts := by rw [List.length_map, hC.len, List.take_length]
      rw [e]
      exact q
theorem cal_law_product {P : Program} {w : World} {K : PySem.W.Frag} {mg : Str → Option Value} {base : Heap} {f : Addr} {fd : FuncData} (F : Fun K "_law_product" "_law_product" s_law_product f fd) (b : Binds K fd ["_law_steps"] []) (m : mg "_law_product" = some (.ref f)) (C_law_own : Cal P w K mg base "_law_own" 2 ["_law_step_here"] (sp_law_own K)) : Cal P w K mg base "_law_product" 3 ["_law_steps"] (sp_law_product K) :=
  ⟨f, fd, F.ok sc_law_product (fun vs H Q E h => by first | (obtain ⟨_, rfl, _⟩ := h; rfl) | (obtain ⟨_, _, rfl, _⟩ := h; rfl) | (obtain ⟨_, _, _, rfl, _⟩ := h; rfl) | (obtain ⟨_, _, _, _, rfl, _⟩ := h; rfl) | (obtain ⟨_, _, _, _, _, rfl, _⟩ := h; rfl) | (obtain ⟨_, _, _, _, _, _, rfl, _⟩ := h; rfl) | (obtain ⟨_, _, _, _, _, _, _, rfl, _⟩ := h; rfl) | (obtain ⟨_, _, _, _, _, _, _, _, rfl, _⟩ := h; rfl) | (obtain ⟨_, _, _, _, _, _, _, _, _, rfl, _⟩ := h; rfl)) (fun cdv A outer s H vs Q E hr h => unW (body_law_product (X := (cxOf CX0 P w K mg base ["_law_steps", "_law_wide", "_law_step_here"] "_law_product" (defScope s_law_product) f cdv A outer s H E).nox) ⟨rfl, rfl, rfl, PassesOwn.never⟩ hr C_law_own h)), b, F.kp, m⟩
noncomputable def sp_after (K : PySem.W.Frag) : Sp := fun vs H Q _ => ∃ (a : Addr) (st : StepD) (m : Int), vs = [.ref a, .int m] ∧ SqT K H a st.vals ∧ st.Ok ∧ ∀ H', Same H H' → Q (.int (afterI st m)) H'
theorem cal_after {P : Program} {w : World} {K : PySem.W.Frag} {mg : Str → Option Value} {base : Heap} {f : Addr} {fd : FuncData} (F : Fun K "after" "after" s_after f fd) (b : Binds K fd ["step", "amount"] []) (m : mg "after" = some (.ref f)) (C_share : Cal P w K mg base "share" 3 ["step"] (sp_share K)) (C_rounded : Cal P w K mg base "rounded" 1 ["num", "den", "unit", "way"] (sp_rounded K)) : Cal P w K mg base "after" 4 ["step", "amount"] (sp_after K) := by
  obtain ⟨f_share, d_share, G_share, b_share, k_share, m_share⟩ := C_share
  obtain ⟨f_rounded, d_rounded, G_rounded, b_rounded, k_rounded, m_rounded⟩ := C_rounded
  refine ⟨f, fd, F.ok sc_after (fun vs H Q E h => ?_) (fun cdv A outer s H vs Q E hr h => ?_), b, F.kp, m⟩
  · first | (obtain ⟨_, rfl, _⟩ := h; rfl) | (obtain ⟨_, _, rfl, _⟩ := h; rfl) | (obtain ⟨_, _, _, rfl, _⟩ := h; rfl) | (obtain ⟨_, _, _, _, rfl, _⟩ := h; rfl) | (obtain ⟨_, _, _, _, _, rfl, _⟩ := h; rfl) | (obtain ⟨_, _, _, _, _, _, rfl, _⟩ := h; rfl) | (obtain ⟨_, _, _, _, _, _, _, rfl, _⟩ := h; rfl) | (obtain ⟨_, _, _, _, _, _, _, _, rfl, _⟩ := h; rfl) | (obtain ⟨_, _, _, _, _, _, _, _, _, rfl, _⟩ := h; rfl)
  · obtain ⟨a, st, m, rfl, hT, hO, q⟩ := h
    refine ⟨_, (pss_cons (ps_set (i := 2) sc_after.nd rfl (Or.inl rfl) (pe_ix ix_tup (pv 0) pe_int (fun _ _ => rfl)))
      (pss_cons (ps_set (i := 3) sc_after.nd rfl (Or.inl rfl) (pe_ix ix_tup (pv 0) pe_int (fun _ _ => rfl)))
      (pss_cons (ps_set (i := 4) sc_after.nd rfl (Or.inl rfl) (pe_ix ix_tup (pv 0) pe_int (fun _ _ => rfl)))
      (pss_cons (ps_set (i := 5) sc_after.nd rfl (Or.inl rfl) (pe_call (G_share.mono (by decide)) hr rfl m_share k_share b_share .nil pass0 (pa_cons (pv 0) pa_nil)))
      (pss_cons (ps_set (i := 6) sc_after.nd rfl (Or.inl rfl) (pe_op op_add (pe_op op_mulB (pv 1) (pe_ix ix_tup (pv 5) pe_int (fun _ _ => rfl))) (pe_op op_mulB (pv 2) (pe_ix ix_tup (pv 5) pe_int (fun _ _ => rfl)))))
      (pss_one (ps_ret (pe_call (G_rounded.mono (by decide)) hr rfl m_rounded k_rounded b_rounded .nil pass0 (pa_cons (pv 6) (pa_cons (pe_ix ix_tup (pv 5) pe_int (fun _ _ => rfl)) (pa_cons (pv 4) (pa_cons (pv 3) pa_nil)))))))))))), ?_⟩
    have n0 := hO.sn0
    have n1 := hO.sn1
    have d0 := hO.sd0
    have d1 := hO.sd1
    refine ⟨_, rfl, a, _, _, _, rfl, rfl, hT, rfl, ?_⟩
    refine ⟨_, rfl, a, _, _, _, rfl, rfl, hT, rfl, ?_⟩
    refine ⟨_, rfl, a, _, _, _, rfl, rfl, hT, rfl, ?_⟩
    refine ⟨_, rfl, _, st, rfl, hT, hO, fun p H' sH hP _ => ?_⟩
    refine ⟨_, rfl, _, rfl, p, _, _, _, rfl, rfl, hP, rfl, _, _, rfl, rfl, mul_r (by omega) (by omega), _, rfl, _, rfl, p, _, _, _, rfl, rfl, hP, rfl, _, _, rfl, rfl, mul_r (by omega) (by omega), _, _, rfl, rfl, ?_⟩
    exact ⟨_, rfl, _, rfl, p, _, _, _, rfl, rfl, hP, rfl, _, rfl, _, rfl, _, _, _, _, rfl, d0, by omega, hO.u0, hO.u1, q H' sH⟩
theorem lk_own_cycle_0 : (defScope s_own_cycle).names.lookup ("step" : Str) = some .local := by decide +kernel
theorem pv_own_cycle_0 {X : Cx} (c : CxIs X ["step", "unit", "part", "block", "divisor"] (defScope s_own_cycle)) {pos : Pos} : WE X (.Name "step" pos) (tVar 0) := wxv c rfl lk_own_cycle_0 (by decide) (by decide)
theorem lk_own_cycle_1 : (defScope s_own_cycle).names.lookup ("unit" : Str) = some .local := by decide +kernel
theorem pv_own_cycle_1 {X : Cx} (c : CxIs X ["step", "unit", "part", "block", "divisor"] (defScope s_own_cycle)) {pos : Pos} : WE X (.Name "unit" pos) (tVar 1) := wxv c rfl lk_own_cycle_1 (by decide) (by decide)
theorem ss_own_cycle_1 {X : Cx} (c : CxIs X ["step", "unit", "part", "block", "divisor"] (defScope s_own_cycle)) {pos pos' : Pos} {e : Expr} {te : TE} (he : WE X e te) (hs : swapsWith e (some (.Name "unit" pos')) pos.line X.env = pure false := by rfl) : WS X (.Assign [.Name "unit" pos'] e pos) (tAsg te (gN 1)) := wxs c sc_own_cycle.nd rfl lk_own_cycle_1 he hs
theorem lk_own_cycle_2 : (defScope s_own_cycle).names.lookup ("part" : Str) = some .local := by decide +kernel
theorem pv_own_cycle_2 {X : Cx} (c : CxIs X ["step", "unit", "part", "block", "divisor"] (defScope s_own_cycle)) {pos : Pos} : WE X (.Name "part" pos) (tVar 2) := wxv c rfl lk_own_cycle_2 (by decide) (by decide)
theorem ss_own_cycle_2 {X : Cx} (c : CxIs X ["step", "unit", "part", "block", "divisor"] (defScope s_own_cycle)) {pos pos' : Pos} {e : Expr} {te : TE} (he : WE X e te) (hs : swapsWith e (some (.Name "part" pos')) pos.line X.env = pure false := by rfl) : WS X (.Assign [.Name "part" pos'] e pos) (tAsg te (gN 2)) := wxs c sc_own_cycle.nd rfl lk_own_cycle_2 he hs
theorem lk_own_cycle_3 : (defScope s_own_cycle).names.lookup ("block" : Str) = some .local := by decide +kernel
theorem pv_own_cycle_3 {X : Cx} (c : CxIs X ["step", "unit", "part", "block", "divisor"] (defScope s_own_cycle)) {pos : Pos} : WE X (.Name "block" pos) (tVar 3) := wxv c rfl lk_own_cycle_3 (by decide) (by decide)
theorem ss_own_cycle_3 {X : Cx} (c : CxIs X ["step", "unit", "part", "block", "divisor"] (defScope s_own_cycle)) {pos pos' : Pos} {e : Expr} {te : TE} (he : WE X e te) (hs : swapsWith e (some (.Name "block" pos')) pos.line X.env = pure false := by rfl) : WS X (.Assign [.Name "block" pos'] e pos) (tAsg te (gN 3)) := wxs c sc_own_cycle.nd rfl lk_own_cycle_3 he hs
theorem lk_own_cycle_4 : (defScope s_own_cycle).names.lookup ("divisor" : Str) = some .local := by decide +kernel
theorem pv_own_cycle_4 {X : Cx} (c : CxIs X ["step", "unit", "part", "block", "divisor"] (defScope s_own_cycle)) {pos : Pos} : WE X (.Name "divisor" pos) (tVar 4) := wxv c rfl lk_own_cycle_4 (by decide) (by decide)
theorem ss_own_cycle_4 {X : Cx} (c : CxIs X ["step", "unit", "part", "block", "divisor"] (defScope s_own_cycle)) {pos pos' : Pos} {e : Expr} {te : TE} (he : WE X e te) (hs : swapsWith e (some (.Name "divisor" pos')) pos.line X.env = pure false := by rfl) : WS X (.Assign [.Name "divisor" pos'] e pos) (tAsg te (gN 4)) := wxs c sc_own_cycle.nd rfl lk_own_cycle_4 he hs
theorem gl_own_cycle_share {X : Cx} (c : CxIs X ["step", "unit", "part", "block", "divisor"] (defScope s_own_cycle)) : Gl X "share" := xg c (by decide +kernel)
theorem gl_own_cycle_common_divisor {X : Cx} (c : CxIs X ["step", "unit", "part", "block", "divisor"] (defScope s_own_cycle)) : Gl X "common_divisor" := xg c (by decide +kernel)
theorem st_own_cycle (v0 : V) : L2.start ["step", "unit", "part", "block", "divisor"] [v0] = [some v0, none, none, none, none] := rfl
theorem gcd_scale {x y g : Int} (hg : 0 < g) : ((Int.gcd (x * g) (y * g) : Nat) : Int) = ((Int.gcd x y : Nat) : Int) * g := by
  rw [Int.gcd_mul_right, Int.natCast_mul, Int.natAbs_of_nonneg (Int.le_of_lt hg)]
theorem own_block {st : StepD} (h : st.Ok) : st.sd * st.u / ((Int.gcd st.sn (st.sd * st.u) : Nat) : Int) = st.cyc := by
  have hg := h.g0
  have e : st.cg = ((Int.gcd st.sn (st.sd * st.u) : Nat) : Int) * st.g := by
    rw [← gcd_scale hg, st.gn, wide_g]; rfl
  show _ = st.wide / st.cg
  rw [e, show st.wide = st.sd * st.u * st.g from (wide_g st).symm]
  exact (Int.mul_ediv_mul_of_pos_left _ _ hg).symm
theorem own_rise {st : StepD} (h : st.Ok) : st.sn * st.u / ((Int.gcd st.sn (st.sd * st.u) : Nat) : Int) = st.kk * st.u := by
  have hg := h.g0
  have e : st.cg = ((Int.gcd st.sn (st.sd * st.u) : Nat) : Int) * st.g := by
    rw [← gcd_scale hg, st.gn, wide_g]; rfl
  have e2 : st.kk = st.sn / ((Int.gcd st.sn (st.sd * st.u) : Nat) : Int) := by
    show st.num / st.cg = _
    rw [e, show st.num = st.sn * st.g from st.gn.symm]
    exact Int.mul_ediv_mul_of_pos_left _ _ hg
  have d : ((Int.gcd st.sn (st.sd * st.u) : Nat) : Int) ∣ st.sn := Int.gcd_dvd_left _ _
  rw [e2, Int.mul_comm st.sn, Int.mul_ediv_assoc _ d, Int.mul_comm]
noncomputable def sp_own_cycle (K : PySem.W.Frag) : Sp := fun vs H Q _ => ∃ (a : Addr) (st : StepD), vs = [.ref a] ∧ SqT K H a st.vals ∧ st.Ok ∧ ∀ p H', Same H H' → SqT K H' p [.int st.cyc, .int (st.kk * st.u)] → Q (.ref p) H'
theorem body_own_cycle {X : Cx} (c : CxIs X ["step", "unit", "part", "block", "divisor"] (defScope s_own_cycle)) (hr : Room 3 X.A) {E : XK}  (C_share : Cal X.prog X.w X.K X.mg X.base "share" 3 ["step"] (sp_share X.K)) (C_common_divisor : Cal X.prog X.w X.K X.mg X.base "common_divisor" 1 ["one", "other"] (sp_common_divisor X.K)) {vs : List V} {H : Hp} {Q : VK} (h : sp_own_cycle X.K vs H Q E) : ∃ t, WSs X (defBody s_own_cycle) t ∧ t { nx := fun _ H' => Q .non H', rt := Q } (L2.start ["step", "unit", "part", "block", "divisor"] vs) H := by
  obtain ⟨f_share, d_share, G_share, b_share, k_share, m_share⟩ := C_share
  obtain ⟨f_common_divisor, d_common_divisor, G_common_divisor, b_common_divisor, k_common_divisor, m_common_divisor⟩ := C_common_divisor
  · obtain ⟨a, st, rfl, hT, hO, q⟩ := h
    refine ⟨_, (wss_cons (ss_own_cycle_1 c (we_ix ix_tup (pv_own_cycle_0 c) we_int plain_Constant))
      (wss_cons (ss_own_cycle_2 c (we_call (G_share.mono (by decide)) hr (gl_own_cycle_share c) m_share k_share b_share .nil pass0 (wa_cons (pv_own_cycle_0 c) wa_nil star_Name)))
      (wss_cons (ss_own_cycle_3 c (we_op op_mulB (we_ix ix_tup (pv_own_cycle_2 c) we_int plain_Constant) (pv_own_cycle_1 c)))
      (wss_cons (ss_own_cycle_4 c (we_call (G_common_divisor.mono (by decide)) hr (gl_own_cycle_common_divisor c) m_common_divisor k_common_divisor b_common_divisor .nil pass0 (wa_cons (we_ix ix_tup (pv_own_cycle_2 c) we_int plain_Constant) (wa_cons (pv_own_cycle_3 c) wa_nil star_Name) star_Subscript)))
      (wss_one (ws_ret (we_tupO (wa_cons (we_op op_fdivB (pv_own_cycle_3 c) (pv_own_cycle_4 c)) (wa_cons (we_op op_fdivB (we_op op_mulB (we_ix ix_tup (pv_own_cycle_2 c) we_int plain_Constant) (pv_own_cycle_1 c)) (pv_own_cycle_4 c)) wa_nil star_BinOp) star_BinOp)))))))), ?_⟩
    rw [st_own_cycle]
    have n0 := hO.sn0
    have n1 := hO.sn1
    have d0 := hO.sd0
    have d1 := hO.sd1
    have u0 := hO.u0
    have u1 := hO.u1
    have hB := su_pos hO
    have hB2 : st.sd * st.u ≤ st.sd * 100 := Int.mul_le_mul_of_nonneg_left u1 (by omega)
    have g0 := gcd_pos (x := st.sn) hB
    have g1 := gcd_le (x := st.sn) hB
    have mu : ∀ x, CMulB x st.u := fun x => mul_r (by omega) (by omega)
    have hd : CDivB 0 ((Int.gcd st.sn (st.sd * st.u) : Nat) : Int) := ⟨g0, by omega⟩
    refine ⟨_, rfl, a, _, _, _, rfl, rfl, hT, rfl, fun σ e => ?_⟩
    dsimp only [List.set] at e
    subst e
    refine ⟨_, rfl, a, st, rfl, hT, hO, fun p H' sH hP _ σ e => ?_⟩
    dsimp only [List.set] at e
    subst e
    refine ⟨_, rfl, p, _, _, _, rfl, rfl, hP, rfl, _, rfl, _, _, rfl, rfl, mu _, fun σ e => ?_⟩
    dsimp only [List.set] at e
    subst e
    refine ⟨_, rfl, p, _, _, _, rfl, rfl, hP, rfl, _, rfl, _, _, rfl, (by omega), (by omega), fun σ e => ?_⟩
    dsimp only [List.set] at e
    subst e
    refine ⟨_, rfl, _, rfl, _, _, rfl, rfl, hd, _, rfl, p, _, _, _, rfl, rfl, hP, rfl, _, rfl, _, _, rfl, rfl, mu _, _, rfl, _, _, rfl, rfl, hd, (small' (by show 2 ≤ 1000; decide)), fun p1 H1 _ s1 f1 => ?_⟩
    refine q p1 H1 (sH.trans s1) (SqT.of ?_)
    rw [f1, ← own_block hO, ← own_rise hO]
theorem cal_own_cycle {P : Program} {w : World} {K : PySem.W.Frag} {mg : Str → Option Value} {base : Heap} {f : Addr} {fd : FuncData} (F : Fun K "own_cycle" "own_cycle" s_own_cycle f fd) (b : Binds K fd ["step"] []) (m : mg "own_cycle" = some (.ref f)) (C_share : Cal P w K mg base "share" 3 ["step"] (sp_share K)) (C_common_divisor : Cal P w K mg base "common_divisor" 1 ["one", "other"] (sp_common_divisor K)) : Cal P w K mg base "own_cycle" 4 ["step"] (sp_own_cycle K) :=
  ⟨f, fd, F.ok sc_own_cycle (fun vs H Q E h => by first | (obtain ⟨_, rfl, _⟩ := h; rfl) | (obtain ⟨_, _, rfl, _⟩ := h; rfl) | (obtain ⟨_, _, _, rfl, _⟩ := h; rfl) | (obtain ⟨_, _, _, _, rfl, _⟩ := h; rfl) | (obtain ⟨_, _, _, _, _, rfl, _⟩ := h; rfl) | (obtain ⟨_, _, _, _, _, _, rfl, _⟩ := h; rfl) | (obtain ⟨_, _, _, _, _, _, _, rfl, _⟩ := h; rfl) | (obtain ⟨_, _, _, _, _, _, _, _, rfl, _⟩ := h; rfl) | (obtain ⟨_, _, _, _, _, _, _, _, _, rfl, _⟩ := h; rfl)) (fun cdv A outer s H vs Q E hr h => unW (body_own_cycle (X := (cxOf CX0 P w K mg base ["step", "unit", "part", "block", "divisor"] "own_cycle" (defScope s_own_cycle) f cdv A outer s H E).nox) ⟨rfl, rfl, rfl, PassesOwn.never⟩ hr C_share C_common_divisor h)), b, F.kp, m⟩
theorem lk_law_chain_0 : (defScope s_law_chain).names.lookup ("_law_script" : Str) = some .local := by decide +kernel
theorem pv_law_chain_0 {X : Cx} (c : CxIs X ["_law_script", "_law_base", "_law_many", "_law_limit", "_law_size", "_law_steps", "_law_k", "_law_cell", "_law_step_here"] (defScope s_law_chain)) {pos : Pos} : WE X (.Name "_law_script" pos) (tVar 0) := wxv c rfl lk_law_chain_0 (by decide) (by decide)
theorem lk_law_chain_1 : (defScope s_law_chain).names.lookup ("_law_base" : Str) = some .local := by decide +kernel
theorem pv_law_chain_1 {X : Cx} (c : CxIs X ["_law_script", "_law_base", "_law_many", "_law_limit", "_law_size", "_law_steps", "_law_k", "_law_cell", "_law_step_here"] (defScope s_law_chain)) {pos : Pos} : WE X (.Name "_law_base" pos) (tVar 1) := wxv c rfl lk_law_chain_1 (by decide) (by decide)
theorem lk_law_chain_2 : (defScope s_law_chain).names.lookup ("_law_many" : Str) = some .local := by decide +kernel
theorem pv_law_chain_2 {X : Cx} (c : CxIs X ["_law_script", "_law_base", "_law_many", "_law_limit", "_law_size", "_law_steps", "_law_k", "_law_cell", "_law_step_here"] (defScope s_law_chain)) {pos : Pos} : WE X (.Name "_law_many" pos) (tVar 2) := wxv c rfl lk_law_chain_2 (by decide) (by decide)
theorem lk_law_chain_3 : (defScope s_law_chain).names.lookup ("_law_limit" : Str) = some .local := by decide +kernel
theorem pv_law_chain_3 {X : Cx} (c : CxIs X ["_law_script", "_law_base", "_law_many", "_law_limit", "_law_size", "_law_steps", "_law_k", "_law_cell", "_law_step_here"] (defScope s_law_chain)) {pos : Pos} : WE X (.Name "_law_limit" pos) (tVar 3) := wxv c rfl lk_law_chain_3 (by decide) (by decide)
theorem lk_law_chain_4 : (defScope s_law_chain).names.lookup ("_law_size" : Str) = some .local := by decide +kernel
theorem pv_law_chain_4 {X : Cx} (c : CxIs X ["_law_script", "_law_base", "_law_many", "_law_limit", "_law_size", "_law_steps", "_law_k", "_law_cell", "_law_step_here"] (defScope s_law_chain)) {pos : Pos} : WE X (.Name "_law_size" pos) (tVar 4) := wxv c rfl lk_law_chain_4 (by decide) (by decide)
theorem ss_law_chain_4 {X : Cx} (c : CxIs X ["_law_script", "_law_base", "_law_many", "_law_limit", "_law_size", "_law_steps", "_law_k", "_law_cell", "_law_step_here"] (defScope s_law_chain)) {pos pos' : Pos} {e : Expr} {te : TE} (he : WE X e te) (hs : swapsWith e (some (.Name "_law_size" pos')) pos.line X.env = pure false := by rfl) : WS X (.Assign [.Name "_law_size" pos'] e pos) (tAsg te (gN 4)) := wxs c sc_law_chain.nd rfl lk_law_chain_4 he hs
theorem lk_law_chain_5 : (defScope s_law_chain).names.lookup ("_law_steps" : Str) = some .local := by decide +kernel
theorem pv_law_chain_5 {X : Cx} (c : CxIs X ["_law_script", "_law_base", "_law_many", "_law_limit", "_law_size", "_law_steps", "_law_k", "_law_cell", "_law_step_here"] (defScope s_law_chain)) {pos : Pos} : WE X (.Name "_law_steps" pos) (tVar 5) := wxv c rfl lk_law_chain_5 (by decide) (by decide)
theorem ss_law_chain_5 {X : Cx} (c : CxIs X ["_law_script", "_law_base", "_law_many", "_law_limit", "_law_size", "_law_steps", "_law_k", "_law_cell", "_law_step_here"] (defScope s_law_chain)) {pos pos' : Pos} {e : Expr} {te : TE} (he : WE X e te) (hs : swapsWith e (some (.Name "_law_steps" pos')) pos.line X.env = pure false := by rfl) : WS X (.Assign [.Name "_law_steps" pos'] e pos) (tAsg te (gN 5)) := wxs c sc_law_chain.nd rfl lk_law_chain_5 he hs
theorem lk_law_chain_6 : (defScope s_law_chain).names.lookup ("_law_k" : Str) = some .local := by decide +kernel
theorem pv_law_chain_6 {X : Cx} (c : CxIs X ["_law_script", "_law_base", "_law_many", "_law_limit", "_law_size", "_law_steps", "_law_k", "_law_cell", "_law_step_here"] (defScope s_law_chain)) {pos : Pos} : WE X (.Name "_law_k" pos) (tVar 6) := wxv c rfl lk_law_chain_6 (by decide) (by decide)
theorem sg_law_chain_6 {X : Cx} (c : CxIs X ["_law_script", "_law_base", "_law_many", "_law_limit", "_law_size", "_law_steps", "_law_k", "_law_cell", "_law_step_here"] (defScope s_law_chain)) {pos : Pos} : WG X (.Name "_law_k" pos) (gN 6) := wxt c sc_law_chain.nd rfl lk_law_chain_6
theorem lk_law_chain_7 : (defScope s_law_chain).names.lookup ("_law_cell" : Str) = some .local := by decide +kernel
theorem pv_law_chain_7 {X : Cx} (c : CxIs X ["_law_script", "_law_base", "_law_many", "_law_limit", "_law_size", "_law_steps", "_law_k", "_law_cell", "_law_step_here"] (defScope s_law_chain)) {pos : Pos} : WE X (.Name "_law_cell" pos) (tVar 7) := wxv c rfl lk_law_chain_7 (by decide) (by decide)
theorem ss_law_chain_7 {X : Cx} (c : CxIs X ["_law_script", "_law_base", "_law_many", "_law_limit", "_law_size", "_law_steps", "_law_k", "_law_cell", "_law_step_here"] (defScope s_law_chain)) {pos pos' : Pos} {e : Expr} {te : TE} (he : WE X e te) (hs : swapsWith e (some (.Name "_law_cell" pos')) pos.line X.env = pure false := by rfl) : WS X (.Assign [.Name "_law_cell" pos'] e pos) (tAsg te (gN 7)) := wxs c sc_law_chain.nd rfl lk_law_chain_7 he hs
theorem lk_law_chain_8 : (defScope s_law_chain).names.lookup ("_law_step_here" : Str) = some .local := by decide +kernel
theorem pv_law_chain_8 {X : Cx} (c : CxIs X ["_law_script", "_law_base", "_law_many", "_law_limit", "_law_size", "_law_steps", "_law_k", "_law_cell", "_law_step_here"] (defScope s_law_chain)) {pos : Pos} : WE X (.Name "_law_step_here" pos) (tVar 8) := wxv c rfl lk_law_chain_8 (by decide) (by decide)
theorem ss_law_chain_8 {X : Cx} (c : CxIs X ["_law_script", "_law_base", "_law_many", "_law_limit", "_law_size", "_law_steps", "_law_k", "_law_cell", "_law_step_here"] (defScope s_law_chain)) {pos pos' : Pos} {e : Expr} {te : TE} (he : WE X e te) (hs : swapsWith e (some (.Name "_law_step_here" pos')) pos.line X.env = pure false := by rfl) : WS X (.Assign [.Name "_law_step_here" pos'] e pos) (tAsg te (gN 8)) := wxs c sc_law_chain.nd rfl lk_law_chain_8 he hs
theorem gl_law_chain_law_draw {X : Cx} (c : CxIs X ["_law_script", "_law_base", "_law_many", "_law_limit", "_law_size", "_law_steps", "_law_k", "_law_cell", "_law_step_here"] (defScope s_law_chain)) : Gl X "_law_draw" := xg c (by decide +kernel)
theorem gl_law_chain_law_step {X : Cx} (c : CxIs X ["_law_script", "_law_base", "_law_many", "_law_limit", "_law_size", "_law_steps", "_law_k", "_law_cell", "_law_step_here"] (defScope s_law_chain)) : Gl X "_law_step" := xg c (by decide +kernel)
theorem gl_law_chain_law_at {X : Cx} (c : CxIs X ["_law_script", "_law_base", "_law_many", "_law_limit", "_law_size", "_law_steps", "_law_k", "_law_cell", "_law_step_here"] (defScope s_law_chain)) : Gl X "_law_at" := xg c (by decide +kernel)
theorem gl_law_chain_law_product {X : Cx} (c : CxIs X ["_law_script", "_law_base", "_law_many", "_law_limit", "_law_size", "_law_steps", "_law_k", "_law_cell", "_law_step_here"] (defScope s_law_chain)) : Gl X "_law_product" := xg c (by decide +kernel)
theorem gl_law_chain_range {X : Cx} (c : CxIs X ["_law_script", "_law_base", "_law_many", "_law_limit", "_law_size", "_law_steps", "_law_k", "_law_cell", "_law_step_here"] (defScope s_law_chain)) : Gl X "range" := xg c (by decide +kernel)
theorem gl_law_chain_min {X : Cx} (c : CxIs X ["_law_script", "_law_base", "_law_many", "_law_limit", "_law_size", "_law_steps", "_law_k", "_law_cell", "_law_step_here"] (defScope s_law_chain)) : Gl X "min" := xg c (by decide +kernel)
theorem st_law_chain (v0 v1 v2 v3 : V) : L2.start ["_law_script", "_law_base", "_law_many", "_law_limit", "_law_size", "_law_steps", "_law_k", "_law_cell", "_law_step_here"] [v0, v1, v2, v3] = [some v0, some v1, some v2, some v3, none, none, none, none, none] := rfl
noncomputable def sp_law_chain (K : PySem.W.Frag) : Sp := fun vs H Q _ => ∃ (a : Addr) (ns : List Int) (bs many lim : Int), vs = [.ref a, .int bs, .int many, .int lim] ∧ SqL K H a (ns.map V.int) ∧ 0 ≤ bs ∧ bs ≤ 500 ∧ 0 ≤ many ∧ many ≤ 60 ∧ 1 ≤ lim ∧
  ∀ (l : Addr) (as : List Addr) (sts : List StepD) (H' : Hp), Same H H' → H l = none → H' l = some (.lst (as.map V.ref)) → Chn K H' l as sts → (sts.length : Int) ≤ many → prodI sts ≤ lim → Q (.ref l) H'
theorem body_law_chain {X : Cx} (c : CxIs X ["_law_script", "_law_base", "_law_many", "_law_limit", "_law_size", "_law_steps", "_law_k", "_law_cell", "_law_step_here"] (defScope s_law_chain)) (hr : Room 3 X.A) {E : XK}  (z_range : X.mg "range" = none) (z_min : X.mg "min" = none) (C_law_draw : Cal X.prog X.w X.K X.mg X.base "_law_draw" 2 ["_law_script", "_law_k"] (sp_law_draw X.K)) (C_law_step : Cal X.prog X.w X.K X.mg X.base "_law_step" 1 ["_law_cell", "_law_size"] (sp_law_step X.K)) (C_law_at : Cal X.prog X.w X.K X.mg X.base "_law_at" 1 ["_law_script", "_law_k"] (sp_law_at X.K)) (C_law_product : Cal X.prog X.w X.K X.mg X.base "_law_product" 3 ["_law_steps"] (sp_law_product X.K)) {vs : List V} {H : Hp} {Q : VK} (h : sp_law_chain X.K vs H Q E) : ∃ t, WSs X (defBody s_law_chain) t ∧ t { nx := fun _ H' => Q .non H', rt := Q } (L2.start ["_law_script", "_law_base", "_law_many", "_law_limit", "_law_size", "_law_steps", "_law_k", "_law_cell", "_law_step_here"] vs) H := by
  obtain ⟨f_law_draw, d_law_draw, G_law_draw, b_law_draw, k_law_draw, m_law_draw⟩ := C_law_draw
  obtain ⟨f_law_step, d_law_step, G_law_step, b_law_step, k_law_step, m_law_step⟩ := C_law_step
  obtain ⟨f_law_at, d_law_at, G_law_at, b_law_at, k_law_at, m_law_at⟩ := C_law_at
  obtain ⟨f_law_product, d_law_product, G_law_product, b_law_product, k_law_product, m_law_product⟩ := C_law_product
  · obtain ⟨a, ns, bs, many, lim, rfl, hS, b0, b1, m0, m1, l0, q⟩ := h
    refine ⟨_, (wss_cons (ss_law_chain_4 c (we_op op_mod (we_op op_fdivB (we_call (G_law_at.mono (by decide)) hr (gl_law_chain_law_at c) m_law_at k_law_at b_law_at .nil pass0 (wa_cons (pv_law_chain_0 c) (wa_cons we_int wa_nil star_Constant) star_Name)) we_int) we_int))
      (wss_cons (ss_law_chain_5 c (we_lstO wa_nil))
      (wss_cons (ws_for c.own c.calm (wi_range1 (gl_law_chain_range c) z_range (wa_cons (pv_law_chain_2 c) wa_nil star_Name)) (sg_law_chain_6 c)
      (wss_cons (ss_law_chain_7 c (we_call (G_law_draw.mono (by decide)) hr (gl_law_chain_law_draw c) m_law_draw k_law_draw b_law_draw .nil pass0 (wa_cons (pv_law_chain_0 c) (wa_cons (we_op op_add (pv_law_chain_1 c) (pv_law_chain_6 c)) wa_nil star_BinOp) star_Name)))
      (wss_cons (ss_law_chain_8 c (we_call (G_law_step.mono (by decide)) hr (gl_law_chain_law_step c) m_law_step k_law_step b_law_step .nil pass0 (wa_cons (we_op op_fdivB (pv_law_chain_7 c) we_int) (wa_cons (we_callB (call_min2 c.calm) (gl_law_chain_min c) z_min boot_min (wa_cons (pv_law_chain_4 c) (wa_cons (we_op op_mod (pv_law_chain_7 c) we_int) wa_nil star_BinOp) star_Name)) wa_nil star_Call) star_BinOp)))
      (wss_one (ws_if (wt_cmpR op_le (we_call (G_law_product.mono (by decide)) hr (gl_law_chain_law_product c) m_law_product k_law_product b_law_product .nil pass0 (wa_cons (we_op op_cat (pv_law_chain_5 c) (we_lstO (wa_cons (pv_law_chain_8 c) wa_nil star_Name))) wa_nil star_BinOp)) (pv_law_chain_3 c) (nomark _))
      (wss_one (ws_expr (we_bm PySem.F.plainAttrs_list PySem.F.slot_list_append PySem.F.type_list_append mt_append (pv_law_chain_5 c) (wa_cons (pv_law_chain_8 c) wa_nil star_Name))))
      wss_nil)))))
      (wss_one (ws_ret (pv_law_chain_5 c)))))), ?_⟩
    rw [st_law_chain]
    refine ⟨_, rfl, a, ns, _, rfl, hS, by decide, _, _, rfl, rfl, ⟨by decide, by decide +kernel⟩, _, _, rfl, rfl, (by decide : (0 : Int) < 4), fun σ e => ?_⟩
    dsimp only [List.set] at e
    have z0 := md0 (x := cell ns 0 / 2) (n := 4) (by decide)
    have z1 := md1 (x := cell ns 0 / 2) (n := 4) (by decide)
    generalize cell ns 0 / 2 % 4 = size at e z0 z1
    subst e
    refine ⟨(small' (by decide)), fun p1 H1 n1 s1 f1 σ e => ?_⟩
    dsimp only [List.set] at e
    subst e
    refine ⟨_, rfl, _, rfl, (by omega), (by omega), for_range (fun i σ H' => ∃ (as : List Addr) (sts : List StepD) (v1 v2 v3 : Option V), σ = [some (.ref a), some (.int bs), some (.int many), some (.int lim), some (.int size), some (.ref p1), v1, v2, v3] ∧
        Same H H' ∧ H' p1 = some (.lst (as.map V.ref)) ∧ Chn X.K H' p1 as sts ∧ sts.length ≤ i ∧ prodI sts ≤ lim)
      ⟨[], [], _, _, _, rfl, s1, f1, ⟨SqL.of f1, rfl, fun i a st h => by simp at h, fun st h => by simp at h⟩, Nat.le_refl _, l0⟩ ?_ ?_⟩
    · rintro i σ H0 hi ⟨as, sts, v1, v2, v3, rfl, s0, f0, hC, hn, hp⟩ σ e
      dsimp only [List.set] at e
      subst e
      have hi' : (i : Int) < many := by omega
      refine ⟨_, rfl, _, rfl, _, rfl, _, _, rfl, rfl, a, ns, _, rfl, s0.seq hS, (by omega), (by omega), fun σ e => ?_⟩
      dsimp only [List.set] at e
      generalize drawAt ns (bs + (0 + (i : Int))) = cl at e
      subst e
      refine ⟨_, rfl, _, _, rfl, rfl, ⟨by decide, by decide +kernel⟩, _, rfl, _, rfl, _, _, rfl, rfl, (by decide : (0 : Int) < 4), _, _, rfl, _, _, rfl, ?_, ?_, fun p st H2 s2 hT hO σ e => ?_⟩
      · have := md0 (x := cl) (n := 4) (by decide)
        split <;> omega
      · have := md1 (x := cl) (n := 4) (by decide)
        split <;> omega
      dsimp only [List.set] at e
      subst e
      refine ⟨_, rfl, _, rfl, (small' (by show 1 ≤ 1000; decide)), fun p3 H3 n3 s3 f3 => ?_⟩
      have hC3 := hC.same (s2.trans s3)
      have f3' := (s2.trans s3) _ _ f0
      have hlen : (as.map V.ref).length = sts.length := by rw [List.length_map, hC.len]
      refine ⟨p1, p3, _, _, rfl, rfl, f3', f3, ?_, fun p4 n4 => ?_⟩
      · refine small' ?_
        rw [hlen]; show sts.length + 1 ≤ 1000; omega
      have s4 : ∀ o, Same H3 (upd H3 p4 o) := fun o => same_new n4 o
      have hC4 : Chn X.K (upd H3 p4 (.lst ((as ++ [p]).map V.ref))) p4 (as ++ [p]) (sts ++ [st]) := by
        refine ⟨SqL.of upd_same, by rw [List.length_append, List.length_append, hC.len]; rfl, fun j b t h1 h2 => ?_, fun t ht => ?_⟩
        · by_cases hj : j < as.length
          · rw [List.getElem?_append_left hj] at h1
            rw [List.getElem?_append_left (by rw [← hC.len]; exact hj)] at h2
            exact (s4 _).seqT (hC3.item j b t h1 h2)
          · have hj' : j = as.length := by
              have := (List.getElem?_eq_some_iff.mp h1).1
              rw [List.length_append] at this
              have : ([p] : List Addr).length = 1 := rfl
              omega
            subst hj'
            rw [List.getElem?_append_right (Nat.le_refl _)] at h1
            rw [hC.len, List.getElem?_append_right (Nat.le_refl _)] at h2
            simp at h1 h2
            subst h1 h2
            exact (s4 _).seqT (s3.seqT hT)
        · rcases List.mem_append.mp ht with h | h
          · exact hC.ok t h
          · rw [List.mem_singleton.mp h]; exact hO
      have em : as.map V.ref ++ [V.ref p] = (as ++ [p]).map V.ref := by rw [List.map_append]; rfl
      refine ⟨p4, as ++ [p], sts ++ [st], rfl, ?_, _, rfl, _, _, rfl, rfl, _, rfl, ?_⟩
      · rw [em]; exact hC4
      refine if2 (fun d => ?_) (fun d => ?_)
      · have hC5 := hC4
        rw [← em] at hC5
        have f4 := (s4 (.lst (as.map V.ref ++ [V.ref p]))) _ _ f3'
        refine ⟨_, rfl, .inl ⟨rfl, _, SqL.of f4⟩, _, rfl, p1, _, _, rfl, rfl, f4, small1000 (by rw [hlen]; omega), ?_⟩
        refine ⟨as ++ [p], sts ++ [st], _, _, _, rfl, (s0.trans (s2.trans (s3.trans (s4 _)))).drop n1 rfl, by rw [upd_same, em], ⟨SqL.of (by rw [upd_same, em]), hC4.len, fun j b t h1 h2 => (hC5.item j b t h1 h2).updL f4, hC4.ok⟩, ?_, d⟩
        rw [List.length_append]
        show sts.length + 1 ≤ i + 1
        omega
      · exact ⟨as, sts, _, _, _, rfl, s0.trans (s2.trans (s3.trans (s4 _))), (s4 _) _ _ f3', hC3.same (s4 _), by omega, hp⟩
    · rintro σ H' ⟨as, sts, v1, v2, v3, rfl, s0, f0, hC, hn, hp⟩
      refine ⟨_, rfl, q p1 as sts H' s0 n1 f0 hC (by omega) hp⟩
theorem cal_law_chain {P : Program} {w : World} {K : PySem.W.Frag} {mg : Str → Option Value} {base : Heap} {f : Addr} {fd : FuncData} (F : Fun K "_law_chain" "_law_chain" s_law_chain f fd) (b : Binds K fd ["_law_script", "_law_base", "_law_many", "_law_limit"] []) (m : mg "_law_chain" = some (.ref f)) (z_range : mg "range" = none) (z_min : mg "min" = none) (C_law_draw : Cal P w K mg base "_law_draw" 2 ["_law_script", "_law_k"] (sp_law_draw K)) (C_law_step : Cal P w K mg base "_law_step" 1 ["_law_cell", "_law_size"] (sp_law_step K)) (C_law_at : Cal P w K mg base "_law_at" 1 ["_law_script", "_law_k"] (sp_law_at K)) (C_law_product : Cal P w K mg base "_law_product" 3 ["_law_steps"] (sp_law_product K)) : Cal P w K mg base "_law_chain" 4 ["_law_script", "_law_base", "_law_many", "_law_limit"] (sp_law_chain K) :=
  ⟨f, fd, F.ok sc_law_chain (fun vs H Q E h => by first | (obtain ⟨_, rfl, _⟩ := h; rfl) | (obtain ⟨_, _, rfl, _⟩ := h; rfl) | (obtain ⟨_, _, _, rfl, _⟩ := h; rfl) | (obtain ⟨_, _, _, _, rfl, _⟩ := h; rfl) | (obtain ⟨_, _, _, _, _, rfl, _⟩ := h; rfl) | (obtain ⟨_, _, _, _, _, _, rfl, _⟩ := h; rfl) | (obtain ⟨_, _, _, _, _, _, _, rfl, _⟩ := h; rfl) | (obtain ⟨_, _, _, _, _, _, _, _, rfl, _⟩ := h; rfl) | (obtain ⟨_, _, _, _, _, _, _, _, _, rfl, _⟩ := h; rfl)) (fun cdv A outer s H vs Q E hr h => unW (body_law_chain (X := (cxOf CX0 P w K mg base ["_law_script", "_law_base", "_law_many", "_law_limit", "_law_size", "_law_steps", "_law_k", "_law_cell", "_law_step_here"] "_law_chain" (defScope s_law_chain) f cdv A outer s H E).nox) ⟨rfl, rfl, rfl, PassesOwn.never⟩ hr z_range z_min C_law_draw C_law_step C_law_at C_law_product h)), b, F.kp, m⟩
theorem lk_law_short_0 : (defScope s_law_short).names.lookup ("_law_made" : Str) = some .local := by decide +kernel
theorem pv_law_short_0 {X : Cx} (c : CxIs X ["_law_made", "_law_steps"] (defScope s_law_short)) {pos : Pos} : WE X (.Name "_law_made" pos) (tVar 0) := wxv c rfl lk_law_short_0 (by decide) (by decide)
theorem lk_law_short_1 : (defScope s_law_short).names.lookup ("_law_steps" : Str) = some .local := by decide +kernel
theorem pv_law_short_1 {X : Cx} (c : CxIs X ["_law_made", "_law_steps"] (defScope s_law_short)) {pos : Pos} : WE X (.Name "_law_steps" pos) (tVar 1) := wxv c rfl lk_law_short_1 (by decide) (by decide)
theorem gl_law_short_law_product {X : Cx} (c : CxIs X ["_law_made", "_law_steps"] (defScope s_law_short)) : Gl X "_law_product" := xg c (by decide +kernel)
theorem gl_law_short_list {X : Cx} (c : CxIs X ["_law_made", "_law_steps"] (defScope s_law_short)) : Gl X "list" := xg c (by decide +kernel)
theorem gl_law_short_len {X : Cx} (c : CxIs X ["_law_made", "_law_steps"] (defScope s_law_short)) : Gl X "len" := xg c (by decide +kernel)
theorem st_law_short (v0 v1 : V) : L2.start ["_law_made", "_law_steps"] [v0, v1] = [some v0, some v1] := rfl
noncomputable def sp_law_short (K : PySem.W.Frag) : Sp := fun vs H Q _ => ∃ (p l : Addr) (bs as : List Addr) (mds sts : List StepD), vs = [.ref p, .ref l] ∧ H p = some (.lst (bs.map V.ref)) ∧ Chn K H p bs mds ∧ Chn K H l as sts ∧ mds.length ≤ 100 ∧ sts.length ≤ 6 ∧ prodI sts ≤ 3000 ∧ StEq mds sts ∧
  ∀ l' as' sts' H', Same H H' → H' l' = some (.lst (as'.map V.ref)) → Chn K H' l' as' sts' → sts'.length ≤ 6 → prodI sts' ≤ 3000 → StEq sts' sts → Q (.ref l') H'
theorem body_law_short {X : Cx} (c : CxIs X ["_law_made", "_law_steps"] (defScope s_law_short)) (hr : Room 3 X.A) {E : XK}  (z_list : X.mg "list" = none) (z_len : X.mg "len" = none) (C_law_product : Cal X.prog X.w X.K X.mg X.base "_law_product" 3 ["_law_steps"] (sp_law_product X.K)) {vs : List V} {H : Hp} {Q : VK} (h : sp_law_short X.K vs H Q E) : ∃ t, WSs X (defBody s_law_short) t ∧ t { nx := fun _ H' => Q .non H', rt := Q } (L2.start ["_law_made", "_law_steps"] vs) H := by
  obtain ⟨f_law_product, d_law_product, G_law_product, b_law_product, k_law_product, m_law_product⟩ := C_law_product
  · obtain ⟨p, l, bs, as, mds, sts, rfl, fM, hM, hC, m1, h6, hp, he, q⟩ := h
    refine ⟨_, (wss_cons (ws_if (WW.pt (ww_or (wt_cmpR op_gt (we_call (G_law_product.mono (by decide)) hr (gl_law_short_law_product c) m_law_product k_law_product b_law_product .nil pass0 (wa_cons (pv_law_short_0 c) wa_nil star_Name)) we_int (nomark _)) (ww_or1 (wt_cmpR op_gt (we_callB call_len_seq (gl_law_short_len c) z_len PySem.boot_len (wa_cons (pv_law_short_0 c) wa_nil star_Name)) we_int (nomark _)))))
      (wss_one (ws_ret (we_callTy call_list_ofO (gl_law_short_list c) z_list boot_ty_list (wa_cons (pv_law_short_1 c) wa_nil star_Name))))
      wss_nil)
      (wss_one (ws_ret (pv_law_short_0 c)))), ?_⟩
    rw [st_law_short]
    have hlen : (bs.map V.ref).length = mds.length := by rw [List.length_map, hM.len]
    have fin : ∀ p1 H1, Same H H1 → H1 p1 = some (.lst (as.map V.ref)) → Q (.ref p1) H1 := fun p1 H1 s1 f1 => q p1 as sts H1 s1 f1 (hC.copy s1 f1) h6 hp StEq.rfl'
    refine ⟨_, rfl, p, bs, mds, rfl, hM, _, _, rfl, rfl, _, rfl, ?_⟩
    refine if2 (fun c => ?_) (fun c => ?_)
    · exact ⟨_, rfl, _, _, rfl, .inl hC.lst, fun p1 H1 n1 s1 f1 => fin p1 H1 s1 f1⟩
    refine ⟨_, rfl, _, _, rfl, .inl hM.lst, _, _, rfl, rfl, _, rfl, ?_⟩
    rw [hlen]
    refine if2 (fun c2 => ?_) (fun c2 => ?_)
    · exact ⟨_, rfl, _, _, rfl, .inl hC.lst, fun p1 H1 n1 s1 f1 => fin p1 H1 s1 f1⟩
    exact ⟨_, rfl, q p bs mds H (Same.refl _) fM hM (by omega) (by omega) he⟩
theorem cal_law_short {P : Program} {w : World} {K : PySem.W.Frag} {mg : Str → Option Value} {base : Heap} {f : Addr} {fd : FuncData} (F : Fun K "_law_short" "_law_short" s_law_short f fd) (b : Binds K fd ["_law_made", "_law_steps"] []) (m : mg "_law_short" = some (.ref f)) (z_list : mg "list" = none) (z_len : mg "len" = none) (C_law_product : Cal P w K mg base "_law_product" 3 ["_law_steps"] (sp_law_product K)) : Cal P w K mg base "_law_short" 4 ["_law_made", "_law_steps"] (sp_law_short K) :=
  ⟨f, fd, F.ok sc_law_short (fun vs H Q E h => by first | (obtain ⟨_, rfl, _⟩ := h; rfl) | (obtain ⟨_, _, rfl, _⟩ := h; rfl) | (obtain ⟨_, _, _, rfl, _⟩ := h; rfl) | (obtain ⟨_, _, _, _, rfl, _⟩ := h; rfl) | (obtain ⟨_, _, _, _, _, rfl, _⟩ := h; rfl) | (obtain ⟨_, _, _, _, _, _, rfl, _⟩ := h; rfl) | (obtain ⟨_, _, _, _, _, _, _, rfl, _⟩ := h; rfl) | (obtain ⟨_, _, _, _, _, _, _, _, rfl, _⟩ := h; rfl) | (obtain ⟨_, _, _, _, _, _, _, _, _, rfl, _⟩ := h; rfl)) (fun cdv A outer s H vs Q E hr h => unW (body_law_short (X := (cxOf CX0 P w K mg base ["_law_made", "_law_steps"] "_law_short" (defScope s_law_short) f cdv A outer s H E).nox) ⟨rfl, rfl, rfl, PassesOwn.never⟩ hr z_list z_len C_law_product h)), b, F.kp, m⟩
theorem lk_some_cycle_0 : (defScope s_some_cycle).names.lookup ("chain" : Str) = some .local := by decide +kernel
theorem pv_some_cycle_0 {X : Cx} (c : CxIs X ["chain", "cycle", "rise", "step", "own", "many"] (defScope s_some_cycle)) {pos : Pos} : WE X (.Name "chain" pos) (tVar 0) := wxv c rfl lk_some_cycle_0 (by decide) (by decide)
theorem lk_some_cycle_1 : (defScope s_some_cycle).names.lookup ("cycle" : Str) = some .local := by decide +kernel
theorem pv_some_cycle_1 {X : Cx} (c : CxIs X ["chain", "cycle", "rise", "step", "own", "many"] (defScope s_some_cycle)) {pos : Pos} : WE X (.Name "cycle" pos) (tVar 1) := wxv c rfl lk_some_cycle_1 (by decide) (by decide)
theorem ss_some_cycle_1 {X : Cx} (c : CxIs X ["chain", "cycle", "rise", "step", "own", "many"] (defScope s_some_cycle)) {pos pos' : Pos} {e : Expr} {te : TE} (he : WE X e te) (hs : swapsWith e (some (.Name "cycle" pos')) pos.line X.env = pure false := by rfl) : WS X (.Assign [.Name "cycle" pos'] e pos) (tAsg te (gN 1)) := wxs c sc_some_cycle.nd rfl lk_some_cycle_1 he hs
theorem lk_some_cycle_2 : (defScope s_some_cycle).names.lookup ("rise" : Str) = some .local := by decide +kernel
theorem pv_some_cycle_2 {X : Cx} (c : CxIs X ["chain", "cycle", "rise", "step", "own", "many"] (defScope s_some_cycle)) {pos : Pos} : WE X (.Name "rise" pos) (tVar 2) := wxv c rfl lk_some_cycle_2 (by decide) (by decide)
theorem ss_some_cycle_2 {X : Cx} (c : CxIs X ["chain", "cycle", "rise", "step", "own", "many"] (defScope s_some_cycle)) {pos pos' : Pos} {e : Expr} {te : TE} (he : WE X e te) (hs : swapsWith e (some (.Name "rise" pos')) pos.line X.env = pure false := by rfl) : WS X (.Assign [.Name "rise" pos'] e pos) (tAsg te (gN 2)) := wxs c sc_some_cycle.nd rfl lk_some_cycle_2 he hs
theorem lk_some_cycle_3 : (defScope s_some_cycle).names.lookup ("step" : Str) = some .local := by decide +kernel
theorem pv_some_cycle_3 {X : Cx} (c : CxIs X ["chain", "cycle", "rise", "step", "own", "many"] (defScope s_some_cycle)) {pos : Pos} : WE X (.Name "step" pos) (tVar 3) := wxv c rfl lk_some_cycle_3 (by decide) (by decide)
theorem sg_some_cycle_3 {X : Cx} (c : CxIs X ["chain", "cycle", "rise", "step", "own", "many"] (defScope s_some_cycle)) {pos : Pos} : WG X (.Name "step" pos) (gN 3) := wxt c sc_some_cycle.nd rfl lk_some_cycle_3
theorem lk_some_cycle_4 : (defScope s_some_cycle).names.lookup ("own" : Str) = some .local := by decide +kernel
theorem pv_some_cycle_4 {X : Cx} (c : CxIs X ["chain", "cycle", "rise", "step", "own", "many"] (defScope s_some_cycle)) {pos : Pos} : WE X (.Name "own" pos) (tVar 4) := wxv c rfl lk_some_cycle_4 (by decide) (by decide)
theorem ss_some_cycle_4 {X : Cx} (c : CxIs X ["chain", "cycle", "rise", "step", "own", "many"] (defScope s_some_cycle)) {pos pos' : Pos} {e : Expr} {te : TE} (he : WE X e te) (hs : swapsWith e (some (.Name "own" pos')) pos.line X.env = pure false := by rfl) : WS X (.Assign [.Name "own" pos'] e pos) (tAsg te (gN 4)) := wxs c sc_some_cycle.nd rfl lk_some_cycle_4 he hs
theorem lk_some_cycle_5 : (defScope s_some_cycle).names.lookup ("many" : Str) = some .local := by decide +kernel
theorem pv_some_cycle_5 {X : Cx} (c : CxIs X ["chain", "cycle", "rise", "step", "own", "many"] (defScope s_some_cycle)) {pos : Pos} : WE X (.Name "many" pos) (tVar 5) := wxv c rfl lk_some_cycle_5 (by decide) (by decide)
theorem ss_some_cycle_5 {X : Cx} (c : CxIs X ["chain", "cycle", "rise", "step", "own", "many"] (defScope s_some_cycle)) {pos pos' : Pos} {e : Expr} {te : TE} (he : WE X e te) (hs : swapsWith e (some (.Name "many" pos')) pos.line X.env = pure false := by rfl) : WS X (.Assign [.Name "many" pos'] e pos) (tAsg te (gN 5)) := wxs c sc_some_cycle.nd rfl lk_some_cycle_5 he hs
theorem gl_some_cycle_own_cycle {X : Cx} (c : CxIs X ["chain", "cycle", "rise", "step", "own", "many"] (defScope s_some_cycle)) : Gl X "own_cycle" := xg c (by decide +kernel)
theorem gl_some_cycle_common_divisor {X : Cx} (c : CxIs X ["chain", "cycle", "rise", "step", "own", "many"] (defScope s_some_cycle)) : Gl X "common_divisor" := xg c (by decide +kernel)
theorem st_some_cycle (v0 : V) : L2.start ["chain", "cycle", "rise", "step", "own", "many"] [v0] = [some v0, none, none, none, none, none] := rfl
noncomputable def sp_some_cycle (K : PySem.W.Frag) : Sp := fun vs H Q _ => ∃ (l : Addr) (as : List Addr) (sts : List StepD), vs = [.ref l] ∧ Chn K H l as sts ∧
  ∀ p (cc r : Int) H', Same H H' → SqT K H' p [.int cc, .int r] → 1 ≤ cc → 1 ≤ r → Per sts cc r → cc ∣ prodI sts → Q (.ref p) H'
theorem body_some_cycle {X : Cx} (c : CxIs X ["chain", "cycle", "rise", "step", "own", "many"] (defScope s_some_cycle)) (hr : Room 4 X.A) {E : XK}  (C_own_cycle : Cal X.prog X.w X.K X.mg X.base "own_cycle" 4 ["step"] (sp_own_cycle X.K)) (C_common_divisor : Cal X.prog X.w X.K X.mg X.base "common_divisor" 1 ["one", "other"] (sp_common_divisor X.K)) {vs : List V} {H : Hp} {Q : VK} (h : sp_some_cycle X.K vs H Q E) : ∃ t, WSs X (defBody s_some_cycle) t ∧ t { nx := fun _ H' => Q .non H', rt := Q } (L2.start ["chain", "cycle", "rise", "step", "own", "many"] vs) H := by
  obtain ⟨f_own_cycle, d_own_cycle, G_own_cycle, b_own_cycle, k_own_cycle, m_own_cycle⟩ := C_own_cycle
  obtain ⟨f_common_divisor, d_common_divisor, G_common_divisor, b_common_divisor, k_common_divisor, m_common_divisor⟩ := C_common_divisor
  · obtain ⟨l, as, sts, rfl, hC, q⟩ := h
    refine ⟨_, (wss_cons (ss_some_cycle_1 c we_int)
      (wss_cons (ss_some_cycle_2 c we_int)
      (wss_cons (ws_for c.own c.calm (wi_list (pv_some_cycle_0 c)) (sg_some_cycle_3 c)
      (wss_cons (ss_some_cycle_4 c (we_call (G_own_cycle.mono (by decide)) hr (gl_some_cycle_own_cycle c) m_own_cycle k_own_cycle b_own_cycle .nil pass0 (wa_cons (pv_some_cycle_3 c) wa_nil star_Name)))
      (wss_cons (ss_some_cycle_5 c (we_op op_fdivB (we_ix ix_tup (pv_some_cycle_4 c) we_int plain_Constant) (we_call (G_common_divisor.mono (by decide)) hr (gl_some_cycle_common_divisor c) m_common_divisor k_common_divisor b_common_divisor .nil pass0 (wa_cons (pv_some_cycle_2 c) (wa_cons (we_ix ix_tup (pv_some_cycle_4 c) we_int plain_Constant) wa_nil star_Subscript) star_Name))))
      (wss_cons (ss_some_cycle_1 c (we_op op_mulB (pv_some_cycle_1 c) (pv_some_cycle_5 c)))
      (wss_one (ss_some_cycle_2 c (we_op op_mulB (we_op op_fdivB (we_op op_mulB (pv_some_cycle_2 c) (pv_some_cycle_5 c)) (we_ix ix_tup (pv_some_cycle_4 c) we_int plain_Constant)) (we_ix ix_tup (pv_some_cycle_4 c) we_int plain_Constant))))))))
      (wss_one (ws_ret (we_tupO (wa_cons (pv_some_cycle_1 c) (wa_cons (pv_some_cycle_2 c) wa_nil star_Name) star_Name))))))), ?_⟩
    rw [st_some_cycle]
    intro σ e
    dsimp only [List.set] at e
    subst e
    intro σ e
    dsimp only [List.set] at e
    subst e
    refine ⟨_, rfl, l, rfl, ⟨_, hC.lst⟩, for_list (K := X.K) (a := l) (xs := as.map V.ref) (fun i σ H' => Same H H' ∧ ∃ x y, 1 ≤ x ∧ 1 ≤ y ∧ Per (sts.take i) x y ∧ x ∣ prodI (sts.take i) ∧ ∃ v1 v2 v3, σ = [some (.ref l), some (.int x), some (.int y), v1, v2, v3])
      ⟨Same.refl _, 1, 1, by omega, by omega, fun p _ => rfl, Int.dvd_refl _, _, _, _, rfl⟩ (fun i σ H' _ ⟨e, _⟩ => e.seq hC.lst) ?_ ?_⟩
    · rintro i z σ H' hi ⟨s0, x, y, x0, y0, per, dv, v1, v2, v3, rfl⟩ σ e
      obtain ⟨a, st, rfl, h1, h2', hT, hO⟩ := hC.get hi
      dsimp only [List.set] at e
      subst e
      refine ⟨_, rfl, a, st, rfl, s0.seqT hT, hO, fun p H1 s1 hP σ e => ?_⟩
      dsimp only [List.set] at e
      subst e
      have y0' := hO.cyc0
      have y1' := hO.cyc1
      have k0 := hO.kk0
      have k1 := hO.kk1
      have u0 := hO.u0
      have u1 := hO.u1
      obtain ⟨per', m0, md, rr⟩ := per_step (sts := sts.take i) hO x0 y0 per (endI_nn _ (ok_take hC.ok)) rfl rfl
      have mle : st.cyc / ((Int.gcd y st.cyc : Nat) : Int) ≤ st.cyc := div_le' (by omega) (gcd_pos (by omega))
      have gle : ((Int.gcd y st.cyc : Nat) : Int) ≤ st.cyc := Int.le_of_dvd (by omega) (Int.gcd_dvd_right _ _)
      have gp : 0 < ((Int.gcd y st.cyc : Nat) : Int) := gcd_pos (by omega)
      have ku : st.kk * st.u ≤ 200 * 100 := Int.mul_le_mul k1 u1 (by omega) (by omega)
      have ku0 : 1 * 1 ≤ st.kk * st.u := Int.mul_le_mul k0 u0 (by omega) (by omega)
      refine ⟨_, rfl, p, _, _, _, rfl, rfl, hP, rfl, _, rfl, _, rfl, p, _, _, _, rfl, rfl, hP, rfl, _, _, rfl, by omega, by omega, _, _, rfl, rfl, ⟨gp, by omega⟩, fun σ e => ?_⟩
      dsimp only [List.set] at e
      subst e
      refine ⟨_, rfl, _, rfl, _, _, rfl, rfl, mul_r (by omega) (by omega), fun σ e => ?_⟩
      dsimp only [List.set] at e
      subst e
      refine ⟨_, rfl, _, rfl, _, _, rfl, rfl, mul_r (by omega) (by omega), _, rfl, p, _, _, _, rfl, rfl, hP, rfl, _, _, rfl, rfl, ⟨by omega, by omega⟩, _, rfl, p, _, _, _, rfl, rfl, hP, rfl, _, _, rfl, rfl, mul_r (by omega) (by omega), fun σ e => ?_⟩
      dsimp only [List.set] at e
      subst e
      refine ⟨s0.trans s1, _, _, ?_, ?_, by rw [take_snoc h2']; exact per', ?_, _, _, _, rfl⟩
      · have := Int.mul_le_mul x0 m0 (by omega) (by omega)
        omega
      · have := Int.mul_le_mul rr ku0 (by omega) (by omega)
        omega
      · rw [take_snoc h2', prodI_snoc]
        exact Int.mul_dvd_mul dv md
    · rintro σ H' ⟨s0, x, y, x0, y0, per, dv, v1, v2, v3, rfl⟩
      have e : sts.take (as.map V.ref).length = sts := by rw [List.length_map, hC.len, List.take_length]
      rw [e] at per dv
      refine ⟨_, rfl, _, rfl, (small' (by show 2 ≤ 1000; decide)), fun p1 H1 _ s1 f1 => ?_⟩
      exact q p1 x y H1 (s0.trans s1) (SqT.of f1) x0 y0 per dv
theorem cal_some_cycle {P : Program} {w : World} {K : PySem.W.Frag} {mg : Str → Option Value} {base : Heap} {f : Addr} {fd : FuncData} (F : Fun K "some_cycle" "some_cycle" s_some_cycle f fd) (b : Binds K fd ["chain"] []) (m : mg "some_cycle" = some (.ref f)) (C_own_cycle : Cal P w K mg base "own_cycle" 4 ["step"] (sp_own_cycle K)) (C_common_divisor : Cal P w K mg base "common_divisor" 1 ["one", "other"] (sp_common_divisor K)) : Cal P w K mg base "some_cycle" 5 ["chain"] (sp_some_cycle K) :=
  ⟨f, fd, F.ok sc_some_cycle (fun vs H Q E h => by first | (obtain ⟨_, rfl, _⟩ := h; rfl) | (obtain ⟨_, _, rfl, _⟩ := h; rfl) | (obtain ⟨_, _, _, rfl, _⟩ := h; rfl) | (obtain ⟨_, _, _, _, rfl, _⟩ := h; rfl) | (obtain ⟨_, _, _, _, _, rfl, _⟩ := h; rfl) | (obtain ⟨_, _, _, _, _, _, rfl, _⟩ := h; rfl) | (obtain ⟨_, _, _, _, _, _, _, rfl, _⟩ := h; rfl) | (obtain ⟨_, _, _, _, _, _, _, _, rfl, _⟩ := h; rfl) | (obtain ⟨_, _, _, _, _, _, _, _, _, rfl, _⟩ := h; rfl)) (fun cdv A outer s H vs Q E hr h => unW (body_some_cycle (X := (cxOf CX0 P w K mg base ["chain", "cycle", "rise", "step", "own", "many"] "some_cycle" (defScope s_some_cycle) f cdv A outer s H E).nox) ⟨rfl, rfl, rfl, PassesOwn.never⟩ hr C_own_cycle C_common_divisor h)), b, F.kp, m⟩
theorem lk_first_ends_0 : (defScope s_first_ends).names.lookup ("chain" : Str) = some .local := by decide +kernel
theorem pv_first_ends_0 {X : Cx} (c : CxIs X ["chain", "many", "ends", "step"] (defScope s_first_ends)) {pos : Pos} : WE X (.Name "chain" pos) (tVar 0) := wxv c rfl lk_first_ends_0 (by decide) (by decide)
theorem lk_first_ends_1 : (defScope s_first_ends).names.lookup ("many" : Str) = some .local := by decide +kernel
theorem pv_first_ends_1 {X : Cx} (c : CxIs X ["chain", "many", "ends", "step"] (defScope s_first_ends)) {pos : Pos} : WE X (.Name "many" pos) (tVar 1) := wxv c rfl lk_first_ends_1 (by decide) (by decide)
theorem lk_first_ends_2 : (defScope s_first_ends).names.lookup ("ends" : Str) = some .local := by decide +kernel
theorem pv_first_ends_2 {X : Cx} (c : CxIs X ["chain", "many", "ends", "step"] (defScope s_first_ends)) {pos : Pos} : WE X (.Name "ends" pos) (tVar 2) := wxv c rfl lk_first_ends_2 (by decide) (by decide)
theorem ss_first_ends_2 {X : Cx} (c : CxIs X ["chain", "many", "ends", "step"] (defScope s_first_ends)) {pos pos' : Pos} {e : Expr} {te : TE} (he : WE X e te) (hs : swapsWith e (some (.Name "ends" pos')) pos.line X.env = pure false := by rfl) : WS X (.Assign [.Name "ends" pos'] e pos) (tAsg te (gN 2)) := wxs c sc_first_ends.nd rfl lk_first_ends_2 he hs
theorem lk_first_ends_3 : (defScope s_first_ends).names.lookup ("step" : Str) = some .cell := by decide +kernel
theorem sg_first_ends_3 {X : Cx} (c : CxIs X ["chain", "many", "ends", "step"] (defScope s_first_ends)) (hf : ∀ x, X.fn x = true) {pos : Pos} : WG X (.Name "step" pos) (gN 3) := wxtC c hf sc_first_ends.nd rfl lk_first_ends_3
theorem gl_first_ends_list {X : Cx} (c : CxIs X ["chain", "many", "ends", "step"] (defScope s_first_ends)) : Gl X "list" := xg c (by decide +kernel)
theorem gl_first_ends_range {X : Cx} (c : CxIs X ["chain", "many", "ends", "step"] (defScope s_first_ends)) : Gl X "range" := xg c (by decide +kernel)
theorem st_first_ends (v0 v1 : V) : L2.start ["chain", "many", "ends", "step"] [v0, v1] = [some v0, some v1, none, none] := rfl
noncomputable def sp_first_ends (K : PySem.W.Frag) : Sp := fun vs H Q _ => ∃ (l : Addr) (as : List Addr) (sts : List StepD) (m : Int), vs = [.ref l, .int m] ∧ Chn K H l as sts ∧ 0 ≤ m ∧ m ≤ 20000 ∧
  ∀ p H', Same H H' → SqL K H' p ((endsI sts m).map V.int) → Q (.ref p) H'
theorem body_first_ends {X : Cx} (c : CxIs X ["chain", "many", "ends", "step"] (defScope s_first_ends)) (hr : Room 4 X.A) {E : XK}  (hf : ∀ x, X.fn x = true) (z_list : X.mg "list" = none) (z_range : X.mg "range" = none) (C_after : Cal X.prog X.w X.K X.mg X.base "after" 4 ["step", "amount"] (sp_after X.K)) {vs : List V} {H : Hp} {Q : VK} (h : sp_first_ends X.K vs H Q E) : ∃ t, WSs X (defBody s_first_ends) t ∧ t { nx := fun _ H' => Q .non H', rt := Q } (L2.start ["chain", "many", "ends", "step"] vs) H := by
  obtain ⟨f_after, d_after, G_after, b_after, k_after, m_after⟩ := C_after
  · obtain ⟨l, as, sts, m, rfl, hC, m0, m1, q⟩ := h
    refine ⟨_, (wss_cons (ss_first_ends_2 c (we_callTy (call_list_rng c.calm) (gl_first_ends_list c) z_list boot_ty_list (wa_cons (we_callTy call_range1 (gl_first_ends_range c) z_range boot_ty_range (wa_cons (pv_first_ends_1 c) wa_nil star_Name)) wa_nil star_Call)))
      (wss_cons (ws_for c.own c.calm (wi_list (pv_first_ends_0 c)) (sg_first_ends_3 c hf)
      (wss_one (ws_comp (fs := ["step"]) (fr := [3]) (i := 2) c sc_first_ends.nd (by decide +kernel) rfl lk_first_ends_2 (wi_list (pv_first_ends_2 c)) (fun _ _ _ _ _ cc => (we_call (G_after.mono (by decide)) hr (xg cc (by decide +kernel)) m_after k_after b_after .nil pass0 (wa_cons (wxvC cc (i := 1) rfl (by decide +kernel) (by decide) (by decide)) (wa_cons (wxv cc (i := 0) rfl (by decide +kernel) (by decide) (by decide)) wa_nil star_Name) star_Name))) rfl rfl (by decide +kernel))))
      (wss_one (ws_ret (pv_first_ends_2 c))))), ?_⟩
    rw [st_first_ends]
    refine ⟨_, rfl, _, rfl, fun p1 H1 n1 s1 f1 => ?_⟩
    refine ⟨p1, _, _, rfl, f1, by omega, by omega, by omega, by omega, by omega, fun p2 H2 n2 s2 f2 σ e => ?_⟩
    dsimp only [List.set] at e
    subst e
    rw [← endsI_nil] at f2
    refine ⟨_, rfl, l, rfl, ⟨_, (s1.trans s2).seq hC.lst⟩, for_list (K := X.K) (a := l) (xs := as.map V.ref) (fun i σ H' => Same H H' ∧ ∃ p, SqL X.K H' p ((endsI (sts.take i) m).map V.int) ∧ ∃ v1, σ = [some (.ref l), some (.int m), some (.ref p), v1])
      ⟨s1.trans s2, p2, SqL.of f2, _, rfl⟩ (fun i σ H' _ ⟨e, _⟩ => e.seq hC.lst) ?_ ?_⟩
    · rintro i z σ H' hi ⟨s0, p, hP, v1, rfl⟩ σ e
      obtain ⟨a, st, rfl, h1, h2', hT, hO⟩ := hC.get hi
      dsimp only [List.set] at e
      subst e
      refine ⟨_, rfl, p, rfl, ⟨_, hP⟩, comp_map (xs := (endsI (sts.take i) m).map V.int) (ys := (endsI (sts.take (i + 1)) m).map V.int) (by rw [endsI_size]; exact Nat.le_trans (show _ ≤ 20000 by omega) (by decide)) hP (by rw [endsI_size, endsI_size]) ?_ ?_⟩
      · intro j x y H3 hx hy s3 R hR
        obtain ⟨rfl, _⟩ := endsI_get hx
        obtain ⟨rfl, _⟩ := endsI_get hy
        refine ⟨_, rfl, _, rfl, a, st, _, rfl, (s0.trans s3).seqT hT, hO, fun H4 s4 => ?_⟩
        have := hR H4 s4
        rw [take_snoc h2', endI_snoc, ← after_many hO] at this
        exact this
      · intro p' H3 n3 s3 f3 σ e
        dsimp only [List.set] at e
        subst e
        exact ⟨s0.trans s3, p', SqL.of f3, _, rfl⟩
    · rintro σ H' ⟨s0, p, hP, v1, rfl⟩
      have e : sts.take (as.map V.ref).length = sts := by rw [List.length_map, hC.len, List.take_length]
      rw [e] at hP
      exact ⟨_, rfl, q p H' s0 hP⟩
theorem cal_first_ends {P : Program} {w : World} {K : PySem.W.Frag} {mg : Str → Option Value} {base : Heap} {f : Addr} {fd : FuncData} (F : Fun K "first_ends" "first_ends" s_first_ends f fd) (b : Binds K fd ["chain", "many"] []) (m : mg "first_ends" = some (.ref f)) (z_list : mg "list" = none) (z_range : mg "range" = none) (C_after : Cal P w K mg base "after" 4 ["step", "amount"] (sp_after K)) : Cal P w K mg base "first_ends" 5 ["chain", "many"] (sp_first_ends K) :=
  ⟨f, fd, F.ok sc_first_ends (fun vs H Q E h => by first | (obtain ⟨_, rfl, _⟩ := h; rfl) | (obtain ⟨_, _, rfl, _⟩ := h; rfl) | (obtain ⟨_, _, _, rfl, _⟩ := h; rfl) | (obtain ⟨_, _, _, _, rfl, _⟩ := h; rfl) | (obtain ⟨_, _, _, _, _, rfl, _⟩ := h; rfl) | (obtain ⟨_, _, _, _, _, _, rfl, _⟩ := h; rfl) | (obtain ⟨_, _, _, _, _, _, _, rfl, _⟩ := h; rfl) | (obtain ⟨_, _, _, _, _, _, _, _, rfl, _⟩ := h; rfl) | (obtain ⟨_, _, _, _, _, _, _, _, _, rfl, _⟩ := h; rfl)) (fun cdv A outer s H vs Q E hr h => unW (body_first_ends (X := (cxOf CX0 P w K mg base ["chain", "many", "ends", "step"] "first_ends" (defScope s_first_ends) f cdv A outer s H E).nox) ⟨rfl, rfl, rfl, PassesOwn.never⟩ hr (fun _ => rfl) z_list z_range C_after h)), b, F.kp, m⟩
theorem lk_law_anew_0 : (defScope s_law_anew).names.lookup ("_law_steps" : Str) = some .local := by decide +kernel
theorem pv_law_anew_0 {X : Cx} (c : CxIs X ["_law_steps", "_law_cell", "_law_kind", "_law_left", "_law_at_here", "_law_new", "_law_word", "_law_top", "_law_bottom", "_law_pennies", "_law_way", "_law_unit", "_law_more"] (defScope s_law_anew)) {pos : Pos} : WE X (.Name "_law_steps" pos) (tVar 0) := wxv c rfl lk_law_anew_0 (by decide) (by decide)
theorem lk_law_anew_1 : (defScope s_law_anew).names.lookup ("_law_cell" : Str) = some .local := by decide +kernel
theorem pv_law_anew_1 {X : Cx} (c : CxIs X ["_law_steps", "_law_cell", "_law_kind", "_law_left", "_law_at_here", "_law_new", "_law_word", "_law_top", "_law_bottom", "_law_pennies", "_law_way", "_law_unit", "_law_more"] (defScope s_law_anew)) {pos : Pos} : WE X (.Name "_law_cell" pos) (tVar 1) := wxv c rfl lk_law_anew_1 (by decide) (by decide)
theorem lk_law_anew_2 : (defScope s_law_anew).names.lookup ("_law_kind" : Str) = some .local := by decide +kernel
theorem pv_law_anew_2 {X : Cx} (c : CxIs X ["_law_steps", "_law_cell", "_law_kind", "_law_left", "_law_at_here", "_law_new", "_law_word", "_law_top", "_law_bottom", "_law_pennies", "_law_way", "_law_unit", "_law_more"] (defScope s_law_anew)) {pos : Pos} : WE X (.Name "_law_kind" pos) (tVar 2) := wxv c rfl lk_law_anew_2 (by decide) (by decide)
theorem ss_law_anew_2 {X : Cx} (c : CxIs X ["_law_steps", "_law_cell", "_law_kind", "_law_left", "_law_at_here", "_law_new", "_law_word", "_law_top", "_law_bottom", "_law_pennies", "_law_way", "_law_unit", "_law_more"] (defScope s_law_anew)) {pos pos' : Pos} {e : Expr} {te : TE} (he : WE X e te) (hs : swapsWith e (some (.Name "_law_kind" pos')) pos.line X.env = pure false := by rfl) : WS X (.Assign [.Name "_law_kind" pos'] e pos) (tAsg te (gN 2)) := wxs c sc_law_anew.nd rfl lk_law_anew_2 he hs
theorem lk_law_anew_3 : (defScope s_law_anew).names.lookup ("_law_left" : Str) = some .local := by decide +kernel
theorem pv_law_anew_3 {X : Cx} (c : CxIs X ["_law_steps", "_law_cell", "_law_kind", "_law_left", "_law_at_here", "_law_new", "_law_word", "_law_top", "_law_bottom", "_law_pennies", "_law_way", "_law_unit", "_law_more"] (defScope s_law_anew)) {pos : Pos} : WE X (.Name "_law_left" pos) (tVar 3) := wxv c rfl lk_law_anew_3 (by decide) (by decide)
theorem ss_law_anew_3 {X : Cx} (c : CxIs X ["_law_steps", "_law_cell", "_law_kind", "_law_left", "_law_at_here", "_law_new", "_law_word", "_law_top", "_law_bottom", "_law_pennies", "_law_way", "_law_unit", "_law_more"] (defScope s_law_anew)) {pos pos' : Pos} {e : Expr} {te : TE} (he : WE X e te) (hs : swapsWith e (some (.Name "_law_left" pos')) pos.line X.env = pure false := by rfl) : WS X (.Assign [.Name "_law_left" pos'] e pos) (tAsg te (gN 3)) := wxs c sc_law_anew.nd rfl lk_law_anew_3 he hs
theorem lk_law_anew_4 : (defScope s_law_anew).names.lookup ("_law_at_here" : Str) = some .local := by decide +kernel
theorem pv_law_anew_4 {X : Cx} (c : CxIs X ["_law_steps", "_law_cell", "_law_kind", "_law_left", "_law_at_here", "_law_new", "_law_word", "_law_top", "_law_bottom", "_law_pennies", "_law_way", "_law_unit", "_law_more"] (defScope s_law_anew)) {pos : Pos} : WE X (.Name "_law_at_here" pos) (tVar 4) := wxv c rfl lk_law_anew_4 (by decide) (by decide)
theorem ss_law_anew_4 {X : Cx} (c : CxIs X ["_law_steps", "_law_cell", "_law_kind", "_law_left", "_law_at_here", "_law_new", "_law_word", "_law_top", "_law_bottom", "_law_pennies", "_law_way", "_law_unit", "_law_more"] (defScope s_law_anew)) {pos pos' : Pos} {e : Expr} {te : TE} (he : WE X e te) (hs : swapsWith e (some (.Name "_law_at_here" pos')) pos.line X.env = pure false := by rfl) : WS X (.Assign [.Name "_law_at_here" pos'] e pos) (tAsg te (gN 4)) := wxs c sc_law_anew.nd rfl lk_law_anew_4 he hs
theorem lk_law_anew_5 : (defScope s_law_anew).names.lookup ("_law_new" : Str) = some .local := by decide +kernel
theorem pv_law_anew_5 {X : Cx} (c : CxIs X ["_law_steps", "_law_cell", "_law_kind", "_law_left", "_law_at_here", "_law_new", "_law_word", "_law_top", "_law_bottom", "_law_pennies", "_law_way", "_law_unit", "_law_more"] (defScope s_law_anew)) {pos : Pos} : WE X (.Name "_law_new" pos) (tVar 5) := wxv c rfl lk_law_anew_5 (by decide) (by decide)
theorem ss_law_anew_5 {X : Cx} (c : CxIs X ["_law_steps", "_law_cell", "_law_kind", "_law_left", "_law_at_here", "_law_new", "_law_word", "_law_top", "_law_bottom", "_law_pennies", "_law_way", "_law_unit", "_law_more"] (defScope s_law_anew)) {pos pos' : Pos} {e : Expr} {te : TE} (he : WE X e te) (hs : swapsWith e (some (.Name "_law_new" pos')) pos.line X.env = pure false := by rfl) : WS X (.Assign [.Name "_law_new" pos'] e pos) (tAsg te (gN 5)) := wxs c sc_law_anew.nd rfl lk_law_anew_5 he hs
theorem lk_law_anew_6 : (defScope s_law_anew).names.lookup ("_law_word" : Str) = some .local := by decide +kernel
theorem pv_law_anew_6 {X : Cx} (c : CxIs X ["_law_steps", "_law_cell", "_law_kind", "_law_left", "_law_at_here", "_law_new", "_law_word", "_law_top", "_law_bottom", "_law_pennies", "_law_way", "_law_unit", "_law_more"] (defScope s_law_anew)) {pos : Pos} : WE X (.Name "_law_word" pos) (tVar 6) := wxv c rfl lk_law_anew_6 (by decide) (by decide)
theorem sg_law_anew_6 {X : Cx} (c : CxIs X ["_law_steps", "_law_cell", "_law_kind", "_law_left", "_law_at_here", "_law_new", "_law_word", "_law_top", "_law_bottom", "_law_pennies", "_law_way", "_law_unit", "_law_more"] (defScope s_law_anew)) {pos : Pos} : WG X (.Name "_law_word" pos) (gN 6) := wxt c sc_law_anew.nd rfl lk_law_anew_6
theorem lk_law_anew_7 : (defScope s_law_anew).names.lookup ("_law_top" : Str) = some .local := by decide +kernel
theorem pv_law_anew_7 {X : Cx} (c : CxIs X ["_law_steps", "_law_cell", "_law_kind", "_law_left", "_law_at_here", "_law_new", "_law_word", "_law_top", "_law_bottom", "_law_pennies", "_law_way", "_law_unit", "_law_more"] (defScope s_law_anew)) {pos : Pos} : WE X (.Name "_law_top" pos) (tVar 7) := wxv c rfl lk_law_anew_7 (by decide) (by decide)
theorem sg_law_anew_7 {X : Cx} (c : CxIs X ["_law_steps", "_law_cell", "_law_kind", "_law_left", "_law_at_here", "_law_new", "_law_word", "_law_top", "_law_bottom", "_law_pennies", "_law_way", "_law_unit", "_law_more"] (defScope s_law_anew)) {pos : Pos} : WG X (.Name "_law_top" pos) (gN 7) := wxt c sc_law_anew.nd rfl lk_law_anew_7
theorem lk_law_anew_8 : (defScope s_law_anew).names.lookup ("_law_bottom" : Str) = some .local := by decide +kernel
theorem pv_law_anew_8 {X : Cx} (c : CxIs X ["_law_steps", "_law_cell", "_law_kind", "_law_left", "_law_at_here", "_law_new", "_law_word", "_law_top", "_law_bottom", "_law_pennies", "_law_way", "_law_unit", "_law_more"] (defScope s_law_anew)) {pos : Pos} : WE X (.Name "_law_bottom" pos) (tVar 8) := wxv c rfl lk_law_anew_8 (by decide) (by decide)
theorem sg_law_anew_8 {X : Cx} (c : CxIs X ["_law_steps", "_law_cell", "_law_kind", "_law_left", "_law_at_here", "_law_new", "_law_word", "_law_top", "_law_bottom", "_law_pennies", "_law_way", "_law_unit", "_law_more"] (defScope s_law_anew)) {pos : Pos} : WG X (.Name "_law_bottom" pos) (gN 8) := wxt c sc_law_anew.nd rfl lk_law_anew_8
theorem lk_law_anew_9 : (defScope s_law_anew).names.lookup ("_law_pennies" : Str) = some .local := by decide +kernel
theorem pv_law_anew_9 {X : Cx} (c : CxIs X ["_law_steps", "_law_cell", "_law_kind", "_law_left", "_law_at_here", "_law_new", "_law_word", "_law_top", "_law_bottom", "_law_pennies", "_law_way", "_law_unit", "_law_more"] (defScope s_law_anew)) {pos : Pos} : WE X (.Name "_law_pennies" pos) (tVar 9) := wxv c rfl lk_law_anew_9 (by decide) (by decide)
theorem sg_law_anew_9 {X : Cx} (c : CxIs X ["_law_steps", "_law_cell", "_law_kind", "_law_left", "_law_at_here", "_law_new", "_law_word", "_law_top", "_law_bottom", "_law_pennies", "_law_way", "_law_unit", "_law_more"] (defScope s_law_anew)) {pos : Pos} : WG X (.Name "_law_pennies" pos) (gN 9) := wxt c sc_law_anew.nd rfl lk_law_anew_9
theorem lk_law_anew_10 : (defScope s_law_anew).names.lookup ("_law_way" : Str) = some .local := by decide +kernel
theorem pv_law_anew_10 {X : Cx} (c : CxIs X ["_law_steps", "_law_cell", "_law_kind", "_law_left", "_law_at_here", "_law_new", "_law_word", "_law_top", "_law_bottom", "_law_pennies", "_law_way", "_law_unit", "_law_more"] (defScope s_law_anew)) {pos : Pos} : WE X (.Name "_law_way" pos) (tVar 10) := wxv c rfl lk_law_anew_10 (by decide) (by decide)
theorem sg_law_anew_10 {X : Cx} (c : CxIs X ["_law_steps", "_law_cell", "_law_kind", "_law_left", "_law_at_here", "_law_new", "_law_word", "_law_top", "_law_bottom", "_law_pennies", "_law_way", "_law_unit", "_law_more"] (defScope s_law_anew)) {pos : Pos} : WG X (.Name "_law_way" pos) (gN 10) := wxt c sc_law_anew.nd rfl lk_law_anew_10
theorem lk_law_anew_11 : (defScope s_law_anew).names.lookup ("_law_unit" : Str) = some .local := by decide +kernel
theorem pv_law_anew_11 {X : Cx} (c : CxIs X ["_law_steps", "_law_cell", "_law_kind", "_law_left", "_law_at_here", "_law_new", "_law_word", "_law_top", "_law_bottom", "_law_pennies", "_law_way", "_law_unit", "_law_more"] (defScope s_law_anew)) {pos : Pos} : WE X (.Name "_law_unit" pos) (tVar 11) := wxv c rfl lk_law_anew_11 (by decide) (by decide)
theorem sg_law_anew_11 {X : Cx} (c : CxIs X ["_law_steps", "_law_cell", "_law_kind", "_law_left", "_law_at_here", "_law_new", "_law_word", "_law_top", "_law_bottom", "_law_pennies", "_law_way", "_law_unit", "_law_more"] (defScope s_law_anew)) {pos : Pos} : WG X (.Name "_law_unit" pos) (gN 11) := wxt c sc_law_anew.nd rfl lk_law_anew_11
theorem lk_law_anew_12 : (defScope s_law_anew).names.lookup ("_law_more" : Str) = some .local := by decide +kernel
theorem pv_law_anew_12 {X : Cx} (c : CxIs X ["_law_steps", "_law_cell", "_law_kind", "_law_left", "_law_at_here", "_law_new", "_law_word", "_law_top", "_law_bottom", "_law_pennies", "_law_way", "_law_unit", "_law_more"] (defScope s_law_anew)) {pos : Pos} : WE X (.Name "_law_more" pos) (tVar 12) := wxv c rfl lk_law_anew_12 (by decide) (by decide)
theorem ss_law_anew_12 {X : Cx} (c : CxIs X ["_law_steps", "_law_cell", "_law_kind", "_law_left", "_law_at_here", "_law_new", "_law_word", "_law_top", "_law_bottom", "_law_pennies", "_law_way", "_law_unit", "_law_more"] (defScope s_law_anew)) {pos pos' : Pos} {e : Expr} {te : TE} (he : WE X e te) (hs : swapsWith e (some (.Name "_law_more" pos')) pos.line X.env = pure false := by rfl) : WS X (.Assign [.Name "_law_more" pos'] e pos) (tAsg te (gN 12)) := wxs c sc_law_anew.nd rfl lk_law_anew_12 he hs
theorem gl_law_anew_law_short {X : Cx} (c : CxIs X ["_law_steps", "_law_cell", "_law_kind", "_law_left", "_law_at_here", "_law_new", "_law_word", "_law_top", "_law_bottom", "_law_pennies", "_law_way", "_law_unit", "_law_more"] (defScope s_law_anew)) : Gl X "_law_short" := xg c (by decide +kernel)
theorem gl_law_anew_law_worded {X : Cx} (c : CxIs X ["_law_steps", "_law_cell", "_law_kind", "_law_left", "_law_at_here", "_law_new", "_law_word", "_law_top", "_law_bottom", "_law_pennies", "_law_way", "_law_unit", "_law_more"] (defScope s_law_anew)) : Gl X "_law_worded" := xg c (by decide +kernel)
theorem gl_law_anew_law_there_and_back {X : Cx} (c : CxIs X ["_law_steps", "_law_cell", "_law_kind", "_law_left", "_law_at_here", "_law_new", "_law_word", "_law_top", "_law_bottom", "_law_pennies", "_law_way", "_law_unit", "_law_more"] (defScope s_law_anew)) : Gl X "_law_there_and_back" := xg c (by decide +kernel)
theorem gl_law_anew_len {X : Cx} (c : CxIs X ["_law_steps", "_law_cell", "_law_kind", "_law_left", "_law_at_here", "_law_new", "_law_word", "_law_top", "_law_bottom", "_law_pennies", "_law_way", "_law_unit", "_law_more"] (defScope s_law_anew)) : Gl X "len" := xg c (by decide +kernel)
theorem gl_law_anew_list {X : Cx} (c : CxIs X ["_law_steps", "_law_cell", "_law_kind", "_law_left", "_law_at_here", "_law_new", "_law_word", "_law_top", "_law_bottom", "_law_pennies", "_law_way", "_law_unit", "_law_more"] (defScope s_law_anew)) : Gl X "list" := xg c (by decide +kernel)
theorem gl_law_anew_max {X : Cx} (c : CxIs X ["_law_steps", "_law_cell", "_law_kind", "_law_left", "_law_at_here", "_law_new", "_law_word", "_law_top", "_law_bottom", "_law_pennies", "_law_way", "_law_unit", "_law_more"] (defScope s_law_anew)) : Gl X "max" := xg c (by decide +kernel)
theorem st_law_anew (v0 v1 : V) : L2.start ["_law_steps", "_law_cell", "_law_kind", "_law_left", "_law_at_here", "_law_new", "_law_word", "_law_top", "_law_bottom", "_law_pennies", "_law_way", "_law_unit", "_law_more"] [v0, v1] = [some v0, some v1, none, none, none, none, none, none, none, none, none, none, none] := rfl
noncomputable def sp_law_anew (K : PySem.W.Frag) : Sp := fun vs H Q _ => ∃ (l : Addr) (as : List Addr) (sts : List StepD) (cl : Int), vs = [.ref l, .int cl] ∧ Chn K H l as sts ∧ sts.length ≤ 6 ∧ prodI sts ≤ 3000 ∧
  ∀ l' as' sts' H', Same H H' → H' l' = some (.lst (as'.map V.ref)) → Chn K H' l' as' sts' → sts'.length ≤ 6 → prodI sts' ≤ 3000 → StEq sts' sts → Q (.ref l') H'
theorem body_law_anew {X : Cx} (c : CxIs X ["_law_steps", "_law_cell", "_law_kind", "_law_left", "_law_at_here", "_law_new", "_law_word", "_law_top", "_law_bottom", "_law_pennies", "_law_way", "_law_unit", "_law_more"] (defScope s_law_anew)) (hr : Room 4 X.A) {E : XK}  (z_len : X.mg "len" = none) (z_list : X.mg "list" = none) (z_max : X.mg "max" = none) (C_law_short : Cal X.prog X.w X.K X.mg X.base "_law_short" 4 ["_law_made", "_law_steps"] (sp_law_short X.K)) (C_law_worded : Cal X.prog X.w X.K X.mg X.base "_law_worded" 1 ["_law_step_here"] (sp_law_worded X.K)) (C_law_there_and_back : Cal X.prog X.w X.K X.mg X.base "_law_there_and_back" 1 ["_law_cell"] (sp_law_there_and_back X.K)) {vs : List V} {H : Hp} {Q : VK} (h : sp_law_anew X.K vs H Q E) : ∃ t, WSs X (defBody s_law_anew) t ∧ t { nx := fun _ H' => Q .non H', rt := Q } (L2.start ["_law_steps", "_law_cell", "_law_kind", "_law_left", "_law_at_here", "_law_new", "_law_word", "_law_top", "_law_bottom", "_law_pennies", "_law_way", "_law_unit", "_law_more"] vs) H := by
  obtain ⟨f_law_short, d_law_short, G_law_short, b_law_short, k_law_short, m_law_short⟩ := C_law_short
  obtain ⟨f_law_worded, d_law_worded, G_law_worded, b_law_worded, k_law_worded, m_law_worded⟩ := C_law_worded
  obtain ⟨f_law_there_and_back, d_law_there_and_back, G_law_there_and_back, b_law_there_and_back, k_law_there_and_back, m_law_there_and_back⟩ := C_law_there_and_back
  · obtain ⟨l, as, sts, cl, rfl, hC, h6, hp, q⟩ := h
    refine ⟨_, (wss_cons (ws_if (wt_cmpR op_eq (we_callB call_len_seq (gl_law_anew_len c) z_len PySem.boot_len (wa_cons (pv_law_anew_0 c) wa_nil star_Name)) we_int (nomark _))
      (wss_one (ws_ret (we_callTy call_list_ofO (gl_law_anew_list c) z_list boot_ty_list (wa_cons (pv_law_anew_0 c) wa_nil star_Name))))
      wss_nil)
      (wss_cons (ss_law_anew_2 c (we_op op_mod (pv_law_anew_1 c) we_int))
      (wss_cons (ss_law_anew_3 c (we_op op_fdivB (pv_law_anew_1 c) we_int))
      (wss_cons (ws_if (WW.pt (ww_or (wt_cmpR op_eq (pv_law_anew_2 c) we_int (nomark _)) (ww_or1 (wt_cmpR op_eq (we_callB call_len_seq (gl_law_anew_len c) z_len PySem.boot_len (wa_cons (pv_law_anew_0 c) wa_nil star_Name)) we_int (nomark _)))))
      (wss_cons (ss_law_anew_4 c (we_op op_mod (we_op op_fdivB (pv_law_anew_3 c) we_int) (we_op op_add (we_callB call_len_seq (gl_law_anew_len c) z_len PySem.boot_len (wa_cons (pv_law_anew_0 c) wa_nil star_Name)) we_int)))
      (wss_one (ws_ret (we_call (G_law_short.mono (by decide)) hr (gl_law_anew_law_short c) m_law_short k_law_short b_law_short .nil pass0 (wa_cons (we_op op_catO (we_op op_catO (we_slice sl_listO (pv_law_anew_0 c) wo_none (wo_some (pv_law_anew_4 c))) (we_call (G_law_there_and_back.mono (by decide)) hr (gl_law_anew_law_there_and_back c) m_law_there_and_back k_law_there_and_back b_law_there_and_back .nil pass0 (wa_cons (pv_law_anew_3 c) wa_nil star_Name))) (we_slice sl_listO (pv_law_anew_0 c) (wo_some (pv_law_anew_4 c)) wo_none)) (wa_cons (pv_law_anew_0 c) wa_nil star_Name) star_BinOp)))))
      wss_nil)
      (wss_cons (ss_law_anew_4 c (we_op op_mod (pv_law_anew_3 c) (we_callB call_len_seq (gl_law_anew_len c) z_len PySem.boot_len (wa_cons (pv_law_anew_0 c) wa_nil star_Name))))
      (wss_cons (ss_law_anew_3 c (we_op op_fdivB (pv_law_anew_3 c) (we_callB call_len_seq (gl_law_anew_len c) z_len PySem.boot_len (wa_cons (pv_law_anew_0 c) wa_nil star_Name))))
      (wss_cons (ws_asg (we_ix ix_list (pv_law_anew_0 c) (pv_law_anew_4 c) plain_Name) (wg_tup c.calm (wgs_cons (sg_law_anew_6 c) (wgs_cons (sg_law_anew_7 c) (wgs_cons (sg_law_anew_8 c) (wgs_cons (sg_law_anew_9 c) (wgs_cons (sg_law_anew_10 c) (wgs_cons (sg_law_anew_11 c) wgs_nil))))))))
      (wss_cons (ss_law_anew_5 c (we_lstO (wa_cons (we_call (G_law_worded.mono (by decide)) hr (gl_law_anew_law_worded c) m_law_worded k_law_worded b_law_worded .nil pass0 (wa_cons (we_ix ix_list (pv_law_anew_0 c) (pv_law_anew_4 c) plain_Name) wa_nil star_Subscript)) wa_nil star_Call)))
      (wss_cons (ws_if (WW.pt (ww_and (wt_cmpR op_eq (pv_law_anew_2 c) we_int (nomark _)) (ww_and1 (wt_cmpR op_le (we_callB (call_max2 c.calm) (gl_law_anew_max c) z_max boot_max (wa_cons (pv_law_anew_7 c) (wa_cons (pv_law_anew_8 c) wa_nil star_Name) star_Name)) we_int (nomark _)))))
      (wss_one (ss_law_anew_5 c (we_lstO (wa_cons (we_tupO (wa_cons (pv_law_anew_6 c) (wa_cons (we_op op_mulB we_int (pv_law_anew_7 c)) (wa_cons (we_op op_mulB we_int (pv_law_anew_8 c)) (wa_cons (pv_law_anew_9 c) (wa_cons (pv_law_anew_10 c) (wa_cons (pv_law_anew_11 c) wa_nil star_Name) star_Name) star_Name) star_BinOp) star_BinOp) star_Name)) wa_nil star_Tuple))))
      wss_nil)
      (wss_cons (ws_if (wt_cmpR op_eq (pv_law_anew_2 c) we_int (nomark _))
      (wss_one (ss_law_anew_5 c (we_lstO (wa_cons (we_ix ix_list (pv_law_anew_0 c) (pv_law_anew_4 c) plain_Name) (wa_cons (we_tupO (wa_cons we_str (wa_cons (we_op op_add we_int (we_op op_mod (pv_law_anew_3 c) we_int)) (wa_cons (we_op op_add we_int (we_op op_mod (pv_law_anew_3 c) we_int)) (wa_cons we_int (wa_cons (we_ix ix_list (we_lstO (wa_cons we_str (wa_cons we_str (wa_cons we_str wa_nil star_Constant) star_Constant) star_Constant)) (we_op op_mod (we_op op_fdivB (pv_law_anew_3 c) we_int) we_int) plain_BinOp) (wa_cons we_int wa_nil star_Constant) star_Subscript) star_Constant) star_BinOp) star_BinOp) star_Constant)) wa_nil star_Tuple) star_Subscript))))
      wss_nil)
      (wss_cons (ws_if (WW.pt (ww_and (wt_cmpR op_eq (pv_law_anew_2 c) we_int (nomark _)) (ww_and1 (wt_cmpR op_eq (we_op op_mod (pv_law_anew_9 c) (pv_law_anew_11 c)) we_int (nomark _)))))
      (wss_one (ss_law_anew_5 c (we_lstO (wa_cons (we_tupO (wa_cons (pv_law_anew_6 c) (wa_cons (pv_law_anew_7 c) (wa_cons (pv_law_anew_8 c) (wa_cons we_int (wa_cons (pv_law_anew_10 c) (wa_cons (pv_law_anew_11 c) wa_nil star_Name) star_Name) star_Constant) star_Name) star_Name) star_Name)) (wa_cons (we_tupO (wa_cons we_str (wa_cons we_int (wa_cons we_int (wa_cons (pv_law_anew_9 c) (wa_cons (we_ix ix_list (we_lstO (wa_cons we_str (wa_cons we_str (wa_cons we_str wa_nil star_Constant) star_Constant) star_Constant)) (we_op op_mod (pv_law_anew_3 c) we_int) plain_BinOp) (wa_cons (pv_law_anew_11 c) wa_nil star_Name) star_Subscript) star_Name) star_Constant) star_Constant) star_Constant)) wa_nil star_Tuple) star_Tuple))))
      wss_nil)
      (wss_cons (ws_if (WW.pt (ww_and (wt_cmpR op_eq (pv_law_anew_2 c) we_int (nomark _)) (ww_and (wt_cmpR op_eq (pv_law_anew_8 c) we_int (nomark _)) (ww_and1 (wt_cmpR op_lt (pv_law_anew_9 c) (we_op op_pow we_int we_int) (nomark _))))))
      (wss_cons (ss_law_anew_12 c (we_dget (hu_of hr) (we_disp (wps_cons we_str we_int (wps_cons we_str (we_op op_sub (pv_law_anew_11 c) we_int) (wps_cons we_str (we_op op_fdivB (pv_law_anew_11 c) we_int) wps_nil)))) (pv_law_anew_10 c) plain_Name))
      (wss_one (ss_law_anew_5 c (we_lstO (wa_cons (we_tupO (wa_cons (pv_law_anew_6 c) (wa_cons (pv_law_anew_7 c) (wa_cons (pv_law_anew_8 c) (wa_cons (we_op op_add (pv_law_anew_9 c) (pv_law_anew_12 c)) (wa_cons we_str (wa_cons (pv_law_anew_11 c) wa_nil star_Name) star_Constant) star_BinOp) star_Name) star_Name) star_Name)) wa_nil star_Tuple)))))
      wss_nil)
      (wss_one (ws_ret (we_call (G_law_short.mono (by decide)) hr (gl_law_anew_law_short c) m_law_short k_law_short b_law_short .nil pass0 (wa_cons (we_op op_catO (we_op op_catO (we_slice sl_listO (pv_law_anew_0 c) wo_none (wo_some (pv_law_anew_4 c))) (pv_law_anew_5 c)) (we_slice sl_listO (pv_law_anew_0 c) (wo_some (we_op op_add (pv_law_anew_4 c) we_int)) wo_none)) (wa_cons (pv_law_anew_0 c) wa_nil star_Name) star_BinOp)))))))))))))))), ?_⟩
    rw [st_law_anew]
    have hlen : (as.map V.ref).length = sts.length := by rw [List.length_map, hC.len]
    have al : as.length = sts.length := hC.len
    have dv : ∀ c z : Int, 0 < c → c < 10 ^ 12 → CDivB z c := fun c z h1 h2 => ⟨h1, Int.lt_trans h2 (by decide +kernel)⟩
    refine ⟨_, rfl, _, _, rfl, .inl hC.lst, rfl, _, rfl, ?_⟩
    rw [hlen]
    refine if2 (fun c => ?_) (fun c => ?_)
    · exact ⟨_, rfl, _, _, rfl, .inl hC.lst, fun p1 H1 n1 s1 f1 => q p1 as sts H1 s1 f1 (hC.copy s1 f1) h6 hp StEq.rfl'⟩
    have h5 : sts.length ≤ 5 := by have := of_not_int c; omega
    refine ⟨_, rfl, _, _, rfl, rfl, (by decide : (0 : Int) < 6), fun σ e => ?_⟩
    dsimp only [List.set] at e
    have kd0 := md0 (x := cl) (n := 6) (by decide)
    generalize cl % 6 = kd at e kd0
    subst e
    refine ⟨_, rfl, _, _, rfl, rfl, dv _ _ (by decide) (by decide), fun σ e => ?_⟩
    dsimp only [List.set] at e
    generalize cl / 6 = lf at e
    subst e
    have fin : ∀ (H' : Hp) (p5 : Addr) (bs : List Addr) (mds : List StepD), Same H H' → H' p5 = some (.lst (bs.map V.ref)) → Paired (StepAt X.K H') bs mds → mds.length ≤ 100 → StEq mds sts → ∀ E, sp_law_short X.K [.ref p5, .ref l] H' Q E := fun H' p5 bs mds s f P m1 he E =>
      ⟨p5, l, bs, as, mds, sts, rfl, f, chn_prd f P, hC.same s, m1, h6, hp, he, fun l' as' sts' H2 s2 f2 c2 a1 a2 a3 => q l' as' sts' H2 (s.trans s2) f2 c2 a1 a2 a3⟩
    refine ⟨_, rfl, rfl, _, rfl, ?_⟩
    refine if2 (fun k5 => ?A1) (fun k5 => ?B)
    case' B =>
      refine ⟨_, rfl, _, _, rfl, .inl hC.lst, rfl, _, rfl, ?_⟩
      rw [hlen]
      refine if2 (fun z0 => ?A2) (fun z0 => ?B2)
    case B2 =>
      have hne : 0 < sts.length := by have := of_not_int z0; omega
      refine ⟨_, rfl, _, rfl, _, _, rfl, .inl hC.lst, _, _, rfl, rfl, (by rw [hlen]; omega : (0 : Int) < _), fun σ e => ?_⟩
      dsimp only [List.set] at e
      rw [hlen] at e
      have k0 := md0 (x := lf) (n := (sts.length : Int)) (by omega)
      have k1 := md1 (x := lf) (n := (sts.length : Int)) (by omega)
      obtain ⟨k, hk⟩ := Int.eq_ofNat_of_zero_le k0
      rw [hk] at e k1
      subst e
      have kl : k < sts.length := by omega
      have kl' : k < as.length := by omega
      refine ⟨_, rfl, _, rfl, _, _, rfl, .inl hC.lst, _, _, rfl, rfl, dv _ _ (by rw [hlen]; omega) (by rw [hlen]; omega), fun σ e => ?_⟩
      dsimp only [List.set] at e
      generalize lf / ((as.map V.ref).length : Int) = lf at e
      subst e
      have atk : atI (as.map V.ref) (k : Int) = some (.ref as[k]) := atI_nat (by rw [List.getElem?_map, List.getElem?_eq_getElem kl']; rfl)
      have sk := prd_get hC.prd (List.getElem?_eq_getElem kl') (List.getElem?_eq_getElem kl)
      have cutS : sts.take k ++ [sts[k]] ++ sts.drop (k + 1) = sts := by rw [List.append_assoc, List.singleton_append, ← List.drop_eq_getElem_cons kl, List.take_append_drop]
      generalize hst : sts[k] = st at sk cutS
      generalize as[k] = ak at sk atk
      obtain ⟨hTk, hOk⟩ := sk
      obtain ⟨w, n, d, p, y, u⟩ := st
      refine ⟨_, rfl, _, rfl, l, _, _, _, rfl, rfl, hC.lst, atk, ak, _, rfl, hTk, rfl, _, _, rfl, fun σ e => ?_⟩
      dsimp only [List.set] at e
      subst e
      refine ⟨_, _, rfl, fun σ e => ?_⟩
      dsimp only [List.set] at e
      subst e
      refine ⟨_, _, rfl, fun σ e => ?_⟩
      dsimp only [List.set] at e
      subst e
      refine ⟨_, _, rfl, fun σ e => ?_⟩
      dsimp only [List.set] at e
      subst e
      refine ⟨_, _, rfl, fun σ e => ?_⟩
      dsimp only [List.set] at e
      subst e
      refine ⟨_, _, rfl, fun σ e => ?_⟩
      dsimp only [List.set] at e
      subst e
      refine ⟨rfl, ?_⟩
      have n0 := hOk.n0
      have n1 := hOk.n1
      have d0 := hOk.d0
      have d1 := hOk.d1
      have p0 := hOk.p0
      have p1 := hOk.p1
      have u0 := hOk.u0
      have u1 := hOk.u1
      have hoff := hOk.off
      dsimp only at n0 n1 d0 d1 p0 p1 u0 u1 hoff
      refine ⟨_, rfl, _, rfl, l, _, _, _, rfl, rfl, hC.lst, atk, ak, _, rfl, hTk, hOk, fun pw st' H1 s1 hT1 hO1 hS1 => ?_⟩
      refine ⟨small' (by show 1 ≤ 1000; decide), fun p2 H2 n2 s2 f2 σ e => ?_⟩
      dsimp only [List.set] at e
      subst e
      have E1 : StEq [st'] [⟨w, n, d, p, y, u⟩] := fun m => by
        rw [endI_cons, endI_cons, endI_nil, endI_nil, hS1.many, hS1.u]
      have s02 := s1.trans s2
      try unfold tNext
      try dsimp only
      obtain ⟨pn, hpn⟩ : ∃ z, p2 = z := ⟨_, rfl⟩
      have vmE : ∃ vm : Option V, vm = none := ⟨_, rfl⟩
      rw [hpn]
      have fN : H2 pn = some (.lst (([pw] : List Addr).map V.ref)) := by rw [← hpn]; exact f2
      have PN : Paired (StepAt X.K H2) [pw] [st'] := .cons ⟨s2.seqT hT1, hO1⟩ .nil
      have lN : ([st'] : List StepD).length ≤ 2 := by show 1 ≤ 2; decide
      generalize ([st'] : List StepD) = nw at PN lN E1
      generalize ([pw] : List Addr) = bs at fN PN
      have eN := E1
      have sN := s02
      obtain ⟨vm, hvm⟩ := vmE
      rw [← hvm]
      try unfold tNext
      try dsimp only
      refine seq_gen (fun σ H' => ∃ (pn : Addr) (bs : List Addr) (nw : List StepD) (vm : Option V), Same H H' ∧ H' pn = some (.lst (bs.map V.ref)) ∧ Paired (StepAt X.K H') bs nw ∧ nw.length ≤ 2 ∧ StEq nw [⟨w, n, d, p, y, u⟩] ∧
        σ = [some (.ref l), some (.int cl), some (.int kd), some (.int lf), some (.int (k : Int)), some (.ref pn), some (.str w), some (.int n), some (.int d), some (.int p), some (.str y), some (.int u), vm]) ?rest1 ?st1
      case st1 =>
        intro R hR
        refine ⟨_, rfl, rfl, _, rfl, ?_⟩
        refine if2 (fun c1 => ?_) (fun c1 => ?_)
        · refine ⟨_, rfl, _, rfl, _, _, rfl, _, _, rfl, rfl, _, rfl, ?_⟩
          refine if2 (fun c2 => ?_) (fun c2 => ?_)
          · refine ⟨_, rfl, _, rfl, _, _, rfl, rfl, mul_l (by decide) (by decide), _, rfl, _, _, rfl, rfl, mul_l (by decide) (by decide), _, rfl, _, rfl, _, rfl, small' (by show 6 ≤ 1000; decide), fun q1 J1 m1 t1 g1 => ?_⟩
            refine ⟨small' (by show 1 ≤ 1000; decide), fun q2 J2 m2 t2 g2 σ e => ?_⟩
            dsimp only [List.set] at e
            subst e
            have o2 : StepD.Ok ⟨w, 2 * n, 2 * d, p, y, u⟩ := ⟨hOk.w, by dsimp only; omega, by dsimp only; omega, by dsimp only; omega, by dsimp only; omega, fun z => by have := hoff z; dsimp only; omega, hOk.p0, hOk.p1, hOk.y, hOk.u0, hOk.u1⟩
            exact hR _ _ ⟨q2, [q1], [⟨w, 2 * n, 2 * d, p, y, u⟩], vm, sN.trans (t1.trans t2), g2, .cons ⟨t2.seqT (SqT.of g1), o2⟩ .nil, by show 1 ≤ 2; decide, eq_twice hOk, rfl⟩
          · exact hR _ _ ⟨pn, bs, nw, vm, sN, fN, PN, lN, eN, rfl⟩
        · refine iteF ?_
          exact hR _ _ ⟨pn, bs, nw, vm, sN, fN, PN, lN, eN, rfl⟩
      rintro σ HN ⟨pn, bs, nw, vm, sN, fN, PN, lN, eN, rfl⟩
      try unfold tNext
      try dsimp only
      refine seq_gen (fun σ H' => ∃ (pn : Addr) (bs : List Addr) (nw : List StepD) (vm : Option V), Same H H' ∧ H' pn = some (.lst (bs.map V.ref)) ∧ Paired (StepAt X.K H') bs nw ∧ nw.length ≤ 2 ∧ StEq nw [⟨w, n, d, p, y, u⟩] ∧
        σ = [some (.ref l), some (.int cl), some (.int kd), some (.int lf), some (.int (k : Int)), some (.ref pn), some (.str w), some (.int n), some (.int d), some (.int p), some (.str y), some (.int u), vm]) ?rest2 ?st2
      case st2 =>
        intro R hR
        refine ⟨_, rfl, rfl, _, rfl, ?_⟩
        refine if2 (fun c1 => ?_) (fun c1 => ?_)
        · have a0 := md0 (x := lf) (n := 100) (by decide)
          have a1 := md1 (x := lf) (n := 100) (by decide)
          have z0 := md0 (x := lf / 100) (n := 3) (by decide)
          have z1 := md1 (x := lf / 100) (n := 3) (by decide)
          refine ⟨_, rfl, _, rfl, l, _, _, _, rfl, rfl, (hC.same sN).lst, atk, _, rfl, _, _, rfl, rfl, (by decide : (0 : Int) < 100), _, _, rfl, rfl, _, rfl, _, _, rfl, rfl, (by decide : (0 : Int) < 100), _, _, rfl, rfl, small' (by show 3 ≤ 1000; decide), fun q1 J1 m1 t1 g1 => ?_⟩
          refine ⟨_, rfl, _, _, rfl, rfl, dv _ _ (by decide) (by decide), _, _, rfl, rfl, (by decide : (0 : Int) < 3), q1, _, _, _, rfl, rfl, SqL.of g1, at3 z0 z1, small' (by show 6 ≤ 1000; decide), fun q2 J2 m2 t2 g2 => ?_⟩
          refine ⟨small' (by show 2 ≤ 1000; decide), fun q3 J3 m3 t3 g3 σ e => ?_⟩
          dsimp only [List.set] at e
          subst e
          obtain ⟨y2, hy2, ey⟩ := wayP z0 z1
          rw [ey] at g2
          have o2 : StepD.Ok ⟨"times", 1 + lf % 100, 1 + lf % 100, 0, y2, 1⟩ := ⟨.inl rfl, by dsimp only; omega, by dsimp only; omega, by dsimp only; omega, by dsimp only; omega, fun z => absurd z (by dsimp only; decide +kernel), by dsimp only; decide, by dsimp only; decide, hy2, by dsimp only; decide, by dsimp only; decide⟩
          refine hR _ _ ⟨q3, [ak, q2], [⟨w, n, d, p, y, u⟩, ⟨"times", 1 + lf % 100, 1 + lf % 100, 0, y2, 1⟩], vm, sN.trans (t1.trans (t2.trans t3)), g3, .cons ⟨(sN.trans (t1.trans (t2.trans t3))).seqT hTk, hOk⟩ (.cons ⟨t3.seqT (SqT.of g2), o2⟩ .nil), by show 2 ≤ 2; decide, fun m => ?_, rfl⟩
          rw [show ([⟨w, n, d, p, y, u⟩, ⟨"times", 1 + lf % 100, 1 + lf % 100, 0, y2, 1⟩] : List StepD) = [⟨w, n, d, p, y, u⟩] ++ [⟨"times", 1 + lf % 100, 1 + lf % 100, 0, y2, 1⟩] from rfl, endI_app, eq_whole hy2 (by omega)]
        · exact hR _ _ ⟨pn, bs, nw, vm, sN, fN, PN, lN, eN, rfl⟩
      rintro σ HN ⟨pn, bs, nw, vm, sN, fN, PN, lN, eN, rfl⟩
      try unfold tNext
      try dsimp only
      refine seq_gen (fun σ H' => ∃ (pn : Addr) (bs : List Addr) (nw : List StepD) (vm : Option V), Same H H' ∧ H' pn = some (.lst (bs.map V.ref)) ∧ Paired (StepAt X.K H') bs nw ∧ nw.length ≤ 2 ∧ StEq nw [⟨w, n, d, p, y, u⟩] ∧
        σ = [some (.ref l), some (.int cl), some (.int kd), some (.int lf), some (.int (k : Int)), some (.ref pn), some (.str w), some (.int n), some (.int d), some (.int p), some (.str y), some (.int u), vm]) ?rest3 ?st3
      case st3 =>
        intro R hR
        refine ⟨_, rfl, rfl, _, rfl, ?_⟩
        refine if2 (fun c1 => ?_) (fun c1 => ?_)
        · refine ⟨_, rfl, _, rfl, _, _, rfl, rfl, (show (0 : Int) < u by omega), rfl, _, rfl, ?_⟩
          refine if2 (fun c2 => ?_) (fun c2 => ?_)
          · have z0 := md0 (x := lf) (n := 3) (by decide)
            have z1 := md1 (x := lf) (n := 3) (by decide)
            refine ⟨_, rfl, _, rfl, _, rfl, _, rfl, _, rfl, small' (by show 6 ≤ 1000; decide), fun q1 J1 m1 t1 g1 => ?_⟩
            refine ⟨_, rfl, small' (by show 3 ≤ 1000; decide), fun q2 J2 m2 t2 g2 => ?_⟩
            refine ⟨_, rfl, _, _, rfl, rfl, (by decide : (0 : Int) < 3), q2, _, _, _, rfl, rfl, SqL.of g2, at3 z0 z1, _, rfl, small' (by show 6 ≤ 1000; decide), fun q3 J3 m3 t3 g3 => ?_⟩
            refine ⟨small' (by show 2 ≤ 1000; decide), fun q4 J4 m4 t4 g4 σ e => ?_⟩
            dsimp only [List.set] at e
            subst e
            obtain ⟨y2, hy2, ey⟩ := wayP z0 z1
            rw [ey] at g3
            have o1 : StepD.Ok ⟨w, n, d, 0, y, u⟩ := ⟨hOk.w, hOk.n0, hOk.n1, hOk.d0, hOk.d1, hOk.off, by dsimp only; decide, by dsimp only; decide, hOk.y, hOk.u0, hOk.u1⟩
            have o2 : StepD.Ok ⟨"times", 1, 1, p, y2, u⟩ := ⟨.inl rfl, by dsimp only; decide, by dsimp only; decide, by dsimp only; decide, by dsimp only; decide, fun z => absurd z (by dsimp only; decide +kernel), hOk.p0, hOk.p1, hy2, hOk.u0, hOk.u1⟩
            exact hR _ _ ⟨q4, [q1, q3], [⟨w, n, d, 0, y, u⟩, ⟨"times", 1, 1, p, y2, u⟩], vm, sN.trans (t1.trans (t2.trans (t3.trans t4))), g4, .cons ⟨(t2.trans (t3.trans t4)).seqT (SqT.of g1), o1⟩ (.cons ⟨t4.seqT (SqT.of g3), o2⟩ .nil), by show 2 ≤ 2; decide, eq_split hOk hy2 (of_int c2), rfl⟩
          · exact hR _ _ ⟨pn, bs, nw, vm, sN, fN, PN, lN, eN, rfl⟩
        · refine iteF ?_
          exact hR _ _ ⟨pn, bs, nw, vm, sN, fN, PN, lN, eN, rfl⟩
      rintro σ HN ⟨pn, bs, nw, vm, sN, fN, PN, lN, eN, rfl⟩
      try unfold tNext
      try dsimp only
      refine seq_gen (fun σ H' => ∃ (pn : Addr) (bs : List Addr) (nw : List StepD) (vm : Option V), Same H H' ∧ H' pn = some (.lst (bs.map V.ref)) ∧ Paired (StepAt X.K H') bs nw ∧ nw.length ≤ 2 ∧ StEq nw [⟨w, n, d, p, y, u⟩] ∧
        σ = [some (.ref l), some (.int cl), some (.int kd), some (.int lf), some (.int (k : Int)), some (.ref pn), some (.str w), some (.int n), some (.int d), some (.int p), some (.str y), some (.int u), vm]) ?rest4 ?st4
      case st4 =>
        intro R hR
        refine ⟨_, rfl, rfl, _, rfl, ?_⟩
        refine if2 (fun c1 => ?_) (fun c1 => ?_)
        · refine ⟨_, rfl, rfl, _, rfl, ?_⟩
          refine if2 (fun c2 => ?_) (fun c2 => ?_)
          · refine ⟨_, rfl, _, _, rfl, rfl, ⟨by decide, by decide, by decide⟩, _, _, rfl, rfl, _, rfl, ?_⟩
            refine if2 (fun c3 => ?_) (fun c3 => ?_)
            · have hd1 := of_int c2
              have e29 : (10 : Int) ^ Int.toNat 29 = 10 ^ 29 := by decide
              rw [e29] at c3
              intro pd hpd
              refine ⟨_, rfl, _, _, rfl, rfl, _, rfl, _, _, rfl, rfl, dv _ _ (by decide) (by decide), upd_same, [(Sum.inr "down", .int 0), (Sum.inr "up", .int (u - 1)), (Sum.inr "near", .int (u / 2))], rfl, by show 3 ≤ 15; decide, ?_⟩
              obtain ⟨mo, hmo, hq⟩ : ∃ mo : Int, valV (mergeK [] [((Sum.inr "down" : Key), V.int 0), (Sum.inr "up", .int (u - 1)), (Sum.inr "near", .int (u / 2))]) (Sum.inr y) = some (.int mo) ∧ ((y = "down" → mo = 0) ∧ (y = "up" → mo = u - 1) ∧ (y = "near" → mo = u / 2)) := moreP hOk.y u
              have sD : Same HN (L2.upd (L2.upd HN pd (.dK [])) pd (.dK (mergeK [] [((Sum.inr "down" : Key), V.int 0), (Sum.inr "up", .int (u - 1)), (Sum.inr "near", .int (u / 2))]))) := ((Same.refl _).drop hpd rfl).drop hpd rfl
              refine ⟨_, rfl, pd, .int mo, rfl, by rw [← hmo]; exact DGet.k (k := Sum.inr y) upd_same, fun σ e => ?_⟩
              dsimp only [List.set] at e
              subst e
              generalize L2.upd (L2.upd HN pd (.dK [])) pd (.dK (mergeK [] [((Sum.inr "down" : Key), V.int 0), (Sum.inr "up", .int (u - 1)), (Sum.inr "near", .int (u / 2))])) = HD at sD ⊢
              refine ⟨_, rfl, _, rfl, _, rfl, _, rfl, _, rfl, _, _, rfl, rfl, _, rfl, small' (by show 6 ≤ 1000; decide), fun q1 J1 m1 t1 g1 => ?_⟩
              refine ⟨small' (by show 1 ≤ 1000; decide), fun q2 J2 m2 t2 g2 σ e => ?_⟩
              dsimp only [List.set] at e
              subst e
              have hmo2 : 0 ≤ mo ∧ mo ≤ 100 := by
                rcases hOk.y with z | z | z <;> dsimp only at z
                · have := hq.1 z; omega
                · have := hq.2.1 z; omega
                · have := hq.2.2 z; omega
              have o2 : StepD.Ok ⟨w, n, d, p + mo, "down", u⟩ := ⟨hOk.w, hOk.n0, hOk.n1, hOk.d0, hOk.d1, hOk.off, by dsimp only; omega, by dsimp only; omega, .inl rfl, hOk.u0, hOk.u1⟩
              refine hR _ _ ⟨q2, [q1], [⟨w, n, d, p + mo, "down", u⟩], some (.int mo), sN.trans (sD.trans (t1.trans t2)), g2, .cons ⟨t2.seqT (SqT.of g1), o2⟩ .nil, by show 1 ≤ 2; decide, ?_, rfl⟩
              subst hd1
              exact eq_down hOk hq
            · exact hR _ _ ⟨pn, bs, nw, vm, sN, fN, PN, lN, eN, rfl⟩
          · refine iteF ?_
            exact hR _ _ ⟨pn, bs, nw, vm, sN, fN, PN, lN, eN, rfl⟩
        · refine iteF ?_
          exact hR _ _ ⟨pn, bs, nw, vm, sN, fN, PN, lN, eN, rfl⟩
      rintro σ HN ⟨pn, bs, nw, vm, sN, fN, PN, lN, eN, rfl⟩
      have hCN := hC.same sN
      refine ⟨_, rfl, _, rfl, _, rfl, l, _, rfl, hCN.lst, fun p1 H1 n1 s1 f1 => ?_⟩
      rw [cut_take] at f1
      have lb : bs.length ≤ 2 := by rw [(chn_prd fN PN).len]; exact lN
      refine ⟨_, rfl, p1, pn, _, _, rfl, rfl, f1, s1 _ _ fN, Nat.le_trans (show _ ≤ 1000 by rw [List.length_map, List.length_map, List.length_take]; omega) (by decide), fun p3 H3 n3 s3 f3 => ?_⟩
      have s13 := s1.trans s3
      refine ⟨_, rfl, _, rfl, _, _, rfl, rfl, _, rfl, l, _, rfl, s13.seq hCN.lst, fun p4 H4 n4 s4 f4 => ?_⟩
      rw [show (k : Int) + 1 = ((k + 1 : Nat) : Int) from rfl, cut_drop _ _ _ (by omega)] at f4
      refine ⟨p3, p4, _, _, rfl, rfl, s4 _ _ f3, f4, Nat.le_trans (show _ ≤ 1000 by rw [List.length_append, List.length_map, List.length_map, List.length_map, List.length_take, List.length_drop]; omega) (by decide), fun p5 H5 n5 s5 f5 => ?_⟩
      rw [← List.map_append, ← List.map_append] at f5
      have s15 := s13.trans (s4.trans s5)
      have P := prd_same hCN.prd s15
      have PT := prd_same PN s15
      refine ⟨_, rfl, ?_⟩
      dsimp only [tNil]
      have eq := eN.mid (sts.take k) (sts.drop (k + 1))
      rw [cutS] at eq
      exact fin H5 p5 _ (sts.take k ++ nw ++ sts.drop (k + 1)) (sN.trans s15) f5 (prd_app (prd_app (prd_take k P) PT) (prd_drop (k + 1) P)) (by rw [List.length_append, List.length_append, List.length_take, List.length_drop]; omega) eq _
    case A1 | A2 =>
      refine ⟨_, rfl, _, _, rfl, rfl, dv _ _ (by decide) (by decide), _, rfl, _, _, rfl, .inl hC.lst, _, _, rfl, rfl, _, _, rfl, rfl, (by rw [hlen]; omega : (0 : Int) < _), fun σ e => ?_⟩
      dsimp only [List.set] at e
      rw [hlen] at e
      have k0 := md0 (x := lf / 696) (n := (sts.length : Int) + 1) (by omega)
      have k1 := md1 (x := lf / 696) (n := (sts.length : Int) + 1) (by omega)
      obtain ⟨k, hk⟩ := Int.eq_ofNat_of_zero_le k0
      rw [hk] at e k1
      subst e
      have kl : k ≤ sts.length := by omega
      refine ⟨_, rfl, _, rfl, _, rfl, l, _, rfl, hC.lst, fun p1 H1 n1 s1 f1 => ?_⟩
      rw [cut_take] at f1
      refine ⟨_, rfl, lf, rfl, fun lt ats tts H2 s2 n2 f2 cT t2 hT => ?_⟩
      refine ⟨p1, lt, _, _, rfl, rfl, s2 _ _ f1, f2, Nat.le_trans (show _ ≤ 1000 by rw [List.length_map, List.length_map, List.length_take, cT.len]; omega) (by decide), fun p3 H3 n3 s3 f3 => ?_⟩
      have s13 := s1.trans (s2.trans s3)
      refine ⟨_, rfl, _, rfl, _, rfl, l, _, rfl, s13.seq hC.lst, fun p4 H4 n4 s4 f4 => ?_⟩
      rw [cut_drop _ _ _ (by omega)] at f4
      refine ⟨p3, p4, _, _, rfl, rfl, s4 _ _ f3, f4, Nat.le_trans (show _ ≤ 1000 by rw [List.length_append, List.length_map, List.length_map, List.length_map, List.length_take, List.length_drop, cT.len]; omega) (by decide), fun p5 H5 n5 s5 f5 => ?_⟩
      rw [← List.map_append, ← List.map_append] at f5
      have s15 := s13.trans (s4.trans s5)
      have P := prd_same hC.prd s15
      have PT := prd_same cT.prd (s3.trans (s4.trans s5))
      refine ⟨_, rfl, ?_⟩
      dsimp only [tNil]
      refine fin H5 p5 _ (sts.take k ++ tts ++ sts.drop k) s15 f5 (prd_app (prd_app (prd_take k P) PT) (prd_drop k P)) (by rw [List.length_append, List.length_append, List.length_take, List.length_drop]; omega) (fun m => ?_) _
      rw [endI_app, endI_app, hT, ← endI_app, List.take_append_drop]
theorem cal_law_anew {P : Program} {w : World} {K : PySem.W.Frag} {mg : Str → Option Value} {base : Heap} {f : Addr} {fd : FuncData} (F : Fun K "_law_anew" "_law_anew" s_law_anew f fd) (b : Binds K fd ["_law_steps", "_law_cell"] []) (m : mg "_law_anew" = some (.ref f)) (z_len : mg "len" = none) (z_list : mg "list" = none) (z_max : mg "max" = none) (C_law_short : Cal P w K mg base "_law_short" 4 ["_law_made", "_law_steps"] (sp_law_short K)) (C_law_worded : Cal P w K mg base "_law_worded" 1 ["_law_step_here"] (sp_law_worded K)) (C_law_there_and_back : Cal P w K mg base "_law_there_and_back" 1 ["_law_cell"] (sp_law_there_and_back K)) : Cal P w K mg base "_law_anew" 5 ["_law_steps", "_law_cell"] (sp_law_anew K) :=
  ⟨f, fd, F.ok sc_law_anew (fun vs H Q E h => by first | (obtain ⟨_, rfl, _⟩ := h; rfl) | (obtain ⟨_, _, rfl, _⟩ := h; rfl) | (obtain ⟨_, _, _, rfl, _⟩ := h; rfl) | (obtain ⟨_, _, _, _, rfl, _⟩ := h; rfl) | (obtain ⟨_, _, _, _, _, rfl, _⟩ := h; rfl) | (obtain ⟨_, _, _, _, _, _, rfl, _⟩ := h; rfl) | (obtain ⟨_, _, _, _, _, _, _, rfl, _⟩ := h; rfl) | (obtain ⟨_, _, _, _, _, _, _, _, rfl, _⟩ := h; rfl) | (obtain ⟨_, _, _, _, _, _, _, _, _, rfl, _⟩ := h; rfl)) (fun cdv A outer s H vs Q E hr h => unW (body_law_anew (X := (cxOf CX0 P w K mg base ["_law_steps", "_law_cell", "_law_kind", "_law_left", "_law_at_here", "_law_new", "_law_word", "_law_top", "_law_bottom", "_law_pennies", "_law_way", "_law_unit", "_law_more"] "_law_anew" (defScope s_law_anew) f cdv A outer s H E).nox) ⟨rfl, rfl, rfl, PassesOwn.never⟩ hr z_len z_list z_max C_law_short C_law_worded C_law_there_and_back h)), b, F.kp, m⟩
theorem lk_flatten_0 : (defScope s_flatten).names.lookup ("chain" : Str) = some .local := by decide +kernel
theorem pv_flatten_0 {X : Cx} (c : CxIs X ["chain", "found", "ends", "least"] (defScope s_flatten)) {pos : Pos} : WE X (.Name "chain" pos) (tVar 0) := wxv c rfl lk_flatten_0 (by decide) (by decide)
theorem lk_flatten_1 : (defScope s_flatten).names.lookup ("found" : Str) = some .local := by decide +kernel
theorem pv_flatten_1 {X : Cx} (c : CxIs X ["chain", "found", "ends", "least"] (defScope s_flatten)) {pos : Pos} : WE X (.Name "found" pos) (tVar 1) := wxv c rfl lk_flatten_1 (by decide) (by decide)
theorem ss_flatten_1 {X : Cx} (c : CxIs X ["chain", "found", "ends", "least"] (defScope s_flatten)) {pos pos' : Pos} {e : Expr} {te : TE} (he : WE X e te) (hs : swapsWith e (some (.Name "found" pos')) pos.line X.env = pure false := by rfl) : WS X (.Assign [.Name "found" pos'] e pos) (tAsg te (gN 1)) := wxs c sc_flatten.nd rfl lk_flatten_1 he hs
theorem lk_flatten_2 : (defScope s_flatten).names.lookup ("ends" : Str) = some .local := by decide +kernel
theorem pv_flatten_2 {X : Cx} (c : CxIs X ["chain", "found", "ends", "least"] (defScope s_flatten)) {pos : Pos} : WE X (.Name "ends" pos) (tVar 2) := wxv c rfl lk_flatten_2 (by decide) (by decide)
theorem ss_flatten_2 {X : Cx} (c : CxIs X ["chain", "found", "ends", "least"] (defScope s_flatten)) {pos pos' : Pos} {e : Expr} {te : TE} (he : WE X e te) (hs : swapsWith e (some (.Name "ends" pos')) pos.line X.env = pure false := by rfl) : WS X (.Assign [.Name "ends" pos'] e pos) (tAsg te (gN 2)) := wxs c sc_flatten.nd rfl lk_flatten_2 he hs
theorem lk_flatten_3 : (defScope s_flatten).names.lookup ("least" : Str) = some .local := by decide +kernel
theorem pv_flatten_3 {X : Cx} (c : CxIs X ["chain", "found", "ends", "least"] (defScope s_flatten)) {pos : Pos} : WE X (.Name "least" pos) (tVar 3) := wxv c rfl lk_flatten_3 (by decide) (by decide)
theorem ss_flatten_3 {X : Cx} (c : CxIs X ["chain", "found", "ends", "least"] (defScope s_flatten)) {pos pos' : Pos} {e : Expr} {te : TE} (he : WE X e te) (hs : swapsWith e (some (.Name "least" pos')) pos.line X.env = pure false := by rfl) : WS X (.Assign [.Name "least" pos'] e pos) (tAsg te (gN 3)) := wxs c sc_flatten.nd rfl lk_flatten_3 he hs
theorem gl_flatten_some_cycle {X : Cx} (c : CxIs X ["chain", "found", "ends", "least"] (defScope s_flatten)) : Gl X "some_cycle" := xg c (by decide +kernel)
theorem gl_flatten_first_ends {X : Cx} (c : CxIs X ["chain", "found", "ends", "least"] (defScope s_flatten)) : Gl X "first_ends" := xg c (by decide +kernel)
theorem gl_flatten_least_cycle {X : Cx} (c : CxIs X ["chain", "found", "ends", "least"] (defScope s_flatten)) : Gl X "least_cycle" := xg c (by decide +kernel)
theorem gl_flatten_tuple {X : Cx} (c : CxIs X ["chain", "found", "ends", "least"] (defScope s_flatten)) : Gl X "tuple" := xg c (by decide +kernel)
theorem gl_flatten_Flat {X : Cx} (c : CxIs X ["chain", "found", "ends", "least"] (defScope s_flatten)) : Gl X "Flat" := xg c (by decide +kernel)
theorem st_flatten (v0 : V) : L2.start ["chain", "found", "ends", "least"] [v0] = [some v0, none, none, none] := rfl
noncomputable def sp_flatten (K : PySem.W.Frag) : Sp := fun vs H Q _ => ∃ (l : Addr) (as : List Addr) (sts : List StepD), vs = [.ref l] ∧ Chn K H l as sts ∧ prodI sts ≤ 20000 ∧ sts.length ≤ 6 ∧
  ∀ (x : Addr) (cc r : Int) (H' : Hp), Same H H' → H x = none → FlatAt K H' x cc r (endsI sts cc) → IsCyc sts cc r → cc ∣ prodI sts → cc ≤ 20000 → Q (.ref x) H'
theorem body_flatten {X : Cx} (c : CxIs X ["chain", "found", "ends", "least"] (defScope s_flatten)) (hr : Room 5 X.A) {E : XK}  (T_Flat : Txt_Flat X.K X.mg) (z_tuple : X.mg "tuple" = none) (C_some_cycle : Cal X.prog X.w X.K X.mg X.base "some_cycle" 5 ["chain"] (sp_some_cycle X.K)) (C_first_ends : Cal X.prog X.w X.K X.mg X.base "first_ends" 5 ["chain", "many"] (sp_first_ends X.K)) (C_least_cycle : Cal X.prog X.w X.K X.mg X.base "least_cycle" 2 ["ends", "rise"] (sp_least_cycle X.K)) (C_Flat___init__ : CalI X.prog X.w X.K X.mg X.base (clsAt X.K "Flat") 1 ["self", "cycle", "rise", "ends"] (sp_Flat___init__ X.K)) {vs : List V} {H : Hp} {Q : VK} (h : sp_flatten X.K vs H Q E) : ∃ t, WSs X (defBody s_flatten) t ∧ t { nx := fun _ H' => Q .non H', rt := Q } (L2.start ["chain", "found", "ends", "least"] vs) H := by
  obtain ⟨f_some_cycle, d_some_cycle, G_some_cycle, b_some_cycle, k_some_cycle, m_some_cycle⟩ := C_some_cycle
  obtain ⟨f_first_ends, d_first_ends, G_first_ends, b_first_ends, k_first_ends, m_first_ends⟩ := C_first_ends
  obtain ⟨f_least_cycle, d_least_cycle, G_least_cycle, b_least_cycle, k_least_cycle, m_least_cycle⟩ := C_least_cycle
  obtain ⟨f_Flat___init__, d_Flat___init__, G_Flat___init__, b_Flat___init__, M_Flat___init__⟩ := C_Flat___init__
  · obtain ⟨l, as, sts, rfl, hC, hp, h6, q⟩ := h
    refine ⟨_, (wss_cons (ss_flatten_1 c (we_call (G_some_cycle.mono (by decide)) hr (gl_flatten_some_cycle c) m_some_cycle k_some_cycle b_some_cycle .nil pass0 (wa_cons (pv_flatten_0 c) wa_nil star_Name)))
      (wss_cons (ss_flatten_2 c (we_call (G_first_ends.mono (by decide)) hr (gl_flatten_first_ends c) m_first_ends k_first_ends b_first_ends .nil pass0 (wa_cons (pv_flatten_0 c) (wa_cons (we_ix ix_tup (pv_flatten_1 c) we_int plain_Constant) wa_nil star_Subscript) star_Name)))
      (wss_cons (ss_flatten_3 c (we_call (G_least_cycle.mono (by decide)) hr (gl_flatten_least_cycle c) m_least_cycle k_least_cycle b_least_cycle .nil pass0 (wa_cons (pv_flatten_2 c) (wa_cons (we_ix ix_tup (pv_flatten_1 c) we_int plain_Constant) wa_nil star_Subscript) star_Name)))
      (wss_one (ws_ret (we_make M_Flat___init__ (G_Flat___init__.mono (by decide)) hr (gl_flatten_Flat c) T_Flat.g b_Flat___init__ .nil pass0 (wa_cons (we_ix ix_tup (pv_flatten_3 c) we_int plain_Constant) (wa_cons (we_ix ix_tup (pv_flatten_3 c) we_int plain_Constant) (wa_cons (we_callTy call_tuple_ofO (gl_flatten_tuple c) z_tuple boot_ty_tuple (wa_cons (we_slice sl_listO (pv_flatten_2 c) wo_none (wo_some (we_ix ix_tup (pv_flatten_3 c) we_int plain_Constant))) wa_nil star_Subscript)) wa_nil star_Call) star_Subscript) star_Subscript))))))), ?_⟩
    rw [st_flatten]
    have pp := prodI_pos hC.ok
    refine ⟨_, rfl, l, as, sts, rfl, hC, fun p1 c1 r1 H1 s1 hP1 c0 r0 per dv σ e => ?_⟩
    dsimp only [List.set] at e
    subst e
    have cle : c1 ≤ 20000 := Int.le_trans (Int.le_of_dvd (by omega) dv) hp
    refine ⟨_, rfl, _, rfl, p1, _, _, _, rfl, rfl, hP1, rfl, l, as, sts, c1, rfl, hC.same s1, by omega, cle, fun p2 H2 s2 hL σ e => ?_⟩
    dsimp only [List.set] at e
    subst e
    refine ⟨_, rfl, _, rfl, p1, _, _, _, rfl, rfl, s2.seqT hP1, rfl, p2, sts, c1, r1, rfl, hL, c0, cle, hC.ok, per, fun p3 c3 r3 H3 s3 hP3 hY c3le σ e => ?_⟩
    dsimp only [List.set] at e
    subst e
    have y0 := hY.c0
    refine ⟨_, rfl, p3, _, _, _, rfl, rfl, hP3, rfl, _, rfl, p3, _, _, _, rfl, rfl, hP3, rfl, _, rfl, _, rfl, p3, _, _, _, rfl, rfl, hP3, rfl, _, rfl, p2, _, rfl, s3.seq hL, fun p4 H4 n4 s4 f4 => ?_⟩
    rw [endsI_take (by omega) c3le] at f4
    refine ⟨p4, _, rfl, SqL.of f4, fun p5 H5 n5 s5 f5 => ?_⟩
    have hT5 : SqT X.K H5 p5 ((endsI sts c3).map V.int) := SqT.of f5
    have s05 : Same H H5 := (((s1.trans s2).trans s3).trans s4).trans s5
    intro x dx nx ndx hne
    have hHx : H x = none := by
      cases z : H x with
      | none => rfl
      | some o => have := s05 _ _ z; rw [nx] at this; cases this
    have s6 : Same H5 (upd (upd H5 dx (.own x)) x (.ins (clsAt X.K "Flat") dx [])) := (same_new ndx _).trans (same_new (by rw [upd_ne (Ne.symm hne)]; exact nx) _)
    refine ⟨x, dx, p5, c3, r3, endsI sts c3, rfl, upd_same, s6.seqT hT5, fun H' hF hk => ⟨rfl, ?_⟩⟩
    refine q x c3 r3 H' (fun b o hb => hk b o (s6 _ _ (s05 _ _ hb)) (ne_of_none hb hHx)) hHx hF hY (hY.dvd hC.ok) (by omega)
theorem cal_flatten {P : Program} {w : World} {K : PySem.W.Frag} {mg : Str → Option Value} {base : Heap} {f : Addr} {fd : FuncData} (F : Fun K "flatten" "flatten" s_flatten f fd) (b : Binds K fd ["chain"] []) (m : mg "flatten" = some (.ref f)) (T_Flat : Txt_Flat K mg) (z_tuple : mg "tuple" = none) (C_some_cycle : Cal P w K mg base "some_cycle" 5 ["chain"] (sp_some_cycle K)) (C_first_ends : Cal P w K mg base "first_ends" 5 ["chain", "many"] (sp_first_ends K)) (C_least_cycle : Cal P w K mg base "least_cycle" 2 ["ends", "rise"] (sp_least_cycle K)) (C_Flat___init__ : CalI P w K mg base (clsAt K "Flat") 1 ["self", "cycle", "rise", "ends"] (sp_Flat___init__ K)) : Cal P w K mg base "flatten" 6 ["chain"] (sp_flatten K) :=
  ⟨f, fd, F.ok sc_flatten (fun vs H Q E h => by first | (obtain ⟨_, rfl, _⟩ := h; rfl) | (obtain ⟨_, _, rfl, _⟩ := h; rfl) | (obtain ⟨_, _, _, rfl, _⟩ := h; rfl) | (obtain ⟨_, _, _, _, rfl, _⟩ := h; rfl) | (obtain ⟨_, _, _, _, _, rfl, _⟩ := h; rfl) | (obtain ⟨_, _, _, _, _, _, rfl, _⟩ := h; rfl) | (obtain ⟨_, _, _, _, _, _, _, rfl, _⟩ := h; rfl) | (obtain ⟨_, _, _, _, _, _, _, _, rfl, _⟩ := h; rfl) | (obtain ⟨_, _, _, _, _, _, _, _, _, rfl, _⟩ := h; rfl)) (fun cdv A outer s H vs Q E hr h => unW (body_flatten (X := (cxOf CX0 P w K mg base ["chain", "found", "ends", "least"] "flatten" (defScope s_flatten) f cdv A outer s H E).nox) ⟨rfl, rfl, rfl, PassesOwn.never⟩ hr T_Flat z_tuple C_some_cycle C_first_ends C_least_cycle C_Flat___init__ h)), b, F.kp, m⟩
theorem lk_parting_0 : (defScope s_parting).names.lookup ("one" : Str) = some .local := by decide +kernel
theorem pv_parting_0 {X : Cx} (c : CxIs X ["one", "other", "first", "second", "price"] (defScope s_parting)) {pos : Pos} : WE X (.Name "one" pos) (tVar 0) := wxv c rfl lk_parting_0 (by decide) (by decide)
theorem lk_parting_1 : (defScope s_parting).names.lookup ("other" : Str) = some .local := by decide +kernel
theorem pv_parting_1 {X : Cx} (c : CxIs X ["one", "other", "first", "second", "price"] (defScope s_parting)) {pos : Pos} : WE X (.Name "other" pos) (tVar 1) := wxv c rfl lk_parting_1 (by decide) (by decide)
theorem lk_parting_2 : (defScope s_parting).names.lookup ("first" : Str) = some .local := by decide +kernel
theorem pv_parting_2 {X : Cx} (c : CxIs X ["one", "other", "first", "second", "price"] (defScope s_parting)) {pos : Pos} : WE X (.Name "first" pos) (tVar 2) := wxv c rfl lk_parting_2 (by decide) (by decide)
theorem ss_parting_2 {X : Cx} (c : CxIs X ["one", "other", "first", "second", "price"] (defScope s_parting)) {pos pos' : Pos} {e : Expr} {te : TE} (he : WE X e te) (hs : swapsWith e (some (.Name "first" pos')) pos.line X.env = pure false := by rfl) : WS X (.Assign [.Name "first" pos'] e pos) (tAsg te (gN 2)) := wxs c sc_parting.nd rfl lk_parting_2 he hs
theorem lk_parting_3 : (defScope s_parting).names.lookup ("second" : Str) = some .local := by decide +kernel
theorem pv_parting_3 {X : Cx} (c : CxIs X ["one", "other", "first", "second", "price"] (defScope s_parting)) {pos : Pos} : WE X (.Name "second" pos) (tVar 3) := wxv c rfl lk_parting_3 (by decide) (by decide)
theorem ss_parting_3 {X : Cx} (c : CxIs X ["one", "other", "first", "second", "price"] (defScope s_parting)) {pos pos' : Pos} {e : Expr} {te : TE} (he : WE X e te) (hs : swapsWith e (some (.Name "second" pos')) pos.line X.env = pure false := by rfl) : WS X (.Assign [.Name "second" pos'] e pos) (tAsg te (gN 3)) := wxs c sc_parting.nd rfl lk_parting_3 he hs
theorem lk_parting_4 : (defScope s_parting).names.lookup ("price" : Str) = some .local := by decide +kernel
theorem pv_parting_4 {X : Cx} (c : CxIs X ["one", "other", "first", "second", "price"] (defScope s_parting)) {pos : Pos} : WE X (.Name "price" pos) (tVar 4) := wxv c rfl lk_parting_4 (by decide) (by decide)
theorem sg_parting_4 {X : Cx} (c : CxIs X ["one", "other", "first", "second", "price"] (defScope s_parting)) {pos : Pos} : WG X (.Name "price" pos) (gN 4) := wxt c sc_parting.nd rfl lk_parting_4
theorem gl_parting_flatten {X : Cx} (c : CxIs X ["one", "other", "first", "second", "price"] (defScope s_parting)) : Gl X "flatten" := xg c (by decide +kernel)
theorem gl_parting_range {X : Cx} (c : CxIs X ["one", "other", "first", "second", "price"] (defScope s_parting)) : Gl X "range" := xg c (by decide +kernel)
theorem st_parting (v0 v1 : V) : L2.start ["one", "other", "first", "second", "price"] [v0, v1] = [some v0, some v1, none, none, none] := rfl
noncomputable def sp_parting (K : PySem.W.Frag) : Sp := fun vs H Q _ => ∃ (l1 l2 : Addr) (as1 as2 : List Addr) (s1 s2 : List StepD), vs = [.ref l1, .ref l2] ∧ Chn K H l1 as1 s1 ∧ Chn K H l2 as2 s2 ∧ prodI s1 ≤ 20000 ∧ prodI s2 ≤ 20000 ∧ s1.length ≤ 6 ∧ s2.length ≤ 6 ∧
  ∀ r H', Same H H' → Part s1 s2 r → Q (oInt r) H'
theorem body_parting {X : Cx} (c : CxIs X ["one", "other", "first", "second", "price"] (defScope s_parting)) (hr : Room 6 X.A) {E : XK}  (T_Flat : Txt_Flat X.K X.mg) (z_range : X.mg "range" = none) (C_flatten : Cal X.prog X.w X.K X.mg X.base "flatten" 6 ["chain"] (sp_flatten X.K)) (C_Flat_end : CalM X.prog X.w X.K X.mg X.base (clsAt X.K "Flat") "end" 2 ["self", "price"] (sp_Flat_end X.K)) {vs : List V} {H : Hp} {Q : VK} (h : sp_parting X.K vs H Q E) : ∃ t, WSs X (defBody s_parting) t ∧ t { nx := fun _ H' => Q .non H', rt := Q } (L2.start ["one", "other", "first", "second", "price"] vs) H := by
  obtain ⟨f_flatten, d_flatten, G_flatten, b_flatten, k_flatten, m_flatten⟩ := C_flatten
  obtain ⟨f_Flat_end, d_Flat_end, G_Flat_end, b_Flat_end, M_Flat_end⟩ := C_Flat_end
  · obtain ⟨l1, l2, as1, as2, c1, c2, rfl, hC, hD, hp1, hp2, h61, h62, q⟩ := h
    refine ⟨_, (wss_cons (ss_parting_2 c (we_call (G_flatten.mono (by decide)) hr (gl_parting_flatten c) m_flatten k_flatten b_flatten .nil pass0 (wa_cons (pv_parting_0 c) wa_nil star_Name)))
      (wss_cons (ss_parting_3 c (we_call (G_flatten.mono (by decide)) hr (gl_parting_flatten c) m_flatten k_flatten b_flatten .nil pass0 (wa_cons (pv_parting_1 c) wa_nil star_Name)))
      (wss_cons (ws_for c.own c.calm (wi_range1 (gl_parting_range c) z_range (wa_cons (we_op op_add (we_fld (pv_parting_2 c) rfl) (we_fld (pv_parting_3 c) rfl)) wa_nil star_BinOp)) (sg_parting_4 c)
      (wss_one (ws_if (wt_cmpR op_ne (we_meth (pv_parting_2 c) T_Flat.cl M_Flat_end (G_Flat_end.mono (by decide)) hr b_Flat_end .nil pass0 (wa_cons (pv_parting_4 c) wa_nil star_Name)) (we_meth (pv_parting_3 c) T_Flat.cl M_Flat_end (G_Flat_end.mono (by decide)) hr b_Flat_end .nil pass0 (wa_cons (pv_parting_4 c) wa_nil star_Name)) (nomark _))
      (wss_one (ws_ret (pv_parting_4 c)))
      wss_nil)))
      (wss_one (ws_ret we_non))))), ?_⟩
    rw [st_parting]
    refine ⟨_, rfl, l1, as1, c1, rfl, hC, hp1, h61, fun x cc r H1 s1 n1 hF hY hd cle σ e => ?_⟩
    dsimp only [List.set] at e
    subst e
    refine ⟨_, rfl, l2, as2, c2, rfl, hD.same s1, hp2, h62, fun x2 cc2 r2 H2 s2 n2 hF2 hY2 hd2 cle2 σ e => ?_⟩
    dsimp only [List.set] at e
    subst e
    have s02 := s1.trans s2
    have hF1 := hF.same s2
    have y0 := hY.c0
    have y02 := hY2.c0
    obtain ⟨dx, fs, p, f1, f2, f3, f4, f5, f6⟩ := id hF1
    obtain ⟨ex, gs, p2, g1, g2, g3, g4, g5, g6⟩ := id hF2
    refine ⟨_, rfl, x, _, dx, fs, _, rfl, f1, T_Flat.cl, T_Flat.n_cycle, f2, _, rfl, x2, _, ex, gs, _, rfl, g1, T_Flat.cl, T_Flat.n_cycle, g2, _, _, rfl, rfl, _, rfl, by omega, by omega, for_range (fun i σ H' => Same H2 H' ∧ (∀ z : Int, 0 ≤ z → z < (i : Int) → endI c1 z = endI c2 z) ∧ ∃ v, σ = [some (.ref l1), some (.ref l2), some (.ref x), some (.ref x2), v])
      ⟨Same.refl _, fun z _ _ => by omega, _, rfl⟩ ?_ ?_⟩
    · rintro i σ H' hi ⟨s3, hq, v, rfl⟩ σ e
      dsimp only [List.set] at e
      rw [Int.zero_add] at e
      subst e
      refine ⟨_, rfl, x, dx, fs, rfl, s3 _ _ f1, f5, _, rfl, x, c1, cc, r, (i : Int), rfl, hF1.same s3, hY, cle, ⟨h61, hC.ok⟩, by omega, by omega, fun H4 s4 => ?_⟩
      refine ⟨_, rfl, x2, ex, gs, rfl, (s3.trans s4) _ _ g1, g5, _, rfl, x2, c2, cc2, r2, (i : Int), rfl, hF2.same (s3.trans s4), hY2, cle2, ⟨h62, hD.ok⟩, by omega, by omega, fun H5 s5 => ?_⟩
      refine ⟨rfl, _, rfl, ?_⟩
      have s05 := (s3.trans s4).trans s5
      refine ifn2 (fun d => ?_) (fun d => ?_)
      · exact ⟨_, rfl, q (some (i : Int)) H5 (s02.trans s05) ⟨by omega, of_not_int d, hq⟩⟩
      · refine ⟨s05, fun z z0 z1 => ?_, _, rfl⟩
        by_cases hlt : z < (i : Int)
        · exact hq z z0 hlt
        · have : z = i := by omega
          subst this
          exact of_int d
    · rintro σ H' ⟨s3, hq, v, rfl⟩
      exact q none H' (s02.trans s3) (alike_sum y0 y02 hY.per hY2.per fun z z0 z1 => hq z z0 (by omega))
theorem cal_parting {P : Program} {w : World} {K : PySem.W.Frag} {mg : Str → Option Value} {base : Heap} {f : Addr} {fd : FuncData} (F : Fun K "parting" "parting" s_parting f fd) (b : Binds K fd ["one", "other"] []) (m : mg "parting" = some (.ref f)) (T_Flat : Txt_Flat K mg) (z_range : mg "range" = none) (C_flatten : Cal P w K mg base "flatten" 6 ["chain"] (sp_flatten K)) (C_Flat_end : CalM P w K mg base (clsAt K "Flat") "end" 2 ["self", "price"] (sp_Flat_end K)) : Cal P w K mg base "parting" 7 ["one", "other"] (sp_parting K) :=
  ⟨f, fd, F.ok sc_parting (fun vs H Q E h => by first | (obtain ⟨_, rfl, _⟩ := h; rfl) | (obtain ⟨_, _, rfl, _⟩ := h; rfl) | (obtain ⟨_, _, _, rfl, _⟩ := h; rfl) | (obtain ⟨_, _, _, _, rfl, _⟩ := h; rfl) | (obtain ⟨_, _, _, _, _, rfl, _⟩ := h; rfl) | (obtain ⟨_, _, _, _, _, _, rfl, _⟩ := h; rfl) | (obtain ⟨_, _, _, _, _, _, _, rfl, _⟩ := h; rfl) | (obtain ⟨_, _, _, _, _, _, _, _, rfl, _⟩ := h; rfl) | (obtain ⟨_, _, _, _, _, _, _, _, _, rfl, _⟩ := h; rfl)) (fun cdv A outer s H vs Q E hr h => unW (body_parting (X := (cxOf CX0 P w K mg base ["one", "other", "first", "second", "price"] "parting" (defScope s_parting) f cdv A outer s H E).nox) ⟨rfl, rfl, rfl, PassesOwn.never⟩ hr T_Flat z_range C_flatten C_Flat_end h)), b, F.kp, m⟩
theorem lk_alike_0 : (defScope s_alike).names.lookup ("one" : Str) = some .local := by decide +kernel
theorem pv_alike_0 {X : Cx} (c : CxIs X ["one", "other"] (defScope s_alike)) {pos : Pos} : WE X (.Name "one" pos) (tVar 0) := wxv c rfl lk_alike_0 (by decide) (by decide)
theorem lk_alike_1 : (defScope s_alike).names.lookup ("other" : Str) = some .local := by decide +kernel
theorem pv_alike_1 {X : Cx} (c : CxIs X ["one", "other"] (defScope s_alike)) {pos : Pos} : WE X (.Name "other" pos) (tVar 1) := wxv c rfl lk_alike_1 (by decide) (by decide)
theorem gl_alike_parting {X : Cx} (c : CxIs X ["one", "other"] (defScope s_alike)) : Gl X "parting" := xg c (by decide +kernel)
theorem st_alike (v0 v1 : V) : L2.start ["one", "other"] [v0, v1] = [some v0, some v1] := rfl
noncomputable def sp_alike (K : PySem.W.Frag) : Sp := fun vs H Q _ => ∃ (l1 l2 : Addr) (as1 as2 : List Addr) (s1 s2 : List StepD), vs = [.ref l1, .ref l2] ∧ Chn K H l1 as1 s1 ∧ Chn K H l2 as2 s2 ∧ prodI s1 ≤ 20000 ∧ prodI s2 ≤ 20000 ∧ s1.length ≤ 6 ∧ s2.length ≤ 6 ∧
  ∀ r H', Same H H' → Part s1 s2 r → Q (.bl (decide (r = none))) H'
theorem body_alike {X : Cx} (c : CxIs X ["one", "other"] (defScope s_alike)) (hr : Room 7 X.A) {E : XK}  (C_parting : Cal X.prog X.w X.K X.mg X.base "parting" 7 ["one", "other"] (sp_parting X.K)) {vs : List V} {H : Hp} {Q : VK} (h : sp_alike X.K vs H Q E) : ∃ t, WSs X (defBody s_alike) t ∧ t { nx := fun _ H' => Q .non H', rt := Q } (L2.start ["one", "other"] vs) H := by
  obtain ⟨f_parting, d_parting, G_parting, b_parting, k_parting, m_parting⟩ := C_parting
  · obtain ⟨l1, l2, as1, as2, c1, c2, rfl, hC, hD, hp1, hp2, h61, h62, q⟩ := h
    refine ⟨_, (wss_one (ws_ret (we_cmpR op_isN (we_call (G_parting.mono (by decide)) hr (gl_alike_parting c) m_parting k_parting b_parting .nil pass0 (wa_cons (pv_alike_0 c) (wa_cons (pv_alike_1 c) wa_nil star_Name) star_Name)) we_non (nomark _)))), ?_⟩
    rw [st_alike]
    refine ⟨_, rfl, _, rfl, l1, l2, as1, as2, c1, c2, rfl, hC, hD, hp1, hp2, h61, h62, fun r H1 s1 hP => ?_⟩
    have z := q r H1 s1 hP
    rw [← oInt_non] at z
    exact ⟨rfl, z⟩
theorem cal_alike {P : Program} {w : World} {K : PySem.W.Frag} {mg : Str → Option Value} {base : Heap} {f : Addr} {fd : FuncData} (F : Fun K "alike" "alike" s_alike f fd) (b : Binds K fd ["one", "other"] []) (m : mg "alike" = some (.ref f)) (C_parting : Cal P w K mg base "parting" 7 ["one", "other"] (sp_parting K)) : Cal P w K mg base "alike" 8 ["one", "other"] (sp_alike K) :=
  ⟨f, fd, F.ok sc_alike (fun vs H Q E h => by first | (obtain ⟨_, rfl, _⟩ := h; rfl) | (obtain ⟨_, _, rfl, _⟩ := h; rfl) | (obtain ⟨_, _, _, rfl, _⟩ := h; rfl) | (obtain ⟨_, _, _, _, rfl, _⟩ := h; rfl) | (obtain ⟨_, _, _, _, _, rfl, _⟩ := h; rfl) | (obtain ⟨_, _, _, _, _, _, rfl, _⟩ := h; rfl) | (obtain ⟨_, _, _, _, _, _, _, rfl, _⟩ := h; rfl) | (obtain ⟨_, _, _, _, _, _, _, _, rfl, _⟩ := h; rfl) | (obtain ⟨_, _, _, _, _, _, _, _, _, rfl, _⟩ := h; rfl)) (fun cdv A outer s H vs Q E hr h => unW (body_alike (X := (cxOf CX0 P w K mg base ["one", "other"] "alike" (defScope s_alike) f cdv A outer s H E).nox) ⟨rfl, rfl, rfl, PassesOwn.never⟩ hr C_parting h)), b, F.kp, m⟩
theorem lk_law_0 : (defScope s_law).names.lookup ("_law_script" : Str) = some .local := by decide +kernel
theorem pv_law_0 {X : Cx} (c : CxIs X ["_law_script", "_law_one", "_law_two", "_law_k", "_law_pair", "_law_three", "_law_found"] (defScope s_law)) {pos : Pos} : WE X (.Name "_law_script" pos) (tVar 0) := wxv c rfl lk_law_0 (by decide) (by decide)
theorem lk_law_1 : (defScope s_law).names.lookup ("_law_one" : Str) = some .local := by decide +kernel
theorem pv_law_1 {X : Cx} (c : CxIs X ["_law_script", "_law_one", "_law_two", "_law_k", "_law_pair", "_law_three", "_law_found"] (defScope s_law)) {pos : Pos} : WE X (.Name "_law_one" pos) (tVar 1) := wxv c rfl lk_law_1 (by decide) (by decide)
theorem ss_law_1 {X : Cx} (c : CxIs X ["_law_script", "_law_one", "_law_two", "_law_k", "_law_pair", "_law_three", "_law_found"] (defScope s_law)) {pos pos' : Pos} {e : Expr} {te : TE} (he : WE X e te) (hs : swapsWith e (some (.Name "_law_one" pos')) pos.line X.env = pure false := by rfl) : WS X (.Assign [.Name "_law_one" pos'] e pos) (tAsg te (gN 1)) := wxs c sc_law.nd rfl lk_law_1 he hs
theorem lk_law_2 : (defScope s_law).names.lookup ("_law_two" : Str) = some .local := by decide +kernel
theorem pv_law_2 {X : Cx} (c : CxIs X ["_law_script", "_law_one", "_law_two", "_law_k", "_law_pair", "_law_three", "_law_found"] (defScope s_law)) {pos : Pos} : WE X (.Name "_law_two" pos) (tVar 2) := wxv c rfl lk_law_2 (by decide) (by decide)
theorem ss_law_2 {X : Cx} (c : CxIs X ["_law_script", "_law_one", "_law_two", "_law_k", "_law_pair", "_law_three", "_law_found"] (defScope s_law)) {pos pos' : Pos} {e : Expr} {te : TE} (he : WE X e te) (hs : swapsWith e (some (.Name "_law_two" pos')) pos.line X.env = pure false := by rfl) : WS X (.Assign [.Name "_law_two" pos'] e pos) (tAsg te (gN 2)) := wxs c sc_law.nd rfl lk_law_2 he hs
theorem lk_law_3 : (defScope s_law).names.lookup ("_law_k" : Str) = some .local := by decide +kernel
theorem pv_law_3 {X : Cx} (c : CxIs X ["_law_script", "_law_one", "_law_two", "_law_k", "_law_pair", "_law_three", "_law_found"] (defScope s_law)) {pos : Pos} : WE X (.Name "_law_k" pos) (tVar 3) := wxv c rfl lk_law_3 (by decide) (by decide)
theorem sg_law_3 {X : Cx} (c : CxIs X ["_law_script", "_law_one", "_law_two", "_law_k", "_law_pair", "_law_three", "_law_found"] (defScope s_law)) {pos : Pos} : WG X (.Name "_law_k" pos) (gN 3) := wxt c sc_law.nd rfl lk_law_3
theorem lk_law_4 : (defScope s_law).names.lookup ("_law_pair" : Str) = some .local := by decide +kernel
theorem pv_law_4 {X : Cx} (c : CxIs X ["_law_script", "_law_one", "_law_two", "_law_k", "_law_pair", "_law_three", "_law_found"] (defScope s_law)) {pos : Pos} : WE X (.Name "_law_pair" pos) (tVar 4) := wxv c rfl lk_law_4 (by decide) (by decide)
theorem sg_law_4 {X : Cx} (c : CxIs X ["_law_script", "_law_one", "_law_two", "_law_k", "_law_pair", "_law_three", "_law_found"] (defScope s_law)) {pos : Pos} : WG X (.Name "_law_pair" pos) (gN 4) := wxt c sc_law.nd rfl lk_law_4
theorem lk_law_5 : (defScope s_law).names.lookup ("_law_three" : Str) = some .local := by decide +kernel
theorem pv_law_5 {X : Cx} (c : CxIs X ["_law_script", "_law_one", "_law_two", "_law_k", "_law_pair", "_law_three", "_law_found"] (defScope s_law)) {pos : Pos} : WE X (.Name "_law_three" pos) (tVar 5) := wxv c rfl lk_law_5 (by decide) (by decide)
theorem ss_law_5 {X : Cx} (c : CxIs X ["_law_script", "_law_one", "_law_two", "_law_k", "_law_pair", "_law_three", "_law_found"] (defScope s_law)) {pos pos' : Pos} {e : Expr} {te : TE} (he : WE X e te) (hs : swapsWith e (some (.Name "_law_three" pos')) pos.line X.env = pure false := by rfl) : WS X (.Assign [.Name "_law_three" pos'] e pos) (tAsg te (gN 5)) := wxs c sc_law.nd rfl lk_law_5 he hs
theorem lk_law_6 : (defScope s_law).names.lookup ("_law_found" : Str) = some .local := by decide +kernel
theorem pv_law_6 {X : Cx} (c : CxIs X ["_law_script", "_law_one", "_law_two", "_law_k", "_law_pair", "_law_three", "_law_found"] (defScope s_law)) {pos : Pos} : WE X (.Name "_law_found" pos) (tVar 6) := wxv c rfl lk_law_6 (by decide) (by decide)
theorem ss_law_6 {X : Cx} (c : CxIs X ["_law_script", "_law_one", "_law_two", "_law_k", "_law_pair", "_law_three", "_law_found"] (defScope s_law)) {pos pos' : Pos} {e : Expr} {te : TE} (he : WE X e te) (hs : swapsWith e (some (.Name "_law_found" pos')) pos.line X.env = pure false := by rfl) : WS X (.Assign [.Name "_law_found" pos'] e pos) (tAsg te (gN 6)) := wxs c sc_law.nd rfl lk_law_6 he hs
theorem gl_law_law_chain {X : Cx} (c : CxIs X ["_law_script", "_law_one", "_law_two", "_law_k", "_law_pair", "_law_three", "_law_found"] (defScope s_law)) : Gl X "_law_chain" := xg c (by decide +kernel)
theorem gl_law_parting {X : Cx} (c : CxIs X ["_law_script", "_law_one", "_law_two", "_law_k", "_law_pair", "_law_three", "_law_found"] (defScope s_law)) : Gl X "parting" := xg c (by decide +kernel)
theorem gl_law_law_anew {X : Cx} (c : CxIs X ["_law_script", "_law_one", "_law_two", "_law_k", "_law_pair", "_law_three", "_law_found"] (defScope s_law)) : Gl X "_law_anew" := xg c (by decide +kernel)
theorem gl_law_law_whole {X : Cx} (c : CxIs X ["_law_script", "_law_one", "_law_two", "_law_k", "_law_pair", "_law_three", "_law_found"] (defScope s_law)) : Gl X "_law_whole" := xg c (by decide +kernel)
theorem gl_law_law_draw {X : Cx} (c : CxIs X ["_law_script", "_law_one", "_law_two", "_law_k", "_law_pair", "_law_three", "_law_found"] (defScope s_law)) : Gl X "_law_draw" := xg c (by decide +kernel)
theorem gl_law_alike {X : Cx} (c : CxIs X ["_law_script", "_law_one", "_law_two", "_law_k", "_law_pair", "_law_three", "_law_found"] (defScope s_law)) : Gl X "alike" := xg c (by decide +kernel)
theorem gl_law_list {X : Cx} (c : CxIs X ["_law_script", "_law_one", "_law_two", "_law_k", "_law_pair", "_law_three", "_law_found"] (defScope s_law)) : Gl X "list" := xg c (by decide +kernel)
theorem gl_law_range {X : Cx} (c : CxIs X ["_law_script", "_law_one", "_law_two", "_law_k", "_law_pair", "_law_three", "_law_found"] (defScope s_law)) : Gl X "range" := xg c (by decide +kernel)
theorem gl_law_len {X : Cx} (c : CxIs X ["_law_script", "_law_one", "_law_two", "_law_k", "_law_pair", "_law_three", "_law_found"] (defScope s_law)) : Gl X "len" := xg c (by decide +kernel)
theorem st_law (v0 : V) : L2.start ["_law_script", "_law_one", "_law_two", "_law_k", "_law_pair", "_law_three", "_law_found"] [v0] = [some v0, none, none, none, none, none, none] := rfl
noncomputable def sp_law (K : PySem.W.Frag) : Sp := fun vs H Q _ => ∃ (a : Addr) (ns : List Int), vs = [.ref a] ∧ SqL K H a (ns.map V.int) ∧ ns.length ≤ 63 ∧ BitsOk ns ∧ ∀ H', Q (.bl true) H'
theorem body_law {X : Cx} (c : CxIs X ["_law_script", "_law_one", "_law_two", "_law_k", "_law_pair", "_law_three", "_law_found"] (defScope s_law)) (hr : Room 8 X.A) {E : XK}  (z_list : X.mg "list" = none) (z_range : X.mg "range" = none) (z_len : X.mg "len" = none) (C_law_chain : Cal X.prog X.w X.K X.mg X.base "_law_chain" 4 ["_law_script", "_law_base", "_law_many", "_law_limit"] (sp_law_chain X.K)) (C_parting : Cal X.prog X.w X.K X.mg X.base "parting" 7 ["one", "other"] (sp_parting X.K)) (C_law_anew : Cal X.prog X.w X.K X.mg X.base "_law_anew" 5 ["_law_steps", "_law_cell"] (sp_law_anew X.K)) (C_law_whole : Cal X.prog X.w X.K X.mg X.base "_law_whole" 1 ["_law_found"] (sp_law_whole X.K)) (C_law_draw : Cal X.prog X.w X.K X.mg X.base "_law_draw" 2 ["_law_script", "_law_k"] (sp_law_draw X.K)) (C_alike : Cal X.prog X.w X.K X.mg X.base "alike" 8 ["one", "other"] (sp_alike X.K)) {vs : List V} {H : Hp} {Q : VK} (h : sp_law X.K vs H Q E) : ∃ t, WSs X (defBody s_law) t ∧ t { nx := fun _ H' => Q .non H', rt := Q } (L2.start ["_law_script", "_law_one", "_law_two", "_law_k", "_law_pair", "_law_three", "_law_found"] vs) H := by
  obtain ⟨f_law_chain, d_law_chain, G_law_chain, b_law_chain, k_law_chain, m_law_chain⟩ := C_law_chain
  obtain ⟨f_parting, d_parting, G_parting, b_parting, k_parting, m_parting⟩ := C_parting
  obtain ⟨f_law_anew, d_law_anew, G_law_anew, b_law_anew, k_law_anew, m_law_anew⟩ := C_law_anew
  obtain ⟨f_law_whole, d_law_whole, G_law_whole, b_law_whole, k_law_whole, m_law_whole⟩ := C_law_whole
  obtain ⟨f_law_draw, d_law_draw, G_law_draw, b_law_draw, k_law_draw, m_law_draw⟩ := C_law_draw
  obtain ⟨f_alike, d_alike, G_alike, b_alike, k_alike, m_alike⟩ := C_alike
  · obtain ⟨a, ns, rfl, hS, hl, hb, q⟩ := h
    refine ⟨_, (wss_cons (ss_law_1 c (we_call (G_law_chain.mono (by decide)) hr (gl_law_law_chain c) m_law_chain k_law_chain b_law_chain .nil pass0 (wa_cons (pv_law_0 c) (wa_cons we_int (wa_cons (we_op op_mod (we_call (G_law_draw.mono (by decide)) hr (gl_law_law_draw c) m_law_draw k_law_draw b_law_draw .nil pass0 (wa_cons (pv_law_0 c) (wa_cons we_int wa_nil star_Constant) star_Name)) we_int) (wa_cons we_int wa_nil star_Constant) star_BinOp) star_Constant) star_Name)))
      (wss_cons (ss_law_2 c (we_callTy call_list_ofO (gl_law_list c) z_list boot_ty_list (wa_cons (pv_law_1 c) wa_nil star_Name)))
      (wss_cons (ws_for c.own c.calm (wi_range1 (gl_law_range c) z_range (wa_cons we_int wa_nil star_Constant)) (sg_law_3 c)
      (wss_one (ss_law_2 c (we_call (G_law_anew.mono (by decide)) hr (gl_law_law_anew c) m_law_anew k_law_anew b_law_anew .nil pass0 (wa_cons (pv_law_2 c) (wa_cons (we_call (G_law_draw.mono (by decide)) hr (gl_law_law_draw c) m_law_draw k_law_draw b_law_draw .nil pass0 (wa_cons (pv_law_0 c) (wa_cons (we_op op_add we_int (pv_law_3 c)) wa_nil star_BinOp) star_Name)) wa_nil star_Call) star_Name)))))
      (wss_cons (ws_for c.own c.calm (wi_list (we_lstO (wa_cons (we_lstO (wa_cons (pv_law_1 c) (wa_cons (pv_law_2 c) wa_nil star_Name) star_Name)) (wa_cons (we_lstO (wa_cons (pv_law_2 c) (wa_cons (pv_law_1 c) wa_nil star_Name) star_Name)) wa_nil star_List) star_List))) (sg_law_4 c)
      (wss_cons (ws_if (wt_cmpR op_notB (we_call (G_alike.mono (by decide)) hr (gl_law_alike c) m_alike k_alike b_alike .nil pass0 (wa_cons (we_callTy call_list_ofO (gl_law_list c) z_list boot_ty_list (wa_cons (we_ix ix_list (pv_law_4 c) we_int plain_Constant) wa_nil star_Subscript)) (wa_cons (we_callTy call_list_ofO (gl_law_list c) z_list boot_ty_list (wa_cons (we_ix ix_list (pv_law_4 c) we_int plain_Constant) wa_nil star_Subscript)) wa_nil star_Call) star_Call)) we_bl (nomark _))
      (wss_one (ws_ret we_bl))
      wss_nil)
      (wss_one (ws_if (wt_cmpR op_notN (we_call (G_parting.mono (by decide)) hr (gl_law_parting c) m_parting k_parting b_parting .nil pass0 (wa_cons (we_callTy call_list_ofO (gl_law_list c) z_list boot_ty_list (wa_cons (we_ix ix_list (pv_law_4 c) we_int plain_Constant) wa_nil star_Subscript)) (wa_cons (we_callTy call_list_ofO (gl_law_list c) z_list boot_ty_list (wa_cons (we_ix ix_list (pv_law_4 c) we_int plain_Constant) wa_nil star_Subscript)) wa_nil star_Call) star_Call)) we_non (nomark _))
      (wss_one (ws_ret we_bl))
      wss_nil))))
      (wss_cons (ws_if (wt_cmpR op_eq (we_callB call_len_seq (gl_law_len c) z_len PySem.boot_len (wa_cons (pv_law_2 c) wa_nil star_Name)) we_int (nomark _))
      (wss_one (ws_ret we_bl))
      wss_nil)
      (wss_cons (ss_law_5 c (we_op op_catO (pv_law_2 c) (we_lstO (wa_cons (we_tupO (wa_cons we_str (wa_cons we_int (wa_cons we_int (wa_cons (we_op op_add we_int (we_op op_mod (we_call (G_law_draw.mono (by decide)) hr (gl_law_law_draw c) m_law_draw k_law_draw b_law_draw .nil pass0 (wa_cons (pv_law_0 c) (wa_cons we_int wa_nil star_Constant) star_Name)) we_int)) (wa_cons we_str (wa_cons we_int wa_nil star_Constant) star_Constant) star_BinOp) star_Constant) star_Constant) star_Constant)) wa_nil star_Tuple))))
      (wss_cons (ss_law_6 c (we_call (G_parting.mono (by decide)) hr (gl_law_parting c) m_parting k_parting b_parting .nil pass0 (wa_cons (we_callTy call_list_ofO (gl_law_list c) z_list boot_ty_list (wa_cons (pv_law_1 c) wa_nil star_Name)) (wa_cons (we_callTy call_list_ofO (gl_law_list c) z_list boot_ty_list (wa_cons (pv_law_5 c) wa_nil star_Name)) wa_nil star_Call) star_Call)))
      (wss_one (ws_ret (we_and (we_call (G_law_whole.mono (by decide)) hr (gl_law_law_whole c) m_law_whole k_law_whole b_law_whole .nil pass0 (wa_cons (pv_law_6 c) wa_nil star_Name)) (we_and (we_cmpR op_eq (pv_law_6 c) we_int (nomark _)) (we_one (we_cmpR op_isB (we_call (G_alike.mono (by decide)) hr (gl_law_alike c) m_alike k_alike b_alike .nil pass0 (wa_cons (we_callTy call_list_ofO (gl_law_list c) z_list boot_ty_list (wa_cons (pv_law_5 c) wa_nil star_Name)) (wa_cons (we_callTy call_list_ofO (gl_law_list c) z_list boot_ty_list (wa_cons (pv_law_1 c) wa_nil star_Name)) wa_nil star_Call) star_Call)) we_bl (nomark _)))))))))))))), ?_⟩
    rw [st_law]
    have y0 := md0 (x := drawAt ns 1) (n := 4) (by decide)
    have y1 := md1 (x := drawAt ns 1) (n := 4) (by decide)
    refine ⟨_, rfl, _, rfl, a, ns, _, rfl, hS, by decide, by decide, _, _, rfl, rfl, (by decide : (0 : Int) < 4), a, ns, _, _, _, rfl, hS, by decide, by decide, by omega, by omega, by decide, fun l as sts H1 s1 n1 f1 hC hn hp σ e => ?_⟩
    dsimp only [List.set] at e
    subst e
    have h6 : sts.length ≤ 6 := by omega
    have hlen : (as.map V.ref).length = sts.length := by rw [List.length_map, hC.len]
    refine ⟨_, rfl, _, _, rfl, .inl hC.lst, fun hd H5 n5 s5 f5 σ e => ?_⟩
    dsimp only [List.set] at e
    subst e
    have hD := hC.copy (p := hd) s5 f5
    have hC5 := hC.same s5
    refine ⟨_, rfl, (by decide), (by decide), for_range (fun i σ H' => Same H5 H' ∧ ∃ l2 as2 sts2 v1 v2 v3 v4, H' l2 = some (.lst (as2.map V.ref)) ∧ Chn X.K H' l2 as2 sts2 ∧ sts2.length ≤ 6 ∧ prodI sts2 ≤ 3000 ∧ StEq sts2 sts ∧ σ = [some (.ref a), some (.ref l), some (.ref l2), v1, v2, v3, v4])
      ⟨Same.refl _, hd, as, sts, _, _, _, _, f5, hD, h6, hp, StEq.rfl', rfl⟩ ?_ ?_⟩
    · rintro i σ H6 hi ⟨s6, l2, as2, sts2, v1, v2, v3, v4, f2, c2, a1, a2, a3, rfl⟩ σ e
      dsimp only [List.set] at e
      subst e
      refine ⟨_, rfl, _, rfl, _, rfl, _, _, rfl, rfl, a, ns, _, rfl, (s1.trans (s5.trans s6)).seq hS, by omega, by omega, l2, as2, sts2, _, rfl, c2, a1, a2, fun l3 as3 sts3 H7 s7 f3 c3 b1 b2 b3 σ e => ?_⟩
      dsimp only [List.set] at e
      subst e
      exact ⟨s6.trans s7, l3, as3, sts3, _, _, _, _, f3, c3, b1, b2, b3.trans a3, rfl⟩
    rintro σ H6 ⟨s6, l2, as2, sts2, v1, v2, v3, v4, f2, c2, a1, a2, a3, rfl⟩
    have hC6 := hC5.same s6
    refine ⟨_, rfl, _, rfl, small' (by show 2 ≤ 1000; decide), fun q1 J1 m1 t1 g1 => ?_⟩
    refine ⟨_, rfl, _, rfl, small' (by show 2 ≤ 1000; decide), fun q2 J2 m2 t2 g2 => ?_⟩
    refine ⟨small' (by show 2 ≤ 1000; decide), fun q3 J3 m3 t3 g3 => ?_⟩
    have s63 := t1.trans (t2.trans t3)
    refine ⟨q3, rfl, ⟨_, SqL.of g3⟩, for_list (fun i σ H' => Same J3 H' ∧ ∃ v1 v2 v3 v4, σ = [some (.ref a), some (.ref l), some (.ref l2), v1, v2, v3, v4])
      ⟨Same.refl _, _, _, _, _, rfl⟩ (fun _ _ _ _ ⟨s8, _⟩ => s8.seq (SqL.of g3)) ?_ ?_⟩
    · rintro i x σ H8 hx ⟨s8, v1, v2, v3, v4, rfl⟩ σ e
      dsimp only [List.set] at e
      subst e
      obtain ⟨r, x1, x2, z1, z2, S1, S2, rfl, hR, C1, C2, b1, b2, d1, d2, hE⟩ : ∃ (r x1 x2 : Addr) (z1 z2 : List Addr) (S1 S2 : List StepD), x = V.ref r ∧ SqL X.K H8 r [.ref x1, .ref x2] ∧ Chn X.K H8 x1 z1 S1 ∧ Chn X.K H8 x2 z2 S2 ∧ S1.length ≤ 6 ∧ S2.length ≤ 6 ∧ prodI S1 ≤ 3000 ∧ prodI S2 ≤ 3000 ∧ StEq S1 S2 := by
        have hm := List.mem_of_getElem? hx
        simp only [List.mem_cons, List.not_mem_nil, or_false] at hm
        have s68 := s63.trans s8
        rcases hm with rfl | rfl
        · exact ⟨q1, l, l2, as, as2, sts, sts2, rfl, ((t2.trans t3).trans s8).seq (SqL.of g1), hC6.same s68, c2.same s68, h6, a1, hp, a2, fun m => (a3 m).symm⟩
        · exact ⟨q2, l2, l, as2, as, sts2, sts, rfl, (t3.trans s8).seq (SqL.of g2), c2.same s68, hC6.same s68, a1, h6, a2, hp, a3⟩
      have PN : Part S1 S2 none := fun m _ => hE m
      refine ⟨_, rfl, r, _, _, _, rfl, rfl, hR, rfl, _, _, rfl, .inl C1.lst, fun p1 K1 o1 u1 e1 => ?_⟩
      refine ⟨_, rfl, r, _, _, _, rfl, rfl, u1.seq hR, rfl, _, _, rfl, .inl (C2.same u1).lst, fun p2 K2 o2 u2 e2 => ?_⟩
      refine ⟨p1, p2, _, _, S1, S2, rfl, (C1.copy u1 e1).same u2, (C2.same u1).copy u2 e2, by omega, by omega, b1, b2, fun rr K3 u3 hP => ?_⟩
      have e0 := hP.uniq PN
      subst e0
      refine ⟨_, _, rfl, rfl, _, rfl, ?_⟩
      refine iteF ?_
      have u13 := u1.trans (u2.trans u3)
      refine ⟨_, rfl, r, _, _, _, rfl, rfl, u13.seq hR, rfl, _, _, rfl, .inl (C1.same u13).lst, fun p4 K4 o4 u4 e4 => ?_⟩
      refine ⟨_, rfl, r, _, _, _, rfl, rfl, (u13.trans u4).seq hR, rfl, _, _, rfl, .inl (C2.same (u13.trans u4)).lst, fun p5 K5 o5 u5 e5 => ?_⟩
      refine ⟨p4, p5, _, _, S1, S2, rfl, ((C1.same u13).copy u4 e4).same u5, (C2.same (u13.trans u4)).copy u5 e5, by omega, by omega, b1, b2, fun rr K6 u6 hP => ?_⟩
      have e0 := hP.uniq PN
      subst e0
      refine ⟨rfl, _, rfl, ?_⟩
      refine iteF ?_
      exact ⟨s8.trans (u13.trans (u4.trans (u5.trans u6))), _, _, _, _, rfl⟩
    rintro σ H8 ⟨s8, v1, v2, v3, v4, rfl⟩
    have s68 := s63.trans s8
    have c8 := c2.same s68
    have C8 := hC6.same s68
    have f8 := s68 _ _ f2
    have hl2 : (as2.map V.ref).length = sts2.length := by rw [List.length_map, c2.len]
    refine ⟨_, rfl, _, _, rfl, .inl c8.lst, rfl, _, rfl, ?_⟩
    rw [hl2]
    refine if2 (fun z => q _) (fun z => ?_)
    have l5 : sts2.length ≤ 5 := by have := of_not_int z; omega
    have w0 := md0 (x := drawAt ns 11) (n := 9) (by decide)
    have w1 := md1 (x := drawAt ns 11) (n := 9) (by decide)
    refine ⟨_, rfl, _, rfl, a, ns, _, rfl, (s1.trans (s5.trans (s6.trans s68))).seq hS, by decide, by decide, _, _, rfl, rfl, (by decide : (0 : Int) < 9), _, _, rfl, rfl, small' (by show 6 ≤ 1000; decide), fun r1 K1 o1 u1 e1 => ?_⟩
    generalize drawAt ns 11 % 9 = wz at e1 w0 w1
    refine ⟨small' (by show 1 ≤ 1000; decide), fun r2 K2 o2 u2 e2 => ?_⟩
    refine ⟨l2, r2, _, _, rfl, rfl, u2 _ _ (u1 _ _ f8), e2, Nat.le_trans (show _ ≤ 1000 by rw [hl2]; show sts2.length + 1 ≤ 1000; omega) (by decide), fun r3 K3 o3 u3 e3 σ e => ?_⟩
    dsimp only [List.set] at e
    subst e
    have oN : StepD.Ok ⟨"times", 1, 1, 1 + wz, "down", 1⟩ := ⟨.inl rfl, by dsimp only; decide, by dsimp only; decide, by dsimp only; decide, by dsimp only; decide, fun z => absurd z (by dsimp only; decide +kernel), by dsimp only; omega, by dsimp only; omega, .inl rfl, by dsimp only; decide, by dsimp only; decide⟩
    have c3 : Chn X.K K3 r3 (as2 ++ [r1]) (sts2 ++ [⟨"times", 1, 1, 1 + wz, "down", 1⟩]) := (c8.same (u1.trans u2)).cat (Chn.one e2 (u2.seqT (SqT.of e1)) oN) u3 (by rw [e3, List.map_append]; rfl)
    have cN : StepD.cyc ⟨"times", 1, 1, 1 + wz, "down", 1⟩ = 1 := by
      have h1 := oN.cyc0
      have h2 : StepD.cyc ⟨"times", 1, 1, 1 + wz, "down", 1⟩ ≤ 1 := by
        unfold StepD.cyc
        exact Int.ediv_le_self (a := 1) _ (by decide)
      omega
    have p3 : prodI (sts2 ++ [⟨"times", 1, 1, 1 + wz, "down", 1⟩]) ≤ 3000 := by rw [prodI_snoc, cN]; omega
    have l3 : (sts2 ++ [(⟨"times", 1, 1, 1 + wz, "down", 1⟩ : StepD)]).length ≤ 6 := by rw [List.length_append]; show sts2.length + 1 ≤ 6; omega
    have eN : ∀ m, endI (sts2 ++ [⟨"times", 1, 1, 1 + wz, "down", 1⟩]) m = endI sts m + (1 + wz) := fun m => by
      rw [endI_app, a3]
      exact plus_down (by omega) _
    have PD : Part sts (sts2 ++ [⟨"times", 1, 1, 1 + wz, "down", 1⟩]) (some 0) := ⟨by decide, by rw [eN]; omega, fun m h1 h2 => by omega⟩
    have PD2 : Part (sts2 ++ [⟨"times", 1, 1, 1 + wz, "down", 1⟩]) sts (some 0) := ⟨by decide, by rw [eN]; omega, fun m h1 h2 => by omega⟩
    have C3 := C8.same (u1.trans (u2.trans u3))
    refine ⟨_, rfl, _, _, rfl, .inl C3.lst, fun p4 K4 o4 u4 e4 => ?_⟩
    refine ⟨_, rfl, _, _, rfl, .inl (c3.same u4).lst, fun p5 K5 o5 u5 e5 => ?_⟩
    refine ⟨p4, p5, _, _, sts, _, rfl, (C3.copy u4 e4).same u5, (c3.same u4).copy u5 e5, by omega, by omega, h6, l3, fun rr K6 u6 hP σ e => ?_⟩
    have e0 := hP.uniq PD
    subst e0
    dsimp only [List.set] at e
    subst e
    refine ⟨_, rfl, 0, rfl, _, rfl, ?_⟩
    refine iteT ?_
    refine ⟨_, rfl, rfl, _, rfl, ?_⟩
    refine iteT ?_
    have u46 := u4.trans (u5.trans u6)
    refine ⟨_, rfl, _, _, rfl, .inl (c3.same u46).lst, fun p7 K7 o7 u7 e7 => ?_⟩
    refine ⟨_, rfl, _, _, rfl, .inl (C3.same (u46.trans u7)).lst, fun p8 K8 o8 u8 e8 => ?_⟩
    refine ⟨p7, p8, _, _, _, sts, rfl, ((c3.same u46).copy u7 e7).same u8, (C3.same (u46.trans u7)).copy u8 e8, by omega, by omega, l3, h6, fun rr K9 u9 hP => ?_⟩
    have e0 := hP.uniq PD2
    subst e0
    exact ⟨_, _, rfl, rfl, q _⟩
theorem ok_law {P : Program} {w : World} {K : PySem.W.Frag} {mg : Str → Option Value} {base : Heap} {f : Addr} {fd : FuncData} (F : Fun K "law" "law" s_law f fd) (z_list : mg "list" = none) (z_range : mg "range" = none) (z_len : mg "len" = none) (C_law_chain : Cal P w K mg base "_law_chain" 4 ["_law_script", "_law_base", "_law_many", "_law_limit"] (sp_law_chain K)) (C_parting : Cal P w K mg base "parting" 7 ["one", "other"] (sp_parting K)) (C_law_anew : Cal P w K mg base "_law_anew" 5 ["_law_steps", "_law_cell"] (sp_law_anew K)) (C_law_whole : Cal P w K mg base "_law_whole" 1 ["_law_found"] (sp_law_whole K)) (C_law_draw : Cal P w K mg base "_law_draw" 2 ["_law_script", "_law_k"] (sp_law_draw K)) (C_alike : Cal P w K mg base "alike" 8 ["one", "other"] (sp_alike K)) : FnOk P w K mg base CX0 9 f fd ["_law_script"] (sp_law K) :=
  F.ok sc_law (fun vs H Q E h => by first | (obtain ⟨_, rfl, _⟩ := h; rfl) | (obtain ⟨_, _, rfl, _⟩ := h; rfl) | (obtain ⟨_, _, _, rfl, _⟩ := h; rfl) | (obtain ⟨_, _, _, _, rfl, _⟩ := h; rfl) | (obtain ⟨_, _, _, _, _, rfl, _⟩ := h; rfl) | (obtain ⟨_, _, _, _, _, _, rfl, _⟩ := h; rfl) | (obtain ⟨_, _, _, _, _, _, _, rfl, _⟩ := h; rfl) | (obtain ⟨_, _, _, _, _, _, _, _, rfl, _⟩ := h; rfl) | (obtain ⟨_, _, _, _, _, _, _, _, _, rfl, _⟩ := h; rfl)) (fun cdv A outer s H vs Q E hr h => unW (body_law (X := (cxOf CX0 P w K mg base ["_law_script", "_law_one", "_law_two", "_law_k", "_law_pair", "_law_three", "_law_found"] "law" (defScope s_law) f cdv A outer s H E).nox) ⟨rfl, rfl, rfl, PassesOwn.never⟩ hr z_list z_range z_len C_law_chain C_parting C_law_anew C_law_whole C_law_draw C_alike h))
theorem all_mk {l : PySem.W.OpenLaw} {w : World} {K : PySem.W.Frag} {h : Heap} {mg : Str → Option Value} {fa : Addr} (X : K.In h) (G : h.Ns mainGlobals mg) (hfa : mg "law" = some (.ref fa))
    {od0 an0 : Option Addr} {sl0 : Array (Option Value)} {oc0 kV0 dc0 pm0 cd0 ct0 : Value} {f0 : Addr}
    {od1 an1 : Option Addr} {sl1 : Array (Option Value)} {oc1 kV1 dc1 pm1 cd1 ct1 : Value} {f1 : Addr}
    {od2 an2 : Option Addr} {sl2 : Array (Option Value)} {oc2 kV2 dc2 pm2 cd2 ct2 : Value} {f2 : Addr}
    {od3 an3 : Option Addr} {sl3 : Array (Option Value)} {oc3 kV3 dc3 pm3 cd3 ct3 : Value} {f3 : Addr}
    {od4 an4 : Option Addr} {sl4 : Array (Option Value)} {oc4 kV4 dc4 pm4 cd4 ct4 : Value} {f4 : Addr}
    {od5 an5 : Option Addr} {sl5 : Array (Option Value)} {oc5 kV5 dc5 pm5 cd5 ct5 : Value} {f5 : Addr}
    {od6 an6 : Option Addr} {sl6 : Array (Option Value)} {oc6 kV6 dc6 pm6 cd6 ct6 : Value} {f6 : Addr}
    {od7 an7 : Option Addr} {sl7 : Array (Option Value)} {oc7 kV7 dc7 pm7 cd7 ct7 : Value} {f7 : Addr}
    {od8 an8 : Option Addr} {sl8 : Array (Option Value)} {oc8 kV8 dc8 pm8 cd8 ct8 : Value} {f8 : Addr}
    {od9 an9 : Option Addr} {sl9 : Array (Option Value)} {oc9 kV9 dc9 pm9 cd9 ct9 : Value} {f9 : Addr}
    {od10 an10 : Option Addr} {sl10 : Array (Option Value)} {oc10 kV10 dc10 pm10 cd10 ct10 : Value} {f10 : Addr}
    {od11 an11 : Option Addr} {sl11 : Array (Option Value)} {oc11 kV11 dc11 pm11 cd11 ct11 : Value} {f11 : Addr}
    {od12 an12 : Option Addr} {sl12 : Array (Option Value)} {oc12 kV12 dc12 pm12 cd12 ct12 : Value} {f12 : Addr}
    {od13 an13 : Option Addr} {sl13 : Array (Option Value)} {oc13 kV13 dc13 pm13 cd13 ct13 : Value} {f13 : Addr}
    {od14 an14 : Option Addr} {sl14 : Array (Option Value)} {oc14 kV14 dc14 pm14 cd14 ct14 : Value} {f14 : Addr}
    {od15 an15 : Option Addr} {sl15 : Array (Option Value)} {oc15 kV15 dc15 pm15 cd15 ct15 : Value} {f15 : Addr}
    {od16 an16 : Option Addr} {sl16 : Array (Option Value)} {oc16 kV16 dc16 pm16 cd16 ct16 : Value} {f16 : Addr}
    {od17 an17 : Option Addr} {sl17 : Array (Option Value)} {oc17 kV17 dc17 pm17 cd17 ct17 : Value} {f17 : Addr}
    {od18 an18 : Option Addr} {sl18 : Array (Option Value)} {oc18 kV18 dc18 pm18 cd18 ct18 : Value} {f18 : Addr}
    {od19 an19 : Option Addr} {sl19 : Array (Option Value)} {oc19 kV19 dc19 pm19 cd19 ct19 : Value} {f19 : Addr}
    {od20 an20 : Option Addr} {sl20 : Array (Option Value)} {oc20 kV20 dc20 pm20 cd20 ct20 : Value} {f20 : Addr}
    {od21 an21 : Option Addr} {sl21 : Array (Option Value)} {oc21 kV21 dc21 pm21 cd21 ct21 : Value} {f21 : Addr}
    {od22 an22 : Option Addr} {sl22 : Array (Option Value)} {oc22 kV22 dc22 pm22 cd22 ct22 : Value} {f22 : Addr}
    {od23 an23 : Option Addr} {sl23 : Array (Option Value)} {oc23 kV23 dc23 pm23 cd23 ct23 : Value} {f23 : Addr}
    {od24 an24 : Option Addr} {sl24 : Array (Option Value)} {oc24 kV24 dc24 pm24 cd24 ct24 : Value} {f24 : Addr}
    {od25 an25 : Option Addr} {sl25 : Array (Option Value)} {oc25 kV25 dc25 pm25 cd25 ct25 : Value} {f25 : Addr}
    {od26 an26 : Option Addr} {sl26 : Array (Option Value)} {oc26 kV26 dc26 pm26 cd26 ct26 : Value} {f26 : Addr}
    {od27 an27 : Option Addr} {sl27 : Array (Option Value)} {oc27 kV27 dc27 pm27 cd27 ct27 : Value} {f27 : Addr}
    {od28 an28 : Option Addr} {sl28 : Array (Option Value)} {oc28 kV28 dc28 pm28 cd28 ct28 : Value} {f28 : Addr}
    {od29 an29 : Option Addr} {sl29 : Array (Option Value)} {oc29 kV29 dc29 pm29 cd29 ct29 : Value} {f29 : Addr}
    {od30 an30 : Option Addr} {sl30 : Array (Option Value)} {oc30 kV30 dc30 pm30 cd30 ct30 : Value} {f30 : Addr}
    {A_Flat : Addr} (aC_Flat : PySem.W.nsIn K mainGlobals "Flat" = some (some (.ref A_Flat))) (pg_Flat : PySem.W.plainGet K A_Flat Str.empty = true) (hd_Flat : PySem.W.hasDictIn K A_Flat = true) (po_Flat : PySem.W.plainOver K A_Flat = true) (sa_Flat : PySem.W.findIn K (.ref A_Flat) "__setattr__" = some (some (.builtin "object.__setattr__"))) (mk_Flat : PySem.W.makesIn K A_Flat = true) (kc_Flat : PySem.W.keepIn K (.ref A_Flat) = true) (ha_Flat : PySem.W.findIn K (.ref A_Flat) "__class__" = some (some (.builtin "object.__class__"))) (hn_Flat : PySem.W.specialIn K (.builtin "object.__class__") "__get__" = some (some (.builtin "getset_descriptor.__get__"))) (htk_Flat : PySem.W.takesIn K (.builtin "object.__class__") = some true) (hm_Flat : PySem.W.mroIn K A_Flat (.type "object") = some true) (nf_Flat_cycle : PySem.W.findIn K (.ref A_Flat) "cycle" = some none) (nf_Flat_rise : PySem.W.findIn K (.ref A_Flat) "rise" = some none) (nf_Flat_ends : PySem.W.findIn K (.ref A_Flat) "ends" = some none)
    (a0 : PySem.W.nsIn K mainGlobals "check_price" = some (some (.ref f0))) (l0 : K.lookup f0 = some ⟨oc0, od0, .func (PySem.W.fnOf "check_price" "check_price" (defArgs s_check_price) (defBody s_check_price) (defScope s_check_price) .none kV0 dc0 pm0 an0 cd0 ct0), sl0⟩) (c0 : PySem.W.codeIn K cd0 "check_price" = true) (k0 : PySem.W.keepIn K (.ref f0) = true)
    (a1 : PySem.W.nsIn K mainGlobals "common_divisor" = some (some (.ref f1))) (l1 : K.lookup f1 = some ⟨oc1, od1, .func (PySem.W.fnOf "common_divisor" "common_divisor" (defArgs s_common_divisor) (defBody s_common_divisor) (defScope s_common_divisor) .none kV1 dc1 pm1 an1 cd1 ct1), sl1⟩) (c1 : PySem.W.codeIn K cd1 "common_divisor" = true) (k1 : PySem.W.keepIn K (.ref f1) = true)
    (a2 : PySem.W.nsIn K mainGlobals "lowest" = some (some (.ref f2))) (l2 : K.lookup f2 = some ⟨oc2, od2, .func (PySem.W.fnOf "lowest" "lowest" (defArgs s_lowest) (defBody s_lowest) (defScope s_lowest) .none kV2 dc2 pm2 an2 cd2 ct2), sl2⟩) (c2 : PySem.W.codeIn K cd2 "lowest" = true) (k2 : PySem.W.keepIn K (.ref f2) = true)
    (a3 : PySem.W.nsIn K mainGlobals "prime_factors" = some (some (.ref f3))) (l3 : K.lookup f3 = some ⟨oc3, od3, .func (PySem.W.fnOf "prime_factors" "prime_factors" (defArgs s_prime_factors) (defBody s_prime_factors) (defScope s_prime_factors) .none kV3 dc3 pm3 an3 cd3 ct3), sl3⟩) (c3 : PySem.W.codeIn K cd3 "prime_factors" = true) (k3 : PySem.W.keepIn K (.ref f3) = true)
    (a4 : PySem.W.nsIn K mainGlobals "share" = some (some (.ref f4))) (l4 : K.lookup f4 = some ⟨oc4, od4, .func (PySem.W.fnOf "share" "share" (defArgs s_share) (defBody s_share) (defScope s_share) .none kV4 dc4 pm4 an4 cd4 ct4), sl4⟩) (c4 : PySem.W.codeIn K cd4 "share" = true) (k4 : PySem.W.keepIn K (.ref f4) = true)
    (a5 : PySem.W.nsIn K mainGlobals "rounded" = some (some (.ref f5))) (l5 : K.lookup f5 = some ⟨oc5, od5, .func (PySem.W.fnOf "rounded" "rounded" (defArgs s_rounded) (defBody s_rounded) (defScope s_rounded) .none kV5 dc5 pm5 an5 cd5 ct5), sl5⟩) (c5 : PySem.W.codeIn K cd5 "rounded" = true) (k5 : PySem.W.keepIn K (.ref f5) = true)
    (a6 : PySem.W.nsIn K mainGlobals "after" = some (some (.ref f6))) (l6 : K.lookup f6 = some ⟨oc6, od6, .func (PySem.W.fnOf "after" "after" (defArgs s_after) (defBody s_after) (defScope s_after) .none kV6 dc6 pm6 an6 cd6 ct6), sl6⟩) (c6 : PySem.W.codeIn K cd6 "after" = true) (k6 : PySem.W.keepIn K (.ref f6) = true)
    (a7 : PySem.W.nsIn K mainGlobals "own_cycle" = some (some (.ref f7))) (l7 : K.lookup f7 = some ⟨oc7, od7, .func (PySem.W.fnOf "own_cycle" "own_cycle" (defArgs s_own_cycle) (defBody s_own_cycle) (defScope s_own_cycle) .none kV7 dc7 pm7 an7 cd7 ct7), sl7⟩) (c7 : PySem.W.codeIn K cd7 "own_cycle" = true) (k7 : PySem.W.keepIn K (.ref f7) = true)
    (a8 : PySem.W.findIn K (.ref A_Flat) "__init__" = some (some (.ref f8))) (i8 : PySem.W.isFn K (.ref f8) = true) (l8 : K.lookup f8 = some ⟨oc8, od8, .func (PySem.W.fnOf "__init__" "Flat.__init__" (defArgs s_Flat___init__) (defBody s_Flat___init__) (defScope s_Flat___init__) .none kV8 dc8 pm8 an8 cd8 ct8), sl8⟩) (c8 : PySem.W.codeIn K cd8 "Flat.__init__" = true) (k8 : PySem.W.keepIn K (.ref f8) = true)
    (a9 : PySem.W.findIn K (.ref A_Flat) "end" = some (some (.ref f9))) (i9 : PySem.W.isFn K (.ref f9) = true) (l9 : K.lookup f9 = some ⟨oc9, od9, .func (PySem.W.fnOf "end" "Flat.end" (defArgs s_Flat_end) (defBody s_Flat_end) (defScope s_Flat_end) .none kV9 dc9 pm9 an9 cd9 ct9), sl9⟩) (c9 : PySem.W.codeIn K cd9 "Flat.end" = true) (k9 : PySem.W.keepIn K (.ref f9) = true)
    (a10 : PySem.W.nsIn K mainGlobals "flatten" = some (some (.ref f10))) (l10 : K.lookup f10 = some ⟨oc10, od10, .func (PySem.W.fnOf "flatten" "flatten" (defArgs s_flatten) (defBody s_flatten) (defScope s_flatten) .none kV10 dc10 pm10 an10 cd10 ct10), sl10⟩) (c10 : PySem.W.codeIn K cd10 "flatten" = true) (k10 : PySem.W.keepIn K (.ref f10) = true)
    (a11 : PySem.W.nsIn K mainGlobals "some_cycle" = some (some (.ref f11))) (l11 : K.lookup f11 = some ⟨oc11, od11, .func (PySem.W.fnOf "some_cycle" "some_cycle" (defArgs s_some_cycle) (defBody s_some_cycle) (defScope s_some_cycle) .none kV11 dc11 pm11 an11 cd11 ct11), sl11⟩) (c11 : PySem.W.codeIn K cd11 "some_cycle" = true) (k11 : PySem.W.keepIn K (.ref f11) = true)
    (a12 : PySem.W.nsIn K mainGlobals "first_ends" = some (some (.ref f12))) (l12 : K.lookup f12 = some ⟨oc12, od12, .func (PySem.W.fnOf "first_ends" "first_ends" (defArgs s_first_ends) (defBody s_first_ends) (defScope s_first_ends) .none kV12 dc12 pm12 an12 cd12 ct12), sl12⟩) (c12 : PySem.W.codeIn K cd12 "first_ends" = true) (k12 : PySem.W.keepIn K (.ref f12) = true)
    (a13 : PySem.W.nsIn K mainGlobals "least_cycle" = some (some (.ref f13))) (l13 : K.lookup f13 = some ⟨oc13, od13, .func (PySem.W.fnOf "least_cycle" "least_cycle" (defArgs s_least_cycle) (defBody s_least_cycle) (defScope s_least_cycle) .none kV13 dc13 pm13 an13 cd13 ct13), sl13⟩) (c13 : PySem.W.codeIn K cd13 "least_cycle" = true) (k13 : PySem.W.keepIn K (.ref f13) = true)
    (a14 : PySem.W.nsIn K mainGlobals "repeats" = some (some (.ref f14))) (l14 : K.lookup f14 = some ⟨oc14, od14, .func (PySem.W.fnOf "repeats" "repeats" (defArgs s_repeats) (defBody s_repeats) (defScope s_repeats) .none kV14 dc14 pm14 an14 cd14 ct14), sl14⟩) (c14 : PySem.W.codeIn K cd14 "repeats" = true) (k14 : PySem.W.keepIn K (.ref f14) = true)
    (a15 : PySem.W.nsIn K mainGlobals "parting" = some (some (.ref f15))) (l15 : K.lookup f15 = some ⟨oc15, od15, .func (PySem.W.fnOf "parting" "parting" (defArgs s_parting) (defBody s_parting) (defScope s_parting) .none kV15 dc15 pm15 an15 cd15 ct15), sl15⟩) (c15 : PySem.W.codeIn K cd15 "parting" = true) (k15 : PySem.W.keepIn K (.ref f15) = true)
    (a16 : PySem.W.nsIn K mainGlobals "alike" = some (some (.ref f16))) (l16 : K.lookup f16 = some ⟨oc16, od16, .func (PySem.W.fnOf "alike" "alike" (defArgs s_alike) (defBody s_alike) (defScope s_alike) .none kV16 dc16 pm16 an16 cd16 ct16), sl16⟩) (c16 : PySem.W.codeIn K cd16 "alike" = true) (k16 : PySem.W.keepIn K (.ref f16) = true)
    (a17 : PySem.W.nsIn K mainGlobals "_law_at" = some (some (.ref f17))) (l17 : K.lookup f17 = some ⟨oc17, od17, .func (PySem.W.fnOf "_law_at" "_law_at" (defArgs s_law_at) (defBody s_law_at) (defScope s_law_at) .none kV17 dc17 pm17 an17 cd17 ct17), sl17⟩) (c17 : PySem.W.codeIn K cd17 "_law_at" = true) (k17 : PySem.W.keepIn K (.ref f17) = true)
    (a18 : PySem.W.nsIn K mainGlobals "_law_draw" = some (some (.ref f18))) (l18 : K.lookup f18 = some ⟨oc18, od18, .func (PySem.W.fnOf "_law_draw" "_law_draw" (defArgs s_law_draw) (defBody s_law_draw) (defScope s_law_draw) .none kV18 dc18 pm18 an18 cd18 ct18), sl18⟩) (c18 : PySem.W.codeIn K cd18 "_law_draw" = true) (k18 : PySem.W.keepIn K (.ref f18) = true)
    (a19 : PySem.W.nsIn K mainGlobals "_law_whole" = some (some (.ref f19))) (l19 : K.lookup f19 = some ⟨oc19, od19, .func (PySem.W.fnOf "_law_whole" "_law_whole" (defArgs s_law_whole) (defBody s_law_whole) (defScope s_law_whole) .none kV19 dc19 pm19 an19 cd19 ct19), sl19⟩) (c19 : PySem.W.codeIn K cd19 "_law_whole" = true) (k19 : PySem.W.keepIn K (.ref f19) = true)
    (a20 : PySem.W.nsIn K mainGlobals "_law_gcd" = some (some (.ref f20))) (l20 : K.lookup f20 = some ⟨oc20, od20, .func (PySem.W.fnOf "_law_gcd" "_law_gcd" (defArgs s_law_gcd) (defBody s_law_gcd) (defScope s_law_gcd) .none kV20 dc20 pm20 an20 cd20 ct20), sl20⟩) (c20 : PySem.W.codeIn K cd20 "_law_gcd" = true) (k20 : PySem.W.keepIn K (.ref f20) = true)
    (a21 : PySem.W.nsIn K mainGlobals "_law_step" = some (some (.ref f21))) (l21 : K.lookup f21 = some ⟨oc21, od21, .func (PySem.W.fnOf "_law_step" "_law_step" (defArgs s_law_step) (defBody s_law_step) (defScope s_law_step) .none kV21 dc21 pm21 an21 cd21 ct21), sl21⟩) (c21 : PySem.W.codeIn K cd21 "_law_step" = true) (k21 : PySem.W.keepIn K (.ref f21) = true)
    (a22 : PySem.W.nsIn K mainGlobals "_law_num" = some (some (.ref f22))) (l22 : K.lookup f22 = some ⟨oc22, od22, .func (PySem.W.fnOf "_law_num" "_law_num" (defArgs s_law_num) (defBody s_law_num) (defScope s_law_num) .none kV22 dc22 pm22 an22 cd22 ct22), sl22⟩) (c22 : PySem.W.codeIn K cd22 "_law_num" = true) (k22 : PySem.W.keepIn K (.ref f22) = true)
    (a23 : PySem.W.nsIn K mainGlobals "_law_own" = some (some (.ref f23))) (l23 : K.lookup f23 = some ⟨oc23, od23, .func (PySem.W.fnOf "_law_own" "_law_own" (defArgs s_law_own) (defBody s_law_own) (defScope s_law_own) .none kV23 dc23 pm23 an23 cd23 ct23), sl23⟩) (c23 : PySem.W.codeIn K cd23 "_law_own" = true) (k23 : PySem.W.keepIn K (.ref f23) = true)
    (a24 : PySem.W.nsIn K mainGlobals "_law_product" = some (some (.ref f24))) (l24 : K.lookup f24 = some ⟨oc24, od24, .func (PySem.W.fnOf "_law_product" "_law_product" (defArgs s_law_product) (defBody s_law_product) (defScope s_law_product) .none kV24 dc24 pm24 an24 cd24 ct24), sl24⟩) (c24 : PySem.W.codeIn K cd24 "_law_product" = true) (k24 : PySem.W.keepIn K (.ref f24) = true)
    (a25 : PySem.W.nsIn K mainGlobals "_law_chain" = some (some (.ref f25))) (l25 : K.lookup f25 = some ⟨oc25, od25, .func (PySem.W.fnOf "_law_chain" "_law_chain" (defArgs s_law_chain) (defBody s_law_chain) (defScope s_law_chain) .none kV25 dc25 pm25 an25 cd25 ct25), sl25⟩) (c25 : PySem.W.codeIn K cd25 "_law_chain" = true) (k25 : PySem.W.keepIn K (.ref f25) = true)
    (a26 : PySem.W.nsIn K mainGlobals "_law_worded" = some (some (.ref f26))) (l26 : K.lookup f26 = some ⟨oc26, od26, .func (PySem.W.fnOf "_law_worded" "_law_worded" (defArgs s_law_worded) (defBody s_law_worded) (defScope s_law_worded) .none kV26 dc26 pm26 an26 cd26 ct26), sl26⟩) (c26 : PySem.W.codeIn K cd26 "_law_worded" = true) (k26 : PySem.W.keepIn K (.ref f26) = true)
    (a27 : PySem.W.nsIn K mainGlobals "_law_there_and_back" = some (some (.ref f27))) (l27 : K.lookup f27 = some ⟨oc27, od27, .func (PySem.W.fnOf "_law_there_and_back" "_law_there_and_back" (defArgs s_law_there_and_back) (defBody s_law_there_and_back) (defScope s_law_there_and_back) .none kV27 dc27 pm27 an27 cd27 ct27), sl27⟩) (c27 : PySem.W.codeIn K cd27 "_law_there_and_back" = true) (k27 : PySem.W.keepIn K (.ref f27) = true)
    (a28 : PySem.W.nsIn K mainGlobals "_law_short" = some (some (.ref f28))) (l28 : K.lookup f28 = some ⟨oc28, od28, .func (PySem.W.fnOf "_law_short" "_law_short" (defArgs s_law_short) (defBody s_law_short) (defScope s_law_short) .none kV28 dc28 pm28 an28 cd28 ct28), sl28⟩) (c28 : PySem.W.codeIn K cd28 "_law_short" = true) (k28 : PySem.W.keepIn K (.ref f28) = true)
    (a29 : PySem.W.nsIn K mainGlobals "_law_anew" = some (some (.ref f29))) (l29 : K.lookup f29 = some ⟨oc29, od29, .func (PySem.W.fnOf "_law_anew" "_law_anew" (defArgs s_law_anew) (defBody s_law_anew) (defScope s_law_anew) .none kV29 dc29 pm29 an29 cd29 ct29), sl29⟩) (c29 : PySem.W.codeIn K cd29 "_law_anew" = true) (k29 : PySem.W.keepIn K (.ref f29) = true)
    (a30 : PySem.W.nsIn K mainGlobals "law" = some (some (.ref f30))) (l30 : K.lookup f30 = some ⟨oc30, od30, .func (PySem.W.fnOf "law" "law" (defArgs s_law) (defBody s_law) (defScope s_law) .none kV30 dc30 pm30 an30 cd30 ct30), sl30⟩) (c30 : PySem.W.codeIn K cd30 "law" = true) (k30 : PySem.W.keepIn K (.ref f30) = true)
    (z0 : PySem.W.nsIn K mainGlobals "tuple" = some none)
    (z1 : PySem.W.nsIn K mainGlobals "list" = some none)
    (z2 : PySem.W.nsIn K mainGlobals "range" = some none)
    (z3 : PySem.W.nsIn K mainGlobals "len" = some none)
    (z4 : PySem.W.nsIn K mainGlobals "isinstance" = some none)
    (z5 : PySem.W.nsIn K mainGlobals "int" = some none)
    (z6 : PySem.W.nsIn K mainGlobals "bool" = some none)
    (z7 : PySem.W.nsIn K mainGlobals "min" = some none)
    (z8 : PySem.W.nsIn K mainGlobals "max" = some none) :
    ∃ fd : FuncData, (∀ (s : Shared) (v : Value), BindsTo s fd ⟨[v], []⟩ [("_law_script", v)]) ∧ ∀ base : Heap, K.In base → base.Ns mainGlobals mg → FnOk l.prog w K mg base CX0 9 fa fd ["_law_script"] (sp_law K) := by
  have e := hfa.symm.trans (PySem.W.mg_of X G a30)
  cases e
  have eC_Flat : clsAt K "Flat" = A_Flat := clsAt_eq aC_Flat
  have T_Flat : Txt_Flat K mg := by
    refine ⟨?_, ?_, ?_, hn_Flat, htk_Flat, ?_, ?_, ?_, ?_⟩
    · rw [eC_Flat]; exact ⟨pg_Flat, hd_Flat, po_Flat, sa_Flat⟩
    · rw [eC_Flat]; exact PySem.W.mg_of X G aC_Flat
    · rw [eC_Flat]; exact ha_Flat
    · rw [eC_Flat]; exact hm_Flat
    · rw [eC_Flat]; exact nf_Flat_cycle
    · rw [eC_Flat]; exact nf_Flat_rise
    · rw [eC_Flat]; exact nf_Flat_ends
  have F0 := fun_mk (st := s_check_price) l0 c0 k0
  have b0 := F0.binds (ps := ["price"]) fun _ _ _ _ _ _ us hl => match us, hl with | [_], _ => rfl
  have F1 := fun_mk (st := s_common_divisor) l1 c1 k1
  have b1 := F1.binds (ps := ["one", "other"]) fun _ _ _ _ _ _ us hl => match us, hl with | [_, _], _ => rfl
  have F2 := fun_mk (st := s_lowest) l2 c2 k2
  have b2 := F2.binds (ps := ["num", "den"]) fun _ _ _ _ _ _ us hl => match us, hl with | [_, _], _ => rfl
  have F3 := fun_mk (st := s_prime_factors) l3 c3 k3
  have b3 := F3.binds (ps := ["number"]) fun _ _ _ _ _ _ us hl => match us, hl with | [_], _ => rfl
  have F4 := fun_mk (st := s_share) l4 c4 k4
  have b4 := F4.binds (ps := ["step"]) fun _ _ _ _ _ _ us hl => match us, hl with | [_], _ => rfl
  have F5 := fun_mk (st := s_rounded) l5 c5 k5
  have b5 := F5.binds (ps := ["num", "den", "unit", "way"]) fun _ _ _ _ _ _ us hl => match us, hl with | [_, _, _, _], _ => rfl
  have F6 := fun_mk (st := s_after) l6 c6 k6
  have b6 := F6.binds (ps := ["step", "amount"]) fun _ _ _ _ _ _ us hl => match us, hl with | [_, _], _ => rfl
  have F7 := fun_mk (st := s_own_cycle) l7 c7 k7
  have b7 := F7.binds (ps := ["step"]) fun _ _ _ _ _ _ us hl => match us, hl with | [_], _ => rfl
  have F8 := fun_mk (st := s_Flat___init__) l8 c8 k8
  have b8 := F8.binds (ps := ["self", "cycle", "rise", "ends"]) fun _ _ _ _ _ _ us hl => match us, hl with | [_, _, _, _], _ => rfl
  have F9 := fun_mk (st := s_Flat_end) l9 c9 k9
  have b9 := F9.binds (ps := ["self", "price"]) fun _ _ _ _ _ _ us hl => match us, hl with | [_, _], _ => rfl
  have F10 := fun_mk (st := s_flatten) l10 c10 k10
  have b10 := F10.binds (ps := ["chain"]) fun _ _ _ _ _ _ us hl => match us, hl with | [_], _ => rfl
  have F11 := fun_mk (st := s_some_cycle) l11 c11 k11
  have b11 := F11.binds (ps := ["chain"]) fun _ _ _ _ _ _ us hl => match us, hl with | [_], _ => rfl
  have F12 := fun_mk (st := s_first_ends) l12 c12 k12
  have b12 := F12.binds (ps := ["chain", "many"]) fun _ _ _ _ _ _ us hl => match us, hl with | [_, _], _ => rfl
  have F13 := fun_mk (st := s_least_cycle) l13 c13 k13
  have b13 := F13.binds (ps := ["ends", "rise"]) fun _ _ _ _ _ _ us hl => match us, hl with | [_, _], _ => rfl
  have F14 := fun_mk (st := s_repeats) l14 c14 k14
  have b14 := F14.binds (ps := ["ends", "part", "rise"]) fun _ _ _ _ _ _ us hl => match us, hl with | [_, _, _], _ => rfl
  have F15 := fun_mk (st := s_parting) l15 c15 k15
  have b15 := F15.binds (ps := ["one", "other"]) fun _ _ _ _ _ _ us hl => match us, hl with | [_, _], _ => rfl
  have F16 := fun_mk (st := s_alike) l16 c16 k16
  have b16 := F16.binds (ps := ["one", "other"]) fun _ _ _ _ _ _ us hl => match us, hl with | [_, _], _ => rfl
  have F17 := fun_mk (st := s_law_at) l17 c17 k17
  have b17 := F17.binds (ps := ["_law_script", "_law_k"]) fun _ _ _ _ _ _ us hl => match us, hl with | [_, _], _ => rfl
  have F18 := fun_mk (st := s_law_draw) l18 c18 k18
  have b18 := F18.binds (ps := ["_law_script", "_law_k"]) fun _ _ _ _ _ _ us hl => match us, hl with | [_, _], _ => rfl
  have F19 := fun_mk (st := s_law_whole) l19 c19 k19
  have b19 := F19.binds (ps := ["_law_found"]) fun _ _ _ _ _ _ us hl => match us, hl with | [_], _ => rfl
  have F20 := fun_mk (st := s_law_gcd) l20 c20 k20
  have b20 := F20.binds (ps := ["_law_one", "_law_other"]) fun _ _ _ _ _ _ us hl => match us, hl with | [_, _], _ => rfl
  have F21 := fun_mk (st := s_law_step) l21 c21 k21
  have b21 := F21.binds (ps := ["_law_cell", "_law_size"]) fun _ _ _ _ _ _ us hl => match us, hl with | [_, _], _ => rfl
  have F22 := fun_mk (st := s_law_num) l22 c22 k22
  have b22 := F22.binds (ps := ["_law_step_here"]) fun _ _ _ _ _ _ us hl => match us, hl with | [_], _ => rfl
  have F23 := fun_mk (st := s_law_own) l23 c23 k23
  have b23 := F23.binds (ps := ["_law_step_here"]) fun _ _ _ _ _ _ us hl => match us, hl with | [_], _ => rfl
  have F24 := fun_mk (st := s_law_product) l24 c24 k24
  have b24 := F24.binds (ps := ["_law_steps"]) fun _ _ _ _ _ _ us hl => match us, hl with | [_], _ => rfl
  have F25 := fun_mk (st := s_law_chain) l25 c25 k25
  have b25 := F25.binds (ps := ["_law_script", "_law_base", "_law_many", "_law_limit"]) fun _ _ _ _ _ _ us hl => match us, hl with | [_, _, _, _], _ => rfl
  have F26 := fun_mk (st := s_law_worded) l26 c26 k26
  have b26 := F26.binds (ps := ["_law_step_here"]) fun _ _ _ _ _ _ us hl => match us, hl with | [_], _ => rfl
  have F27 := fun_mk (st := s_law_there_and_back) l27 c27 k27
  have b27 := F27.binds (ps := ["_law_cell"]) fun _ _ _ _ _ _ us hl => match us, hl with | [_], _ => rfl
  have F28 := fun_mk (st := s_law_short) l28 c28 k28
  have b28 := F28.binds (ps := ["_law_made", "_law_steps"]) fun _ _ _ _ _ _ us hl => match us, hl with | [_, _], _ => rfl
  have F29 := fun_mk (st := s_law_anew) l29 c29 k29
  have b29 := F29.binds (ps := ["_law_steps", "_law_cell"]) fun _ _ _ _ _ _ us hl => match us, hl with | [_, _], _ => rfl
  have F30 := fun_mk (st := s_law) l30 c30 k30
  have b30 := F30.binds (ps := ["_law_script"]) fun _ _ _ _ _ _ us hl => match us, hl with | [_], _ => rfl
  have z_tuple := PySem.W.mg_none_of X G z0
  have z_list := PySem.W.mg_none_of X G z1
  have z_range := PySem.W.mg_none_of X G z2
  have z_len := PySem.W.mg_none_of X G z3
  have z_isinstance := PySem.W.mg_none_of X G z4
  have z_int := PySem.W.mg_none_of X G z5
  have z_bool := PySem.W.mg_none_of X G z6
  have z_min := PySem.W.mg_none_of X G z7
  have z_max := PySem.W.mg_none_of X G z8
  refine ⟨PySem.W.fnOf "law" "law" (defArgs s_law) (defBody s_law) (defScope s_law) .none kV30 dc30 pm30 an30 cd30 ct30, fun s v => .of_eq rfl, fun base _ _ => ?_⟩
  have C_check_price := cal_check_price (P := l.prog) (w := w) (base := base) F0 b0 (PySem.W.mg_of X G a0)
  have C_common_divisor := cal_common_divisor (P := l.prog) (w := w) (base := base) F1 b1 (PySem.W.mg_of X G a1)
  have C_prime_factors := cal_prime_factors (P := l.prog) (w := w) (base := base) F3 b3 (PySem.W.mg_of X G a3)
  have C_rounded := cal_rounded (P := l.prog) (w := w) (base := base) F5 b5 (PySem.W.mg_of X G a5)
  have C_Flat___init__ := cal_Flat___init__ (P := l.prog) (w := w) (base := base) F8 b8 (by rw [eC_Flat]; exact ⟨mk_Flat, a8, i8, kc_Flat⟩) T_Flat
  have C_repeats := cal_repeats (P := l.prog) (w := w) (base := base) F14 b14 (PySem.W.mg_of X G a14) z_range z_len
  have C_law_at := cal_law_at (P := l.prog) (w := w) (base := base) F17 b17 (PySem.W.mg_of X G a17) z_len
  have C_law_whole := cal_law_whole (P := l.prog) (w := w) (base := base) F19 b19 (PySem.W.mg_of X G a19) z_isinstance z_int z_bool
  have C_law_gcd := cal_law_gcd (P := l.prog) (w := w) (base := base) F20 b20 (PySem.W.mg_of X G a20)
  have C_law_step := cal_law_step (P := l.prog) (w := w) (base := base) F21 b21 (PySem.W.mg_of X G a21)
  have C_law_num := cal_law_num (P := l.prog) (w := w) (base := base) F22 b22 (PySem.W.mg_of X G a22)
  have C_law_worded := cal_law_worded (P := l.prog) (w := w) (base := base) F26 b26 (PySem.W.mg_of X G a26)
  have C_law_there_and_back := cal_law_there_and_back (P := l.prog) (w := w) (base := base) F27 b27 (PySem.W.mg_of X G a27)
  have C_lowest := cal_lowest (P := l.prog) (w := w) (base := base) F2 b2 (PySem.W.mg_of X G a2) C_common_divisor
  have C_Flat_end := cal_Flat_end (P := l.prog) (w := w) (base := base) F9 b9 (by rw [eC_Flat]; exact ⟨a9, i9, k9⟩) T_Flat C_check_price
  have C_least_cycle := cal_least_cycle (P := l.prog) (w := w) (base := base) F13 b13 (PySem.W.mg_of X G a13) z_len C_prime_factors C_repeats
  have C_law_draw := cal_law_draw (P := l.prog) (w := w) (base := base) F18 b18 (PySem.W.mg_of X G a18) C_law_at
  have C_law_own := cal_law_own (P := l.prog) (w := w) (base := base) F23 b23 (PySem.W.mg_of X G a23) C_law_gcd C_law_num
  have C_share := cal_share (P := l.prog) (w := w) (base := base) F4 b4 (PySem.W.mg_of X G a4) C_lowest
  have C_law_product := cal_law_product (P := l.prog) (w := w) (base := base) F24 b24 (PySem.W.mg_of X G a24) C_law_own
  have C_after := cal_after (P := l.prog) (w := w) (base := base) F6 b6 (PySem.W.mg_of X G a6) C_share C_rounded
  have C_own_cycle := cal_own_cycle (P := l.prog) (w := w) (base := base) F7 b7 (PySem.W.mg_of X G a7) C_share C_common_divisor
  have C_law_chain := cal_law_chain (P := l.prog) (w := w) (base := base) F25 b25 (PySem.W.mg_of X G a25) z_range z_min C_law_draw C_law_step C_law_at C_law_product
  have C_law_short := cal_law_short (P := l.prog) (w := w) (base := base) F28 b28 (PySem.W.mg_of X G a28) z_list z_len C_law_product
  have C_some_cycle := cal_some_cycle (P := l.prog) (w := w) (base := base) F11 b11 (PySem.W.mg_of X G a11) C_own_cycle C_common_divisor
  have C_first_ends := cal_first_ends (P := l.prog) (w := w) (base := base) F12 b12 (PySem.W.mg_of X G a12) z_list z_range C_after
  have C_law_anew := cal_law_anew (P := l.prog) (w := w) (base := base) F29 b29 (PySem.W.mg_of X G a29) z_len z_list z_max C_law_short C_law_worded C_law_there_and_back
  have C_flatten := cal_flatten (P := l.prog) (w := w) (base := base) F10 b10 (PySem.W.mg_of X G a10) T_Flat z_tuple C_some_cycle C_first_ends C_least_cycle C_Flat___init__
  have C_parting := cal_parting (P := l.prog) (w := w) (base := base) F15 b15 (PySem.W.mg_of X G a15) T_Flat z_range C_flatten C_Flat_end
  have C_alike := cal_alike (P := l.prog) (w := w) (base := base) F16 b16 (PySem.W.mg_of X G a16) C_parting
  exact ok_law F30 z_list z_range z_len C_law_chain C_parting C_law_anew C_law_whole C_law_draw C_alike
theorem walk {l : PySem.W.OpenLaw} {q : Program} {loose : List Str} {XP : (Str → Option Value) → Heap → Prop} {YP : World → Heap → Prop} {d : DefRec} {K : Params → PySem.W.Frag} (hn : l.most = some 63) (hdf : d.params.defaults = [])
    (hY : ∀ (w : World) (h : Heap), YP w h → (K w.params).In h)
    (F : ∀ (w : World) (mg : Str → Option Value) (fa : Addr) (h : Heap), (K w.params).In h → h.Ns mainGlobals mg → mg d.name = some (.ref fa) →
      ∃ fd : FuncData, (∀ (s : Shared) (u : Value), BindsTo s fd ⟨[u], []⟩ [("_law_script", u)]) ∧ ∀ base : Heap, (K w.params).In base → base.Ns mainGlobals mg → FnOk l.prog w (K w.params) mg base CX0 9 fa fd ["_law_script"] (sp_law (K w.params))) :
    PySem.W.WalkO q loose XP YP l.row.toRowW d [] (fun f vs => PySem.call f vs) :=
  L2.walk_ofB (n := 63) (k := 9) (x := "_law_script") (CX := fun _ => CX0) (sp := fun w => sp_law (K w.params)) hn (by decide) hdf ⟨rfl, by decide, by decide⟩ hY F (fun _ _ a ns hl hb _ hS => ⟨a, ns, rfl, hS, hl, hb, fun _ => rfl⟩) fun _ _ _ _ _ z => z
end My
open PySem PySem.W PyProof.Rows
set_option maxRecDepth 100000 in
set_option maxHeartbeats 0 in
theorem PySem.Challenge.cw_roundprice_k18_rewritten_holds : PySem.Challenge.rw_roundprice_k18_rewritten.Holds := by
  w_on; o_law; k_head; (case hw => w_witness2)
  k_fill
  refine My.walk (l := PySem.Challenge.rw_roundprice_k18_rewritten) rfl rfl (fun w h Y => PySem.W.kIn_of Y) ?F
  case F =>
    intro w mg fa h KX G hmg
    refine' My.all_mk KX G hmg ?aC_Flat ?pg_Flat ?hd_Flat ?po_Flat ?sa_Flat ?mk_Flat ?kc_Flat ?ha_Flat ?hn_Flat ?htk_Flat ?hm_Flat ?nf_Flat_cycle ?nf_Flat_rise ?nf_Flat_ends ?a0 ?l0 ?c0 ?k0 ?a1 ?l1 ?c1 ?k1 ?a2 ?l2 ?c2 ?k2 ?a3 ?l3 ?c3 ?k3 ?a4 ?l4 ?c4 ?k4 ?a5 ?l5 ?c5 ?k5 ?a6 ?l6 ?c6 ?k6 ?a7 ?l7 ?c7 ?k7 ?a8 ?i8 ?l8 ?c8 ?k8 ?a9 ?i9 ?l9 ?c9 ?k9 ?a10 ?l10 ?c10 ?k10 ?a11 ?l11 ?c11 ?k11 ?a12 ?l12 ?c12 ?k12 ?a13 ?l13 ?c13 ?k13 ?a14 ?l14 ?c14 ?k14 ?a15 ?l15 ?c15 ?k15 ?a16 ?l16 ?c16 ?k16 ?a17 ?l17 ?c17 ?k17 ?a18 ?l18 ?c18 ?k18 ?a19 ?l19 ?c19 ?k19 ?a20 ?l20 ?c20 ?k20 ?a21 ?l21 ?c21 ?k21 ?a22 ?l22 ?c22 ?k22 ?a23 ?l23 ?c23 ?k23 ?a24 ?l24 ?c24 ?k24 ?a25 ?l25 ?c25 ?k25 ?a26 ?l26 ?c26 ?k26 ?a27 ?l27 ?c27 ?k27 ?a28 ?l28 ?c28 ?k28 ?a29 ?l29 ?c29 ?k29 ?a30 ?l30 ?c30 ?k30 ?z0 ?z1 ?z2 ?z3 ?z4 ?z5 ?z6 ?z7 ?z8
    (case aC_Flat => k_is)
    (case pg_Flat => k_is)
    (case hd_Flat => k_is)
    (case po_Flat => k_is)
    (case sa_Flat => k_is)
    (case mk_Flat => k_is)
    (case kc_Flat => k_is)
    (case ha_Flat => k_is)
    (case hn_Flat => k_is)
    (case htk_Flat => k_is)
    (case hm_Flat => k_is)
    (case nf_Flat_cycle => k_is)
    (case nf_Flat_rise => k_is)
    (case nf_Flat_ends => k_is)
    (case a0 => k_is)
    (case l0 => k_is)
    (case c0 => k_is)
    (case k0 => k_is)
    (case a1 => k_is)
    (case l1 => k_is)
    (case c1 => k_is)
    (case k1 => k_is)
    (case a2 => k_is)
    (case l2 => k_is)
    (case c2 => k_is)
    (case k2 => k_is)
    (case a3 => k_is)
    (case l3 => k_is)
    (case c3 => k_is)
    (case k3 => k_is)
    (case a4 => k_is)
    (case l4 => k_is)
    (case c4 => k_is)
    (case k4 => k_is)
    (case a5 => k_is)
    (case l5 => k_is)
    (case c5 => k_is)
    (case k5 => k_is)
    (case a6 => k_is)
    (case l6 => k_is)
    (case c6 => k_is)
    (case k6 => k_is)
    (case a7 => k_is)
    (case l7 => k_is)
    (case c7 => k_is)
    (case k7 => k_is)
    (case a8 => k_is)
    (case i8 => k_is)
    (case l8 => k_is)
    (case c8 => k_is)
    (case k8 => k_is)
    (case a9 => k_is)
    (case i9 => k_is)
    (case l9 => k_is)
    (case c9 => k_is)
    (case k9 => k_is)
    (case a10 => k_is)
    (case l10 => k_is)
    (case c10 => k_is)
    (case k10 => k_is)
    (case a11 => k_is)
    (case l11 => k_is)
    (case c11 => k_is)
    (case k11 => k_is)
    (case a12 => k_is)
    (case l12 => k_is)
    (case c12 => k_is)
    (case k12 => k_is)
    (case a13 => k_is)
    (case l13 => k_is)
    (case c13 => k_is)
    (case k13 => k_is)
    (case a14 => k_is)
    (case l14 => k_is)
    (case c14 => k_is)
    (case k14 => k_is)
    (case a15 => k_is)
    (case l15 => k_is)
    (case c15 => k_is)
    (case k15 => k_is)
    (case a16 => k_is)
    (case l16 => k_is)
    (case c16 => k_is)
    (case k16 => k_is)
    (case a17 => k_is)
    (case l17 => k_is)
    (case c17 => k_is)
    (case k17 => k_is)
    (case a18 => k_is)
    (case l18 => k_is)
    (case c18 => k_is)
    (case k18 => k_is)
    (case a19 => k_is)
    (case l19 => k_is)
    (case c19 => k_is)
    (case k19 => k_is)
    (case a20 => k_is)
    (case l20 => k_is)
    (case c20 => k_is)
    (case k20 => k_is)
    (case a21 => k_is)
    (case l21 => k_is)
    (case c21 => k_is)
    (case k21 => k_is)
    (case a22 => k_is)
    (case l22 => k_is)
    (case c22 => k_is)
    (case k22 => k_is)
    (case a23 => k_is)
    (case l23 => k_is)
    (case c23 => k_is)
    (case k23 => k_is)
    (case a24 => k_is)
    (case l24 => k_is)
    (case c24 => k_is)
    (case k24 => k_is)
    (case a25 => k_is)
    (case l25 => k_is)
    (case c25 => k_is)
    (case k25 => k_is)
    (case a26 => k_is)
    (case l26 => k_is)
    (case c26 => k_is)
    (case k26 => k_is)
    (case a27 => k_is)
    (case l27 => k_is)
    (case c27 => k_is)
    (case k27 => k_is)
    (case a28 => k_is)
    (case l28 => k_is)
    (case c28 => k_is)
    (case k28 => k_is)
    (case a29 => k_is)
    (case l29 => k_is)
    (case c29 => k_is)
    (case k29 => k_is)
    (case a30 => k_is)
    (case l30 => k_is)
    (case c30 => k_is)
    (case k30 => k_is)
    (case z0 => k_is)
    (case z1 => k_is)
    (case z2 => k_is)
    (case z3 => k_is)
    (case z4 => k_is)
    (case z5 => k_is)
    (case z6 => k_is)
    (case z7 => k_is)
    (case z8 => k_is)
#print axioms PySem.Challenge.cw_roundprice_k18_rewritten_holds
