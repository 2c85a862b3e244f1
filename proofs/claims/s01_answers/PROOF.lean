import PyProof.Rows.All
import Wide.All
import OpenK.AllK
import Wide.FinOn
import PyProof.EqAt
import PyProof.EqKinds
import PyProof.TupleCall
import KE.BitLaws
import Open.SpecLaws
import KE.OsHead
import KE.OsGo
import KE.SpHead
import KE.OsShapes
import PyProof.ZipIter
import PySem.Challenge.RW_gaugeclock_s01_answers
section
set_option Elab.async false
set_option linter.all false
set_option bootstrap.genMatcherCode false
set_option genSizeOf false
set_option maxRecDepth 100000
/-! THE HAND LAYER, for ints, bools, texts, own classes, lists, tuples, dicts, comprehensions, walks over dicts, enumerate, zip, reversed, texts, calls, loops. Paste it whole ahead of your own text; what your proof does not reach may be deleted. -/
namespace L2
open PySem PySem.Spec PyProof.Rows

/-- a key: an int or a str -/
noncomputable abbrev Key := Sum Int Str
noncomputable def keyIs : Key → Value → Bool
  | .inl k, v => Value.isInt k v
  | .inr x, v => Value.isStrOf x v
noncomputable def keyH (w : World) : Key → Int
  | .inl k => hashInt k
  | .inr x => hashStr w x
theorem keyIs_shape : ∀ {k : Key} {v : Value}, keyIs k v = true → (∃ i t, k = Sum.inl i ∧ v = Value.int i t) ∨ (∃ x t, k = Sum.inr x ∧ v = Value.str x t)
  | .inl i, v, h => by
    obtain ⟨t, e⟩ := Value.isInt_shape (k := i) (v := v) h
    exact .inl ⟨i, t, rfl, e⟩
  | .inr x, v, h => by
    obtain ⟨t, e⟩ := Value.isStrOf_shape (x := x) (v := v) h
    exact .inr ⟨x, t, rfl, e⟩
theorem key_ll (a b : Int) : decide ((Sum.inl a : Key) = Sum.inl b) = (a == b) := by
  by_cases e : a = b
  · subst e; simp
  · have h : ¬ (Sum.inl a : Key) = Sum.inl b := fun q => e (Sum.inl.inj q)
    rw [decide_eq_false h]
    exact (beq_eq_false_iff_ne.mpr e).symm
theorem key_rr (a b : Str) : decide ((Sum.inr a : Key) = Sum.inr b) = decide (a = b) := by
  by_cases e : a = b
  · subst e; simp
  · have h : ¬ (Sum.inr a : Key) = Sum.inr b := fun q => e (Sum.inr.inj q)
    rw [decide_eq_false h, decide_eq_false e]
theorem key_lr (a : Int) (b : Str) : decide ((Sum.inl a : Key) = Sum.inr b) = false := decide_eq_false (fun q => nomatch q)
theorem key_rl (a : Str) (b : Int) : decide ((Sum.inr a : Key) = Sum.inl b) = false := decide_eq_false (fun q => nomatch q)

noncomputable def mixKind (prog : Program) (w : World) : PySem.KeyKind prog w Key where
  is := keyIs
  hash := keyH w
  inj := fun v a b ha hb => by
    rcases keyIs_shape ha with ⟨i, t, rfl, rfl⟩ | ⟨x, t, rfl, rfl⟩
    · rcases keyIs_shape hb with ⟨j, u, rfl, e⟩ | ⟨y, u, rfl, e⟩
      · injection e with e1 _; rw [e1]
      · exact nomatch e
    · rcases keyIs_shape hb with ⟨j, u, rfl, e⟩ | ⟨y, u, rfl, e⟩
      · exact nomatch e
      · injection e with e1 _; rw [e1]
  byValue := fun k v h => by
    rcases keyIs_shape h with ⟨i, t, rfl, rfl⟩ | ⟨x, t, rfl, rfl⟩ <;> rfl
  pyHash := fun hv h => by
    rcases keyIs_shape hv with ⟨i, t, rfl, rfl⟩ | ⟨x, t, rfl, rfl⟩
    · exact wpAny_pyHash_int h
    · exact wpAny_pyHash_str h
  eqBool := fun hu hv h => by
    rcases keyIs_shape hu with ⟨i, t, rfl, rfl⟩ | ⟨x, t, rfl, rfl⟩
    · rcases keyIs_shape hv with ⟨j, u, rfl, rfl⟩ | ⟨y, u, rfl, rfl⟩
      · rw [key_ll] at h; exact wpAny_eqBool_int h
      · rw [key_lr] at h; exact SeqAt.EqAt.int_str i t y u _ _ _ _ h
    · rcases keyIs_shape hv with ⟨j, u, rfl, rfl⟩ | ⟨y, u, rfl, rfl⟩
      · rw [key_rl] at h; exact SeqAt.EqAt.str_int x t j u _ _ _ _ h
      · rw [key_rr] at h; exact wpAny_eqBool_str h
  «strs» := fun k x t v h => by
    rcases keyIs_shape h with ⟨i, u, rfl, e⟩ | ⟨y, u, rfl, e⟩
    · exact nomatch e
    · injection e with e1 _
      subst e1
      cases v <;> rfl

end L2

namespace L2
open PySem PySem.Spec PyProof.Rows

/-- a value, without the heap -/
inductive V where
  | non | bl (b : Bool) | int (i : Int) | str (x : Str) | byt (b : Array UInt8) | flt (b : UInt64) | ref (a : Addr) | ty (n : String)
  deriving DecidableEq

noncomputable def RelV : V → Value → Prop
  | .non, u => u = Value.none
  | .bl b, u => u = Value.bool b
  | .int i, u => ∃ t, u = Value.int i t
  | .str x, u => ∃ t, u = Value.str x t
  | .byt b, u => ∃ t, u = Value.bytes b t
  | .flt b, u => ∃ t, u = Value.float b t
  | .ref a, u => u = Value.ref a
  | .ty n, u => u = Value.type n

noncomputable abbrev Vals : List V → List Value → Prop := Paired RelV
theorem Vals.length {xs : List V} {us : List Value} (r : Vals xs us) : xs.length = us.length := Paired.length r
theorem Vals.get : ∀ {xs : List V} {us : List Value} {i : Nat} {x : V}, Vals xs us → xs[i]? = some x → ∃ u, us[i]? = some u ∧ RelV x u
  | _, _, _, _, .nil, e => by simp at e
  | _, _, 0, _, .cons r _, e => by simp at e; subst e; exact ⟨_, rfl, r⟩
  | _, _, i + 1, x, .cons _ t, e => by
    obtain ⟨u, h1, h2⟩ := Vals.get (i := i) (x := x) t (by simpa using e)
    exact ⟨u, by simpa using h1, h2⟩
theorem Vals.append : ∀ {xs ys : List V} {us ws : List Value}, Vals xs us → Vals ys ws → Vals (xs ++ ys) (us ++ ws)
  | _, _, _, _, .nil, s => s
  | _, _, _, _, .cons r t, s => .cons r (Vals.append t s)
theorem Vals.take : ∀ {xs : List V} {us : List Value} (n : Nat), Vals xs us → Vals (xs.take n) (us.take n)
  | _, _, 0, _ => .nil
  | _, _, _ + 1, .nil => .nil
  | _, _, n + 1, .cons r t => .cons r (Vals.take n t)
theorem Vals.drop : ∀ {xs : List V} {us : List Value} (n : Nat), Vals xs us → Vals (xs.drop n) (us.drop n)
  | _, _, 0, r => r
  | _, _, _ + 1, .nil => .nil
  | _, _, n + 1, .cons _ t => Vals.drop n t
noncomputable def RelO : Option V → Option Value → Prop
  | some v, some u => RelV v u
  | none, none => True
  | _, _ => False
noncomputable def KV {κ : Type} : List (κ × V) → List (κ × Value) → Prop := Paired fun (p : κ × V) (q : κ × Value) => p.1 = q.1 ∧ RelV p.2 q.2

/-- a key of a dict (00_mix): an int or a text -/
noncomputable def kV : Key → V
  | .inl i => .int i
  | .inr x => .str x

/-- what stands at a tracked address -/
inductive HO where
  /-- a list -/
  | lst (xs : List V)
  /-- a tuple (never changes) -/
  | tup (xs : List V)
  /-- a dict whose keys are ints and texts; one whose keys are tuples of ints and texts (the empty one is both) -/
  | dK (kvs : List (Key × V)) | dT (kvs : List (List Key × V))
  /-- a set of ints: its members, its size -/
  | set (S : Int → Bool) (n : Nat)
  /-- an instance of the class at C, its dict at dx, its attributes -/
  | ins (C dx : Addr) (fs : List (Str × V))
  /-- the dict of the instance at x -/
  | own (x : Addr)
  /-- the dict of an exception -/
  | xd (fs : List (Str × V))
  /-- a bound method, f of x -/
  | met (f x : Addr)
  /-- a range object lo, lo + 1, .. below hi -/
  | rng (lo hi : Int)
  /-- a thing that is known to the object (the script; a dict while a loop walks it): read, never written while it is so -/
  | frz (o : Obj) (u : HO)
  /-- a code object's table -/
  | tbl (ps : Array Value)
  /-- any other thing, by what is true of its one object (a def of one's own: SetO a S n := HO.ext fun h => ..) -/
  | ext (φ : Heap → Prop)

noncomputable abbrev Hp := Addr → Option HO
noncomputable def upd (H : Hp) (a : Addr) (o : HO) : Hp := fun b => if b = a then some o else H b
theorem upd_same {H : Hp} {a : Addr} {o : HO} : upd H a o a = some o := by unfold upd; rw [if_pos rfl]
theorem upd_ne {H : Hp} {a b : Addr} {o : HO} (h : b ≠ a) : upd H a o b = H b := by unfold upd; rw [if_neg h]
/-- two objects of different content stand apart -/
theorem ne_of {H : Hp} {a b : Addr} {o u : HO} (h : H a = some o) (h' : H b = some u) (d : o ≠ u) : a ≠ b := by
  intro e; subst e; rw [h] at h'; exact d (Option.some.inj h')
theorem ne_of_none {H : Hp} {a b : Addr} {o : HO} (h : H a = some o) (h' : H b = none) : a ≠ b := by
  intro e; subst e; rw [h] at h'; cases h'

section
variable (P : Program) (w : World)
noncomputable def ObjOk (H : Hp) (h : Heap) (a : Addr) : HO → Prop
  | .lst xs => xs.length ≤ sizeLine ∧ ∃ (its : List Value) (n : Nat), Vals xs its ∧ h.get? a = some { cls := .type "list", data := .seq its.toArray n }
  | .tup xs => xs.length ≤ sizeLine ∧ ∃ its : List Value, Vals xs its ∧ IsTup h a its.toArray
  | .dK kvs => kvs.length ≤ sizeLine ∧ (a == sysModules) = false ∧ ∃ vs, KV kvs vs ∧ h.DictOf (mixKind P w) a vs
  | .dT kvs => kvs.length ≤ sizeLine ∧ (a == sysModules) = false ∧ ∃ xs : List (List Key × Addr × Value),
      Paired (fun (p : List Key × V) (q : List Key × Addr × Value) => p.1 = q.1 ∧ H q.2.1 = some (.tup (p.1.map kV)) ∧ RelV p.2 q.2.2) kvs xs ∧
      ∃ o es ep, h.get? a = some o ∧ o.ExactDict ∧ o.data = .dict es ep ∧ es.toList = xs.map (entryOfKey (tupleKind (mixKind P w))) ∧ (xs.map (·.1)).Nodup
  | .set S n => h.SetOf (intKind P w) a S n
  | .ins C dx fs => H dx = some (.own a) ∧ fs.length ≤ 1000 ∧ dx ≠ a ∧ h.get? a = some (PySem.W.instObj C dx) ∧
      ∃ mA, h.Ns1 dx mA ∧ (∀ f, RelO (fs.lookup f) (mA f)) ∧ PySem.Within mA (fs.map (·.1))
  | .own _ => ∃ o, h.get? a = some o
  | .xd fs => ∃ mA, h.Ns1 a mA ∧ ∀ f, RelO (fs.lookup f) (mA f)
  | .rng lo hi => ∃ t u v, h.get? a = some { cls := .type "range", data := .fields #[.int lo t, .int hi u, .int 1 v] }
  | .frz o u => h.get? a = some o ∧ ObjOk H h a u
  | .tbl ps => h.get? a = some { cls := .none, data := .fields ps }
  | .met f x => h.get? a = some (PySem.W.methodObj (.ref f) (.ref x))
  | .ext φ => φ h ∧ (∃ o, h.get? a = some o) ∧ ∀ h1 h2 : Heap, φ h1 → (∀ o, h1.get? a = some o → h2.get? a = some o) → φ h2
/-- the abstract heap is held -/
noncomputable def HOk (H : Hp) (h : Heap) : Prop := ∀ a o, H a = some o → ObjOk P w H h a o
end

section
variable {P : Program} {w : World} {H H' : Hp} {h h' : Heap} {a : Addr} {o : HO}
theorem ObjOk.lt (x : ObjOk P w H h a o) : a < h.objs.size := by
  cases o with
  | lst xs => obtain ⟨_, _, _, _, e⟩ := x; exact Heap.lt_size e
  | tup xs => obtain ⟨_, _, _, p⟩ := x; exact p.lt
  | dK kvs => obtain ⟨_, _, _, _, o, _, _, e, _⟩ := x; exact Heap.lt_size e
  | dT kvs => obtain ⟨_, _, _, _, o, _, _, e, _⟩ := x; exact Heap.lt_size e
  | set S n => obtain ⟨o, _, _, _, e, _⟩ := x; exact Heap.lt_size e
  | ins C dx fs => obtain ⟨_, _, _, e, _⟩ := x; exact Heap.lt_size e
  | own y => obtain ⟨_, e⟩ := x; exact Heap.lt_size e
  | xd fs => obtain ⟨_, ⟨_, _, _, e, _⟩, _⟩ := x; exact Heap.lt_size e
  | rng lo hi => obtain ⟨_, _, _, e⟩ := x; exact Heap.lt_size e
  | frz ob u => obtain ⟨e, _⟩ := x; exact Heap.lt_size e
  | tbl ps => exact Heap.lt_size (show h.get? a = some _ from x)
  | met f y => exact Heap.lt_size (show h.get? a = some _ from x)
  | ext φ => obtain ⟨_, ⟨_, e⟩, _⟩ := x; exact Heap.lt_size e
theorem Paired.mapP {α β : Type} {F G : α → β → Prop} : ∀ {l₁ : List α} {l₂ : List β}, Paired F l₁ l₂ → (∀ a b, F a b → G a b) → Paired G l₁ l₂
  | _, _, .nil, _ => .nil
  | _, _, .cons r t, f => .cons (f _ _ r) (Paired.mapP t f)
/-- what an object's description leans on: its own object, its own dict, the tuples -/
theorem ObjOk.stay (x : ObjOk P w H h a o) (k : ∀ b u, (b = a ∨ H b = some (.own a)) → h.get? b = some u → h'.get? b = some u)
    (ho : ∀ b, H b = some (.own a) → H' b = some (.own a)) (ht : ∀ b xs, H b = some (.tup xs) → H' b = some (.tup xs)) : ObjOk P w H' h' a o := by
  induction o with
  | lst xs => obtain ⟨z, its, n, r, e⟩ := x; exact ⟨z, its, n, r, k _ _ (.inl rfl) e⟩
  | tup xs => obtain ⟨z, its, r, ob, e, c⟩ := x; exact ⟨z, its, r, ob, k _ _ (.inl rfl) e, c⟩
  | dK kvs => obtain ⟨z, y, vs, r, ob, es, ep, e, c⟩ := x; exact ⟨z, y, vs, r, ob, es, ep, k _ _ (.inl rfl) e, c⟩
  | dT kvs =>
    obtain ⟨z, y, xs, r, ob, es, ep, e, c⟩ := x
    exact ⟨z, y, xs, Paired.mapP r fun p q z => ⟨z.1, ht _ _ z.2.1, z.2.2⟩, ob, es, ep, k _ _ (.inl rfl) e, c⟩
  | set S n => obtain ⟨ob, es, ep, t, e, c⟩ := x; exact ⟨ob, es, ep, t, k _ _ (.inl rfl) e, c⟩
  | ins C dx fs =>
    obtain ⟨d, z, ne, e, mA, ⟨od, es, ep, e2, c⟩, r⟩ := x
    exact ⟨ho _ d, z, ne, k _ _ (.inl rfl) e, mA, ⟨od, es, ep, k _ _ (.inr d) e2, c⟩, r⟩
  | own y => obtain ⟨ob, e⟩ := x; exact ⟨ob, k _ _ (.inl rfl) e⟩
  | xd fs => obtain ⟨mA, ⟨od, es, ep, e, c⟩, r⟩ := x; exact ⟨mA, ⟨od, es, ep, k _ _ (.inl rfl) e, c⟩, r⟩
  | rng lo hi => obtain ⟨t, u, v, e⟩ := x; exact ⟨t, u, v, k _ _ (.inl rfl) e⟩
  | frz ob u ih => obtain ⟨e, q⟩ := x; exact ⟨k _ _ (.inl rfl) e, ih q⟩
  | tbl ps =>
    have e : h.get? a = some { cls := .none, data := .fields ps } := x
    show h'.get? a = some { cls := .none, data := .fields ps }
    exact k a _ (.inl rfl) e
  | met f y =>
    have e : h.get? a = some (PySem.W.methodObj (.ref f) (.ref y)) := x
    show h'.get? a = some (PySem.W.methodObj (.ref f) (.ref y))
    exact k a _ (.inl rfl) e
  | ext φ => obtain ⟨p, ⟨o, e⟩, st⟩ := x; exact ⟨st _ _ p fun o q => k _ _ (.inl rfl) q, ⟨o, k _ _ (.inl rfl) e⟩, st⟩
theorem HOk.lt (x : HOk P w H h) (e : H a = some o) : a < h.objs.size := (x a o e).lt
theorem HOk.fresh (x : HOk P w H h) (e : h.objs.size ≤ a) : H a = none := by
  cases q : H a with
  | none => rfl
  | some u => exact absurd (Nat.lt_of_lt_of_le (x.lt q) e) (Nat.lt_irrefl _)
/-- every object of the heap is kept -/
theorem HOk.kept (x : HOk P w H h) (k : ∀ b u, h.get? b = some u → h'.get? b = some u) : HOk P w H h' := fun a o e =>
  (x a o e).stay (fun b u _ q => k b u q) (fun _ q => q) fun _ _ q => q
/-- a new object is laid and tracked -/
theorem HOk.laid (x : HOk P w H h) (k : ∀ b u, h.get? b = some u → h'.get? b = some u) (hp : h.objs.size ≤ a) (new : ObjOk P w (upd H a o) h' a o) : HOk P w (upd H a o) h' := fun b u e => by
  have hn := x.fresh hp
  by_cases hb : b = a
  · subst hb; rw [upd_same] at e; cases e; exact new
  · rw [upd_ne hb] at e
    exact (x b u e).stay (fun c v _ q => k c v q) (fun c q => by rw [upd_ne (ne_of_none q hn)]; exact q) fun c xs q => by rw [upd_ne (ne_of_none q hn)]; exact q
end

/-- what may be read as u: it is u, or a known u -/
noncomputable def Rd (H : Hp) (a : Addr) (u : HO) : Prop := H a = some u ∨ ∃ o, H a = some (.frz o u)
theorem Rd.ok {P : Program} {w : World} {H : Hp} {h : Heap} {a : Addr} {u : HO} (r : Rd H a u) (x : HOk P w H h) : ObjOk P w H h a u := by
  rcases r with r | ⟨o, r⟩
  · exact x a u r
  · obtain ⟨_, q⟩ := x a _ r
    exact q
/-- what may be written -/
noncomputable def Mut : Option HO → Prop
  | some (.lst _) => True
  | some (.dK _) => True
  | some (.dT _) => True
  | some (.set _ _) => True
  | some (.ins _ _ _) => True
  | some (.ext _) => True
  | _ => False
section
variable {P : Program} {w : World} {H : Hp} {h h' : Heap} {x e : Addr} {o' : HO}
/-- the object at e is changed: x itself, or the dict of the instance x -/
theorem HOk.write (ok : HOk P w H h) (mu : Mut (H x)) (he : e = x ∨ H e = some (.own x)) (k : ∀ b u, b ≠ e → h.get? b = some u → h'.get? b = some u) (heo : ∃ u, h'.get? e = some u)
    (new : ObjOk P w (upd H x o') h' x o') : HOk P w (upd H x o') h' := fun b u q => by
  have nown : ∀ c y, H c = some (.own y) → c ≠ x := fun c y r z => by subst z; rw [r] at mu; exact mu
  have ntup : ∀ c xs, H c = some (.tup xs) → c ≠ x := fun c xs r z => by subst z; rw [r] at mu; exact mu
  by_cases hb : b = x
  · subst hb; rw [upd_same] at q; cases q; exact new
  · rw [upd_ne hb] at q
    by_cases hbe : b = e
    · have q' : H b = some (.own x) := by
        rcases he with z | z
        · exact absurd (hbe.trans z) hb
        · rw [hbe]; exact z
      rw [q] at q'; cases q'
      obtain ⟨v, hv⟩ := heo
      exact ⟨v, by rw [hbe]; exact hv⟩
    · refine (ok b u q).stay (fun c v hc r => k c v ?_ r) (fun c r => by rw [upd_ne (nown c b r)]; exact r) fun c xs r => by rw [upd_ne (ntup c xs r)]; exact r
      rcases hc with rfl | hc
      · exact hbe
      · rintro rfl
        rcases he with z | z
        · exact nown c b hc z
        · rw [hc] at z; cases z; exact hb rfl
end

/-! ### kept unless tracked; of the frames at fs (the callers') the slots may change (an exception that passes writes there); of the records at ex (iterators) nothing is said -/
structure Un (fs ex : List Addr) (H H' : Hp) (h h' : Heap) : Prop where
  keep : ∀ b o, h.get? b = some o → H b = none → b ∉ fs → b ∉ ex → h'.get? b = some o
  slot : ∀ b o, h.get? b = some o → H b = none → b ∈ fs → b ∉ ex → ∃ sl, h'.get? b = some { o with slots := sl }
  free : ∀ b o, h.get? b = some o → H b = none → b ∉ ex → H' b = none
  there : ∀ b o, h.get? b = some o → b ∉ ex → ∃ o', h'.get? b = some o'
  tups : ∀ b xs, H b = some (.tup xs) → H' b = some (.tup xs)
  frzs : ∀ b o u, H b = some (.frz o u) → H' b = some (.frz o u)
  tbls : ∀ b ps, H b = some (.tbl ps) → ∃ more, H' b = some (.tbl (ps ++ more))
section
variable {fs fs' ex ex' : List Addr} {H H1 H2 : Hp} {h h1 h2 h' : Heap} {a x e : Addr} {o : HO}
theorem Un.any (u : Un fs ex H H1 h h1) {b : Addr} {ob : Obj} (q : h.get? b = some ob) (n : H b = none) (hx : b ∉ ex) : ∃ sl, h1.get? b = some { ob with slots := sl } := by
  by_cases hb : b ∈ fs
  · exact u.slot b ob q n hb hx
  · exact ⟨ob.slots, u.keep b ob q n hb hx⟩
theorem Un.kept (k : ∀ b u, h.get? b = some u → h'.get? b = some u) : Un fs ex H H h h' :=
  ⟨fun b ob q _ _ _ => k b ob q, fun b ob q _ _ _ => ⟨ob.slots, k b ob q⟩, fun _ _ _ n _ => n, fun b ob q _ => ⟨ob, k b ob q⟩, fun _ _ q => q, fun _ _ _ q => q, fun _ ps q => ⟨#[], by rw [q]; simp⟩⟩
theorem Un.refl : Un fs ex H H h h := Un.kept fun _ _ q => q
theorem Un.laid (k : ∀ b u, h.get? b = some u → h'.get? b = some u) (hp : h.objs.size ≤ a) (hn : H a = none) : Un fs ex H (upd H a o) h h' where
  keep := fun b u q _ _ _ => k b u q
  slot := fun b u q _ _ _ => ⟨u.slots, k b u q⟩
  free := fun b u q n _ => by rw [upd_ne (Nat.ne_of_lt (Nat.lt_of_lt_of_le (Heap.lt_size q) hp))]; exact n
  there := fun b u q _ => ⟨u, k b u q⟩
  tups := fun b xs q => by rw [upd_ne (ne_of_none q hn)]; exact q
  frzs := fun b u xs q => by rw [upd_ne (ne_of_none q hn)]; exact q
  tbls := fun b ps q => ⟨#[], by rw [upd_ne (ne_of_none q hn), q]; simp⟩
theorem Un.write (mu : Mut (H x)) (he : e = x ∨ H e = some (.own x)) (k : ∀ b u, b ≠ e → h.get? b = some u → h'.get? b = some u) (heo : ∃ u, h'.get? e = some u) : Un fs ex H (upd H x o) h h' := by
  have hx : ∀ b, H b = none → b ≠ x := fun b n z => by subst z; rw [n] at mu; exact mu
  have hb : ∀ b, H b = none → b ≠ e := fun b n z => by
    subst z
    rcases he with r | r
    · exact hx b n r
    · rw [n] at r; cases r
  have hm : ∀ b u, H b = some u → ¬ Mut (some u) → b ≠ x := fun b u q nm z => by subst z; rw [q] at mu; exact nm mu
  refine ⟨fun b u q n _ _ => k b u (hb b n) q, fun b u q n _ _ => ⟨u.slots, k b u (hb b n) q⟩, fun b u q n _ => by rw [upd_ne (hx b n)]; exact n, fun b u q _ => ?_,
    fun b xs q => by rw [upd_ne (hm b _ q fun z => z)]; exact q, fun b u xs q => by rw [upd_ne (hm b _ q fun z => z)]; exact q, fun b ps q => ⟨#[], by rw [upd_ne (hm b _ q fun z => z), q]; simp⟩⟩
  by_cases hbe : b = e
  · subst hbe; exact heo
  · exact ⟨u, k b u hbe q⟩
end

/-! ### the heap without what is tracked -/
noncomputable def trk (h : Heap) (H : Hp) : List Addr := (List.range h.objs.size).filter fun a => (H a).isSome
noncomputable def hidT (h : Heap) (H : Hp) : Heap := PySem.W.hideAll h (trk h H)
theorem hidT_size (h : Heap) (H : Hp) : (hidT h H).objs.size = h.objs.size := PySem.W.hideAll_size _ _
theorem hidT_get {h : Heap} {H : Hp} {b : Addr} {o : Obj} (e : h.get? b = some o) (n : H b = none) : (hidT h H).get? b = some o :=
  PySem.W.hideAll_get _ e fun hm => by
    have q : (H b).isSome = true := (List.mem_filter.mp hm).2
    rw [n] at q; simp at q
theorem of_hidT {h : Heap} {H : Hp} {b : Addr} {o : Obj} (e : (hidT h H).get? b = some o) : h.get? b = some o ∧ H b = none := by
  have e' : h.get? b = some o := PySem.W.of_hideAll (trk h H) e
  refine ⟨e', ?_⟩
  cases q : H b with
  | none => rfl
  | some x =>
    have hm : b ∈ trk h H := List.mem_filter.mpr ⟨List.mem_range.mpr (Heap.lt_size e'), by simp [q]⟩
    have z : (hidT h H).get? b = none := PySem.W.hideAll_none (trk h H) hm
    rw [z] at e; cases e

/-! ### OpenK's ledger, filled with every new object but one -/
end L2

namespace L2
open PySem PySem.Spec PyProof.Rows

/-- the module's facts, over the base: the heap at the law's entry without what is tracked there -/
structure Mod (K : PySem.W.Frag) (mg : Str → Option Value) (base : Heap) : Prop where
  kin : K.In base
  glob : base.Ns mainGlobals mg
  blt : ∃ mb, base.Ns builtinsNs mb ∧ ∀ x : Str, x ≠ "__name__" → mb x = bootBuiltins x
  nolimit : base.NoLimit

/-- the context: a def's body (or a comprehension's block) running. base: fixed through the whole law; s₀, H₀: the entry; outer: the frames whose slots others may change (a def's callers); stack: all frames that run;
   ex: iterators that were made ahead of the entry and are walked here (a comprehension's); fn: the names whose cells were made at the entry (a def: all; a comprehension's block: its own); calm: not within an except suite; pn: pins that every state bears; xe: what is wanted of an exception that leaves the code -/
structure Cx where
  prog : Program
  w : World
  K : PySem.W.Frag
  mg : Str → Option Value
  base : Heap
  A : Around
  N : List Str
  s_0 : Shared
  H_0 : Hp
  env : Env
  outer : List Env
  stack : List Env
  ex : List Addr
  fn : Str → Bool
  calm : Bool
  pn : List (Addr × Obj)
  xe : Value → Shared → Prop
/-- the callers' frames -/
noncomputable def frs (l : List Env) : List Addr := l.filterMap (·.frame)
noncomputable abbrev Cx.fs (X : Cx) : List Addr := frs X.outer

noncomputable def Vis (sc : Scope) (x : Str) : Prop := sc.names.lookup x = some .local ∨ sc.names.lookup x = some .cell ∨ sc.names.lookup x = some .free
noncomputable def Loc (sc : Scope) (x : Str) : Prop := sc.names.lookup x = some .local ∨ sc.names.lookup x = some .cell
noncomputable def Look (env : Env) (h : Heap) (m : Str → Option Value) (x : Str) (u : Value) : Prop :=
  (env.kindOf x = some .local ∧ m x = some u) ∨ ((env.kindOf x = some .cell ∨ env.kindOf x = some .free) ∧ ∃ c, env.cells.lookup x = some c ∧ h.IsCell c (some u))

structure Cx.Ok (X : Cx) : Prop where
  mod : Mod X.K X.mg X.base
  kind : X.env.scope.kind = .function
  glob : X.env.globals = mainGlobals
  blt : X.env.builtins = builtinsNs
  above : X.s_0.heap.objs.size ≤ X.env.locals
  inj : ∀ x y c, X.env.cells.lookup x = some c → X.env.cells.lookup y = some c → x = y
  has : ∀ x, (X.env.kindOf x = some .cell ∨ X.env.kindOf x = some .free) → ∃ c, X.env.cells.lookup x = some c
  cab : ∀ x c, X.fn x = true → X.env.cells.lookup x = some c → X.s_0.heap.objs.size ≤ c
  hd : X.calm = true → X.A.handled = none
  frames : X.A.frames = some X.stack
  stk : X.stack = X.outer ∨ (X.stack = X.env :: X.outer ∧ X.env.frame = some X.env.locals)
  exf : ∀ b ∈ X.ex, b ≠ X.env.locals ∧ ∀ x c, X.env.cells.lookup x = some c → c ≠ b
  bs : ∀ b o, X.base.get? b = some o → X.s_0.heap.get? b = some o ∧ X.H_0 b = none
  bsz : X.base.objs.size ≤ X.s_0.heap.objs.size
  noex : ∀ b o, X.base.get? b = some o → b ∉ X.ex
  exfs : ∀ b ∈ X.ex, b ∉ X.fs
  funs : X.s_0.heap.FunFrames X.base X.outer
  frf : ∀ b ∈ X.fs, X.H_0 b = none

structure Inv (X : Cx) (pins : List (Addr × Obj)) (σ : List (Option V)) (H : Hp) (s : Shared) : Prop where
  ok : X.Ok
  os : s.os = X.s_0.os
  bare : AllBare s.gens
  base : Un X.fs X.ex X.H_0 H X.s_0.heap s.heap
  loc : ∃ m, s.heap.Ns X.env.locals m ∧ ∀ (i : Nat) (x : Str) (v : V), X.N[i]? = some x → σ[i]? = some (some v) → Vis X.env.scope x → ∃ u, RelV v u ∧ Look X.env s.heap m x u
  cell : ∀ x c, X.env.cells.lookup x = some c → ∃ v, s.heap.IsCell c v
  free : H X.env.locals = none
  freeC : ∀ x c, X.env.cells.lookup x = some c → H c = none
  pin : ∀ p ∈ X.pn ++ pins, s.heap.get? p.1 = some p.2 ∧ H p.1 = none ∧ p.1 ≠ X.env.locals ∧ p.1 ∉ X.fs ∧ ∀ v, p.2.data ≠ .cell v
  hok : HOk X.prog X.w H s.heap
  len : σ.length = X.N.length

section
variable {X : Cx} {pins : List (Addr × Obj)} {σ : List (Option V)} {H H' : Hp} {s : Shared} {h' : Heap}

theorem Cx.Ok.nofr (ok : X.Ok) {b : Addr} {o : Obj} (e : X.base.get? b = some o) : b ∉ X.fs := fun hb => by
  have := (ok.funs.mem hb).1
  rw [e] at this; cases this
theorem Inv.bs (I : Inv X pins σ H s) : ∀ b o, X.base.get? b = some o → s.heap.get? b = some o ∧ H b = none := fun b o e =>
  ⟨I.base.keep b o (I.ok.bs b o e).1 (I.ok.bs b o e).2 (I.ok.nofr e) (I.ok.noex b o e), I.base.free b o (I.ok.bs b o e).1 (I.ok.bs b o e).2 (I.ok.noex b o e)⟩
theorem Inv.bk (I : Inv X pins σ H s) : ∀ b o, X.base.get? b = some o → s.heap.get? b = some o := fun b o e => (I.bs b o e).1
theorem Inv.mod (I : Inv X pins σ H s) : Mod X.K X.mg X.base := I.ok.mod
theorem Inv.kIn (I : Inv X pins σ H s) : X.K.In s.heap := I.ok.mod.kin.keeps I.bk
theorem Inv.lt (I : Inv X pins σ H s) : X.env.locals < s.heap.objs.size := let ⟨_, hn, _⟩ := I.loc; hn.lt
theorem Inv.sz (I : Inv X pins σ H s) : X.s_0.heap.objs.size ≤ s.heap.objs.size := Nat.le_trans I.ok.above (Nat.le_of_lt I.lt)
theorem Inv.nofs (I : Inv X pins σ H s) {a : Addr} (h : s.heap.objs.size ≤ a) : a ∉ X.fs := fun hb => by
  obtain ⟨_, o, ho, _⟩ := I.ok.funs.mem hb
  exact absurd (Nat.lt_of_lt_of_le (Heap.lt_size ho) (Nat.le_trans I.sz h)) (Nat.lt_irrefl _)
theorem Inv.cne (I : Inv X pins σ H s) : ∀ x c, X.env.cells.lookup x = some c → c ≠ X.env.locals := fun x c e z => by
  obtain ⟨v, o, ho, hd⟩ := I.cell x c e
  obtain ⟨m, ⟨o', es, ep, ho', hd', _⟩, _⟩ := I.loc
  rw [z, ho'] at ho; cases ho; rw [hd'] at hd; cases hd
theorem Inv.funs (I : Inv X pins σ H s) : s.heap.FunFrames X.base X.outer := by
  have all : ∀ (l : List Env), (∀ b ∈ frs l, b ∈ X.fs) → X.s_0.heap.FunFrames X.base l → s.heap.FunFrames X.base l := by
    intro l
    induction l with
    | nil => intro _ _; trivial
    | cons env r ih =>
      intro hs hl
      obtain ⟨hk, ⟨L, o, hf, hn, ho, hd⟩, hr⟩ := hl
      have hL : L ∈ X.fs := hs L (by unfold frs; rw [List.filterMap_cons, hf]; exact List.mem_cons_self)
      obtain ⟨sl, e⟩ := I.base.slot L o ho (I.ok.frf L hL) hL fun z => I.ok.exfs L z hL
      exact ⟨hk, ⟨L, _, hf, hn, e, hd⟩, ih (fun b hb => hs b (by unfold frs; rw [List.filterMap_cons, hf]; exact List.mem_cons_of_mem _ hb)) hr⟩
  exact all X.outer (fun _ hb => hb) I.ok.funs

/-- the frames that run, for a call -/
theorem Inv.stack (I : Inv X pins σ H s) : s.heap.FunFrames X.base X.stack := by
  rcases I.ok.stk with e | ⟨e, hf⟩
  · rw [e]; exact I.funs
  · rw [e]
    obtain ⟨m, hn, _⟩ := I.loc
    refine .cons (by rw [I.ok.kind]; decide) hf hn ?_ I.funs
    exact Heap.get?_none_of_le (Nat.le_trans I.ok.bsz I.ok.above)
theorem Inv.stkSub (I : Inv X pins σ H s) : ∀ b ∈ frs X.stack, b ∈ X.env.locals :: X.fs := fun b hb => by
  rcases I.ok.stk with e | ⟨e, hf⟩
  · rw [e] at hb; exact List.mem_cons_of_mem _ hb
  · rw [e] at hb
    unfold frs at hb
    rw [List.filterMap_cons, hf] at hb
    exact hb
theorem Inv.stkFree (I : Inv X pins σ H s) : ∀ b ∈ frs X.stack, H b = none := fun b hb => by
  rcases List.mem_cons.mp (I.stkSub b hb) with e | hb
  · rw [e]; exact I.free
  · obtain ⟨_, o, ho, _⟩ := I.ok.funs.mem hb
    exact I.base.free b o ho (I.ok.frf b hb) fun z => I.ok.exfs b z hb

/-- THE STEP: the untracked objects but the frame and the records at ch are kept (the callers' frames up to slots), the frame's map is kept, the new abstract heap is held -/
theorem Inv.step {g' : Array GenState} {t' : Nat} {d' : Drawn} {ch : List Addr} (I : Inv X pins σ H s)
    (hch : ∀ b ∈ ch, (b ∈ X.ex ∨ X.s_0.heap.objs.size ≤ b) ∧ b ≠ X.env.locals ∧ (∀ x c, X.env.cells.lookup x = some c → c ≠ b) ∧ ∀ p ∈ X.pn ++ pins, p.1 ≠ b)
    (keep : ∀ b o, b ≠ X.env.locals → b ∉ X.fs → b ∉ ch → s.heap.get? b = some o → H b = none → h'.get? b = some o)
    (slot : ∀ b o, b ≠ X.env.locals → b ∈ X.fs → b ∉ ch → s.heap.get? b = some o → H b = none → ∃ sl, h'.get? b = some { o with slots := sl }) (free : ∀ b o, b ∉ ch → s.heap.get? b = some o → H b = none → H' b = none)
    (there : ∀ b o, b ∉ ch → s.heap.get? b = some o → ∃ o', h'.get? b = some o')
    (tups : ∀ b xs, H b = some (.tup xs) → H' b = some (.tup xs)) (frzs : ∀ b o u, H b = some (.frz o u) → H' b = some (.frz o u)) (tbls : ∀ b ps, H b = some (.tbl ps) → ∃ more, H' b = some (.tbl (ps ++ more)))
    (ns : ∀ m, s.heap.Ns X.env.locals m → h'.Ns X.env.locals m) (hok : HOk X.prog X.w H' h') (hg : AllBare g') :
    Inv X pins σ H' { s with heap := h', gens := g', drawn := d', toks := t' } := by
  have neL : ∀ b o, X.s_0.heap.get? b = some o → b ≠ X.env.locals := fun b o e => Nat.ne_of_lt (Nat.lt_of_lt_of_le (Heap.lt_size e) I.ok.above)
  have neC : ∀ b o, X.s_0.heap.get? b = some o → b ∉ X.ex → b ∉ ch := fun b o e hx hb => by
    rcases (hch b hb).1 with z | z
    · exact hx z
    · exact absurd (Nat.lt_of_lt_of_le (Heap.lt_size e) z) (Nat.lt_irrefl _)
  have cellK : ∀ x c, X.env.cells.lookup x = some c → ∀ v, s.heap.IsCell c v → h'.IsCell c v := fun x c e v ⟨o, ho, hd⟩ => by
    have nch : c ∉ ch := fun z => (hch c z).2.2.1 x c e rfl
    by_cases hc : c ∈ X.fs
    · obtain ⟨sl, q⟩ := slot c o (I.cne x c e) hc nch ho (I.freeC x c e)
      exact ⟨_, q, hd⟩
    · exact ⟨o, keep c o (I.cne x c e) hc nch ho (I.freeC x c e), hd⟩
  refine ⟨I.ok, I.os, hg, ⟨fun b o e n hb hx => ?_, fun b o e n hb hx => ?_, fun b o e n hx => ?_, fun b o e hx => ?_, fun b xs e => tups b xs (I.base.tups b xs e), fun b o xs e => frzs b o xs (I.base.frzs b o xs e), fun b ps e => ?_⟩, ?_, fun x c e => ?_, ?_, fun x c e => ?_, fun p hp => ?_, hok, I.len⟩
  · exact keep b o (neL b o e) hb (neC b o e hx) (I.base.keep b o e n hb hx) (I.base.free b o e n hx)
  · obtain ⟨sl, e1⟩ := I.base.slot b o e n hb hx
    obtain ⟨sl', e2⟩ := slot b _ (neL b o e) hb (neC b o e hx) e1 (I.base.free b o e n hx)
    exact ⟨sl', e2⟩
  · obtain ⟨o', e1⟩ := I.base.there b o e hx
    exact free b o' (neC b o e hx) e1 (I.base.free b o e n hx)
  · obtain ⟨o', e1⟩ := I.base.there b o e hx
    exact there b o' (neC b o e hx) e1
  · obtain ⟨m1, e1⟩ := I.base.tbls b ps e
    obtain ⟨m2, e2⟩ := tbls b _ e1
    exact ⟨m1 ++ m2, by rw [e2, Array.append_assoc]⟩
  · obtain ⟨m, hn, hl⟩ := I.loc
    refine ⟨m, ns m hn, fun i x v e1 e2 e3 => ?_⟩
    obtain ⟨u, r, l⟩ := hl i x v e1 e2 e3
    refine ⟨u, r, ?_⟩
    rcases l with l | ⟨k, c, e, z⟩
    · exact .inl l
    · exact .inr ⟨k, c, e, cellK x c e _ z⟩
  · obtain ⟨v, z⟩ := I.cell x c e
    exact ⟨v, cellK x c e v z⟩
  · obtain ⟨m, ⟨o, _, _, ho, _⟩, _⟩ := I.loc
    exact free _ o (fun z => (hch _ z).2.1 rfl) ho I.free
  · obtain ⟨v, o, ho, hd⟩ := I.cell x c e
    exact free c o (fun z => (hch c z).2.2.1 x c e rfl) ho (I.freeC x c e)
  · obtain ⟨e, n, ne, nf, d⟩ := I.pin p hp
    have nch : p.1 ∉ ch := fun z => (hch p.1 z).2.2.2 p hp rfl
    exact ⟨keep p.1 p.2 ne nf nch e n, free p.1 p.2 nch e n, ne, nf, d⟩
/-- .. where the frame's own object is kept too -/
theorem Inv.un {t' : Nat} (I : Inv X pins σ H s) (u : Un X.fs [] H H' s.heap h') (hok : HOk X.prog X.w H' h') : Inv X pins σ H' { s with heap := h', toks := t' } := by
  obtain ⟨m, ⟨o, es, ep, ho, r⟩, _⟩ := id I.loc
  obtain ⟨sl, hL⟩ := u.any ho I.free (by simp)
  exact I.step (g' := s.gens) (d' := s.drawn) (ch := []) (fun _ z => nomatch z) (fun b o _ hb _ e n => u.keep b o e n hb (by simp)) (fun b o _ hb _ e n => u.slot b o e n hb (by simp)) (fun b o _ e n => u.free b o e n (by simp)) (fun b o _ e => u.there b o e (by simp)) u.tups u.frzs u.tbls (fun m' hm => by
    obtain ⟨o', es', ep', ho', r'⟩ := hm
    rw [ho] at ho'; cases ho'
    exact ⟨_, es', ep', hL, r'⟩) hok I.bare
/-- behind a call (or a comprehension's block): the slots of this frame may have changed too, the records at ch may have turned -/
theorem Inv.call {g' : Array GenState} {t' : Nat} {d' : Drawn} {ch : List Addr} (I : Inv X pins σ H s) (u : Un (frs X.stack) ch H H' s.heap h') (hok : HOk X.prog X.w H' h') (hg : AllBare g')
    (hch : ∀ b ∈ ch, (b ∈ X.ex ∨ X.s_0.heap.objs.size ≤ b) ∧ b ≠ X.env.locals ∧ (∀ x c, X.env.cells.lookup x = some c → c ≠ b) ∧ ∀ p ∈ X.pn ++ pins, p.1 ≠ b) :
    Inv X pins σ H' { s with heap := h', gens := g', drawn := d', toks := t' } := by
  obtain ⟨m, ⟨o, es, ep, ho, r⟩, _⟩ := id I.loc
  obtain ⟨sl, hL⟩ := u.any ho I.free fun z => (hch _ z).2.1 rfl
  exact I.step (ch := ch) hch (fun b o hL hb hc e n => u.keep b o e n (fun z => (List.mem_cons.mp (I.stkSub b z)).elim hL hb) hc) (fun b o _ _ hc e n => u.any e n hc) (fun b o hc e n => u.free b o e n hc) (fun b o hc e => u.there b o e hc) u.tups u.frzs u.tbls (fun m' hm => by
    obtain ⟨o', es', ep', ho', r'⟩ := hm
    rw [ho] at ho'; cases ho'
    exact ⟨_, es', ep', hL, r'⟩) hok hg
/-- an untracked record of ours (an iterator) has turned -/
theorem Inv.turned {t' : Nat} {it : Addr} (I : Inv X pins σ H s) (k : ∀ b o, b ≠ it → s.heap.get? b = some o → h'.get? b = some o) (hn : H it = none) (hL : it ≠ X.env.locals)
    (h1 : it ∈ X.ex ∨ X.s_0.heap.objs.size ≤ it) (h2 : ∀ x c, X.env.cells.lookup x = some c → c ≠ it) (h3 : ∀ p ∈ X.pn ++ pins, p.1 ≠ it) : Inv X pins σ H { s with heap := h', toks := t' } := by
  have nit : ∀ b u, H b = some u → b ≠ it := fun b u e z => by rw [z, hn] at e; cases e
  refine I.step (g' := s.gens) (d' := s.drawn) (ch := [it]) (fun b hb => ?_) (fun b o _ _ hc e _ => k b o (fun z => hc (by simp [z])) e) (fun b o _ _ hc e _ => ⟨o.slots, k b o (fun z => hc (by simp [z])) e⟩) (fun _ _ _ _ n => n)
    (fun b o hc e => ⟨o, k b o (fun z => hc (by simp [z])) e⟩) (fun _ _ e => e) (fun _ _ _ e => e) (fun b ps e => ⟨#[], by rw [e]; simp⟩) (fun m hm => ?_) (fun b u e => ?_) I.bare
  · have e : b = it := by simpa using hb
    subst e
    exact ⟨h1, hL, h2, h3⟩
  · obtain ⟨o, es, ep, ho, r⟩ := hm
    exact ⟨o, es, ep, k _ o (Ne.symm hL) ho, r⟩
  · refine (I.hok b u e).stay (fun c v hc q => k c v ?_ q) (fun _ q => q) fun _ _ q => q
    rcases hc with z | z
    · rw [z]; exact nit b u e
    · exact nit c _ z
theorem Inv.tok (I : Inv X pins σ H s) (t : Nat) : Inv X pins σ H { s with toks := t } := I.un (h' := s.heap) (t' := t) Un.refl I.hok
/-- all objects kept -/
theorem Inv.kept {t' : Nat} (I : Inv X pins σ H s) (k : ∀ b u, s.heap.get? b = some u → h'.get? b = some u) : Inv X pins σ H { s with heap := h', toks := t' } := I.un (Un.kept k) (I.hok.kept k)
/-- a new object laid and tracked -/
theorem Inv.laid {a : Addr} {o : HO} {t' : Nat} (I : Inv X pins σ H s) (k : ∀ b u, s.heap.get? b = some u → h'.get? b = some u) (hp : s.heap.objs.size ≤ a) (new : ObjOk X.prog X.w (upd H a o) h' a o) :
    Inv X pins σ (upd H a o) { s with heap := h', toks := t' } := I.un (Un.laid k hp (I.hok.fresh hp)) (I.hok.laid k hp new)
/-- an object written -/
theorem Inv.write {x e : Addr} {o : HO} {t' : Nat} (I : Inv X pins σ H s) (mu : Mut (H x)) (he : e = x ∨ H e = some (.own x)) (k : ∀ b u, b ≠ e → s.heap.get? b = some u → h'.get? b = some u) (heo : ∃ u, h'.get? e = some u)
    (new : ObjOk X.prog X.w (upd H x o) h' x o) : Inv X pins σ (upd H x o) { s with heap := h', toks := t' } := I.un (Un.write mu he k heo) (I.hok.write mu he k heo new)
/-- forgetting slots, pins -/
theorem Inv.weak {σ' : List (Option V)} (I : Inv X pins σ H s) (hl : σ'.length = σ.length) (w : ∀ (i : Nat) v, σ'[i]? = some (some v) → σ[i]? = some (some v)) : Inv X pins σ' H s :=
  ⟨I.ok, I.os, I.bare, I.base, let ⟨m, hn, hl'⟩ := I.loc; ⟨m, hn, fun i x v e1 e2 e3 => hl' i x v e1 (w i v e2) e3⟩, I.cell, I.free, I.freeC, I.pin, I.hok, hl.trans I.len⟩
theorem Inv.pins_of {pins' : List (Addr × Obj)} (I : Inv X pins σ H s) (h : ∀ p ∈ pins', s.heap.get? p.1 = some p.2 ∧ H p.1 = none ∧ p.1 ≠ X.env.locals ∧ p.1 ∉ X.fs ∧ ∀ v, p.2.data ≠ .cell v) : Inv X pins' σ H s :=
  ⟨I.ok, I.os, I.bare, I.base, I.loc, I.cell, I.free, I.freeC, fun p hp => (List.mem_append.mp hp).elim (fun z => I.pin p (List.mem_append_left _ z)) (h p), I.hok, I.len⟩

theorem nodup_ix {N : List Str} (hN : N.Nodup) {i j : Nat} {x : Str} (a : N[i]? = some x) (b : N[j]? = some x) : i = j := by
  obtain ⟨h1, e1⟩ := List.getElem?_eq_some_iff.mp a
  obtain ⟨h2, e2⟩ := List.getElem?_eq_some_iff.mp b
  exact (List.getElem_inj hN).mp (e1.trans e2.symm)

/-- a name is stored; what changed -/
theorem store_ok2 {M : Model} {A : Around} {E : Value → Shared → Prop} {i : Nat} {x : Str} {v : V} {u : Value} {Q : Unit → Shared → Prop} (I : Inv X pins σ H s) (hN : X.N.Nodup) (hi : X.N[i]? = some x) (hx : Loc X.env.scope x) (r : RelV v u)
    (h : ∀ s', Inv X pins (σ.set i (some v)) H s' → (∃ a, Heap.SameBut a s.heap s'.heap ∧ (a = X.env.locals ∨ X.env.cells.lookup x = some a)) → Q () s') (hf : X.fn x = true ∨ X.env.scope.names.lookup x = some .local := by first | exact .inl rfl | exact .inr rfl | assumption) : wpAny M A (storeName X.env x u) Q E s := by
  obtain ⟨m, hn, hl⟩ := id I.loc
  have hcls : (X.env.scope.kind == .class || (X.env.scope.kind == .module && X.env.locals != X.env.globals)) = false := by rw [I.ok.kind]; rfl
  have hiσ : i < σ.length := by rw [I.len]; exact (List.getElem?_eq_some_iff.mp hi).1
  have cne := I.cne
  have tracked : ∀ {a : Addr} {h' : Heap}, (∃ o, s.heap.get? a = some o ∧ H a = none) → Heap.SameBut a s.heap h' → HOk X.prog X.w H h' := fun {a h'} ha hs b ob e => by
    obtain ⟨_, _, hfree⟩ := ha
    refine (I.hok b ob e).stay (fun c w' hc q => (hs.2 c ?_).trans q) (fun _ q => q) fun _ _ q => q
    rintro rfl
    rcases hc with rfl | hc
    · rw [hfree] at e; cases e
    · rw [hfree] at hc; cases hc
  rcases hx with hk | hk
  · refine wpAny_storeName_local hk hn (fun h' hn' hs => ?_) hcls
    obtain ⟨oL, _, _, hoL, _⟩ := id hn
    refine h _ ⟨I.ok, I.os, I.bare, ⟨fun b o e n hb hx => ?_, fun b o e n hb hx => ?_, I.base.free, fun b o e hx => ?_, I.base.tups, I.base.frzs, I.base.tbls⟩, ⟨_, hn', fun j y v' e1 e2 e3 => ?_⟩, fun y c e => ?_, I.free, I.freeC, fun p hp => ?_, tracked ⟨oL, hoL, I.free⟩ hs, by simpa using I.len⟩ ⟨_, hs, .inl rfl⟩
    · exact (hs.2 b (Nat.ne_of_lt (Nat.lt_of_lt_of_le (Heap.lt_size e) I.ok.above))).trans (I.base.keep b o e n hb hx)
    · obtain ⟨sl, e1⟩ := I.base.slot b o e n hb hx
      exact ⟨sl, (hs.2 b (Nat.ne_of_lt (Nat.lt_of_lt_of_le (Heap.lt_size e) I.ok.above))).trans e1⟩
    · obtain ⟨o', e1⟩ := I.base.there b o e hx
      exact ⟨o', (hs.2 b (Nat.ne_of_lt (Nat.lt_of_lt_of_le (Heap.lt_size e) I.ok.above))).trans e1⟩
    · by_cases hj : j = i
      · subst hj
        rw [hi] at e1; cases e1
        rw [List.getElem?_set_self hiσ] at e2
        cases e2
        exact ⟨u, r, .inl ⟨hk, by simp⟩⟩
      · rw [List.getElem?_set_ne (Ne.symm hj)] at e2
        obtain ⟨u', r', q⟩ := hl j y v' e1 e2 e3
        refine ⟨u', r', ?_⟩
        rcases q with ⟨k, e⟩ | ⟨k, c, e, z⟩
        · refine .inl ⟨k, ?_⟩
          have : y ≠ x := fun e => hj (nodup_ix hN e1 (e ▸ hi))
          simp [this, e]
        · exact .inr ⟨k, c, e, z.sameBut hs (cne y c e)⟩
    · obtain ⟨w', z⟩ := I.cell y c e
      exact ⟨w', z.sameBut hs (cne y c e)⟩
    · obtain ⟨e, n, ne, nf, d⟩ := I.pin p hp
      exact ⟨(hs.2 p.1 ne).trans e, n, ne, nf, d⟩
  · have hfn : X.fn x = true := by
      rcases hf with z | z
      · exact z
      · rw [z] at hk; cases hk
    obtain ⟨c, hc⟩ := I.ok.has x (.inl hk)
    obtain ⟨w', z⟩ := I.cell x c hc
    refine wpAny_storeName_cell I.ok.kind hk hc z (fun h' hc' hs => ?_)
    obtain ⟨oc, hoc, hocd⟩ := id z
    refine h { s with heap := h' } ⟨I.ok, I.os, I.bare, ⟨fun b o e n hb hx => ?_, fun b o e n hb hx => ?_, I.base.free, fun b o e hx => ?_, I.base.tups, I.base.frzs, I.base.tbls⟩, ⟨m, hn.sameBut hs (Ne.symm (cne x c hc)), fun j y v' e1 e2 e3 => ?_⟩, fun y c' e => ?_, I.free, I.freeC, fun p hp => ?_, tracked ⟨oc, hoc, I.freeC x c hc⟩ hs, by simpa using I.len⟩ ⟨c, hs, .inr hc⟩
    · exact (hs.2 b (Nat.ne_of_lt (Nat.lt_of_lt_of_le (Heap.lt_size e) (I.ok.cab x c hfn hc)))).trans (I.base.keep b o e n hb hx)
    · obtain ⟨sl, e1⟩ := I.base.slot b o e n hb hx
      exact ⟨sl, (hs.2 b (Nat.ne_of_lt (Nat.lt_of_lt_of_le (Heap.lt_size e) (I.ok.cab x c hfn hc)))).trans e1⟩
    · obtain ⟨o', e1⟩ := I.base.there b o e hx
      exact ⟨o', (hs.2 b (Nat.ne_of_lt (Nat.lt_of_lt_of_le (Heap.lt_size e) (I.ok.cab x c hfn hc)))).trans e1⟩
    · by_cases hj : j = i
      · subst hj
        rw [hi] at e1; cases e1
        rw [List.getElem?_set_self hiσ] at e2
        cases e2
        exact ⟨u, r, .inr ⟨.inl hk, c, hc, hc'⟩⟩
      · rw [List.getElem?_set_ne (Ne.symm hj)] at e2
        obtain ⟨u', r', q⟩ := hl j y v' e1 e2 e3
        refine ⟨u', r', ?_⟩
        rcases q with q | ⟨k, c', e, z'⟩
        · exact .inl q
        · refine .inr ⟨k, c', e, z'.sameBut hs ?_⟩
          rintro rfl
          exact hj (nodup_ix hN e1 (I.ok.inj _ _ _ e hc ▸ hi))
    · by_cases hcc : c' = c
      · subst hcc; exact ⟨_, hc'⟩
      · obtain ⟨w2, z2⟩ := I.cell y c' e
        exact ⟨w2, z2.sameBut hs hcc⟩
    · obtain ⟨e, n, ne, nf, d⟩ := I.pin p hp
      refine ⟨(hs.2 p.1 ?_).trans e, n, ne, nf, d⟩
      intro q
      rw [q, hoc] at e
      have q' : oc = p.2 := Option.some.inj e
      exact d w' (by rw [← q']; exact hocd)
theorem store_ok {M : Model} {A : Around} {E : Value → Shared → Prop} {i : Nat} {x : Str} {v : V} {u : Value} {Q : Unit → Shared → Prop} (I : Inv X pins σ H s) (hN : X.N.Nodup) (hi : X.N[i]? = some x) (hx : Loc X.env.scope x) (r : RelV v u)
    (h : ∀ s', Inv X pins (σ.set i (some v)) H s' → Q () s') (hf : X.fn x = true ∨ X.env.scope.names.lookup x = some .local := by first | exact .inl rfl | exact .inr rfl | assumption) : wpAny M A (storeName X.env x u) Q E s :=
  store_ok2 I hN hi hx r (fun s' I' _ => h s' I') hf
/-- behind a call or a block, the state as it is -/
theorem Inv.call' {s' : Shared} {ch : List Addr} (I : Inv X pins σ H s) (ho : s'.os = s.os) (u : Un (frs X.stack) ch H H' s.heap s'.heap) (hok : HOk X.prog X.w H' s'.heap) (hg : AllBare s'.gens)
    (hch : ∀ b ∈ ch, (b ∈ X.ex ∨ X.s_0.heap.objs.size ≤ b) ∧ b ≠ X.env.locals ∧ (∀ x c, X.env.cells.lookup x = some c → c ≠ b) ∧ ∀ p ∈ X.pn ++ pins, p.1 ≠ b) : Inv X pins σ H' s' := by
  obtain ⟨h', g', d', t', o'⟩ := s'
  have e : o' = s.os := ho
  subst e
  exact I.call (g' := g') (t' := t') (d' := d') u hok hg hch
end

/-! ### the judgements -/
/-- an exception: its class, its own dict's address (where it has one), the abstract heap behind it -/
noncomputable abbrev XK := Value → Option Addr → Hp → Prop
noncomputable abbrev St := List (Option V)
noncomputable abbrev VK := V → Hp → Prop
/-- an expression's reading; a test's; an argument list's -/
noncomputable abbrev TE := St → Hp → VK → Prop
noncomputable abbrev TT := St → Hp → (Bool → Hp → Prop) → Prop
noncomputable abbrev TA := St → Hp → (List V → Hp → Prop) → Prop
/-- what is wanted behind a statement -/
structure Ends where
  nx : St → Hp → Prop
  rt : VK
  bk : St → Hp → Prop := fun _ _ => False
  ct : St → Hp → Prop := fun _ _ => False
noncomputable abbrev TS := Ends → St → Hp → Prop

noncomputable def EP (X : Cx) (pins : List (Addr × Obj)) (σ : St) (Q : VK) (u : Value) (s' : Shared) : Prop := ∃ v H', Inv X pins σ H' s' ∧ RelV v u ∧ Q v H'
noncomputable def TP (X : Cx) (pins : List (Addr × Obj)) (σ : St) (Q : Bool → Hp → Prop) (b : Bool) (s' : Shared) : Prop := ∃ H', Inv X pins σ H' s' ∧ Q b H'
noncomputable def AP (X : Cx) (pins : List (Addr × Obj)) (σ : St) (Q : List V → Hp → Prop) (us : List Value) (s' : Shared) : Prop := ∃ vs H', Inv X pins σ H' s' ∧ Vals vs us ∧ Q vs H'
noncomputable def SP (X : Cx) (pins : List (Addr × Obj)) (D : Ends) (f : Flow) (s' : Shared) : Prop :=
  match f with
  | .next => ∃ σ' H', Inv X pins σ' H' s' ∧ D.nx σ' H'
  | .brk => ∃ σ' H', Inv X pins σ' H' s' ∧ D.bk σ' H'
  | .cont => ∃ σ' H', Inv X pins σ' H' s' ∧ D.ct σ' H'
  | .ret u => ∃ v σ' H', Inv X pins σ' H' s' ∧ RelV v u ∧ D.rt v H'

noncomputable def PE (X : Cx) (e : Expr) (t : TE) : Prop :=
  ∀ (pins : List (Addr × Obj)) (s : Shared) (σ : St) (H : Hp) (Q : VK), Inv X pins σ H s → t σ H Q → wpAny (model X.prog X.w) X.A (eval e X.env) (EP X pins σ Q) X.xe s
noncomputable def PT (X : Cx) (e : Expr) (t : TT) : Prop :=
  ∀ (pins : List (Addr × Obj)) (s : Shared) (σ : St) (H : Hp) (Q : Bool → Hp → Prop), Inv X pins σ H s → t σ H Q → wpAny (model X.prog X.w) X.A (isTrue e X.env (eval e X.env)) (TP X pins σ Q) X.xe s
/-- a test whatever its 'whole' is (and, or) -/
noncomputable def PW (X : Cx) (e : Expr) (t : TT) : Prop :=
  ∀ (whole : Sem Value) (pins : List (Addr × Obj)) (s : Shared) (σ : St) (H : Hp) (Q : Bool → Hp → Prop), Inv X pins σ H s → t σ H Q → wpAny (model X.prog X.w) X.A (isTrue e X.env whole) (TP X pins σ Q) X.xe s
theorem PW.pt {X : Cx} {e : Expr} {t : TT} (h : PW X e t) : PT X e t := h _
/-- an argument list (no star), from the left -/
noncomputable def PA (X : Cx) (es : List Expr) (t : TA) : Prop :=
  ∀ (pos : Pos) (pins : List (Addr × Obj)) (s : Shared) (σ : St) (H : Hp) (Q : List V → Hp → Prop), Inv X pins σ H s → t σ H Q → wpAny (model X.prog X.w) X.A (spliced (backTo pos (starEach es X.env))) (AP X pins σ Q) X.xe s
noncomputable def PS (X : Cx) (st : Stmt) (t : TS) : Prop :=
  ∀ (pins : List (Addr × Obj)) (s : Shared) (σ : St) (H : Hp) (D : Ends), Inv X pins σ H s → t D σ H → wpAny (model X.prog X.w) X.A (exec st X.env) (SP X pins D) X.xe s
noncomputable def PSs (X : Cx) (st : List Stmt) (t : TS) : Prop :=
  ∀ (pins : List (Addr × Obj)) (s : Shared) (σ : St) (H : Hp) (D : Ends), Inv X pins σ H s → t D σ H → wpAny (model X.prog X.w) X.A (execs st X.env) (SP X pins D) X.xe s
/-- weaken the end -/
theorem thn {α : Type} {t : Sem α} {Q Q' : α → Shared → Prop} {M : Model} {A : Around} {E : Value → Shared → Prop} {s : Shared} (h : wpAny M A t Q E s) (hQ : ∀ a s, Q a s → Q' a s) : wpAny M A t Q' E s := wpAny_mono h hQ fun _ _ x => x
end L2

namespace L2
open PySem PySem.Spec PyProof.Rows
section
variable {X : Cx}

/-! ### names and constants -/
noncomputable def tVar (i : Nat) : TE := fun σ H Q => ∃ v, σ[i]? = some (some v) ∧ Q v H
noncomputable def tC (v : V) : TE := fun _ H Q => Q v H
theorem pe_var {i : Nat} {x : Str} {pos : Pos} (hN : X.N[i]? = some x) (hv : Vis X.env.scope x) (hd : (x == ("__debug__" : Str)) = false := by decide) (hcd : (x == ("__classdict__" : Str)) = false := by decide) : PE X (.Name x pos) (tVar i) := by
  intro pins s σ H Q I h
  obtain ⟨v, e, h⟩ := h
  obtain ⟨m, hn, hl⟩ := I.loc
  obtain ⟨u, r, l⟩ := hl i x v hN e hv
  have fin : EP X pins σ Q u s := ⟨v, H, I, r, h⟩
  rcases l with ⟨hk, hm⟩ | ⟨hk, c, hc, hcell⟩
  · exact wpAny_Name (wpAny_loadName_local I.ok.kind hk hn hm fin) hd
  · rcases hk with hk | hk
    · exact wpAny_Name (wpAny_loadName_cell I.ok.kind hk hc hcell fin) hd
    · exact wpAny_Name (wpAny_loadName_free I.ok.kind hk hc hcell fin hcd) hd
theorem pe_int {i j pos} : PE X (.Constant (.int i) j pos) (tC (.int i)) := fun _ _ _ H _ I h => wpAny_Constant_int ⟨.int i, H, I.tok _, ⟨_, rfl⟩, h⟩
theorem pe_bl {b j pos} : PE X (.Constant (.bool b) j pos) (tC (.bl b)) := fun _ _ _ H _ I h => Constant_bool ⟨.bl b, H, I, rfl, h⟩
theorem pe_non {j pos} : PE X (.Constant .none j pos) (tC .non) := fun _ _ _ H _ I h => Constant_none ⟨.non, H, I, rfl, h⟩
/-- a global name of the def -/
noncomputable def Gl (X : Cx) (x : Str) : Prop := X.env.kindOf x = some .globalImplicit
theorem ld_glob {E : Value → Shared → Prop} {pins : List (Addr × Obj)} {s : Shared} {σ : St} {H : Hp} {x : Str} {u : Value} {pos : Pos} {Q : Value → Shared → Prop} (I : Inv X pins σ H s) (hg : Gl X x) (hm : X.mg x = some u) (h : Q u s)
    (hd : (x == ("__debug__" : Str)) = false := by decide) : wpAny (model X.prog X.w) X.A (eval (.Name x pos) X.env) Q E s :=
  Calls.Name_function_global I.ok.kind hg (Calls.loadGlobal_global (by rw [I.ok.glob]; exact I.mod.glob.keeps I.bk) hm h) hd
theorem ld_blt {E : Value → Shared → Prop} {pins : List (Addr × Obj)} {s : Shared} {σ : St} {H : Hp} {x : Str} {u : Value} {pos : Pos} {Q : Value → Shared → Prop} (I : Inv X pins σ H s) (hg : Gl X x) (hm : X.mg x = none) (hv : bootBuiltins x = some u) (h : Q u s)
    (hn : x ≠ "__name__" := by decide) (hd : (x == ("__debug__" : Str)) = false := by decide) : wpAny (model X.prog X.w) X.A (eval (.Name x pos) X.env) Q E s := by
  obtain ⟨mb, h1, h2⟩ := I.mod.blt
  exact Calls.Name_function_global I.ok.kind hg (Calls.loadGlobal_builtin (by rw [I.ok.glob]; exact I.mod.glob.keeps I.bk) hm (by rw [I.ok.blt]; exact h1.keeps I.bk) ((h2 x hn).trans hv) h) hd
/-- a module's constant, a class, a function, as a value -/
theorem pe_glob {x : Str} {v : V} {u : Value} {pos : Pos} (hg : Gl X x) (hm : X.mg x = some u) (r : RelV v u) (hd : (x == ("__debug__" : Str)) = false := by decide) : PE X (.Name x pos) (tC v) :=
  fun _ _ _ H _ I h => ld_glob I hg hm ⟨v, H, I, r, h⟩ hd
/-! ### arithmetic -/
variable {a b : Expr} {ta tb : TE} {pos : Pos}
/-! ### comparisons -/
/-- a comparison as a value, as a test -/
noncomputable def tB (t : TE) : TT := fun σ H Q => t σ H fun x H1 => ∃ c, x = .bl c ∧ Q c H1
/-- an expression whose value is a bool, as a test -/
theorem pt_val {e : Expr} {t : TE} (h : PE X e t) (he : ∀ whole, isTrue e X.env whole = (do let v ← whole; standAt e.pos; holding [v] (truthy v)) := by intro _; rfl) : PT X e (tB t) := by
  intro pins s σ H Q I hw
  refine isTrue_plain (thn (h pins s σ H _ I hw) fun v s1 ⟨x, H1, I1, r1, q1⟩ => ?_) (he _)
  obtain ⟨d, rfl, q⟩ := q1
  cases r1
  exact wpAny_truthy_bool ⟨H1, I1, q⟩

/-! ### and, or, not -/
variable {tA tB' : TT} {rest : List Expr}
noncomputable def tAnd (t u : TT) : TT := fun σ H Q => t σ H fun c H1 => if c = true then u σ H1 Q else Q false H1
noncomputable def tOr (t u : TT) : TT := fun σ H Q => t σ H fun c H1 => if c = true then Q true H1 else u σ H1 Q
noncomputable def tNot (t : TT) : TT := fun σ H Q => t σ H fun c H1 => Q (!c) H1
theorem pw_and1 (ha : PT X a tA) : PW X (.BoolOp .And [a] pos) tA := by
  intro wh pins s σ H Q I h
  refine isTrue_and (thn (ha pins s σ H Q I h) fun c s1 e => ?_)
  cases c with
  | true => exact isTrue_and_nil e
  | false => exact e
theorem pw_or1 (ha : PT X a tA) : PW X (.BoolOp .Or [a] pos) tA := by
  intro wh pins s σ H Q I h
  refine isTrue_or (thn (ha pins s σ H Q I h) fun c s1 e => ?_)
  cases c with
  | false => exact isTrue_or_nil e
  | true => exact e
theorem pw_and (ha : PT X a tA) (hb : PW X (.BoolOp .And (b :: rest) pos) tB') : PW X (.BoolOp .And (a :: b :: rest) pos) (tAnd tA tB') := by
  intro wh pins s σ H Q I h
  refine isTrue_and (thn (ha pins s σ H _ I h) fun c s1 ⟨H1, I1, q1⟩ => ?_)
  cases c with
  | true => exact hb wh pins s1 σ H1 Q I1 q1
  | false => exact ⟨H1, I1, q1⟩
theorem pw_or (ha : PT X a tA) (hb : PW X (.BoolOp .Or (b :: rest) pos) tB') : PW X (.BoolOp .Or (a :: b :: rest) pos) (tOr tA tB') := by
  intro wh pins s σ H Q I h
  refine isTrue_or (thn (ha pins s σ H _ I h) fun c s1 ⟨H1, I1, q1⟩ => ?_)
  cases c with
  | true => exact ⟨H1, I1, q1⟩
  | false => exact hb wh pins s1 σ H1 Q I1 q1
theorem pt_not (ha : PT X a tA) : PT X (.UnaryOp .Not a pos) (tNot tA) := by
  intro pins s σ H Q I h
  exact isTrue_not (ha pins s σ H (fun c H1 => Q (!c) H1) I h)
/-- .. as values (bools) -/
noncomputable def tAndV (ta tb : TE) : TE := fun σ H Q => ta σ H fun x H1 => ∃ c, x = .bl c ∧ if c = true then tb σ H1 Q else Q (.bl false) H1
theorem pe_one {op} {t : TE} (h : PE X a t) : PE X (.BoolOp op [a] pos) t := fun pins s σ H Q I hw => BoolOp_one (h pins s σ H Q I hw)
theorem pe_and (ha : PE X a ta) (hb : PE X (.BoolOp .And (b :: rest) pos) tb) : PE X (.BoolOp .And (a :: b :: rest) pos) (tAndV ta tb) := by
  intro pins s σ H Q I h
  refine BoolOp_and (thn (ha pins s σ H _ I h) fun v s1 ⟨x, H1, I1, r1, q1⟩ => ?_)
  obtain ⟨c, rfl, q1⟩ := q1
  cases r1
  refine wpAny_truthy_bool ?_
  cases c with
  | true => exact hb pins s1 σ H1 Q I1 q1
  | false => exact ⟨.bl false, H1, I1, rfl, q1⟩
end
end L2

namespace L2
open PySem PySem.Spec PyProof.Rows

/-! ### a list, a tuple that is read: tracked, frozen, or an object of the module -/
noncomputable def SqL (K : PySem.W.Frag) (H : Hp) (a : Addr) (xs : List V) : Prop :=
  Rd H a (.lst xs) ∨
    ∃ (o : Obj) (its : Array Value) (n : Nat), K.lookup a = some o ∧ o.cls = .type "list" ∧ o.dict = none ∧ o.data = .seq its n ∧ its.size ≤ sizeLine ∧ Vals xs its.toList
noncomputable def SqT (K : PySem.W.Frag) (H : Hp) (a : Addr) (xs : List V) : Prop :=
  Rd H a (.tup xs) ∨
    ∃ (o : Obj) (its : Array Value) (n : Nat), K.lookup a = some o ∧ o.cls = .type "tuple" ∧ o.data = .seq its n ∧ its.size ≤ sizeLine ∧ Vals xs its.toList
noncomputable def absV : Value → Option V
  | .none => some .non
  | .bool b => some (.bl b)
  | .int i _ => some (.int i)
  | .str x _ => some (.str x)
  | .bytes b _ => some (.byt b)
  | .float b _ => some (.flt b)
  | .ref a => some (.ref a)
  | .type n => some (.ty n)
  | _ => none
theorem RelV.abs {x : V} {u : Value} (r : RelV x u) : absV u = some x := by
  cases x with
  | non => cases r; rfl
  | bl _ => cases r; rfl
  | int _ => obtain ⟨t, rfl⟩ := r; rfl
  | str _ => obtain ⟨t, rfl⟩ := r; rfl
  | byt _ => obtain ⟨t, rfl⟩ := r; rfl
  | flt _ => obtain ⟨t, rfl⟩ := r; rfl
  | ref _ => cases r; rfl
  | ty _ => cases r; rfl
theorem RelV.inj {x y : V} {u : Value} (r : RelV x u) (q : RelV y u) : x = y := Option.some.inj (r.abs.symm.trans q.abs)
theorem Vals.inj : ∀ {xs ys : List V} {us : List Value}, Vals xs us → Vals ys us → xs = ys
  | _, _, _, .nil, .nil => rfl
  | _, _, _, .cons r t, .cons r' t' => by rw [r.inj r', Vals.inj t t']
section
variable {X : Cx} {pins : List (Addr × Obj)} {σ : St} {H : Hp} {s : Shared} {a : Addr} {xs ys : List V}
theorem SqL.of {K : PySem.W.Frag} (h : H a = some (.lst xs)) : SqL K H a xs := .inl (.inl h)
theorem SqT.of {K : PySem.W.Frag} (h : H a = some (.tup xs)) : SqT K H a xs := .inl (.inl h)
theorem Inv.list (I : Inv X pins σ H s) (h : SqL X.K H a xs) : ∃ its : List Value, Vals xs its ∧ PlainL s.heap a its.toArray ∧ xs.length ≤ sizeLine := by
  rcases h with h | ⟨o, its, n, hk, hc, hd, hs, hz, r⟩
  · obtain ⟨z, its, n, r, e⟩ := h.ok I.hok
    exact ⟨its, r, ⟨_, n, e, rfl, rfl, rfl⟩, z⟩
  · refine ⟨its.toList, r, ⟨o, n, I.kIn a o hk, hc, hd, by simpa using hs⟩, ?_⟩
    have e := r.length
    simp only [Array.length_toList] at e
    omega
theorem Inv.tuple (I : Inv X pins σ H s) (h : SqT X.K H a xs) : ∃ its : List Value, Vals xs its ∧ IsTup s.heap a its.toArray ∧ xs.length ≤ sizeLine := by
  rcases h with h | ⟨o, its, n, hk, hc, hs, hz, r⟩
  · obtain ⟨z, its, r, p⟩ := h.ok I.hok
    exact ⟨its, r, p, z⟩
  · refine ⟨its.toList, r, ⟨o, I.kIn a o hk, hc, n, by simpa using hs⟩, ?_⟩
    have e := r.length
    simp only [Array.length_toList] at e
    omega
theorem Inv.list_inj (I : Inv X pins σ H s) (h : SqL X.K H a xs) (h' : SqL X.K H a ys) : xs = ys := by
  obtain ⟨its, r, ⟨o, n, e, _, _, d⟩, _⟩ := I.list h
  obtain ⟨its', r', ⟨o', n', e', _, _, d'⟩, _⟩ := I.list h'
  rw [e] at e'; cases e'
  rw [d] at d'
  injection d' with d1 _
  have : its = its' := by simpa using congrArg Array.toList d1
  subst this
  exact r.inj r'
theorem Inv.tuple_inj (I : Inv X pins σ H s) (h : SqT X.K H a xs) (h' : SqT X.K H a ys) : xs = ys := by
  obtain ⟨its, r, ⟨o, e, _, n, d⟩, _⟩ := I.tuple h
  obtain ⟨its', r', ⟨o', e', _, n', d'⟩, _⟩ := I.tuple h'
  rw [e] at e'; cases e'
  rw [d] at d'
  injection d' with d1 _
  have : its = its' := by simpa using congrArg Array.toList d1
  subst this
  exact r.inj r'
end

/-! ### another wish about exceptions -/
noncomputable abbrev Cx.wish (X : Cx) (E : Value → Shared → Prop) : Cx := { X with xe := E }
/-- no exception leaves -/
noncomputable abbrev Cx.nox (X : Cx) : Cx := X.wish fun _ _ => False
theorem Cx.Ok.wish {X : Cx} (ok : X.Ok) (E : Value → Shared → Prop) : (X.wish E).Ok :=
  ⟨ok.mod, ok.kind, ok.glob, ok.blt, ok.above, ok.inj, ok.has, ok.cab, ok.hd, ok.frames, ok.stk, ok.exf, ok.bs, ok.bsz, ok.noex, ok.exfs, ok.funs, ok.frf⟩
theorem Cx.Ok.unwish {X : Cx} {E : Value → Shared → Prop} (ok : (X.wish E).Ok) : X.Ok :=
  ⟨ok.mod, ok.kind, ok.glob, ok.blt, ok.above, ok.inj, ok.has, ok.cab, ok.hd, ok.frames, ok.stk, ok.exf, ok.bs, ok.bsz, ok.noex, ok.exfs, ok.funs, ok.frf⟩
section
variable {X : Cx} {pins : List (Addr × Obj)} {σ : St} {H : Hp} {s : Shared} {E : Value → Shared → Prop}
theorem Inv.wish (I : Inv X pins σ H s) (E : Value → Shared → Prop) : Inv (X.wish E) pins σ H s := ⟨I.ok.wish E, I.os, I.bare, I.base, I.loc, I.cell, I.free, I.freeC, I.pin, I.hok, I.len⟩
theorem Inv.unwish (I : Inv (X.wish E) pins σ H s) : Inv X pins σ H s := ⟨I.ok.unwish, I.os, I.bare, I.base, I.loc, I.cell, I.free, I.freeC, I.pin, I.hok, I.len⟩
theorem SP.unwish {D : Ends} {f : Flow} {s' : Shared} (h : SP (X.wish E) pins D f s') : SP X pins D f s' := by
  cases f with
  | next => obtain ⟨σ', H', I, q⟩ := h; exact ⟨σ', H', I.unwish, q⟩
  | brk => obtain ⟨σ', H', I, q⟩ := h; exact ⟨σ', H', I.unwish, q⟩
  | cont => obtain ⟨σ', H', I, q⟩ := h; exact ⟨σ', H', I.unwish, q⟩
  | ret u => obtain ⟨v, σ', H', I, r, q⟩ := h; exact ⟨v, σ', H', I.unwish, r, q⟩
theorem PSs.nox {st : List Stmt} {t : TS} (h : PSs X.nox st t) : PSs X st t := fun pins s σ H D I hw =>
  wpAny_mono (h pins s σ H D (I.wish _) hw) (fun _ _ q => q.unwish) fun _ _ z => False.elim z
end

/-! ### blocks and small statements -/
section
variable {X : Cx} {st : Stmt} {rest : List Stmt} {t u : TS} {e : Expr} {te : TE} {pos : Pos}
noncomputable def tNext : TS := fun D σ H => D.nx σ H
noncomputable def tSeq (t u : TS) : TS := fun D σ H => t { D with nx := u D } σ H
theorem pss_nil : PSs X [] tNext := fun _ _ σ H _ I h => wpAny_execs_nil ⟨σ, H, I, h⟩
theorem pss_cons (h1 : PS X st t) (h2 : PSs X rest u) : PSs X (st :: rest) (tSeq t u) := by
  intro pins s σ H D I h
  refine wpAny_execs_cons (thn (h1 pins s σ H { D with nx := u D } I h) fun f s1 q => ?_)
  cases f with
  | next =>
    obtain ⟨σ', H', I', q⟩ := q
    exact h2 pins s1 σ' H' D I' q
  | ret v => exact q
  | brk => exact q
  | cont => exact q
theorem pss_one (h1 : PS X st t) : PSs X [st] t := by
  intro pins s σ H D I h
  refine wpAny_execs_cons (thn (h1 pins s σ H D I h) fun f s1 q => ?_)
  cases f with
  | next => exact wpAny_execs_nil q
  | ret v => exact q
  | brk => exact q
  | cont => exact q
/-- in a def's body nothing is shown -/
theorem Inv.quiet {pins : List (Addr × Obj)} {σ : St} {H : Hp} {s : Shared} (I : Inv X pins σ H s) : interactive X.env = false := by simp [interactive, I.ok.kind]
/-- an expression whose value is dropped -/
noncomputable def tDrop (te : TE) : TS := fun D σ H => te σ H fun _ H1 => D.nx σ H1
theorem ps_expr (he : PE X e te) (hs : swapsWith e none pos.line X.env = pure false := by rfl) : PS X (.Expr e pos) (tDrop te) := by
  intro pins s σ H D I h
  exact wpAny_Expr_any (thn (he pins s σ H _ I h) fun v s1 ⟨x, H1, I1, r1, q1⟩ => ⟨σ, H1, I1, q1⟩) I.quiet hs
noncomputable def tRet (te : TE) : TS := fun D σ H => te σ H D.rt
theorem ps_ret (he : PE X e te) : PS X (.Return (some e) pos) (tRet te) := by
  intro pins s σ H D I h
  exact wpAny_Return_some (thn (he pins s σ H _ I h) fun v s1 ⟨x, H1, I1, r1, q1⟩ => ⟨x, σ, H1, I1, r1, q1⟩)
noncomputable def tIfS (c : TT) (t u : TS) : TS := fun D σ H => c σ H fun b H1 => if b = true then t D σ H1 else u D σ H1
theorem ps_if {c : Expr} {a b : List Stmt} {tc : TT} (hc : PT X c tc) (ha : PSs X a t) (hb : PSs X b u) : PS X (.If c a b pos) (tIfS tc t u) := by
  intro pins s σ H D I h
  refine wpAny_If (thn (hc pins s σ H _ I h) fun d s1 ⟨H1, I1, q1⟩ => ?_)
  cases d with
  | true => exact ha pins s1 σ H1 D I1 q1
  | false => exact hb pins s1 σ H1 D I1 q1
end

/-! ### targets -/
noncomputable abbrev TG := V → St → Hp → (St → Hp → Prop) → Prop
noncomputable abbrev TGs := List V → St → Hp → (St → Hp → Prop) → Prop
noncomputable def PG (X : Cx) (target : Expr) (t : TG) : Prop :=
  ∀ (pins : List (Addr × Obj)) (s : Shared) (σ : St) (H : Hp) (v : V) (u : Value) (Q : St → Hp → Prop), Inv X pins σ H s → RelV v u → t v σ H Q →
    wpAny (model X.prog X.w) X.A (assign target X.env u) (fun _ s' => ∃ σ' H', Inv X pins σ' H' s' ∧ Q σ' H') X.xe s
/-- several targets, one after another -/
noncomputable def PGs (X : Cx) (ts : List Expr) (t : TGs) : Prop :=
  ∀ (pins : List (Addr × Obj)) (s : Shared) (σ : St) (H : Hp) (vs : List V) (us : List Value) (Q : St → Hp → Prop), Inv X pins σ H s → Vals vs us → t vs σ H Q →
    wpAny (model X.prog X.w) X.A (assignInOrder ((assignEach ts X.env).map (·.2)) us) (fun _ s' => ∃ σ' H', Inv X pins σ' H' s' ∧ Q σ' H') X.xe s
/-- a op= b, by values -/
noncomputable abbrev TIp := V → V → Hp → VK → Prop
noncomputable def PIp (X : Cx) (op : Operator) (t : TIp) : Prop :=
  ∀ (pins : List (Addr × Obj)) (s : Shared) (σ : St) (H : Hp) (x y : V) (v u : Value) (Q : VK), Inv X pins σ H s → RelV x v → RelV y u → t x y H Q →
    wpAny (model X.prog X.w) X.A (inplaceOp op v u) (EP X pins σ Q) X.xe s
section
variable {X : Cx} {pos : Pos}
noncomputable def gName (i : Nat) : TG := fun v σ H Q => Q (σ.set i (some v)) H
theorem pg_name {i : Nat} {x : Str} (hN : X.N.Nodup) (hi : X.N[i]? = some x) (hx : Loc X.env.scope x) (hf : X.fn x = true ∨ X.env.scope.names.lookup x = some .local := by first | exact .inl rfl | exact .inr rfl | assumption) : PG X (.Name x pos) (gName i) := by
  intro pins s σ H v u Q I r h
  exact wpAny_assign_Name (store_ok I hN hi hx r (fun s' I' => ⟨_, H, I', h⟩) hf)
noncomputable def gNil : TGs := fun vs σ H Q => vs = [] ∧ Q σ H
noncomputable def gCons (t : TG) (u : TGs) : TGs := fun vs σ H Q => ∃ v r, vs = v :: r ∧ t v σ H fun σ' H' => u r σ' H' Q
theorem pgs_nil : PGs X [] gNil := by
  intro pins s σ H vs us Q I r h
  obtain ⟨e, h⟩ := h
  subst e
  cases r
  exact assignInOrder_nil ⟨σ, H, I, h⟩
theorem pgs_cons {e : Expr} {es : List Expr} {t : TG} {u : TGs} (h1 : PG X e t) (h2 : PGs X es u)
    (hs : (assignEach (e :: es) X.env).map (·.2) = assign e X.env :: (assignEach es X.env).map (·.2) := by rfl) : PGs X (e :: es) (gCons t u) := by
  intro pins s σ H vs us Q I r h
  obtain ⟨v, vr, e1, h⟩ := h
  subst e1
  cases r with
  | cons r rr =>
    rw [hs]
    refine assignInOrder_cons (thn (h1 pins s σ H _ _ _ I r h) fun _ s1 ⟨σ1, H1, I1, q1⟩ => ?_)
    exact h2 pins s1 σ1 H1 _ _ Q I1 rr q1
/-- (a, b, ..) = a tuple of that length -/
noncomputable def gTup (K : PySem.W.Frag) (n : Nat) (t : TGs) : TG := fun v σ H Q => ∃ a xs, v = .ref a ∧ SqT K H a xs ∧ xs.length = n ∧ t xs σ H Q
theorem pg_tup {es : List Expr} {k : Nat} {t : TGs} {n : Nat} (hc : X.calm = true) (h : PGs X es t)
    (hn : (assignEach es X.env).length = n := by rfl) (hst : (assignEach es X.env).findIdx? (·.1) = none := by rfl) : PG X (.Tuple es k pos) (gTup X.K n t) := by
  intro pins s σ H v u Q I r hw
  obtain ⟨a, xs, e1, hq, hl, hw⟩ := hw
  subst e1
  cases r
  obtain ⟨its, rv, ht, hz⟩ := I.tuple hq
  refine assign_Tuple_tuple (I.ok.hd hc) ht (by simp [hn, ← hl, rv.length]) hst fun h' hx => ?_
  have I1 : Inv X pins σ H { s with heap := h' } := I.kept (t' := s.toks) fun b o e => hx b o (Nat.ne_of_lt (Heap.lt_size e)) e
  exact h pins _ σ H xs _ Q I1 (by simpa using rv) hw
/-- target = value -/
noncomputable def tAsg (te : TE) (g : TG) : TS := fun D σ H => te σ H fun x H1 => g x σ H1 D.nx
/-- name = value -/
theorem ps_set {i : Nat} {x : Str} {e : Expr} {te : TE} {pos' : Pos} (hN : X.N.Nodup) (hi : X.N[i]? = some x) (hx : Loc X.env.scope x) (he : PE X e te) (hs : swapsWith e (some (.Name x pos')) pos.line X.env = pure false := by rfl) (hf : X.fn x = true ∨ X.env.scope.names.lookup x = some .local := by first | exact .inl rfl | exact .inr rfl | assumption) :
    PS X (.Assign [.Name x pos'] e pos) (tAsg te (gName i)) := by
  intro pins s σ H D I h
  refine wpAny_Assign_Name (thn (he pins s σ H _ I h) fun v s1 ⟨y, H1, I1, r1, q1⟩ => ?_) hs
  exact store_ok I1 hN hi hx r1 (fun s2 I2 => ⟨_, H1, I2, q1⟩) hf
/-- name op= e -/
noncomputable def tAug (i : Nat) (te : TE) (ti : TIp) : TS := fun D σ H => ∃ x, σ[i]? = some (some x) ∧ te σ H fun y H1 => ti x y H1 fun z H2 => D.nx (σ.set i (some z)) H2
theorem ps_aug {i : Nat} {x : Str} {e : Expr} {te : TE} {op : Operator} {ti : TIp} {pos' : Pos} (hN : X.N.Nodup) (hi : X.N[i]? = some x) (hx : Loc X.env.scope x) (he : PE X e te) (ho : PIp X op ti) (hf : X.fn x = true ∨ X.env.scope.names.lookup x = some .local := by first | exact .inl rfl | exact .inr rfl | assumption) :
    PS X (.AugAssign (.Name x pos') op e pos) (tAug i te ti) := by
  intro pins s σ H D I h
  obtain ⟨v, e1, h⟩ := h
  obtain ⟨m, hn, hl⟩ := I.loc
  have vis : Vis X.env.scope x := by rcases hx with k | k; exact .inl k; exact .inr (.inl k)
  obtain ⟨u, r, l⟩ := hl i x v hi e1 vis
  refine wpAny_AugAssign_Name ?_
  have go : wpAny (model X.prog X.w) X.A (eval e X.env) (fun w s₂ => wpAny (model X.prog X.w) X.A (inplaceOp op u w) (fun r s₃ => wpAny (model X.prog X.w) X.A (storeName X.env x r) (fun _ => SP X pins D .next) X.xe s₃) X.xe s₂) X.xe s := by
    refine thn (he pins s σ H _ I h) fun w s1 ⟨y, H1, I1, r1, q1⟩ => ?_
    refine thn (ho pins s1 σ H1 v y u w _ I1 r r1 q1) fun z s2 ⟨zv, H2, I2, r2, q2⟩ => ?_
    exact store_ok I2 hN hi hx r2 (fun s3 I3 => ⟨_, H2, I3, q2⟩) hf
  rcases l with ⟨hk, hm⟩ | ⟨hk, c, hc, hcell⟩
  · exact wpAny_loadName_local I.ok.kind hk hn hm go
  · rcases hk with hk | hk
    · exact wpAny_loadName_cell I.ok.kind hk hc hcell go
    · rcases hx with k | k
      · have : X.env.scope.names.lookup x = some .free := hk
        rw [k] at this; cases this
      · have : X.env.scope.names.lookup x = some .free := hk
        rw [k] at this; cases this
/-- ints -/
noncomputable def ipI (f : Int → Int → Int) : TIp := fun x y H Q => ∃ i j, x = .int i ∧ y = .int j ∧ Q (.int (f i j)) H
theorem ip_add : PIp X .Add (ipI fun i j => i + j) := by
  intro pins s σ H x y v u Q I r1 r2 h
  obtain ⟨i, j, e1, e2, q⟩ := h
  subst e1; subst e2
  obtain ⟨t, rfl⟩ := r1
  obtain ⟨t', rfl⟩ := r2
  exact iadd_int ⟨.int _, H, I.tok _, ⟨_, rfl⟩, q⟩
end

/-! ### while -/
section
variable {X : Cx} {pos : Pos}
/-- the invariant W with its measure -/
noncomputable def tWhile (c : TT) (tb : TS) : TS := fun D σ H => ∃ W : Nat → St → Hp → Prop, (∃ m, W m σ H) ∧ ∀ m σ H, W m σ H →
  c σ H fun b H1 => if b = true then ∃ N : St → Hp → Prop, (∀ σ' H', N σ' H' → ∃ m', m' < m ∧ W m' σ' H') ∧ tb { D with nx := N, ct := N, bk := D.nx } σ H1 else D.nx σ H1
theorem ps_while {c : Expr} {body : List Stmt} {tc : TT} {tb : TS} (hp : PassesOwn (model X.prog X.w) X.A X.env X.xe) (hc : PT X c tc) (hb : PSs X body tb) : PS X (.While c body [] pos) (tWhile tc tb) := by
  intro pins s σ H D I h
  obtain ⟨W, ⟨m0, w0⟩, turn⟩ := h
  refine wpAny_While (codeAny_whileLoop (fun n s' => ∃ σ' H', Inv X pins σ' H' s' ∧ W n σ' H') ?_ m0 ⟨σ, H, I, w0⟩)
  rintro n s1 ⟨σ1, H1, I1, w1⟩
  refine wpAny_passesOwn hp (thn (hc pins s1 σ1 H1 _ I1 (turn n σ1 H1 w1)) fun b s2 ⟨H2, I2, q2⟩ => ?_)
  cases b with
  | true =>
    obtain ⟨N, hN, q2⟩ := q2
    rw [if_pos rfl]
    refine wpAny_passesOwn hp (thn (hb pins s2 σ1 H2 _ I2 q2) fun f s3 q3 => ?_)
    cases f with
    | next =>
      obtain ⟨σ3, H3, I3, n3⟩ := q3
      obtain ⟨m', hm, w3⟩ := hN σ3 H3 n3
      exact ⟨m', hm, σ3, H3, I3, w3⟩
    | cont =>
      obtain ⟨σ3, H3, I3, n3⟩ := q3
      obtain ⟨m', hm, w3⟩ := hN σ3 H3 n3
      exact ⟨m', hm, σ3, H3, I3, w3⟩
    | brk => exact q3
    | ret v => exact q3
  | false =>
    rw [if_neg Bool.false_ne_true]
    exact wpAny_execs_nil ⟨σ1, H2, I2, q2⟩
end

/-! ### what a loop or a comprehension walks -/
/-- at turn i: it yields x (the heap may grow), or it stops -/
structure It where
  go : Nat → Hp → Prop
  yld : Nat → Hp → V → Hp → Prop
  stop : Nat → Hp → Prop
/-- the iterator's own objects may turn: they are not the frame's, not pinned, younger than the entry (or a comprehension's own) -/
noncomputable def FpOk (X : Cx) (pins : List (Addr × Obj)) (H : Hp) (b : Addr) : Prop :=
  H b = none ∧ b ≠ X.env.locals ∧ b ∉ X.fs ∧ (b ∈ X.ex ∨ X.s_0.heap.objs.size ≤ b) ∧ (∀ x c, X.env.cells.lookup x = some c → c ≠ b) ∧ ∀ p ∈ X.pn ++ pins, p.1 ≠ b
theorem Inv.fpOk {X : Cx} {pins : List (Addr × Obj)} {σ : St} {H H' : Hp} {s : Shared} {b : Addr} (I : Inv X pins σ H s) (hb : s.heap.objs.size ≤ b) (hn : H' b = none) : FpOk X pins H' b := by
  refine ⟨hn, Nat.ne_of_gt (Nat.lt_of_lt_of_le I.lt hb), I.nofs hb, .inr (Nat.le_trans I.sz hb), fun x c e z => ?_, fun p hp z => ?_⟩
  · obtain ⟨v, q⟩ := I.cell x c e
    exact absurd (Nat.lt_of_lt_of_le q.lt (by rw [z]; exact hb)) (Nat.lt_irrefl _)
  · exact absurd (Nat.lt_of_lt_of_le (Heap.lt_size (I.pin p hp).1) (by rw [z]; exact hb)) (Nat.lt_irrefl _)
structure Turn (P : Program) (w : World) (K : PySem.W.Frag) (tg : Expr) (J : It) (fp : List Addr) (it : Addr) (tn : Nat → Heap → Prop) : Prop where
  mem : it ∈ fp
  obj : ∀ i h, tn i h → ∀ b ∈ fp, ∃ o, h.get? b = some o ∧ ∀ v, o.data ≠ .cell v
  keep : ∀ i h h', tn i h → (∀ b ∈ fp, ∀ o, h.get? b = some o → h'.get? b = some o) → tn i h'
  item : ∀ (X : Cx), X.prog = P → X.w = w → X.K = K → X.calm = true → ∀ (i : Nat) (pins : List (Addr × Obj)) (s : Shared) (σ : St) (H : Hp) (E : Value → Shared → Prop), Inv X pins σ H s → (∀ b ∈ fp, FpOk X pins H b) → tn i s.heap → J.go i H →
    wpAny (model P w) X.A (pyNext (.ref it)) (fun r s1 => ∃ u, r = some u ∧
      wpAny (model P w) X.A (letOwnedTupleGo tg (.ref it) u) (fun _ s2 => ∃ x H', Inv X pins σ H' s2 ∧ RelV x u ∧ J.yld i H x H' ∧ tn (i + 1) s2.heap ∧ ∀ b ∈ fp, H' b = none) E s1) E s
  done : ∀ (X : Cx), X.prog = P → X.w = w → X.K = K → X.calm = true → ∀ (i : Nat) (pins : List (Addr × Obj)) (s : Shared) (σ : St) (H : Hp) (E : Value → Shared → Prop), Inv X pins σ H s → (∀ b ∈ fp, FpOk X pins H b) → tn i s.heap → J.stop i H →
    wpAny (model P w) X.A (pyNext (.ref it)) (fun r s1 => r = none ∧ Inv X pins σ H s1) E s
  self : ∀ (A : Around) (i : Nat) (s : Shared) (Q : Value → Shared → Prop) (E : Value → Shared → Prop), tn i s.heap → Q (.ref it) s → wpAny (model P w) A (pyIter (.ref it)) Q E s
noncomputable abbrev TI := St → Hp → (It → Hp → Prop) → Prop
/-- an iterator has come -/
noncomputable def PIE (X : Cx) (pins : List (Addr × Obj)) (σ : St) (tg : Expr) (R : It → Hp → Prop) (itv : Value) (s2 : Shared) : Prop :=
  ∃ (it : Addr) (fp : List Addr) (tn : Nat → Heap → Prop) (J : It) (H' : Hp), itv = .ref it ∧ Inv X pins σ H' s2 ∧ Turn X.prog X.w X.K tg J fp it tn ∧ tn 0 s2.heap ∧ (∀ b ∈ fp, FpOk X pins H' b) ∧ R J H'
noncomputable def PI (X : Cx) (tg iter : Expr) (wi : TI) : Prop :=
  ∀ (pins : List (Addr × Obj)) (s : Shared) (σ : St) (H : Hp) (R : It → Hp → Prop), Inv X pins σ H s → wi σ H R →
    wpAny (model X.prog X.w) X.A (eval iter X.env) (fun v s1 => wpAny (model X.prog X.w) X.A (pyIter v) (PIE X pins σ tg R) X.xe s1) X.xe s

/-- the step ahead of the store is nothing for an iterator that keeps no tuple -/
theorem go_of {M : Model} {A : Around} {E : Value → Shared → Prop} {s : Shared} {tg : Expr} {it : Addr} {u : Value} {o : Obj} {n : String} {vs : Array Value} {Q : Unit → Shared → Prop} (ho : s.heap.get? it = some o) (hc : o.cls = .type n) (hd : o.data = .fields vs)
    (hn : ["enumerate", "zip", "dict_itemiterator", "dict_reverseitemiterator", "odict_iterator", "itertools.zip_longest", "itertools.pairwise"].contains n = false) (hQ : Q () s) : wpAny M A (letOwnedTupleGo tg (.ref it) u) Q E s := by
  unfold letOwnedTupleGo
  cases tg <;> first
    | exact wpAny_pure hQ
    | (cases u <;> first
        | exact wpAny_pure hQ
        | (refine wpAny_bind (wpAny_load ho ?_)
           rw [hc, hd]
           show wpAny M A (if (["enumerate", "zip", "dict_itemiterator", "dict_reverseitemiterator", "odict_iterator", "itertools.zip_longest", "itertools.pairwise"].contains n && vs[0]? == some (rawInt _)) = true then _ else _) Q E s
           rw [if_neg (by intro h; rw [hn, Bool.false_and] at h; cases h)]
           exact wpAny_pure hQ))

/-- the list at a, as it stands at each turn (a loop may append to it) -/
noncomputable def Itl (K : PySem.W.Frag) (a : Addr) : It :=
  ⟨fun i H => ∃ xs x, SqL K H a xs ∧ xs[i]? = some x, fun i H x H' => H' = H ∧ ∀ xs, SqL K H a xs → xs[i]? = some x, fun i H => ∃ xs, SqL K H a xs ∧ xs.length ≤ i⟩
/-- lo, lo + 1, .. (n of them) -/
noncomputable def Itr (lo : Int) (n : Nat) : It := ⟨fun i _ => i < n, fun i H x H' => H' = H ∧ x = .int (lo + i), fun i _ => n ≤ i⟩
theorem turn_list {P : Program} {w : World} {K : PySem.W.Frag} {tg : Expr} (a it : Addr) : Turn P w K tg (Itl K a) [it] it (fun i h => h.IsListIter it a i) where
  mem := by simp
  obj := fun i h st b hb => by
    have e : b = it := by simpa using hb
    subst e
    obtain ⟨o, e, c, d⟩ := st
    exact ⟨o, e, fun v z => by rw [d] at z; cases z⟩
  keep := fun i h h' st k => st.at fun o e => k it (by simp) o e
  item := by
    intro X hP hw hK hc i pins s σ H E I hf st hg
    subst hP hw hK
    obtain ⟨xs, x, hq, hx⟩ := hg
    obtain ⟨its, rv, p, hz⟩ := I.list hq
    obtain ⟨u, hu, ru⟩ := rv.get hx
    obtain ⟨f0, f1, f2, f3, f4, f5⟩ := hf it (by simp)
    refine wpAny_pyNext_list_item st p.isList (x := u) (by simpa using hu) fun h' st' sb => ?_
    have I1 : Inv X pins σ H { s with heap := h' } := I.turned (t' := s.toks) (fun b o hb e => (sb.2 b hb).trans e) f0 f1 f3 f4 f5
    obtain ⟨o, e, c, d⟩ := id st'
    exact ⟨u, rfl, go_of (s := { s with heap := h' }) e c d (by decide) ⟨x, H, I1, ru, ⟨rfl, fun ys hy => by rw [I.list_inj hy hq]; exact hx⟩, st', fun b hb => (hf b hb).1⟩⟩
  done := by
    intro X hP hw hK hc i pins s σ H E I hf st hg
    subst hP hw hK
    obtain ⟨xs, hq, hx⟩ := hg
    obtain ⟨its, rv, p, hz⟩ := I.list hq
    obtain ⟨f0, f1, f2, f3, f4, f5⟩ := hf it (by simp)
    have hl := rv.length
    exact wpAny_pyNext_list_end (I.ok.hd hc) st p.isList (by simp; omega) fun h' eb => ⟨rfl, I.turned (t' := s.toks) (fun b o hb e => eb b o hb e) f0 f1 f3 f4 f5⟩
  self := fun _ _ _ _ _ st h => wpAny_pyIter_listiter st h
theorem turn_range {P : Program} {w : World} {K : PySem.W.Frag} {tg : Expr} (it : Addr) (lo : Int) (n : Nat) : Turn P w K tg (Itr lo n) [it] it (fun i h => IsRangeIter h it (lo + (i : Nat) * 1) ((n : Int) - (i : Nat)) 1) where
  mem := by simp
  obj := fun i h st b hb => by
    have e : b = it := by simpa using hb
    subst e
    exact ⟨_, st, fun v z => by
      have z' : Data.fields _ = Data.cell v := z
      cases z'⟩
  keep := fun i h h' st k => k it (by simp) _ st
  item := by
    intro X hP hw hK hc i pins s σ H E I hf st hg
    subst hP hw hK
    obtain ⟨f0, f1, f2, f3, f4, f5⟩ := hf it (by simp)
    have W := Walks.range (prog := X.prog) (w := X.w) (I.ok.hd hc) it lo 1 n
    refine W.item i s _ _ hg st fun v h' tk hv st' kk => ?_
    obtain ⟨t, rfl⟩ := hv
    have I1 : Inv X pins σ H { s with heap := h', toks := tk } := I.turned (fun b o hb e => kk b o (by simpa using hb) e) f0 f1 f3 f4 f5
    refine ⟨_, rfl, go_of (s := { s with heap := h', toks := tk }) (n := "range_iterator") st' rfl rfl (by decide) ⟨.int (lo + i), H, I1, ⟨t, ?_⟩, ⟨rfl, rfl⟩, st', fun b hb => (hf b hb).1⟩⟩
    rw [Int.mul_one]
  done := by
    intro X hP hw hK hc i pins s σ H E I hf st hg
    subst hP hw hK
    obtain ⟨f0, f1, f2, f3, f4, f5⟩ := hf it (by simp)
    exact wpAny_pyNext_range_end (I.ok.hd hc) st (by have : n ≤ i := hg; omega) fun h' eb => ⟨rfl, I.turned (t' := s.toks) (fun b o hb e => eb b o hb e) f0 f1 f3 f4 f5⟩
  self := fun _ _ _ _ _ st h => wpAny_pyIter_rangeiter st h
end L2

namespace L2
open PySem PySem.Spec PyProof.Rows
section
variable {X : Cx} {tg : Expr}
noncomputable def iList (K : PySem.W.Frag) (tl : TE) : TI := fun σ H R => tl σ H fun x H1 => ∃ a, x = .ref a ∧ (∃ xs, SqL K H1 a xs) ∧ R (Itl K a) H1
theorem pi_list {l : Expr} {tl : TE} (hl : PE X l tl) : PI X tg l (iList X.K tl) := by
  intro pins s σ H R I h
  refine thn (hl pins s σ H _ I h) fun v s1 ⟨x, H1, I1, r1, q1⟩ => ?_
  obtain ⟨a, e, ⟨xs, hq⟩, q⟩ := q1
  subst e
  cases r1
  obtain ⟨its, rv, p, hz⟩ := I1.list hq
  refine wpAny_pyIter_list p.isList ?_
  refine ⟨s1.heap.objs.size, [s1.heap.objs.size], _, _, H1, rfl, I1.kept (t' := s1.toks) fun b o e => Heap.get?_push_of_some _ e, turn_list a _, ⟨_, Heap.get?_push_size _ rfl, rfl, rfl⟩, fun b hb => ?_, q⟩
  have e : b = s1.heap.objs.size := by simpa using hb
  subst e
  exact I1.fpOk (Nat.le_refl _) (I1.hok.fresh (Nat.le_refl _))
/-- a range object just made, walked -/
theorem range_it {pins : List (Addr × Obj)} {σ : St} {H : Hp} {s : Shared} {R : It → Hp → Prop} {E : Value → Shared → Prop} {lo hi : Int} {t u v : Tok} {tk : Nat} (I : Inv X pins σ H s) (h1 : -(2 ^ 62) ≤ lo) (h2 : lo < 2 ^ 62) (h3 : -(2 ^ 62) ≤ hi) (h4 : hi < 2 ^ 62)
    (q : R (Itr lo (hi - lo).toNat) H) : wpAny (model X.prog X.w) X.A (pyIter (.ref s.heap.objs.size)) (PIE X pins σ tg R) E { s with heap := s.heap.push { cls := .type "range", data := .fields #[.int lo t, .int hi u, .int 1 v] }, toks := tk } := by
  refine wpAny_pyIter_range (IsRange.new ..) (small_one h1 h2 h3 h4) ?_
  have I1 : Inv X pins σ H { s with heap := s.heap.push { cls := .type "range", data := .fields #[.int lo t, .int hi u, .int 1 v] }, toks := tk } := I.kept fun b o e => Heap.get?_push_of_some _ e
  refine ⟨(s.heap.push { cls := .type "range", data := .fields #[.int lo t, .int hi u, .int 1 v] }).objs.size, [(s.heap.push { cls := .type "range", data := .fields #[.int lo t, .int hi u, .int 1 v] }).objs.size], _, _, H, rfl,
    I1.kept (t' := tk) fun b o e => Heap.get?_push_of_some _ e, turn_range _ lo (hi - lo).toNat, ?_, fun b hb => ?_, q⟩
  · have e1 : lo + ((0 : Nat) : Int) * 1 = lo := by simp
    have e2 : (((hi - lo).toNat : Nat) : Int) - ((0 : Nat) : Int) = Builtin.Range.rangeSize lo hi 1 := by rw [rangeSize_one]; split <;> omega
    show IsRangeIter _ _ (lo + ((0 : Nat) : Int) * 1) ((((hi - lo).toNat : Nat) : Int) - ((0 : Nat) : Int)) 1
    rw [e1, e2]
    exact Heap.get?_push_size _ rfl
  · have e : b = (s.heap.push { cls := .type "range", data := .fields #[.int lo t, .int hi u, .int 1 v] }).objs.size := by simpa using hb
    subst e
    exact I1.fpOk (Nat.le_refl _) (I1.hok.fresh (Nat.le_refl _))
noncomputable def iRng1 (ta : TA) : TI := fun σ H R => ta σ H fun vs H1 => ∃ j : Int, vs = [.int j] ∧ -(2 ^ 62) ≤ j ∧ j < 2 ^ 62 ∧ R (Itr 0 j.toNat) H1
noncomputable def iRng2 (ta : TA) : TI := fun σ H R => ta σ H fun vs H1 => ∃ i j : Int, vs = [.int i, .int j] ∧ (-(2 ^ 62) ≤ i ∧ i < 2 ^ 62 ∧ -(2 ^ 62) ≤ j ∧ j < 2 ^ 62) ∧ R (Itr i (j - i).toNat) H1
theorem pi_range1 {a : Expr} {ta : TA} {p pos : Pos} (hg : Gl X "range") (hm : X.mg "range" = none) (ha : PA X [a] ta) (hs : starEach [a] X.env = [(false, eval a X.env)] := by rfl) : PI X tg (.Call (.Name "range" p) [a] [] pos) (iRng1 ta) := by
  intro pins s σ H R I h
  refine Call_ (ld_blt I hg hm boot_range (PyProof.Rows.callWith_type1 (thn (ha pos pins s σ H _ I h) fun us s1 ⟨vs, H1, I1, r1, q1⟩ => ?_) hs rfl))
  obtain ⟨j, e, q1, q2, q⟩ := q1
  subst e
  cases r1 with
  | cons r rr =>
    cases rr
    obtain ⟨t, rfl⟩ := r
    exact call_range_1 (range_it I1 (by omega) (by omega) q1 q2 (by simpa using q))
theorem pi_range2 {a b : Expr} {ta : TA} {p pos : Pos} (hg : Gl X "range") (hm : X.mg "range" = none) (ha : PA X [a, b] ta) (hs : starEach [a, b] X.env = [(false, eval a X.env), (false, eval b X.env)] := by rfl) (hs2 : starEach [b] X.env = [(false, eval b X.env)] := by rfl) :
    PI X tg (.Call (.Name "range" p) [a, b] [] pos) (iRng2 ta) := by
  intro pins s σ H R I h
  refine Call_ (ld_blt I hg hm boot_range (PyProof.Rows.callWith_type1 (thn (ha pos pins s σ H _ I h) fun us s1 ⟨vs, H1, I1, r1, q1⟩ => ?_) (by rw [hs, hs2]) (by rw [hs2]; rfl)))
  obtain ⟨i, j, e, ⟨q1, q2, q3, q4⟩, q⟩ := q1
  subst e
  cases r1 with
  | cons r rr =>
    cases rr with
    | cons r' rr =>
      cases rr
      obtain ⟨t, rfl⟩ := r
      obtain ⟨t', rfl⟩ := r'
      exact call_range_2 (range_it I1 q1 q2 q3 q4 q)

/-! ### for -/
/-- W: the invariant by the turn and a measure; N: what the body is to reach -/
noncomputable def tFor (wi : TI) (g : TG) (tb : TS) : TS := fun D σ H => wi σ H fun J H1 => ∃ W : Nat → Nat → St → Hp → Prop, (∃ m, W 0 m σ H1) ∧ ∀ i m σ H, W i m σ H →
  (J.stop i H ∧ D.nx σ H) ∨ (J.go i H ∧ ∃ N : St → Hp → Prop, (∀ σ' H', N σ' H' → ∃ m', m' < m ∧ W (i + 1) m' σ' H') ∧ ∀ x H', J.yld i H x H' → g x σ H' fun σ2 H2 => tb { D with nx := N, ct := N, bk := D.nx } σ2 H2)
/-- the records at fp as they stand -/
noncomputable def pinsAt (fp : List Addr) (h : Heap) : List (Addr × Obj) := fp.filterMap fun b => (h.get? b).map fun o => (b, o)
theorem mem_pinsAt {fp : List Addr} {h : Heap} {b : Addr} {o : Obj} (hb : b ∈ fp) (e : h.get? b = some o) : (b, o) ∈ pinsAt fp h := List.mem_filterMap.mpr ⟨b, hb, by rw [e]; rfl⟩
theorem of_pinsAt {fp : List Addr} {h : Heap} {p : Addr × Obj} (hp : p ∈ pinsAt fp h) : p.1 ∈ fp ∧ h.get? p.1 = some p.2 := by
  obtain ⟨b, hb, e⟩ := List.mem_filterMap.mp hp
  cases q : h.get? b with
  | none => rw [q] at e; cases e
  | some o =>
    rw [q] at e
    have e' : (b, o) = p := Option.some.inj e
    subst e'
    exact ⟨hb, q⟩
theorem Inv.pinned {pins : List (Addr × Obj)} {σ : St} {H : Hp} {s : Shared} {fp : List Addr} (I : Inv X pins σ H s) (hf : ∀ b ∈ fp, FpOk X pins H b) (ho : ∀ b ∈ fp, ∃ o, s.heap.get? b = some o ∧ ∀ v, o.data ≠ .cell v) : Inv X (pins ++ pinsAt fp s.heap) σ H s :=
  I.pins_of fun p hp => (List.mem_append.mp hp).elim (fun z => I.pin p (List.mem_append_right _ z)) fun z => by
    obtain ⟨hb, e⟩ := of_pinsAt z
    obtain ⟨f0, f1, f2, _⟩ := hf p.1 hb
    obtain ⟨o, e', d⟩ := ho p.1 hb
    rw [e] at e'; cases e'
    exact ⟨e, f0, f1, f2, d⟩
theorem Inv.unpinned {pins pl : List (Addr × Obj)} {σ : St} {H : Hp} {s : Shared} (I : Inv X (pins ++ pl) σ H s) : Inv X pins σ H s := I.pins_of fun p hp => I.pin p (List.mem_append_right _ (List.mem_append_left _ hp))
theorem ps_for {iter : Expr} {body : List Stmt} {wi : TI} {g : TG} {tb : TS} {pos : Pos} (hp : PassesOwn (model X.prog X.w) X.A X.env X.xe) (hc : X.calm = true) (hi : PI X tg iter wi) (hg : PG X tg g) (hb : PSs X body tb)
    (hs : ∀ x, foldedSetIterable iter X.env x = pure x := by intro _; rfl) : PS X (.For tg iter body [] pos) (tFor wi g tb) := by
  intro pins s σ H D I h
  refine wpAny_For (thn (hi pins s σ H _ I h) fun v s1 h1 => thn h1 fun itv s2 h2 => ?_) hs
  obtain ⟨it, fp, tn, J, H2, e, I2, T, st2, f2, W, ⟨m0, w0⟩, turn⟩ := h2
  subst e
  -- what stays true of the iterator's objects through the loop
  have stat : ∀ {H' : Hp}, (∀ b ∈ fp, H' b = none) → ∀ b ∈ fp, FpOk X pins H' b := fun hn b hb => ⟨hn b hb, (f2 b hb).2⟩
  refine codeAny_forLoop_any (fun n s' => ∃ i σ' H', Inv X pins σ' H' s' ∧ tn i s'.heap ∧ (∀ b ∈ fp, H' b = none) ∧ W i n σ' H') ?_ m0 ⟨0, σ, H2, I2, st2, fun b hb => (f2 b hb).1, w0⟩
  rintro n s3 ⟨i, σ3, H3, I3, st3, fr3, w3⟩
  rcases turn i n σ3 H3 w3 with ⟨stop, qn⟩ | ⟨go, N, hN, step⟩
  · refine wpAny_passesOwn hp (thn (T.done X rfl rfl rfl hc i pins s3 σ3 H3 X.xe I3 (stat fr3) st3 stop) fun r s4 ⟨hr, I4⟩ => ?_)
    subst hr
    exact wpAny_execs_nil ⟨σ3, H3, I4, qn⟩
  · refine wpAny_passesOwn hp (thn (T.item X rfl rfl rfl hc i pins s3 σ3 H3 X.xe I3 (stat fr3) st3 go) fun r s4 ⟨u, hr, h4⟩ => ?_)
    subst hr
    refine wpAny_passesOwn hp (thn h4 fun _ s5 ⟨x, H5, I5, r5, y5, st5, fr5⟩ => ?_)
    have I5' := I5.pinned (stat fr5) (T.obj _ _ st5)
    refine wpAny_passesOwn hp (thn (hg _ s5 σ3 H5 x u _ I5' r5 (step x H5 y5)) fun _ s6 ⟨σ6, H6, I6, q6⟩ => ?_)
    refine wpAny_passesOwn hp (thn (hb _ s6 σ6 H6 _ I6 q6) fun f s7 q7 => ?_)
    have again : ∀ {σ7 : St} {H7 : Hp}, Inv X (pins ++ pinsAt fp s5.heap) σ7 H7 s7 → N σ7 H7 → ∃ m, m < n ∧ ∃ i σ' H', Inv X pins σ' H' s7 ∧ tn i s7.heap ∧ (∀ b ∈ fp, H' b = none) ∧ W i m σ' H' := fun {σ7 H7} I7 n7 => by
      obtain ⟨m', hm, w7⟩ := hN σ7 H7 n7
      refine ⟨m', hm, i + 1, σ7, H7, I7.unpinned, T.keep _ _ _ st5 fun b hb o e => (I7.pin (b, o) (List.mem_append_right _ (List.mem_append_right _ (mem_pinsAt hb e)))).1, fun b hb => ?_, w7⟩
      obtain ⟨o, e, d⟩ := T.obj _ _ st5 b hb
      exact (I7.pin (b, o) (List.mem_append_right _ (List.mem_append_right _ (mem_pinsAt hb e)))).2.1
    cases f with
    | next => obtain ⟨σ7, H7, I7, n7⟩ := q7; exact again I7 n7
    | cont => obtain ⟨σ7, H7, I7, n7⟩ := q7; exact again I7 n7
    | brk => obtain ⟨σ7, H7, I7, q7⟩ := q7; exact ⟨σ7, H7, I7.unpinned, q7⟩
    | ret v => obtain ⟨x7, σ7, H7, I7, r7, q7⟩ := q7; exact ⟨x7, σ7, H7, I7.unpinned, r7, q7⟩
end

/-! ### the forms one uses -/
/-- over a list that the body leaves as it is -/
theorem for_list {K : PySem.W.Frag} {a : Addr} {xs : List V} {g : TG} {tb : TS} {D : Ends} {σ : St} {H : Hp} (Pv : Nat → St → Hp → Prop) (h0 : Pv 0 σ H) (hl : ∀ i σ H, i ≤ xs.length → Pv i σ H → SqL K H a xs)
    (hs : ∀ i x σ H, xs[i]? = some x → Pv i σ H → g x σ H fun σ2 H2 => tb { D with nx := Pv (i + 1), ct := Pv (i + 1), bk := D.nx } σ2 H2) (hd : ∀ σ H, Pv xs.length σ H → D.nx σ H) :
    ∃ W : Nat → Nat → St → Hp → Prop, (∃ m, W 0 m σ H) ∧ ∀ i m σ H, W i m σ H →
      ((Itl K a).stop i H ∧ D.nx σ H) ∨ ((Itl K a).go i H ∧ ∃ N : St → Hp → Prop, (∀ σ' H', N σ' H' → ∃ m', m' < m ∧ W (i + 1) m' σ' H') ∧ ∀ x H', (Itl K a).yld i H x H' → g x σ H' fun σ2 H2 => tb { D with nx := N, ct := N, bk := D.nx } σ2 H2) := by
  refine ⟨fun i m σ H => m = xs.length - i ∧ i ≤ xs.length ∧ Pv i σ H, ⟨xs.length, by simp, Nat.zero_le _, h0⟩, ?_⟩
  rintro i m σ H ⟨rfl, hi, p⟩
  have q := hl i σ H hi p
  by_cases hlt : i < xs.length
  · refine .inr ⟨⟨xs, xs[i], q, by simp [hlt]⟩, Pv (i + 1), fun σ' H' p' => ⟨xs.length - (i + 1), by omega, rfl, hlt, p'⟩, fun x H' y => ?_⟩
    obtain ⟨e, y⟩ := y
    subst e
    exact hs i x σ _ (y xs q) p
  · have e : i = xs.length := by omega
    subst e
    exact .inl ⟨⟨xs, q, Nat.le_refl _⟩, hd σ H p⟩
theorem for_range {lo : Int} {n : Nat} {g : TG} {tb : TS} {D : Ends} {σ : St} {H : Hp} (Pv : Nat → St → Hp → Prop) (h0 : Pv 0 σ H)
    (hs : ∀ i σ H, i < n → Pv i σ H → g (.int (lo + i)) σ H fun σ2 H2 => tb { D with nx := Pv (i + 1), ct := Pv (i + 1), bk := D.nx } σ2 H2) (hd : ∀ σ H, Pv n σ H → D.nx σ H) :
    ∃ W : Nat → Nat → St → Hp → Prop, (∃ m, W 0 m σ H) ∧ ∀ i m σ H, W i m σ H →
      ((Itr lo n).stop i H ∧ D.nx σ H) ∨ ((Itr lo n).go i H ∧ ∃ N : St → Hp → Prop, (∀ σ' H', N σ' H' → ∃ m', m' < m ∧ W (i + 1) m' σ' H') ∧ ∀ x H', (Itr lo n).yld i H x H' → g x σ H' fun σ2 H2 => tb { D with nx := N, ct := N, bk := D.nx } σ2 H2) := by
  refine ⟨fun i m σ H => m = n - i ∧ i ≤ n ∧ Pv i σ H, ⟨n, by simp, Nat.zero_le _, h0⟩, ?_⟩
  rintro i m σ H ⟨rfl, hi, p⟩
  by_cases hlt : i < n
  · refine .inr ⟨hlt, Pv (i + 1), fun σ' H' p' => ⟨n - (i + 1), by omega, rfl, hlt, p'⟩, fun x H' y => ?_⟩
    obtain ⟨e, y⟩ := y
    subst e y
    exact hs i σ _ hlt p
  · have e : i = n := by omega
    subst e
    exact .inl ⟨Nat.le_refl _, hd σ H p⟩
/-- while, by a word and a measure of the state -/
theorem while_by {c : TT} {tb : TS} {D : Ends} {σ : St} {H : Hp} (Pv : St → Hp → Prop) (μ : St → Hp → Nat) (h0 : Pv σ H)
    (hs : ∀ σ H, Pv σ H → c σ H fun b H1 => if b = true then tb { D with nx := fun σ' H' => Pv σ' H' ∧ μ σ' H' < μ σ H, ct := fun σ' H' => Pv σ' H' ∧ μ σ' H' < μ σ H, bk := D.nx } σ H1 else D.nx σ H1)
    (mono : ∀ σ H Q Q', (∀ b H1, Q b H1 → Q' b H1) → c σ H Q → c σ H Q') : tWhile c tb D σ H := by
  refine ⟨fun m σ H => m = μ σ H ∧ Pv σ H, ⟨_, rfl, h0⟩, ?_⟩
  rintro m σ H ⟨rfl, p⟩
  refine mono σ H _ _ (fun b H1 q => ?_) (hs σ H p)
  cases b with
  | true => exact ⟨_, fun σ' H' ⟨p', l⟩ => ⟨_, l, rfl, p'⟩, q⟩
  | false => exact q
end L2

namespace L2
open PySem PySem.Spec PyProof.Rows

noncomputable abbrev R2 := V → V → Hp → VK → Prop
/-- a two-place operation on values: f is binaryOp op, inplaceOp op or compareOp op -/
noncomputable def OpR (X : Cx) (f : Value → Value → Sem Value) (r : R2) : Prop :=
  ∀ (pins : List (Addr × Obj)) (s : Shared) (σ : St) (H : Hp) (x y : V) (v u : Value) (Q : VK), Inv X pins σ H s → RelV x v → RelV y u → r x y H Q →
    wpAny (model X.prog X.w) X.A (f v u) (EP X pins σ Q) X.xe s
/-- a one-place operation -/
noncomputable def UnR (X : Cx) (f : Value → Sem Value) (r : V → Hp → VK → Prop) : Prop :=
  ∀ (pins : List (Addr × Obj)) (s : Shared) (σ : St) (H : Hp) (x : V) (v : Value) (Q : VK), Inv X pins σ H s → RelV x v → r x H Q →
    wpAny (model X.prog X.w) X.A (f v) (EP X pins σ Q) X.xe s
/-- a call of a value that is known (a builtin, a type) with values -/
noncomputable def CallR (X : Cx) (f : Value) (r : List V → Hp → VK → Prop) : Prop :=
  ∀ (pins : List (Addr × Obj)) (s : Shared) (σ : St) (H : Hp) (xs : List V) (us : List Value) (Q : VK), Inv X pins σ H s → Vals xs us → r xs H Q →
    wpAny (model X.prog X.w) X.A (call f us) (EP X pins σ Q) X.xe s
noncomputable def tOp (r : R2) (ta tb : TE) : TE := fun σ H Q => ta σ H fun x H1 => tb σ H1 fun y H2 => r x y H2 Q
noncomputable def tUn (r : V → Hp → VK → Prop) (ta : TE) : TE := fun σ H Q => ta σ H fun x H1 => r x H1 Q
/-- ints in, under C, and a value out -/
noncomputable def rI (C : Int → Int → Prop) (g : Int → Int → V) : R2 := fun x y H Q => ∃ i j, x = .int i ∧ y = .int j ∧ C i j ∧ Q (g i j) H
noncomputable def rI0 (g : Int → Int → V) : R2 := fun x y H Q => ∃ i j, x = .int i ∧ y = .int j ∧ Q (g i j) H
noncomputable def rU (g : Int → V) : V → Hp → VK → Prop := fun x H Q => ∃ i, x = .int i ∧ Q (g i) H

section
variable {X : Cx} {a b c : Expr} {ta tb tc : TE} {pos : Pos}

theorem binT (ha : PE X a ta) (hb : PE X b tb) {pins : List (Addr × Obj)} {s : Shared} {σ : St} {H : Hp} {R : V → V → Hp → Prop} (I : Inv X pins σ H s)
    (h : ta σ H fun x H1 => tb σ H1 fun y H2 => R x y H2) {Q : Value → Shared → Prop} {f : Value → Value → Sem Value}
    (hf : ∀ v u s2 x y H2, Inv X pins σ H2 s2 → RelV x v → RelV y u → R x y H2 → wpAny (model X.prog X.w) X.A (f v u) Q X.xe s2) :
    wpAny (model X.prog X.w) X.A (eval a X.env) (fun v s₁ => wpAny (model X.prog X.w) X.A (eval b X.env) (fun u s₂ => wpAny (model X.prog X.w) X.A (f v u) Q X.xe s₂) X.xe s₁) X.xe s := by
  refine thn (ha pins s σ H _ I h) fun v s1 ⟨x, H1, I1, r1, q1⟩ => ?_
  refine thn (hb pins s1 σ H1 _ I1 q1) fun u s2 ⟨y, H2, I2, r2, q2⟩ => ?_
  exact hf v u s2 x y H2 I2 r1 r2 q2

theorem pe_op {op : Operator} {r : R2} (ho : OpR X (binaryOp op) r) (ha : PE X a ta) (hb : PE X b tb) : PE X (.BinOp a op b pos) (tOp r ta tb) := by
  intro pins s σ H Q I h
  exact wpAny_BinOp (binT ha hb I h fun v u s2 x y H2 I2 rx ry q => ho pins s2 σ H2 x y v u Q I2 rx ry q)
theorem pe_un {op : UnaryOp} {r : V → Hp → VK → Prop} (ho : UnR X (unaryOp op) r) (ha : PE X a ta) : PE X (.UnaryOp op a pos) (tUn r ta) := by
  intro pins s σ H Q I h
  exact UnaryOp_ (thn (ha pins s σ H _ I h) fun v s1 ⟨x, H1, I1, r1, q1⟩ => ho pins s1 σ H1 x v Q I1 r1 q1)
/-! ### ints -/
theorem opI {f : Value → Value → Sem Value} {C : Int → Int → Prop} {g : Int → Int → Int}
    (rule : ∀ (i j : Int) (t u : Tok) (s : Shared) (Q : Value → Shared → Prop) (E : Value → Shared → Prop), C i j → Q (.int (g i j) s.toks) { s with toks := s.toks + 1 } → wpAny (model X.prog X.w) X.A (f (.int i t) (.int j u)) Q E s) :
    OpR X f (rI C fun i j => .int (g i j)) := by
  intro pins s σ H x y v u Q I rx ry h
  obtain ⟨i, j, rfl, rfl, hc, q⟩ := h
  obtain ⟨t, rfl⟩ := rx
  obtain ⟨t', rfl⟩ := ry
  exact rule i j t t' s _ _ hc ⟨.int (g i j), H, I.tok _, ⟨_, rfl⟩, q⟩
theorem opI0 {f : Value → Value → Sem Value} {g : Int → Int → Int}
    (rule : ∀ (i j : Int) (t u : Tok) (s : Shared) (Q : Value → Shared → Prop) (E : Value → Shared → Prop), Q (.int (g i j) s.toks) { s with toks := s.toks + 1 } → wpAny (model X.prog X.w) X.A (f (.int i t) (.int j u)) Q E s) :
    OpR X f (rI0 fun i j => .int (g i j)) := by
  intro pins s σ H x y v u Q I rx ry h
  obtain ⟨i, j, rfl, rfl, q⟩ := h
  obtain ⟨t, rfl⟩ := rx
  obtain ⟨t', rfl⟩ := ry
  exact rule i j t t' s _ _ ⟨.int (g i j), H, I.tok _, ⟨_, rfl⟩, q⟩
theorem opB0 {f : Value → Value → Sem Value} {g : Int → Int → Bool}
    (rule : ∀ (i j : Int) (t u : Tok) (s : Shared) (Q : Value → Shared → Prop) (E : Value → Shared → Prop), Q (.bool (g i j)) s → wpAny (model X.prog X.w) X.A (f (.int i t) (.int j u)) Q E s) :
    OpR X f (rI0 fun i j => .bl (g i j)) := by
  intro pins s σ H x y v u Q I rx ry h
  obtain ⟨i, j, rfl, rfl, q⟩ := h
  obtain ⟨t, rfl⟩ := rx
  obtain ⟨t', rfl⟩ := ry
  exact rule i j t t' s _ _ ⟨.bl (g i j), H, I, rfl, q⟩

theorem op_add : OpR X (binaryOp .Add) (rI0 fun i j => .int (i + j)) := opI0 fun _ _ _ _ _ _ _ q => add_int q
theorem op_sub : OpR X (binaryOp .Sub) (rI0 fun i j => .int (i - j)) := opI0 fun _ _ _ _ _ _ _ q => sub_int q
/-- % by a positive divisor of any size -/
theorem op_mod : OpR X (binaryOp .Mod) (rI (fun _ j => 0 < j) fun i j => .int (i % j)) := opI fun i j _ _ _ _ _ hc q => by
  have h1 : (0 : Int) < j := hc
  exact mod_int' (by omega) (by rw [Int.fmod_eq_emod_of_nonneg i (by omega)]; exact q)
theorem unI {f : Value → Sem Value} {g : Int → Int}
    (rule : ∀ (i : Int) (t : Tok) (s : Shared) (Q : Value → Shared → Prop) (E : Value → Shared → Prop), Q (.int (g i) s.toks) { s with toks := s.toks + 1 } → wpAny (model X.prog X.w) X.A (f (.int i t)) Q E s) :
    UnR X f (rU fun i => .int (g i)) := by
  intro pins s σ H x v Q I rx h
  obtain ⟨i, rfl, q⟩ := h
  obtain ⟨t, rfl⟩ := rx
  exact rule i t s _ _ ⟨.int (g i), H, I.tok _, ⟨_, rfl⟩, q⟩
theorem un_neg : UnR X (unaryOp .USub) (rU fun i => .int (-i)) := unI fun _ _ _ _ _ q => neg_int q
/-! ### bools among ints: n += (a < b) -/
end

/-! ### comparisons -/
/-- the scalars that == tells apart as data does -/
noncomputable def scal : V → V → Bool
  | .non, .non => true | .non, .int _ => true | .int _, .non => true | .non, .bl _ => true | .bl _, .non => true | .non, .str _ => true | .str _, .non => true
  | .int _, .int _ => true | .bl _, .bl _ => true | .str _, .str _ => true | .byt _, .byt _ => true
  | .int _, .str _ => true | .str _, .int _ => true | .bl _, .str _ => true | .str _, .bl _ => true
  | _, _ => false
noncomputable def rEq : R2 := fun x y H Q => scal x y = true ∧ Q (.bl (decide (x = y))) H
noncomputable def rNe : R2 := fun x y H Q => scal x y = true ∧ Q (.bl (!decide (x = y))) H

theorem dec_int {i j : Int} : decide (V.int i = V.int j) = (i == j) := by
  rw [Bool.eq_iff_iff]
  simp
theorem dec_bl {i j : Bool} : decide (V.bl i = V.bl j) = (i == j) := by
  rw [Bool.eq_iff_iff]
  simp
theorem dec_str {i j : Str} : decide (V.str i = V.str j) = (i == j) := by
  rw [Bool.eq_iff_iff]
  simp
theorem dec_byt {i j : Array UInt8} : decide (V.byt i = V.byt j) = (i.toList == j.toList) := by
  rw [Bool.eq_iff_iff]
  cases i
  cases j
  simp

section
variable {X : Cx} {a b c : Expr} {ta tb tc : TE} {pos : Pos}
theorem fin_bl {pins : List (Addr × Obj)} {σ : St} {H : Hp} {s : Shared} {Q : VK} {k k' : Bool} (I : Inv X pins σ H s) (q : Q (.bl k) H) (e : k = k') : EP X pins σ Q (.bool k') s := by
  subst e
  exact ⟨.bl k, H, I, rfl, q⟩
theorem op_eq : OpR X (compareOp .Eq) rEq := by
  intro pins s σ H x y v u Q I rx ry h
  obtain ⟨hs, q⟩ := h
  cases x with
  | non =>
    cases rx
    cases y with
    | non => cases ry; exact PySem.EqNone.eq_none_none (fin_bl I q (by simp))
    | bl j => cases ry; exact PySem.EqNone.eq_none_bool (fin_bl I q (by simp))
    | int j => obtain ⟨t', rfl⟩ := ry; exact PySem.EqNone.eq_none_int (fin_bl I q (by simp))
    | str j => obtain ⟨t', rfl⟩ := ry; exact PySem.EqNone.eq_none_str (fin_bl I q (by simp))
    | _ => exact absurd (show false = true from hs) Bool.false_ne_true
  | bl i =>
    cases rx
    cases y with
    | non => cases ry; exact PySem.EqNone.eq_bool_none (fin_bl I q (by simp))
    | bl j => cases ry; exact eq_bool (fin_bl I q dec_bl)
    | str j => obtain ⟨t', rfl⟩ := ry; exact PySem.EqMixed.eq_bool_str (fin_bl I q (by simp))
    | _ => exact absurd (show false = true from hs) Bool.false_ne_true
  | int i =>
    obtain ⟨t, rfl⟩ := rx
    cases y with
    | non => cases ry; exact PySem.EqNone.eq_int_none (fin_bl I q (by simp))
    | int j => obtain ⟨t', rfl⟩ := ry; exact eq_int (fin_bl I q dec_int)
    | str j => obtain ⟨t', rfl⟩ := ry; exact PySem.EqMixed.eq_int_str (fin_bl I q (by simp))
    | _ => exact absurd (show false = true from hs) Bool.false_ne_true
  | str i =>
    obtain ⟨t, rfl⟩ := rx
    cases y with
    | non => cases ry; exact PySem.EqNone.eq_str_none (fin_bl I q (by simp))
    | bl j => cases ry; exact PySem.EqMixed.eq_str_bool (fin_bl I q (by simp))
    | int j => obtain ⟨t', rfl⟩ := ry; exact PySem.EqMixed.eq_str_int (fin_bl I q (by simp))
    | str j => obtain ⟨t', rfl⟩ := ry; exact eq_str (fin_bl I q dec_str)
    | _ => exact absurd (show false = true from hs) Bool.false_ne_true
  | byt i =>
    obtain ⟨t, rfl⟩ := rx
    cases y with
    | byt j => obtain ⟨t', rfl⟩ := ry; exact PySem.W.eq_bytes (fin_bl I q dec_byt)
    | _ => exact absurd (show false = true from hs) Bool.false_ne_true
  | _ => cases y <;> exact absurd (show false = true from hs) Bool.false_ne_true
theorem op_ne : OpR X (compareOp .NotEq) rNe := by
  intro pins s σ H x y v u Q I rx ry h
  obtain ⟨hs, q⟩ := h
  cases x with
  | non =>
    cases rx
    cases y with
    | non => cases ry; exact PySem.EqNone.ne_none_none (fin_bl I q (by simp))
    | bl j => cases ry; exact PySem.EqNone.ne_none_bool (fin_bl I q (by simp))
    | int j => obtain ⟨t', rfl⟩ := ry; exact PySem.EqNone.ne_none_int (fin_bl I q (by simp))
    | str j => obtain ⟨t', rfl⟩ := ry; exact PySem.EqNone.ne_none_str (fin_bl I q (by simp))
    | _ => exact absurd (show false = true from hs) Bool.false_ne_true
  | bl i =>
    cases rx
    cases y with
    | non => cases ry; exact PySem.EqNone.ne_bool_none (fin_bl I q (by simp))
    | bl j => cases ry; exact ne_bool (fin_bl I q (congrArg not dec_bl))
    | str j => obtain ⟨t', rfl⟩ := ry; exact PySem.EqMixed.ne_bool_str (fin_bl I q (by simp))
    | _ => exact absurd (show false = true from hs) Bool.false_ne_true
  | int i =>
    obtain ⟨t, rfl⟩ := rx
    cases y with
    | non => cases ry; exact PySem.EqNone.ne_int_none (fin_bl I q (by simp))
    | int j => obtain ⟨t', rfl⟩ := ry; exact ne_int (fin_bl I q (congrArg not dec_int))
    | str j => obtain ⟨t', rfl⟩ := ry; exact PySem.EqMixed.ne_int_str (fin_bl I q (by simp))
    | _ => exact absurd (show false = true from hs) Bool.false_ne_true
  | str i =>
    obtain ⟨t, rfl⟩ := rx
    cases y with
    | non => cases ry; exact PySem.EqNone.ne_str_none (fin_bl I q (by simp))
    | bl j => cases ry; exact PySem.EqMixed.ne_str_bool (fin_bl I q (by simp))
    | int j => obtain ⟨t', rfl⟩ := ry; exact PySem.EqMixed.ne_str_int (fin_bl I q (by simp))
    | str j => obtain ⟨t', rfl⟩ := ry; exact ne_str (fin_bl I q (congrArg not dec_str))
    | _ => exact absurd (show false = true from hs) Bool.false_ne_true
  | byt i =>
    obtain ⟨t, rfl⟩ := rx
    cases y with
    | byt j => obtain ⟨t', rfl⟩ := ry; exact PySem.W.ne_bytes (fin_bl I q (congrArg not dec_byt))
    | _ => exact absurd (show false = true from hs) Bool.false_ne_true
  | _ => cases y <;> exact absurd (show false = true from hs) Bool.false_ne_true

theorem op_lt : OpR X (compareOp .Lt) (rI0 fun i j => .bl (decide (i < j))) := opB0 fun _ _ _ _ _ _ _ q => lt_int q
theorem op_le : OpR X (compareOp .LtE) (rI0 fun i j => .bl (decide (i ≤ j))) := opB0 fun _ _ _ _ _ _ _ q => le_int q
theorem op_gt : OpR X (compareOp .Gt) (rI0 fun i j => .bl (decide (j < i))) := opB0 fun _ _ _ _ _ _ _ q => gt_int q
theorem op_ge : OpR X (compareOp .GtE) (rI0 fun i j => .bl (decide (j ≤ i))) := opB0 fun _ _ _ _ _ _ _ q => ge_int q
/-- is None, is not None: the right side a value none -/
theorem op_isN : OpR X (compareOp .Is) (fun x y H Q => y = .non ∧ Q (.bl (decide (x = .non))) H) := by
  intro pins s σ H x y v u Q I rx ry h
  obtain ⟨rfl, q⟩ := h
  cases ry
  refine is_none_gen (fin_bl I q ?_)
  cases x <;> first
    | (cases rx; rfl)
    | (obtain ⟨t, rfl⟩ := rx; rfl)
theorem op_notN : OpR X (compareOp .IsNot) (fun x y H Q => y = .non ∧ Q (.bl (!decide (x = .non))) H) := by
  intro pins s σ H x y v u Q I rx ry h
  obtain ⟨rfl, q⟩ := h
  cases ry
  refine isnot_none_gen (fin_bl I q ?_)
  cases x <;> first
    | (cases rx; rfl)
    | (obtain ⟨t, rfl⟩ := rx; rfl)

theorem nomark (b : Expr) {op : CmpOp} (h : op ≠ .In := by decide) (h2 : op ≠ .NotIn := by decide) : behindInMarks op b = false := by
  have e1 : (op == CmpOp.In) = false := by cases op <;> first | rfl | exact absurd rfl h
  have e2 : (op == CmpOp.NotIn) = false := by cases op <;> first | rfl | exact absurd rfl h2
  cases b <;> simp [behindInMarks, e1, e2]
/-- a comparison as a value; hm: nomark b, or (for in, not in) by with_unfolding_all rfl -/
theorem pe_cmpR {op : CmpOp} {r : R2} (ho : OpR X (compareOp op) r) (ha : PE X a ta) (hb : PE X b tb) (hm : behindInMarks op b = false) : PE X (.Compare a [op] [b] pos) (tOp r ta tb) := by
  intro pins s σ H Q I h
  exact wpAny_Compare1 (binT ha hb I h fun v u s2 x y H2 I2 rx ry q => ho pins s2 σ H2 x y v u Q I2 rx ry q) hm
/-- a reading of a value as a test -/
noncomputable def tTest (t : TE) : TT := fun σ H Q => t σ H fun x H' => ∃ k, x = .bl k ∧ Q k H'
theorem pt_cmpR {op : CmpOp} {r : R2} (ho : OpR X (compareOp op) r) (ha : PE X a ta) (hb : PE X b tb) (hm : behindInMarks op b = false) : PT X (.Compare a [op] [b] pos) (tTest (tOp r ta tb)) := by
  intro pins s σ H Q I h
  refine wpAny_isTrue_Compare1 (thn (ha pins s σ H _ I h) fun v s1 ⟨x, H1, I1, r1, q1⟩ => thn (hb pins s1 σ H1 _ I1 q1) fun u s2 ⟨y, H2, I2, r2, q2⟩ =>
    thn (ho pins s2 σ H2 x y v u _ I2 r1 r2 q2) fun c s3 ⟨z, H3, I3, r3, k, e, q3⟩ => ?_) hm
  subst e
  cases r3
  exact wpAny_truthy_bool ⟨H3, I3, q3⟩
/-- a op1 b op2 c -/
noncomputable def tChain (r r' : R2) (ta tb tc : TE) : TE := fun σ H Q => ta σ H fun x H1 => tb σ H1 fun y H2 => r x y H2 fun z H3 => ∃ k, z = .bl k ∧
  (if k = true then tc σ H3 fun w' H4 => r' y w' H4 Q else Q (.bl false) H3)
theorem pe_chain {op op' : CmpOp} {r r' : R2} (ho : OpR X (compareOp op) r) (ho' : OpR X (compareOp op') r') (ha : PE X a ta) (hb : PE X b tb) (hc : PE X c tc)
    (hm : lastMarks [op, op'] [b, c] = false := by with_unfolding_all rfl) : PE X (.Compare a [op, op'] [b, c] pos) (tChain r r' ta tb tc) := by
  intro pins s σ H Q I h
  refine Compare_chain (thn (ha pins s σ H _ I h) fun v s1 ⟨x, H1, I1, r1, q1⟩ => chain_link (thn (hb pins s1 σ H1 _ I1 q1) fun u s2 ⟨y, H2, I2, r2, q2⟩ =>
    thn (ho pins s2 σ H2 x y v u _ I2 r1 r2 q2) fun d s3 ⟨z, H3, I3, r3, k, e, q3⟩ => ?_)) hm
  subst e
  cases r3
  refine wpAny_truthy_bool ?_
  cases k with
  | false => exact ite_ff ⟨.bl false, H3, I3, rfl, q3⟩
  | true => exact ite_tt (chain_last (thn (hc pins s3 σ H3 _ I3 q3) fun w' s4 ⟨z', H4, I4, r4, q4⟩ => ho' pins s4 σ H4 y z' u w' Q I4 r2 r4 q4))
/-! ### truth -/
theorem line63 : (sizeLine : Nat) < 2 ^ 63 := by rw [sizeLine_eq]; decide
/-! ### strs and bytes -/
/-! ### scalar builtins, by CallR -/
theorem vals1 {x : V} {us : List Value} (r : Vals [x] us) : ∃ u, us = [u] ∧ RelV x u := by
  cases r with
  | cons r1 r2 => cases r2; exact ⟨_, rfl, r1⟩
theorem call_abs : CallR X (.builtin "abs") (fun xs H Q => ∃ i, xs = [.int i] ∧ Q (.int (if i < 0 then -i else i)) H) := by
  intro pins s σ H xs us Q I r h
  obtain ⟨i, rfl, q⟩ := h
  obtain ⟨u, rfl, t, rfl⟩ := vals1 r
  exact call_abs_int fun u tk => ⟨.int (if i < 0 then -i else i), H, I.tok _, ⟨_, rfl⟩, q⟩
end
end L2

namespace L2
open PySem PySem.Spec PyProof.Rows

/-! ### an instance, its attributes a map -/
structure ObjM (h : Heap) (x dx C : Addr) (mA : Str → Option Value) : Prop where
  obj : h.get? x = some (PySem.W.instObj C dx)
  ns : h.Ns1 dx mA
  ne : dx ≠ x

theorem lookIn_ns {h : Heap} {dx : Addr} {mA : Str → Option Value} (n : h.Ns1 dx mA) : ∃ od, h.get? dx = some od ∧ ∀ name, PySem.W.lookIn name od = some (mA name) := by
  obtain ⟨o, es, ep, ho, hd, hk, _, hm⟩ := n
  refine ⟨o, ho, fun name => ?_⟩
  have e := hm name
  unfold nsFind findBy at e
  rw [← Array.find?_toList] at e
  unfold PySem.W.lookIn
  rw [hd]
  dsimp only
  split
  · rename_i y q
    rw [q] at e
    exact congrArg some e
  · rename_i q
    rw [q] at e
    have a : es.toList.any (·.refKey) = false := by
      rw [List.any_eq_false]
      intro y hy
      obtain ⟨z, t, hkey⟩ := hk y (Array.mem_toList_iff.mp hy)
      simp [DictEntry.refKey, hkey]
    have a' : ¬ es.toList.any (·.refKey) = true := by rw [a]; exact Bool.false_ne_true
    rw [if_neg a']
    exact congrArg some e

theorem ObjM.look {h : Heap} {x dx C : Addr} {mA : Str → Option Value} (I : ObjM h x dx C mA) : ∃ od, PySem.W.InstAt h x (PySem.W.instObj C dx) C (some od) ∧ ∀ name, PySem.W.lookIn name od = some (mA name) :=
  let ⟨od, ho, hl⟩ := lookIn_ns I.ns
  ⟨od, ⟨I.obj, rfl, rfl, ho⟩, hl⟩

section
variable {prog : Program} {w : World} {A : Around} {E : Value → Shared → Prop} {s : Shared} {K : PySem.W.Frag} {x dx C f : Addr} {mA : Str → Option Value} {name : Str} {v : Value}

theorem get_map {expr : Bool} {Q : Value → Shared → Prop} (X : K.In s.heap) (I : ObjM s.heap x dx C mA) (hg : PySem.W.plainGet K C name = true) (hh : PySem.W.hasDictIn K C = true)
    (ha : PySem.W.findIn K (.ref C) name = some none) (hv : mA name = some v) (hv' : PySem.W.handedIn v = true) (h : Q v { s with toks := s.toks + 1 }) :
    wpAny (model prog w) A (getAttr (.ref x) name expr) Q E s := by
  obtain ⟨od, J, hl⟩ := I.look
  exact PySem.W.get_value X J (PySem.W.plainGet_of hg).1 (PySem.W.findObj_own hh ha rfl (by rw [hl, hv])) hv' h

theorem get_meth {pl : Sem Bool} {Q : Value × List Value → Shared → Prop} (X : K.In s.heap) (I : ObjM s.heap x dx C mA) (hg : PySem.W.plainGet K C name = true)
    (hf : PySem.W.findIn K (.ref C) name = some (some (.ref f))) (ht : PySem.W.isFn K (.ref f) = true) (hv : mA name = none) (h : Q (.ref f, [.ref x]) s) :
    wpAny (model prog w) A (getMethod (.ref x) name pl) Q E s := by
  obtain ⟨od, J, hl⟩ := I.look
  exact PySem.W.method_fn X J (PySem.W.plainGet_of hg).1 (PySem.W.plainGet_of hg).2 hf (beq_iff_eq.mp ht) (by show (PySem.W.lookIn name od).map (·.isSome) = some false; rw [hl, hv]; rfl) h

theorem set_map {ns : List Str} {Q : Unit → Shared → Prop} (X : K.In s.heap) (I : ObjM s.heap x dx C mA)
    (hs : PySem.W.findIn K (.ref C) "__setattr__" = some (some (.builtin "object.__setattr__"))) (hp : PySem.W.plainOver K C = true) (ht : PySem.W.takerIn K C name = some none) (hh : PySem.W.hasDictIn K C = true)
    (hw : PySem.Within mA ns) (hsz : ns.length ≤ sizeLine)
    (h : ∀ h', ObjM h' x dx C (fun y => if y = name then some v else mA y) → Heap.SameBut dx s.heap h' → Q () { s with heap := h', toks := s.toks + 2 }) :
    wpAny (model prog w) A (setAttr (.ref x) name v) Q E s := by
  obtain ⟨od, J, hl⟩ := I.look
  refine PySem.W.set_plain X J hs (PySem.W.osa_open (s := { s with toks := s.toks + 1 }) (r := none) X J hp ht fun b => ?_)
  obtain ⟨cd, hc, hd'⟩ := PySem.W.any_some hh
  have hx : s.heap.get? x = some ⟨.ref C, some dx, .plain, #[]⟩ := I.obj
  refine wpAny_bind (wpAny_pure (wpAny_bind (wpAny_bind (wpAny_loadPart hx (wpAny_bind (PySem.W.Looks.here (s := { s with toks := s.toks + 1 }) (PySem.W.looks_clsIn X hc) ?_))))))
  rw [hd']
  refine wpAny_pure (a := some dx) (wpAny_bind (wpAny_pure (wpAny_bind ?_)))
  refine wpAny_nsSet1 (s := { s with toks := s.toks + 1 }) I.ns fun h' hn2 hs2 => ?_
  obtain ⟨oD, esD, epD, hoD, hdD, hcD⟩ := hn2.count (PySem.Within.cons name v hw)
  refine wpAny_bind (wpAny_lookBehind hoD (by rw [hdD]; exact pastItsLine_dict (Nat.le_trans hcD (by rw [List.length_cons]; omega))) ?_)
  exact wpAny_pure (h _ ⟨(hs2.2 _ (Ne.symm I.ne)).trans I.obj, hn2, I.ne⟩ hs2)

/-- C(..): the dict at the heap's end, the instance behind it; then its __init__ -/
theorem make_map {R : Result → Shared → Prop} {vs : List Value} {kw : List (Str × Value)} (X : K.In s.heap) (hm : PySem.W.makesIn K C = true)
    (hi : PySem.W.findIn K (.ref C) "__init__" = some (some (.ref f))) (hf : PySem.W.typeIn K (.ref f) = some (.type "function"))
    (h : codeAny (model prog w) (A.under (.builtin "type.__call__" ⟨.ref C :: vs, kw⟩)) (.call (.ref f) ⟨.ref (s.heap.objs.size + 1) :: vs, kw⟩) (PySem.W.InitBack (s.heap.objs.size + 1) R)
      { s with heap := (s.heap.push PySem.W.emptyDict).push (PySem.W.instObj C s.heap.objs.size) }) :
    codeAny (model prog w) A (.call (.ref C) ⟨vs, kw⟩) R s := by
  obtain ⟨hh, g, d, t, os⟩ := s
  exact PySem.W.make_core (PySem.W.makes_of X hm) (PySem.W.looks_findIn X hi) (fun self => PySem.W.bind_fn X self hf) (.inl rfl) h
end

/-! ### the attributes as a list of pairs -/
noncomputable def putF (f : Str) (v : V) : List (Str × V) → List (Str × V)
  | [] => [(f, v)]
  | (g, x) :: r => if g = f then (g, v) :: r else (g, x) :: putF f v r
theorem lookup_putF (f g : Str) (v : V) : ∀ fs : List (Str × V), (putF f v fs).lookup g = if g = f then some v else fs.lookup g
  | [] => by
    show List.lookup g [(f, v)] = _
    by_cases h : g = f
    · have hb : (g == f) = true := beq_iff_eq.mpr h
      simp only [List.lookup, hb, if_pos h]
    · have hb : (g == f) = false := beq_eq_false_iff_ne.mpr h
      simp only [List.lookup, hb, if_neg h]
  | (k, x) :: r => by
    have ih := lookup_putF f g v r
    rw [show putF f v ((k, x) :: r) = (if k = f then (k, v) :: r else (k, x) :: putF f v r) from rfl]
    by_cases hk : k = f
    · rw [if_pos hk]
      by_cases h : g = k
      · have hb : (g == k) = true := beq_iff_eq.mpr h
        simp only [List.lookup, hb, if_pos (h.trans hk)]
      · have hb : (g == k) = false := beq_eq_false_iff_ne.mpr h
        simp only [List.lookup, hb, if_neg (fun e : g = f => h (e.trans hk.symm))]
    · rw [if_neg hk]
      by_cases h : g = k
      · have hb : (g == k) = true := beq_iff_eq.mpr h
        simp only [List.lookup, hb, if_neg (fun e : g = f => hk (h.symm.trans e))]
      · have hb : (g == k) = false := beq_eq_false_iff_ne.mpr h
        simp only [List.lookup, hb]
        exact ih
theorem keys_putF (f : Str) (v : V) : ∀ fs : List (Str × V), f ∈ (putF f v fs).map (·.1) ∧ ∀ g, g ∈ fs.map (·.1) → g ∈ (putF f v fs).map (·.1)
  | [] => ⟨by simp [putF], fun g h => by simp at h⟩
  | (k, x) :: r => by
    obtain ⟨i1, i2⟩ := keys_putF f v r
    rw [show putF f v ((k, x) :: r) = (if k = f then (k, v) :: r else (k, x) :: putF f v r) from rfl]
    by_cases hk : k = f
    · rw [if_pos hk]
      subst hk
      exact ⟨by simp, fun g h => by simpa using h⟩
    · rw [if_neg hk]
      refine ⟨?_, fun g h => ?_⟩
      · rw [List.map_cons]
        exact List.mem_cons_of_mem _ i1
      · rw [List.map_cons] at h ⊢
        rcases List.mem_cons.mp h with e | e
        · exact List.mem_cons.mpr (.inl e)
        · exact List.mem_cons_of_mem _ (i2 g e)
theorem length_putF (f : Str) (v : V) : ∀ fs : List (Str × V), (putF f v fs).length ≤ fs.length + 1
  | [] => by simp [putF]
  | (k, x) :: r => by
    have ih := length_putF f v r
    rw [show putF f v ((k, x) :: r) = (if k = f then (k, v) :: r else (k, x) :: putF f v r) from rfl]
    by_cases hk : k = f
    · rw [if_pos hk, List.length_cons, List.length_cons]; omega
    · rw [if_neg hk, List.length_cons, List.length_cons]; omega

theorem RelO.some_of {v : V} {o : Option Value} (r : RelO (some v) o) : ∃ u, o = some u ∧ RelV v u := by
  cases o with
  | none => exact (show False from r).elim
  | some u => exact ⟨u, rfl, r⟩
theorem RelO.none_of {o : Option Value} (r : RelO none o) : o = none := by
  cases o with
  | none => rfl
  | some u => exact (show False from r).elim
theorem handed_of {v : V} {u : Value} (r : RelV v u) : PySem.W.handedIn u = true := by
  cases v with
  | non => cases (show u = Value.none from r); rfl
  | bl b => cases (show u = Value.bool b from r); rfl
  | int i => obtain ⟨t, e⟩ := (show ∃ t, u = Value.int i t from r); cases e; rfl
  | str x => obtain ⟨t, e⟩ := (show ∃ t, u = Value.str x t from r); cases e; rfl
  | byt b => obtain ⟨t, e⟩ := (show ∃ t, u = Value.bytes b t from r); cases e; rfl
  | flt b => obtain ⟨t, e⟩ := (show ∃ t, u = Value.float b t from r); cases e; rfl
  | ref a => cases (show u = Value.ref a from r); rfl
  | ty n => cases (show u = Value.type n from r); rfl

section
variable {P : Program} {w : World} {H H' : Hp} {h h' : Heap} {a C dx : Addr} {fs fs' : List (Str × V)}
theorem ins_get (hok : HOk P w H h) (e : H a = some (.ins C dx fs)) : ∃ mA, ObjM h a dx C mA ∧ (∀ f, RelO (fs.lookup f) (mA f)) ∧ PySem.Within mA (fs.map (·.1)) ∧ fs.length ≤ 1000 ∧ H dx = some (.own a) := by
  obtain ⟨d, z, ne, ob, mA, n, r, q⟩ := (show ObjOk P w H h a (.ins C dx fs) from hok a _ e)
  exact ⟨mA, ⟨ob, n, ne⟩, r, q, z, d⟩
end

/-! ### what of the text a class must have -/
structure Cls (K : PySem.W.Frag) (C : Addr) : Prop where
  pg : PySem.W.plainGet K C Str.empty = true
  hd : PySem.W.hasDictIn K C = true
  po : PySem.W.plainOver K C = true
  sa : PySem.W.findIn K (.ref C) "__setattr__" = some (some (.builtin "object.__setattr__"))
theorem Cls.get {K : PySem.W.Frag} {C : Addr} (c : Cls K C) (f : Str) : PySem.W.plainGet K C f = true := c.pg
/-- no class of it has the name -/
noncomputable def NoAttr (K : PySem.W.Frag) (C : Addr) (f : Str) : Prop := PySem.W.findIn K (.ref C) f = some none
theorem NoAttr.taker {K : PySem.W.Frag} {C : Addr} {f : Str} (n : NoAttr K C f) : PySem.W.takerIn K C f = some none := by
  unfold PySem.W.takerIn
  rw [show PySem.W.findIn K (.ref C) f = some none from n]
  rfl
/-- a constant of the class -/
structure Con (K : PySem.W.Frag) (C : Addr) (f : Str) (v : V) (u : Value) : Prop where
  at_ : PySem.W.findIn K (.ref C) f = some (some u)
  rel : RelV v u
  get : PySem.W.specialIn K u "__get__" = some none
  cp : PySem.W.copiedNames.contains f = false
/-- a method: a plain def of the class or of one above it -/
structure Meth (K : PySem.W.Frag) (C : Addr) (m : Str) (f : Addr) : Prop where
  at_ : PySem.W.findIn K (.ref C) m = some (some (.ref f))
  fn : PySem.W.isFn K (.ref f) = true
  kp : PySem.W.keepIn K (.ref f) = true

section
variable {X : Cx} {pins : List (Addr × Obj)} {σ : St} {H : Hp} {s : Shared} {a C dx : Addr} {fs : List (Str × V)} {f : Str} {v : V} {A : Around} {E : Value → Shared → Prop}

theorem getattr_ok {b : Bool} {Q : Value → Shared → Prop} (I : Inv X pins σ H s) (e : H a = some (.ins C dx fs)) (c : Cls X.K C) (n : NoAttr X.K C f) (l : fs.lookup f = some v)
    (h : ∀ u s', Inv X pins σ H s' → RelV v u → Q u s') : wpAny (model X.prog X.w) A (getAttr (.ref a) f b) Q E s := by
  obtain ⟨mA, O, r, _, _, _⟩ := ins_get I.hok e
  obtain ⟨u, hu, ru⟩ := RelO.some_of (v := v) (o := mA f) (by rw [← l]; exact r f)
  exact get_map I.kIn O (c.get f) c.hd n hu (handed_of ru) (h u _ (I.tok _) ru)

theorem getmeth_ok {m : Str} {g : Addr} {pl : Sem Bool} {Q : Value × List Value → Shared → Prop} (I : Inv X pins σ H s) (e : H a = some (.ins C dx fs)) (c : Cls X.K C) (k : Meth X.K C m g) (l : fs.lookup m = none)
    (h : Q (.ref g, [.ref a]) s) : wpAny (model X.prog X.w) A (getMethod (.ref a) m pl) Q E s := by
  obtain ⟨mA, O, r, _, _, _⟩ := ins_get I.hok e
  have hn : mA m = none := RelO.none_of (by rw [← l]; exact r m)
  exact get_meth I.kIn O (c.get m) k.at_ k.fn hn h

theorem setattr_ok {y : V} {u : Value} {Q : Unit → Shared → Prop} (I : Inv X pins σ H s) (e : H a = some (.ins C dx fs)) (c : Cls X.K C) (n : NoAttr X.K C f) (hl : fs.length < 1000) (ry : RelV y u)
    (h : ∀ s', Inv X pins σ (upd H a (.ins C dx (putF f y fs))) s' → Q () s') : wpAny (model X.prog X.w) A (setAttr (.ref a) f u) Q E s := by
  obtain ⟨mA, O, r, wi, _, ho⟩ := ins_get I.hok e
  have hz : (fs.map (·.1)).length ≤ sizeLine := by rw [List.length_map, sizeLine_eq]; omega
  refine set_map I.kIn O c.sa c.po n.taker c.hd wi hz fun h' O' sb => h _ ?_
  have hd : ∃ o, h'.get? dx = some o := let ⟨o, _, _, e', _⟩ := O'.ns; ⟨o, e'⟩
  refine I.write (x := a) (e := dx) (by rw [e]; exact True.intro) (.inr ho) (fun b q hb z => (sb.2 b hb).trans z) hd ?_
  refine ⟨by rw [upd_ne O.ne]; exact ho, ?_, O.ne, O'.obj, _, O'.ns, fun g => ?_, fun g hg => ?_⟩
  · have := length_putF f y fs; omega
  · show RelO ((putF f y fs).lookup g) (if g = f then some u else mA g)
    rw [lookup_putF]
    by_cases q : g = f
    · rw [if_pos q, if_pos q]; exact ry
    · rw [if_neg q, if_neg q]; exact r g
  · by_cases q : g = f
    · rw [q]; exact (keys_putF f y fs).1
    · refine (keys_putF f y fs).2 g (wi g fun z => hg ?_)
      show (if g = f then some u else mA g) = none
      rw [if_neg q]; exact z

/-- a new instance, tracked, without attributes -/
theorem Inv.made (I : Inv X pins σ H s) : Inv X pins σ (upd (upd H s.heap.objs.size (.own (s.heap.objs.size + 1))) (s.heap.objs.size + 1) (.ins C s.heap.objs.size []))
    { s with heap := (s.heap.push PySem.W.emptyDict).push (PySem.W.instObj C s.heap.objs.size) } := by
  have e1 : (s.heap.push PySem.W.emptyDict).get? s.heap.objs.size = some PySem.W.emptyDict := Heap.get?_push_size s.heap rfl
  have e2 : ((s.heap.push PySem.W.emptyDict).push (PySem.W.instObj C s.heap.objs.size)).get? (s.heap.objs.size + 1) = some (PySem.W.instObj C s.heap.objs.size) := by
    have := Heap.get?_push_size (s.heap.push PySem.W.emptyDict) (o := PySem.W.instObj C s.heap.objs.size) rfl
    rwa [Heap.size_push] at this
  have e3 : (s.heap.push PySem.W.emptyDict).Ns s.heap.objs.size (fun _ => none) := ⟨PySem.W.emptyDict, #[], _, e1, rfl, (fun e he => absurd he (by simp)), fun _ => rfl⟩
  have I1 := I.laid (a := s.heap.objs.size) (o := .own (s.heap.objs.size + 1)) (h' := s.heap.push PySem.W.emptyDict) (t' := s.toks) (fun b u q => Heap.get?_push_of_some _ q) (Nat.le_refl _) ⟨_, e1⟩
  refine I1.laid (a := s.heap.objs.size + 1) (o := .ins C s.heap.objs.size []) (t' := s.toks) (fun b u q => Heap.get?_push_of_some _ q) (Nat.le_of_eq (Heap.size_push _ _)) ?_
  have ne : s.heap.objs.size ≠ s.heap.objs.size + 1 := Nat.ne_of_lt (Nat.lt_succ_self _)
  refine ⟨by rw [upd_ne ne, upd_same], Nat.zero_le _, ne, e2, fun _ => none, (Heap.Ns1.of_empty e3).at fun o q => Heap.get?_push_of_some _ q, fun _ => True.intro, fun y hy => absurd rfl hy⟩

/-- e.f where nothing but the object is asked: through attributeBase (super) and the last hold -/
theorem attr_of {prog : Program} {w : World} {env : Env} {e : Expr} {f : Str} {pos : Pos} {s : Shared} {Q : Value → Shared → Prop} (hb : attributeBase e f env (eval e env) = eval e env)
    (h : wpAny (model prog w) A (eval e env) (fun o s₁ => wpAny (model prog w) A (getAttr o f true) Q E s₁) E s) : wpAny (model prog w) A (eval (.Attribute e f pos) env) Q E s :=
  Attribute_any_ h (by rw [arm_eval_Attribute, hb])
end

/-! ### readings and rules -/
/-- e.f, an attribute of the instance -/
noncomputable def tFld (K : PySem.W.Frag) (ta : TE) (f : Str) : TE := fun σ H Q => ta σ H fun x H1 => ∃ a C dx fs v, x = .ref a ∧ H1 a = some (.ins C dx fs) ∧ Cls K C ∧ NoAttr K C f ∧ fs.lookup f = some v ∧ Q v H1
/-- e.f = value -/
noncomputable def sFld (K : PySem.W.Frag) (ta tv : TE) (f : Str) : TS := fun D σ H => tv σ H fun y H1 => ta σ H1 fun x H2 => ∃ a C dx fs, x = .ref a ∧ H2 a = some (.ins C dx fs) ∧ Cls K C ∧ NoAttr K C f ∧ fs.length < 1000 ∧
  D.nx σ (upd H2 a (.ins C dx (putF f y fs)))
/-- an augmented operator on two values -/
noncomputable def InOp (X : Cx) (op : Operator) (rd : V → V → Hp → VK → Prop) : Prop :=
  ∀ (pins : List (Addr × Obj)) (s : Shared) (σ : St) (H : Hp) (x y : V) (u v : Value) (Q : VK), Inv X pins σ H s → RelV x u → RelV y v → rd x y H Q → wpAny (model X.prog X.w) X.A (inplaceOp op u v) (EP X pins σ Q) X.xe s
/-- e.f op= value -/
noncomputable def sFldAug (K : PySem.W.Frag) (ta tv : TE) (rd : V → V → Hp → VK → Prop) (f : Str) : TS := fun D σ H => ta σ H fun x H1 => ∃ a C dx fs v, x = .ref a ∧ H1 a = some (.ins C dx fs) ∧ Cls K C ∧ NoAttr K C f ∧ fs.lookup f = some v ∧
  tv σ H1 fun y H2 => rd v y H2 fun z H3 => ∃ dx' fs', H3 a = some (.ins C dx' fs') ∧ fs'.length < 1000 ∧ D.nx σ (upd H3 a (.ins C dx' (putF f z fs')))

section
variable {X : Cx} {o e value : Expr} {f : Str} {pos pos' tpos : Pos} {ta tv : TE}
theorem pe_fld (he : PE X e ta) (hb : attributeBase e f X.env (eval e X.env) = eval e X.env) : PE X (.Attribute e f pos) (tFld X.K ta f) := by
  intro pins s σ H Q I h
  refine attr_of hb (thn (he pins s σ H _ I h) fun u s1 ⟨x, H1, I1, rx, a, C, dx, fs, v, ex, ea, c, n, l, q⟩ => ?_)
  subst ex
  obtain rfl : u = Value.ref a := rx
  exact getattr_ok I1 ea c n l fun u' s2 I2 ru => ⟨v, H1, I2, ru, q⟩
theorem ps_fld (ha : PE X o ta) (hv : PE X value tv) (hs : swapsWith value (some (.Attribute o f pos')) pos.line X.env = pure false) : PS X (.Assign [.Attribute o f pos'] value pos) (sFld X.K ta tv f) := by
  intro pins s σ H D I h
  refine plainObj_wpAny_Assign_Attribute (thn (hv pins s σ H _ I h) fun u s1 ⟨y, H1, I1, ry, q⟩ => thn (ha pins s1 σ H1 _ I1 q) fun ov s2 ⟨x, H2, I2, rx, a, C, dx, fs, ex, ea, c, n, l, q2⟩ => ?_) hs
  subst ex
  obtain rfl : ov = Value.ref a := rx
  exact setattr_ok I2 ea c n l ry fun s3 I3 => ⟨σ, _, I3, q2⟩
theorem ps_fldaug {op : Operator} {rd : V → V → Hp → VK → Prop} (ha : PE X o ta) (hv : PE X value tv) (hop : InOp X op rd) : PS X (.AugAssign (.Attribute o f tpos) op value pos) (sFldAug X.K ta tv rd f) := by
  intro pins s σ H D I h
  refine wpAny_AugAssign_AttributeAny (thn (ha pins s σ H _ I h) fun ov s1 ⟨x, H1, I1, rx, a, C, dx, fs, v, ex, ea, c, n, l, q⟩ => ?_)
  subst ex
  obtain rfl : ov = Value.ref a := rx
  refine getattr_ok I1 ea c n l fun u s2 I2 ru => thn (hv pins s2 σ H1 _ I2 q) fun w3 s3 ⟨y, H2, I3, ry, q3⟩ => thn (hop pins s3 σ H2 v y u w3 _ I3 ru ry q3) fun w4 s4 ⟨z, H3, I4, rz, dx', fs', ea', l', q4⟩ => ?_
  exact setattr_ok I4 ea' c n l' rz fun s5 I5 => ⟨σ, _, I5, q4⟩
noncomputable def rAdd : V → V → Hp → VK → Prop := fun x y H Q => ∃ i j, x = .int i ∧ y = .int j ∧ Q (.int (i + j)) H
theorem in_add : InOp X .Add rAdd := by
  rintro pins s σ H x y u v Q I rx ry ⟨i, j, rfl, rfl, q⟩
  obtain ⟨t, rfl⟩ := (show ∃ t, u = Value.int i t from rx)
  obtain ⟨t', rfl⟩ := (show ∃ t', v = Value.int j t' from ry)
  exact PyProof.Rows.iadd_int ⟨.int (i + j), H, I.tok _, ⟨_, rfl⟩, q⟩
end

/-! ### isinstance -/
section
variable {X : Cx} {pins : List (Addr × Obj)} {σ : St} {H : Hp} {s : Shared} {A : Around} {E : Value → Shared → Prop} {Q : Value → Shared → Prop} {c : Value} {b : Bool}
/-- the type of a value, as the fragment's deciders take it; for an instance its class -/
inductive TyOf (K : PySem.W.Frag) (H : Hp) : V → Value → Prop where
  | non : TyOf K H .non (.type "NoneType")
  | bl (x : Bool) : TyOf K H (.bl x) (.type "bool")
  | int (i : Int) : TyOf K H (.int i) (.type "int")
  | str (x : Str) : TyOf K H (.str x) (.type "str")
  | flt (x : UInt64) : TyOf K H (.flt x) (.type "float")
  | lst {a : Addr} {xs : List V} (e : H a = some (.lst xs)) : TyOf K H (.ref a) (.type "list")
  | frz {a : Addr} {o : Obj} {xs : List V} (e : H a = some (.frz o (.lst xs))) : TyOf K H (.ref a) (.type "list")
  | tup {a : Addr} {xs : List V} (e : H a = some (.tup xs)) : TyOf K H (.ref a) (.type "tuple")
  | dK {a : Addr} {kvs : List (Key × V)} (e : H a = some (.dK kvs)) : TyOf K H (.ref a) (.type "dict")
  | dT {a : Addr} {kvs : List (List Key × V)} (e : H a = some (.dT kvs)) : TyOf K H (.ref a) (.type "dict")
  | ins {a C dx : Addr} {fs : List (Str × V)} (e : H a = some (.ins C dx fs)) (cl : Cls K C) (ha : PySem.W.findIn K (.ref C) "__class__" = some (some (.builtin "object.__class__")))
      (hn : PySem.W.specialIn K (.builtin "object.__class__") "__get__" = some (some (.builtin "getset_descriptor.__get__"))) (htk : PySem.W.takesIn K (.builtin "object.__class__") = some true)
      (hm : PySem.W.mroIn K C (.type "object") = some true) : TyOf K H (.ref a) (.ref C)
end
end L2

namespace L2
open PySem PySem.Spec PyProof.Rows

/-! ### room -/
structure Room (k : Nat) (A : Around) : Prop where
  hd : A.handled = none
  dp : A.depth + 3 * k + 5 < recursionLimit
  un : A.units + 16 * k + 200 < cLine
theorem Room.mono {j k : Nat} {A : Around} (r : Room k A) (h : j ≤ k) : Room j A := ⟨r.hd, by have := r.dp; omega, by have := r.un; omega⟩
theorem Room.deeper {k : Nat} {A : Around} (r : Room (k + 1) A) (env : Env) : Room k (A.deeper env) :=
  ⟨r.hd, by have := r.dp; show A.depth + 1 + 3 * k + 5 < _; omega, by have := r.un; show A.units + 3 + 16 * k + 200 < _; omega⟩
theorem make_depth {A : Around} {C : Addr} {us : List Value} {kw : List (Str × Value)} : (A.under (.builtin "type.__call__" ⟨.ref C :: us, kw⟩)).depth = A.depth + 1 := by
  first | rfl | simp [Around.under, Code.weight, Code.isCreation, Code.isGuard, Code.isCaller, Code.frames, Code.isFrame, guardIds]
theorem make_units {A : Around} {C : Addr} {us : List Value} {kw : List (Str × Value)} : (A.under (.builtin "type.__call__" ⟨.ref C :: us, kw⟩)).units = A.units + 1 := by
  first | rfl | simp [Around.under, Code.cUnits, Code.frames, Code.isFrame]
theorem Room.make {k : Nat} {A : Around} (r : Room (k + 1) A) (C : Addr) (us : List Value) (kw : List (Str × Value)) : Room k (A.under (.builtin "type.__call__" ⟨.ref C :: us, kw⟩)) :=
  ⟨r.hd, by have := r.dp; rw [make_depth]; omega, by have := r.un; rw [make_units]; omega⟩
theorem Room.depth {k : Nat} {A : Around} (r : Room k A) : A.depth < recursionLimit := by have := r.dp; omega
theorem Room.units {k : Nat} {A : Around} (r : Room k A) : A.units + 64 < cLine := by have := r.un; omega
/-! ### argument lists and displays -/
noncomputable def tNil : TA := fun _ H Q => Q [] H
noncomputable def tCons (ta : TE) (tr : TA) : TA := fun σ H Q => ta σ H fun x H1 => tr σ H1 fun xs H2 => Q (x :: xs) H2
section
variable {X : Cx} {e : Expr} {es : List Expr} {te : TE} {t : TA} {pos : Pos}
theorem pa_nil : PA X [] tNil := fun _ _ _ _ H Q I h => Calls.spliced_nil ⟨[], H, I, .nil, h⟩
theorem pa_cons (ha : PE X e te) (hr : PA X es t) (hs : starEach (e :: es) X.env = (false, eval e X.env) :: starEach es X.env := by rfl) : PA X (e :: es) (tCons te t) := by
  intro pos pins s σ H Q I h
  rw [hs]
  show wpAny _ _ (spliced ((false, eval e X.env) :: backTo pos (starEach es X.env))) _ _ s
  refine Calls.spliced_cons (thn (ha pins s σ H _ I h) fun u s1 ⟨x, H1, I1, r1, q1⟩ => ?_)
  exact thn (hr pos pins s1 σ H1 _ I1 q1) fun us s2 ⟨xs, H2, I2, r2, q2⟩ => ⟨x :: xs, H2, I2, .cons r1 r2, q2⟩

/-- a tuple, a list of written items -/
noncomputable def tTup (t : TA) : TE := fun σ H Q => t σ H fun xs H1 => xs.length ≤ sizeLine ∧ ∀ p, H1 p = none → Q (.ref p) (upd H1 p (.tup xs))
noncomputable def tLst (t : TA) : TE := fun σ H Q => t σ H fun xs H1 => xs.length ≤ sizeLine ∧ ∀ p, H1 p = none → Q (.ref p) (upd H1 p (.lst xs))
theorem pe_tup {x1} (h : PA X es t) : PE X (.Tuple es x1 pos) (tTup t) := by
  intro pins s σ H Q I hq
  refine wpAny_Tuple_spliced (thn (h pos pins s σ H _ I hq) fun us s1 ⟨xs, H1, I1, r, z, q⟩ => ⟨by rw [← r.length]; exact z, ?_⟩)
  have hf : H1 s1.heap.objs.size = none := I1.hok.fresh (Nat.le_refl _)
  refine ⟨.ref s1.heap.objs.size, upd H1 s1.heap.objs.size (.tup xs), I1.laid (t' := s1.toks) (fun b u e => Heap.get?_push_of_some _ e) (Nat.le_refl _) ?_, rfl, q _ hf⟩
  exact ⟨z, us, r, ⟨_, Heap.get?_push_size _ rfl, rfl, _, rfl⟩⟩
theorem pe_lst (h : PA X es t) : PE X (.List es pos) (tLst t) := by
  intro pins s σ H Q I hq
  refine wpAny_List_spliced (thn (h pos pins s σ H _ I hq) fun us s1 ⟨xs, H1, I1, r, z, q⟩ => ⟨by rw [← r.length]; exact z, ?_⟩)
  have hf : H1 s1.heap.objs.size = none := I1.hok.fresh (Nat.le_refl _)
  refine ⟨.ref s1.heap.objs.size, upd H1 s1.heap.objs.size (.lst xs), I1.laid (t' := s1.toks) (fun b u e => Heap.get?_push_of_some _ e) (Nat.le_refl _) ?_, rfl, q _ hf⟩
  exact ⟨z, us, 0, r, Heap.get?_push_size _ rfl⟩
end

/-! ### what a def promises -/
/-- a def's promise: the bound arguments in the parameters' order, the heap, the wanted end, the wanted exception -/
noncomputable abbrev Sp := List V → Hp → VK → XK → Prop
/-- how an exception lies behind a call (file 08 gives it): the callers' frames, abstract heap and state ahead of the call, the wish, the exception, the state -/
noncomputable abbrev CXT := List Env → Hp → Shared → XK → Value → Shared → Prop

/-- the state at a call -/
structure Env0 (P : Program) (w : World) (K : PySem.W.Frag) (mg : Str → Option Value) (base : Heap) (A : Around) (outer : List Env) (s : Shared) (H : Hp) : Prop where
  frames : A.frames = some outer
  mod : Mod K mg base
  bs : ∀ b o, base.get? b = some o → s.heap.get? b = some o ∧ H b = none
  bsz : base.objs.size ≤ s.heap.objs.size
  funs : s.heap.FunFrames base outer
  frf : ∀ b ∈ frs outer, H b = none
  hok : HOk P w H s.heap
  bare : AllBare s.gens
/-- a call's end -/
noncomputable def CE (outer : List Env) (P : Program) (w : World) (H : Hp) (s : Shared) (Q : VK) (u : Value) (s' : Shared) : Prop :=
  ∃ v H', s'.os = s.os ∧ AllBare s'.gens ∧ Un (frs outer) [] H H' s.heap s'.heap ∧ HOk P w H' s'.heap ∧ RelV v u ∧ Q v H'
noncomputable def CR (CX : CXT) (outer : List Env) (P : Program) (w : World) (H : Hp) (s : Shared) (Q : VK) (E : XK) (r : Result) (s' : Shared) : Prop :=
  match r with
  | .ok (.ret u) => CE outer P w H s Q u s'
  | .ok _ => False
  | .error e => CX outer H s E e s'
structure FnOk (P : Program) (w : World) (K : PySem.W.Frag) (mg : Str → Option Value) (base : Heap) (CX : CXT) (k : Nat) (f : Addr) (fd : FuncData) (ps : List Str) (sp : Sp) : Prop where
  len : ∀ vs H Q E, sp vs H Q E → vs.length = ps.length
  run : ∀ (A : Around) (outer : List Env) (s : Shared) (H : Hp) (args : Args) (us : List Value) (vs : List V) (Q : VK) (E : XK), Room k A → Env0 P w K mg base A outer s H → BindsTo s fd args (ps.zip us) → Vals vs us → sp vs H Q E →
    codeAny (model P w) A (.call (.ref f) args) (CR CX outer P w H s Q E) s
theorem Env0.make {P : Program} {w : World} {K : PySem.W.Frag} {mg : Str → Option Value} {base : Heap} {A : Around} {outer : List Env} {s : Shared} {H : Hp} (e : Env0 P w K mg base A outer s H) (C : Addr) (us : List Value) (kw : List (Str × Value)) :
    Env0 P w K mg base (A.under (.builtin "type.__call__" ⟨.ref C :: us, kw⟩)) outer s H := ⟨by first | exact e.frames | (simpa [Around.under, Code.envs, Code.isFrame, pushEnvs] using e.frames), e.mod, e.bs, e.bsz, e.funs, e.frf, e.hok, e.bare⟩
section
variable {X : Cx} {pins : List (Addr × Obj)} {σ : St} {H : Hp} {s s' : Shared}
/-- from a body: what a callee wants -/
theorem Inv.env0 (I : Inv X pins σ H s) : Env0 X.prog X.w X.K X.mg X.base X.A X.stack s H :=
  ⟨I.ok.frames, I.ok.mod, I.bs, Nat.le_trans I.ok.bsz I.sz, I.stack, I.stkFree, I.hok, I.bare⟩
/-- behind a call -/
theorem Inv.after {Q : VK} {u : Value} (I : Inv X pins σ H s) (h : CE X.stack X.prog X.w H s Q u s') : EP X pins σ Q u s' := by
  obtain ⟨v, H', os, bare, un, hok, r, q⟩ := h
  obtain ⟨hh, g, d, t, os'⟩ := s'
  obtain rfl : os' = s.os := os
  exact ⟨v, H', I.call (h' := hh) (g' := g) (d' := d) (t' := t) (ch := []) un hok bare (fun b z => absurd z (by simp)), r, q⟩
end

/-! ### calls -/
/-- f(..): the written arguments, then the defaults dvs; E: what is wanted of an exception -/
noncomputable def tCall (sp : Sp) (dvs : List V) (E : XK) (t : TA) : TE := fun σ H Q => t σ H fun vs H1 => sp (vs ++ dvs) H1 Q E
/-- o.m(..) of an instance of the class at C -/
noncomputable def tMeth (C : Addr) (m : Str) (sp : Sp) (dvs : List V) (E : XK) (ta : TE) (t : TA) : TE := fun σ H Q => ta σ H fun x H1 => ∃ a dx fs, x = .ref a ∧ H1 a = some (.ins C dx fs) ∧ fs.lookup m = none ∧
  t σ H1 fun vs H2 => sp (x :: (vs ++ dvs)) H2 Q E
/-- C(..): a new instance and its dict, then __init__ -/
noncomputable def tMake (C : Addr) (sp : Sp) (dvs : List V) (E : XK) (t : TA) : TE := fun σ H Q => t σ H fun vs H1 => ∀ x dx, H1 x = none → H1 dx = none → dx ≠ x →
  sp (.ref x :: (vs ++ dvs)) (upd (upd H1 dx (.own x)) x (.ins C dx [])) (fun v H2 => v = .non ∧ Q (.ref x) H2) E

/-- how the parameters are bound: us the positional arguments, kw the keywords' values by name, ds the defaults that fill up -/
noncomputable def Binds (K : PySem.W.Frag) (fd : FuncData) (ps : List Str) (ds : List Value) : Prop :=
  ∀ (s : Shared) (us : List Value), K.In s.heap → (us ++ ds).length = ps.length → BindsTo s fd ⟨us, []⟩ (ps.zip (us ++ ds))
/-- every parameter is given -/
theorem Binds.all {K : PySem.W.Frag} {fd : FuncData} {ps : List Str} (h : ∀ us : List Value, us.length = ps.length → bindArgs fd ⟨us, []⟩ = pure (ps.zip us)) : Binds K fd ps [] := fun s us _ hl => by
  rw [List.append_nil] at hl ⊢
  exact .of_eq (h us hl)

/-- an exception of a callee reaches what this body wants of exceptions -/
noncomputable def Passes (CX : CXT) (X : Cx) (E : XK) : Prop := ∀ (pins : List (Addr × Obj)) (σ : St) (H : Hp) (s : Shared) (e : Value) (s' : Shared), Inv X pins σ H s → CX X.stack H s E e s' → X.xe e s'

section
variable {X : Cx} {CX : CXT} {k : Nat} {f C : Addr} {fd : FuncData} {ps : List Str} {sp : Sp} {dvs : List V} {ds : List Value} {E : XK} {x m : Str} {p pos apos : Pos} {e o : Expr} {es : List Expr} {ta : TE} {t : TA}

/-- the callee runs -/
theorem run_fn {pins : List (Addr × Obj)} {σ : St} {H : Hp} {s : Shared} {Q : VK} {us : List Value} {vs : List V} (F : FnOk X.prog X.w X.K X.mg X.base CX k f fd ps sp) (hr : Room k X.A) (hb : Binds X.K fd ps ds) (hd : Vals dvs ds) (hx : Passes CX X E)
    (I : Inv X pins σ H s) (r : Vals vs us) (h : sp (vs ++ dvs) H Q E) : wpAny (model X.prog X.w) X.A (call (.ref f) us) (EP X pins σ Q) X.xe s := by
  have r2 : Vals (vs ++ dvs) (us ++ ds) := r.append hd
  have hl : (us ++ ds).length = ps.length := by rw [← r2.length]; exact F.len _ _ _ _ h
  refine wpAny_call (codeAny_mono (F.run X.A X.stack s H ⟨us, []⟩ (us ++ ds) (vs ++ dvs) Q E hr I.env0 (hb s us I.kIn hl) r2 h) fun r s' hq => ?_)
  cases r with
  | error e => exact hx pins σ H s e s' I hq
  | ok fl =>
    cases fl with
    | ret u => exact I.after hq
    | next => exact False.elim hq
    | brk => exact False.elim hq
    | cont => exact False.elim hq

theorem pe_call (F : FnOk X.prog X.w X.K X.mg X.base CX k f fd ps sp) (hr : Room k X.A) (hg : Gl X x) (hm : X.mg x = some (.ref f)) (hk : PySem.W.keepIn X.K (.ref f) = true) (hb : Binds X.K fd ps ds) (hd : Vals dvs ds) (hx : Passes CX X E)
    (ha : PA X (e :: es) t) (hdb : (x == ("__debug__" : Str)) = false := by decide) (he : starEach (e :: es) X.env = (false, eval e X.env) :: starEach es X.env := by rfl) (hpl : (backTo pos (starEach es X.env)).any (·.1) = false := by rfl) :
    PE X (.Call (.Name x p) (e :: es) [] pos) (tCall sp dvs E t) := by
  intro pins s σ H Q I h
  refine wpAny_Call_Name_kw (ld_glob I hg hm ?_ hdb)
  refine PySem.W.callWith_K (h₀ := X.base) I.ok.mod.kin hk (thn (ha pos pins s σ H _ I h) fun us s1 ⟨vs, H1, I1, r, q⟩ => ⟨I1.kIn, ?_⟩) he hpl
  exact run_fn F hr hb hd hx I1 r q
/-- o.m() -/
theorem pe_meth0 {pl : Sem Bool} (he : PE X o ta) (c : Cls X.K C) (hm : Meth X.K C m f) (F : FnOk X.prog X.w X.K X.mg X.base CX k f fd ps sp) (hr : Room k X.A) (hb : Binds X.K fd ps ds) (hd : Vals dvs ds) (hx : Passes CX X E)
    (ht : eval (.Call (.Attribute o m apos) [] [] pos) X.env = (do
      let ov ← eval o X.env
      standAt apos.atName
      let (f, first) ← holding [ov] (getMethod ov m pl)
      callWith pos f first (backTo pos (starEach [] X.env)) (backToKw pos (keywordEach [] X.env))) := by rfl) :
    PE X (.Call (.Attribute o m apos) [] [] pos) (tMeth C m sp dvs E ta tNil) := by
  intro pins s σ H Q I h
  refine PySem.W.methodCall_KW (pl := pl) (thn (he pins s σ H _ I h) fun u s1 ⟨x, H1, I1, rx, a, dx, fs, ex, ea, l, q⟩ => ?_) ht
  subst ex
  obtain rfl : u = Value.ref a := rx
  refine getmeth_ok I1 ea c hm l ?_
  exact PySem.W.callWith_K0 (first := [.ref a]) I1.kIn hm.kp (run_fn (us := [.ref a]) (vs := [.ref a]) F hr hb hd hx I1 (.cons rfl .nil) q)

/-- what a class must have to be made -/
structure Mk (K : PySem.W.Frag) (C f : Addr) : Prop where
  makes : PySem.W.makesIn K C = true
  init : PySem.W.findIn K (.ref C) "__init__" = some (some (.ref f))
  fn : PySem.W.isFn K (.ref f) = true
  kp : PySem.W.keepIn K (.ref C) = true

theorem run_make {pins : List (Addr × Obj)} {σ : St} {H : Hp} {s : Shared} {Q : VK} {us : List Value} {vs : List V} (M : Mk X.K C f) (F : FnOk X.prog X.w X.K X.mg X.base CX k f fd ps sp) (hr : Room (k + 1) X.A) (hb : Binds X.K fd ps ds) (hd : Vals dvs ds)
    (hx : Passes CX X E) (I : Inv X pins σ H s) (r : Vals vs us)
    (h : ∀ x dx, H x = none → H dx = none → dx ≠ x → sp (.ref x :: (vs ++ dvs)) (upd (upd H dx (.own x)) x (.ins C dx [])) (fun v H2 => v = .non ∧ Q (.ref x) H2) E) :
    wpAny (model X.prog X.w) X.A (call (.ref C) us) (EP X pins σ Q) X.xe s := by
  have hq := h (s.heap.objs.size + 1) s.heap.objs.size (I.hok.fresh (Nat.le_succ _)) (I.hok.fresh (Nat.le_refl _)) (Nat.ne_of_lt (Nat.lt_succ_self _))
  have I2 := Inv.made (C := C) I
  have r2 : Vals (V.ref (s.heap.objs.size + 1) :: (vs ++ dvs)) (Value.ref (s.heap.objs.size + 1) :: (us ++ ds)) := .cons rfl (r.append hd)
  have hl : (Value.ref (s.heap.objs.size + 1) :: us ++ ds).length = ps.length := by
    have e := r2.length
    rw [F.len _ _ _ _ hq] at e
    exact e.symm
  refine wpAny_call (make_map (f := f) I.kIn M.makes M.init (beq_iff_eq.mp M.fn) (codeAny_mono (F.run _ X.stack _ _ ⟨Value.ref (s.heap.objs.size + 1) :: us, []⟩ (Value.ref (s.heap.objs.size + 1) :: (us ++ ds)) _ _ E (hr.make C us [])
    (I2.env0.make C us []) (hb _ (Value.ref (s.heap.objs.size + 1) :: us) I2.kIn hl) r2 hq) fun r s' hq' => ?_))
  cases r with
  | error e => exact hx pins σ _ _ e s' I2 hq'
  | ok fl =>
    cases fl with
    | ret u =>
      obtain ⟨v, H', I3, rv, ev, q3⟩ := I2.after hq'
      subst ev
      exact ⟨rv, ⟨V.ref (s.heap.objs.size + 1), H', I3, rfl, q3⟩⟩
    | next => exact False.elim hq'
    | brk => exact False.elim hq'
    | cont => exact False.elim hq'
theorem pe_make (M : Mk X.K C f) (F : FnOk X.prog X.w X.K X.mg X.base CX k f fd ps sp) (hr : Room (k + 1) X.A) (hg : Gl X x) (hm : X.mg x = some (.ref C)) (hb : Binds X.K fd ps ds) (hd : Vals dvs ds) (hx : Passes CX X E)
    (ha : PA X (e :: es) t) (hdb : (x == ("__debug__" : Str)) = false := by decide) (he : starEach (e :: es) X.env = (false, eval e X.env) :: starEach es X.env := by rfl) (hpl : (backTo pos (starEach es X.env)).any (·.1) = false := by rfl) :
    PE X (.Call (.Name x p) (e :: es) [] pos) (tMake C sp dvs E t) := by
  intro pins s σ H Q I h
  refine wpAny_Call_Name_kw (ld_glob I hg hm ?_ hdb)
  refine PySem.W.callWith_K (h₀ := X.base) I.ok.mod.kin M.kp (thn (ha pos pins s σ H _ I h) fun us s1 ⟨vs, H1, I1, r, q⟩ => ⟨I1.kIn, ?_⟩) he hpl
  exact run_make M F hr hb hd hx I1 r q
theorem pe_make0 (M : Mk X.K C f) (F : FnOk X.prog X.w X.K X.mg X.base CX k f fd ps sp) (hr : Room (k + 1) X.A) (hg : Gl X x) (hm : X.mg x = some (.ref C)) (hb : Binds X.K fd ps ds) (hd : Vals dvs ds) (hx : Passes CX X E)
    (hdb : (x == ("__debug__" : Str)) = false := by decide) : PE X (.Call (.Name x p) [] [] pos) (tMake C sp dvs E tNil) := by
  intro pins s σ H Q I h
  refine wpAny_Call_Name_kw (ld_glob I hg hm ?_ hdb)
  exact PySem.W.callWith_K0 I.kIn M.kp (run_make (us := []) M F hr hb hd hx I .nil h)
end

/-! ### keywords -/
section
variable {X : Cx} {CX : CXT} {k : Nat} {f C : Addr} {fd : FuncData} {ps ks : List Str} {sp : Sp} {E : XK} {x m : Str} {p pos apos kpos : Pos} {e o : Expr} {es : List Expr} {kws : List Keyword} {te ta : TE} {t tk : TA} {nm : Option Str}
/-- how a call with keywords binds: g puts the positional values us and the keywords' values ws (names ks) in the parameters' order, defaults among them -/
structure KBinds (K : PySem.W.Frag) (fd : FuncData) (ps ks : List Str) (g : List Value → List Value → List Value) (gV : List V → List V → List V) : Prop where
  to : ∀ (s : Shared) (us ws : List Value), K.In s.heap → (g us ws).length = ps.length → BindsTo s fd ⟨us, ks.zip ws⟩ (ps.zip (g us ws))
  rel : ∀ {vs : List V} {us : List Value} {zs : List V} {ws : List Value}, Vals vs us → Vals zs ws → Vals (gV vs zs) (g us ws)
variable {g : List Value → List Value → List Value} {gV : List V → List V → List V}
end

/-! ### a def's body keeps its promise -/
/-- names: the parameters first -/
structure FnScope (N P : List Str) (sc : Scope) : Prop where
  kind : sc.kind = .function
  co : sc.isCoroutine = false
  gen : sc.isGenerator = false
  nd : N.Nodup
  pre : N.take P.length = P
  par : ∀ x ∈ P, sc.names.lookup x = some .local ∨ sc.names.lookup x = some .cell
  nofree : ∀ y ∈ sc.names, y.2 ≠ .free

theorem bindL_out {kindOf : Str → Option NameKind} {x : Str} : ∀ {binds : List (Str × Value)} {m : Str → Option Value}, (∀ v, (x, v) ∉ binds) → bindL kindOf binds m x = m x
  | [], _, _ => rfl
  | (n, v) :: r, m, h => by
    unfold bindL
    rw [bindL_out fun w hw => h w (List.mem_cons_of_mem _ hw)]
    split
    · have : x ≠ n := by rintro rfl; exact h v List.mem_cons_self
      simp [this]
    · rfl
theorem bindC_out {kindOf : Str → Option NameKind} {x : Str} : ∀ {binds : List (Str × Value)} {m : Str → Option Value}, (∀ v, (x, v) ∉ binds) → bindC kindOf binds m x = m x
  | [], _, _ => rfl
  | (n, v) :: r, m, h => by
    unfold bindC
    rw [bindC_out fun w hw => h w (List.mem_cons_of_mem _ hw)]
    split
    · rfl
    · have : x ≠ n := by rintro rfl; exact h v List.mem_cons_self
      simp [this]
theorem bindL_get {kindOf : Str → Option NameKind} {x : Str} {v : Value} : ∀ {P : List Str} {vs : List Value} {i : Nat} {m : Str → Option Value}, P.Nodup → P[i]? = some x → vs[i]? = some v → kindOf x = some .local →
    bindL kindOf (P.zip vs) m x = some v
  | [], _, _, _, _, h, _, _ => by simp at h
  | _ :: _, [], _, _, _, _, h, _ => by simp at h
  | p :: P, w :: vs, 0, m, nd, h1, h2, hk => by
    simp at h1 h2; subst h1; subst h2
    show bindL kindOf ((p, w) :: P.zip vs) m p = _
    unfold bindL
    rw [bindL_out fun v hv => (List.nodup_cons.mp nd).1 (List.of_mem_zip hv).1, if_pos hk]
    simp
  | p :: P, w :: vs, i + 1, m, nd, h1, h2, hk => by
    show bindL kindOf ((p, w) :: P.zip vs) m x = _
    unfold bindL
    exact bindL_get (i := i) (List.nodup_cons.mp nd).2 (by simpa using h1) (by simpa using h2) hk
theorem bindC_get {kindOf : Str → Option NameKind} {x : Str} {v : Value} : ∀ {P : List Str} {vs : List Value} {i : Nat} {m : Str → Option Value}, P.Nodup → P[i]? = some x → vs[i]? = some v → kindOf x ≠ some .local →
    bindC kindOf (P.zip vs) m x = some v
  | [], _, _, _, _, h, _, _ => by simp at h
  | _ :: _, [], _, _, _, _, h, _ => by simp at h
  | p :: P, w :: vs, 0, m, nd, h1, h2, hk => by
    simp at h1 h2; subst h1; subst h2
    show bindC kindOf ((p, w) :: P.zip vs) m p = _
    unfold bindC
    rw [bindC_out fun v hv => (List.nodup_cons.mp nd).1 (List.of_mem_zip hv).1, if_neg hk]
    simp
  | p :: P, w :: vs, i + 1, m, nd, h1, h2, hk => by
    show bindC kindOf ((p, w) :: P.zip vs) m x = _
    unfold bindC
    exact bindC_get (i := i) (List.nodup_cons.mp nd).2 (by simpa using h1) (by simpa using h2) hk

/-- the names' values at the entry -/
noncomputable def start (N : List Str) (vs : List V) : St := vs.map some ++ List.replicate (N.length - vs.length) none

/-- the context of a def's body, at its entry; an exception leaves the frame, then lies as CX says -/
noncomputable def cxOf (CX : CXT) (P : Program) (w : World) (K : PySem.W.Frag) (mg : Str → Option Value) (base : Heap) (N : List Str) (qual : Str) (scope : Scope) (f : Addr) (cd : Value) (A : Around) (outer : List Env) (s : Shared) (H : Hp) (E : XK) : Cx where
  prog := P
  w := w
  K := K
  mg := mg
  base := base
  A := A.deeper (envOfC qual scope s.heap.objs.size f cd)
  N := N
  s_0 := s
  H_0 := H
  env := envOfC qual scope s.heap.objs.size f cd
  outer := outer
  stack := envOfC qual scope s.heap.objs.size f cd :: outer
  ex := []
  calm := true
  fn := fun _ => true
  pn := []
  xe := fun e s' => wpAny (model P w) (A.deeper (envOfC qual scope s.heap.objs.size f cd)) (leaving (envOfC qual scope s.heap.objs.size f cd) e) (fun _ s'' => CX outer H s E e s'') (fun e' s'' => CX outer H s E e' s'') s'

theorem cell_has {sc : Scope} {n : Nat} {x : Str} (h : sc.names.lookup x = some .cell) : ∃ c, (cellsFrom n sc.names []).lookup x = some c := by
  have q := PySem.W.cellsFrom_some sc.names n [] (.inl h)
  exact Option.isSome_iff_exists.mp q

theorem inv_start {CX : CXT} {P : Program} {w : World} {K : PySem.W.Frag} {mg : Str → Option Value} {base : Heap} {N ps : List Str} {qual : Str} {scope : Scope} {f : Addr} {cd : Value} {A : Around} {outer : List Env} {s s1 : Shared} {H : Hp} {E : XK} {us : List Value} {vs : List V}
    (S : FnScope N ps scope) (hd : A.handled = none) (e0 : Env0 P w K mg base A outer s H) (hl : vs.length = ps.length) (r : Vals vs us)
    (x : InCallC s s.heap.objs.size (bindL (envOfC qual scope s.heap.objs.size f cd).kindOf (ps.zip us) fun _ => none) (cellsFrom (s.heap.objs.size + 1) scope.names []) (bindC (envOfC qual scope s.heap.objs.size f cd).kindOf (ps.zip us) fun _ => none) s1) :
    Inv (cxOf CX P w K mg base N qual scope f cd A outer s H E) [] (start N vs) H s1 := by
  have hpl : ps.length ≤ N.length := by have := congrArg List.length S.pre; rw [List.length_take] at this; omega
  obtain ⟨h1, tk, rfl, hk⟩ := x.done
  have noA : ∀ b : Addr, b ∉ (cxOf CX P w K mg base N qual scope f cd A outer s H E).ex := fun b z => absurd (show b ∈ ([] : List Addr) from z) (by simp)
  refine ⟨⟨e0.mod, S.kind, rfl, rfl, Nat.le_refl _, fun y z c h1 h2 => ?_, fun y hy => ?_, fun y c _ h => ?_, fun _ => hd, Around.frames_deeper e0.frames, .inr ⟨rfl, rfl⟩, fun b z => absurd z (noA b), e0.bs, e0.bsz, fun b _ _ => noA b, fun b z => absurd z (noA b), e0.funs, e0.frf⟩,
    rfl, e0.bare, Un.kept hk, ⟨_, x.toInCall.ns, fun i y v h1 h2 h3 => ?_⟩, fun y c h => ⟨_, x.cell y c h⟩, e0.hok.fresh (Nat.le_refl _), fun y c h => ?_, fun p hp => absurd (show p ∈ ([] : List (Addr × Obj)) from hp) (by simp), e0.hok.kept hk, ?_⟩
  · exact name_of_addr x.apart (PySem.mem_of_lookup h1) (PySem.mem_of_lookup h2)
  · have hy : scope.names.lookup y = some .cell ∨ scope.names.lookup y = some .free := hy
    rcases hy with hy | hy
    · exact cell_has hy
    · exact absurd rfl (S.nofree _ (PySem.mem_of_lookup hy))
  · exact Nat.le_of_lt (x.above y c (PySem.mem_of_lookup h))
  · have hi : i < vs.length := by
      unfold start at h2
      by_cases hi : i < vs.length
      · exact hi
      · rw [List.getElem?_append_right (by simpa using hi)] at h2
        rw [List.getElem?_replicate] at h2
        split at h2 <;> cases h2
    have ha : vs[i]? = some v := by
      unfold start at h2
      rw [List.getElem?_append_left (by simpa using hi), List.getElem?_map] at h2
      cases e : vs[i]? with
      | none => rw [e] at h2; cases h2
      | some a => rw [e] at h2; cases h2; rfl
    obtain ⟨u, hu, rv⟩ := r.get ha
    have hp : ps[i]? = some y := by
      rw [← S.pre, List.getElem?_take_of_lt (by omega)]; exact h1
    have ndP : ps.Nodup := by rw [← S.pre]; exact S.nd.sublist (List.take_sublist _ _)
    refine ⟨u, rv, ?_⟩
    rcases S.par y (List.mem_of_getElem? hp) with k | k
    · exact .inl ⟨k, bindL_get ndP hp hu k⟩
    · obtain ⟨c, e⟩ := cell_has (n := s.heap.objs.size + 1) k
      refine .inr ⟨.inl k, c, e, ?_⟩
      have q := x.cell y c e
      rw [bindC_get ndP hp hu (by show scope.names.lookup y ≠ _; rw [k]; decide)] at q
      exact q
  · exact e0.hok.fresh (Nat.le_of_lt (x.above y c (PySem.mem_of_lookup h)))
  · unfold start
    show _ = N.length
    rw [List.length_append, List.length_map, List.length_replicate]
    omega

/-- THE RULE: a def (or a method) of the text, by its body. The body's reading t is chosen for each entry; it is run at the parameters' values -/
theorem fn_of {CX : CXT} {P : Program} {w : World} {K : PySem.W.Frag} {mg : Str → Option Value} {base : Heap} {k : Nat} {f : Addr} {name qual : Str} {params : Arguments} {body : List Stmt} {scope : Scope} {dV kV doc pm cdv ct oc : Value} {an od : Option Addr}
    {osl : Array (Option Value)} {N ps : List Str} {sp : Sp} (lk : K.lookup f = some ⟨oc, od, .func (PySem.W.fnOf name qual params body scope dV kV doc pm an cdv ct), osl⟩) (hcd : PySem.W.codeIn K cdv qual = true) (S : FnScope N ps scope)
    (len : ∀ vs H Q E, sp vs H Q E → vs.length = ps.length)
    (hbody : ∀ (A : Around) (outer : List Env) (s : Shared) (H : Hp) (vs : List V) (Q : VK) (E : XK), Room k (A.deeper (envOfC qual scope s.heap.objs.size f cdv)) → sp vs H Q E →
      ∃ t, PSs (cxOf CX P w K mg base N qual scope f cdv A outer s H E) body t ∧ t { nx := fun _ H' => Q .non H', rt := Q } (start N vs) H) :
    FnOk P w K mg base CX (k + 1) f (PySem.W.fnOf name qual params body scope dV kV doc pm an cdv ct) ps sp := by
  refine ⟨len, fun A outer s H args us vs Q E hr e0 hb r hsp => ?_⟩
  have hl := len _ _ _ _ hsp
  have KX : K.In s.heap := e0.mod.kin.keeps fun b o e => (e0.bs b o e).1
  have lim : s.heap.NoLimit := e0.mod.nolimit.keeps fun b o e => (e0.bs b o e).1
  have hkind : ∀ y ∈ ps.zip us, scope.names.lookup y.1 = some .local ∨ (scope.names.lookup y.1 = some .cell ∧ ((cellsFrom (s.heap.objs.size + 1) scope.names []).lookup y.1).isSome = true) := fun ⟨n, v⟩ hy => by
    rcases S.par n (List.of_mem_zip hy).1 with q | q
    · exact .inl q
    · exact .inr ⟨q, PySem.W.cellsFrom_some _ _ _ (.inl q)⟩
  refine codeAny_call_function hr.depth (KX _ _ lk) rfl S.co S.gen rfl (PySem.W.codeRec_of KX hcd) (hb _ _ _ _ ?_)
  refine wpAny_newFunctionEnv_cells S.kind hkind fun env he s1 x => ?_
  subst he
  refine ⟨lim.keeps x.toInCall.keep, codeAny_func ?_⟩
  obtain ⟨t, ht, hq⟩ := hbody A outer s H vs Q E (hr.deeper _) hsp
  have I : Inv (cxOf CX P w K mg base N qual scope f cdv A outer s H E) [] (start N vs) H s1 := inv_start S hr.hd e0 hl r x
  refine wpAny_mono (ht [] s1 (start N vs) H _ I hq) (fun fl s' hs => ?_) fun e s' hs => hs
  have fin : ∀ {σ' : St} {H' : Hp} {v : V} {u : Value}, Inv (cxOf CX P w K mg base N qual scope f cdv A outer s H E) [] σ' H' s' → RelV v u → Q v H' → CE outer P w H s Q u s' :=
    fun {σ' H' v u} J rv q => ⟨v, H', J.os, J.bare, J.base, J.hok, rv, q⟩
  cases fl with
  | ret u =>
    obtain ⟨v, σ', H', J, rv, q⟩ := hs
    exact fin J rv q
  | next =>
    obtain ⟨σ', H', J, q⟩ := hs
    exact fin (v := V.non) (u := Value.none) J rfl q
  | brk =>
    obtain ⟨_, _, _, q⟩ := hs
    exact False.elim q
  | cont =>
    obtain ⟨_, _, _, q⟩ := hs
    exact False.elim q
end L2

namespace L2
open PySem PySem.Spec PyProof.Rows
section
variable {X : Cx} {x : Str} {p pos : Pos} {e : Expr} {es : List Expr} {t : TA} {id T : String} {r : List V → Hp → VK → Prop}

noncomputable def tCB (r : List V → Hp → VK → Prop) (t : TA) : TE := fun σ H Q => t σ H fun vs H1 => r vs H1 Q
/-- f(e, ..), f a built-in function -/
theorem pe_callB (hc : CallR X (.builtin id) r) (hg : Gl X x) (hm : X.mg x = none) (hv : bootBuiltins x = some (.builtin id)) (ha : PA X (e :: es) t) (hn : x ≠ "__name__" := by decide) (hdb : (x == ("__debug__" : Str)) = false := by decide)
    (he : starEach (e :: es) X.env = (false, eval e X.env) :: starEach es X.env := by rfl) (hpl : (backTo pos (starEach es X.env)).any (·.1) = false := by rfl) : PE X (.Call (.Name x p) (e :: es) [] pos) (tCB r t) := by
  intro pins s σ H Q I h
  refine wpAny_Call_Name_kw (ld_blt I hg hm hv ?_ hn hdb)
  exact PyProof.Rows.callWith_builtin1 (thn (ha pos pins s σ H _ I h) fun us s1 ⟨vs, H1, I1, r1, q1⟩ => hc pins s1 σ H1 vs us Q I1 r1 q1) he hpl
/-- T(e, ..), T a built-in type -/
theorem pe_callTy (hc : CallR X (.type T) r) (hg : Gl X x) (hm : X.mg x = none) (hv : bootBuiltins x = some (.type T)) (ha : PA X (e :: es) t) (hn : x ≠ "__name__" := by decide) (hdb : (x == ("__debug__" : Str)) = false := by decide)
    (he : starEach (e :: es) X.env = (false, eval e X.env) :: starEach es X.env := by rfl) (hpl : (backTo pos (starEach es X.env)).any (·.1) = false := by rfl) : PE X (.Call (.Name x p) (e :: es) [] pos) (tCB r t) := by
  intro pins s σ H Q I h
  refine wpAny_Call_Name_kw (ld_blt I hg hm hv ?_ hn hdb)
  exact PyProof.Rows.callWith_type1 (thn (ha pos pins s σ H _ I h) fun us s1 ⟨vs, H1, I1, r1, q1⟩ => hc pins s1 σ H1 vs us Q I1 r1 q1) he hpl
end
end L2

namespace HT
open PySem PyProof.Rows

section
open PySem.SeqAt
open PySem.AutoSeq1 (wpAny_loadPart')
open PySem.MeetsSeq PySem.MeetsSeq2 PySem.MeetsSeq3

end

section
variable {prog : Program} {w : World} {A : Around} {E : Value → Shared → Prop} {s : Shared}

/-! ### t[a:b], not the whole -/
/-- a slice's bound as a place among n (d where it is left out) -/
noncomputable def sIx (n d : Nat) : Option Int → Nat
  | none => d
  | some v => if v < 0 then (v + (n : Int)).toNat else min v.toNat n
theorem sIx_nat (n d k : Nat) : sIx n d (some (k : Int)) = min k n := by
  show (if (k : Int) < 0 then ((k : Int) + (n : Int)).toNat else min (k : Int).toNat n) = min k n
  rw [if_neg (by omega), Int.toNat_natCast]
end
end HT

namespace L2
open PySem PySem.Spec PyProof.Rows

/-! ### the parts of a slice -/
noncomputable abbrev TO := St → Hp → (Option Int → Hp → Prop) → Prop
/-- a slice's part (left out, or an int) -/
noncomputable def PO (X : Cx) (e : Option Expr) (t : TO) : Prop :=
  ∀ (pins : List (Addr × Obj)) (s : Shared) (σ : St) (H : Hp) (Q : Option Int → Hp → Prop), Inv X pins σ H s → t σ H Q →
    wpAny (model X.prog X.w) X.A (evalPart e X.env) (fun u s' => ∃ o H', Inv X pins σ H' s' ∧ IsPart u o ∧ Q o H') X.xe s
noncomputable def tPart (t : TE) : TO := fun σ H Q => t σ H fun x H1 => ∃ i, x = .int i ∧ Q (some i) H1

section
variable {X : Cx} {e : Expr} {te : TE} {lo hi : Option Expr} {tl th : TO} {pos p2 : Pos}

theorem po_some (h : PE X e te) : PO X (some e) (tPart te) := by
  intro pins s σ H Q I hw
  rw [evalPart_some]
  refine thn (h pins s σ H _ I hw) fun u s1 ⟨x, H1, I1, r1, q1⟩ => ?_
  obtain ⟨i, rfl, q⟩ := q1
  obtain ⟨t, rfl⟩ := r1
  exact ⟨some i, H1, I1, .int i t, q⟩

/-- what a slice of a value is, by values: the slice object stands at sl -/
noncomputable def SlR (X : Cx) (r : V → Option Int → Option Int → Hp → VK → Prop) : Prop :=
  ∀ (pins : List (Addr × Obj)) (s : Shared) (σ : St) (H : Hp) (x : V) (v vl vu : Value) (lo hi : Option Int) (sl : Addr) (Q : VK), Inv X pins σ H s → RelV x v → s.heap.IsSliceOf sl vl vu .none → IsPart vl lo → IsPart vu hi → r x lo hi H Q →
    ∃ T id, typeLookup (.type T) "__getitem__" = pure (some (.builtin id)) ∧ s.TypeIs v T ∧ wpAny (model X.prog X.w) X.A (getItem v (.ref sl)) (EP X pins σ Q) X.xe s
noncomputable def tSl (r : V → Option Int → Option Int → Hp → VK → Prop) (te : TE) (tl th : TO) : TE := fun σ H Q => te σ H fun x H1 => tl σ H1 fun l H2 => th σ H2 fun u H3 => r x l u H3 Q
/-- a[lo:hi], any a -/
theorem pe_slice {r : V → Option Int → Option Int → Hp → VK → Prop} (hr : SlR X r) (he : PE X e te) (hl : PO X lo tl) (hu : PO X hi th) : PE X (.Subscript e (.Slice lo hi none p2) pos) (tSl r te tl th) := by
  intro pins s σ H Q I h
  refine Subscript_ (thn (he pins s σ H _ I h) fun v s1 ⟨x, H1, I1, r1, q1⟩ => ?_)
  refine wpAny_Slice (thn (hl pins s1 σ H1 _ I1 q1) fun vl s2 ⟨l, H2, I2, pl, q2⟩ => thn (hu pins s2 σ H2 _ I2 q2) fun vu s3 ⟨u, H3, I3, pu, q3⟩ => ?_)
  rw [evalPart_none]
  refine wpAny_pure ?_
  have I4 : Inv X pins σ H3 { s3 with heap := s3.heap.push { cls := .type "slice", data := .fields #[vl, vu, .none] } } := I3.kept (t' := s3.toks) fun b ob q => Heap.get?_push_of_some _ q
  obtain ⟨T, id, hT, ht, hg⟩ := hr pins { s3 with heap := s3.heap.push { cls := .type "slice", data := .fields #[vl, vu, .none] } } σ H3 x v vl vu l u s3.heap.objs.size Q I4 r1 (Heap.IsSliceOf.new ..) pl pu q3
  show wpAny (model X.prog X.w) X.A (subscriptTail e (.Slice lo hi none p2) v (.ref s3.heap.objs.size)) (EP X pins σ Q) X.xe { s3 with heap := s3.heap.push { cls := .type "slice", data := .fields #[vl, vu, .none] } }
  exact tail_any (ops := [.ref s3.heap.objs.size, v]) ht hT hg (by with_unfolding_all rfl)

/-- the items of xs[lo:hi] -/
noncomputable def cutV (xs : List V) (lo hi : Option Int) : List V := (xs.drop (HT.sIx xs.length 0 lo)).take (HT.sIx xs.length xs.length hi - HT.sIx xs.length 0 lo)
theorem cutV_length (xs : List V) (lo hi : Option Int) : (cutV xs lo hi).length ≤ xs.length := by
  unfold cutV
  rw [List.length_take, List.length_drop]
  omega
/-! ### t < u, t + u -/
end
end L2

namespace L2
open PySem PySem.Spec PyProof.Rows

/-! ### places -/
/-- the place that an index of any sign means -/
noncomputable def ixN (n : Nat) (i : Int) : Option Nat := if 0 ≤ i then (if i < n then some i.toNat else none) else if -(n : Int) ≤ i then some (i + n).toNat else none
noncomputable def atI {α : Type} (xs : List α) (i : Int) : Option α := (ixN xs.length i).bind fun j => xs[j]?
theorem ixN_seq {n : Nat} {i : Int} {j : Nat} (h : ixN n i = some j) : seqIndex? i n = some j ∧ j < n ∧ -(n : Int) ≤ i ∧ i < n := by
  unfold ixN at h
  by_cases h0 : 0 ≤ i
  · rw [if_pos h0] at h
    by_cases h1 : i < n
    · rw [if_pos h1] at h
      have e : i.toNat = j := Option.some.inj h
      exact ⟨by rw [seqIndex_of h0 h1, e], by omega, by omega, h1⟩
    · rw [if_neg h1] at h; cases h
  · rw [if_neg h0] at h
    by_cases h1 : -(n : Int) ≤ i
    · rw [if_pos h1] at h
      have e : (i + n).toNat = j := Option.some.inj h
      exact ⟨by rw [seqIndex_neg (by omega) h1, e], by omega, h1, by omega⟩
    · rw [if_neg h1] at h; cases h
theorem atI_get {α : Type} {xs : List α} {i : Int} {v : α} (h : atI xs i = some v) : ∃ j, seqIndex? i xs.length = some j ∧ xs[j]? = some v ∧ j < xs.length ∧ -(xs.length : Int) ≤ i ∧ i < xs.length := by
  unfold atI at h
  cases e : ixN xs.length i with
  | none => rw [e] at h; cases h
  | some j =>
    rw [e] at h
    obtain ⟨h1, h2, h3, h4⟩ := ixN_seq e
    exact ⟨j, h1, h, h2, h3, h4⟩
theorem atI_nat {α : Type} {xs : List α} {j : Nat} {v : α} (h : xs[j]? = some v) : atI xs (j : Int) = some v := by
  have hj : j < xs.length := (List.getElem?_eq_some_iff.mp h).1
  have e : ixN xs.length (j : Int) = some j := by
    unfold ixN
    rw [if_pos (by omega), if_pos (by omega)]; simp
  unfold atI; rw [e]; exact h
/-! ### what may be subscripted -/
/-- what stands as an index of a plain subscript -/
noncomputable def PlainIx (b : Expr) : Prop := ∀ o i, subscripted b false o i = operate [o, i] (getItem o i)
/-- a subscript by values -/
noncomputable def IxR (X : Cx) (r : R2) : Prop :=
  ∀ (value slice : Expr) (pins : List (Addr × Obj)) (s : Shared) (σ : St) (H : Hp) (x y : V) (v u : Value) (Q : VK), Inv X pins σ H s → RelV x v → RelV y u → r x y H Q →
    subscripted slice false v u = operate [v, u] (getItem v u) → wpAny (model X.prog X.w) X.A (subscriptTail value slice v u) (EP X pins σ Q) X.xe s
/-- a call of a builtin's method by values: the receiver, the arguments -/
noncomputable def MtR (X : Cx) (id : String) (r : V → List V → Hp → VK → Prop) : Prop :=
  ∀ (pins : List (Addr × Obj)) (s : Shared) (σ : St) (H : Hp) (x : V) (xs : List V) (v : Value) (us : List Value) (Q : VK), Inv X pins σ H s → RelV x v → Vals xs us → r x xs H Q →
    wpAny (model X.prog X.w) X.A (call (.builtin id) (v :: us)) (EP X pins σ Q) X.xe s
section
variable {X : Cx} {a b : Expr} {ta tb : TE} {pos : Pos}
/-- a[b] -/
theorem pe_ix {r : R2} (hr : IxR X r) (ha : PE X a ta) (hb : PE X b tb) (hs : PlainIx b) : PE X (.Subscript a b pos) (tOp r ta tb) := by
  intro pins s σ H Q I h
  exact Subscript_ (binT ha hb I h fun v u s2 x y H2 I2 rx ry q => hr a b pins s2 σ H2 x y v u Q I2 rx ry q (hs _ _))

noncomputable def rIxL (K : PySem.W.Frag) : R2 := fun x y H Q => ∃ p xs i v, x = .ref p ∧ y = .int i ∧ SqL K H p xs ∧ atI xs i = some v ∧ Q v H
noncomputable def rIxT (K : PySem.W.Frag) : R2 := fun x y H Q => ∃ p xs i v, x = .ref p ∧ y = .int i ∧ SqT K H p xs ∧ atI xs i = some v ∧ Q v H
theorem ix_list : IxR X (rIxL X.K) := by
  intro value slice pins s σ H x y v u Q I rx ry h hs
  obtain ⟨p, xs, i, z, rfl, rfl, hq, he, q⟩ := h
  cases rx
  obtain ⟨t, rfl⟩ := ry
  obtain ⟨its, r, pl, hz⟩ := I.list hq
  obtain ⟨j, h1, h2, h3, h4, h5⟩ := atI_get he
  obtain ⟨w, ew, rw'⟩ := r.get h2
  have hl := r.length
  have hn := line63
  have fin : EP X pins σ Q w s := ⟨z, H, I, rw', q⟩
  by_cases h0 : 0 ≤ i
  · have hj : i.toNat = j := by
      rw [seqIndex_of h0 h5] at h1
      exact Option.some.inj h1
    exact item_listR pl.isList h0 (by omega) (by rw [hj]; simpa using ew) fin hs
  · have hj : (i + (its.toArray.size : Int)).toNat = j := by
      rw [seqIndex_neg (by omega) h4] at h1
      rw [List.size_toArray, ← hl]
      exact Option.some.inj h1
    exact subscriptTail_builtinR (x := w) pl.isList.typeIs slot_list_getitem.lookup
      (wpAny_getItem_list_neg (Q := fun r s' => r = w ∧ EP X pins σ Q r s') pl.isList (by omega) (by rw [List.size_toArray] <;> omega) (by omega) (by rw [hj]; simpa using ew) ⟨rfl, fin⟩) hs
theorem ix_tup : IxR X (rIxT X.K) := by
  intro value slice pins s σ H x y v u Q I rx ry h hs
  obtain ⟨p, xs, i, z, rfl, rfl, hq, he, q⟩ := h
  cases rx
  obtain ⟨t, rfl⟩ := ry
  obtain ⟨its, r, pl, hz⟩ := I.tuple hq
  obtain ⟨j, h1, h2, h3, h4, h5⟩ := atI_get he
  obtain ⟨w, ew, rw'⟩ := r.get h2
  have hl := r.length
  have hn := line63
  have fin : EP X pins σ Q w s := ⟨z, H, I, rw', q⟩
  exact subscriptTail_builtinR (x := w) pl.typeIs slot_tuple_getitem.lookup
    (getItem_tuple (j := j) (Q := fun r s' => r = w ∧ EP X pins σ Q r s') pl (by omega) (by omega) (by rw [List.size_toArray, ← hl]; exact h1) (by simpa using ew) ⟨rfl, fin⟩) hs
/-! ### xs[i] = v, any sign -/
/-! ### slices -/
theorem slice_bounds (lo hi : Option Int) (n : Nat) : (sliceBounds lo hi none n).1 = ((HT.sIx n 0 lo : Nat) : Int) ∧ (sliceBounds lo hi none n).2.1 = ((HT.sIx n n hi : Nat) : Int) ∧ (sliceBounds lo hi none n).2.2 = 1 := by
  refine ⟨?_, ?_, rfl⟩
  · cases lo with
    | none => simp [sliceBounds, HT.sIx]
    | some i =>
      simp only [sliceBounds, HT.sIx, Option.getD_none, show (1 : Int) > 0 by decide, if_true]
      by_cases h : i < 0
      · simp only [h, if_true] <;> omega
      · simp only [h, if_false] <;> omega
  · cases hi with
    | none => simp [sliceBounds, HT.sIx]
    | some i =>
      simp only [sliceBounds, HT.sIx, Option.getD_none, show (1 : Int) > 0 by decide, if_true]
      by_cases h : i < 0
      · simp only [h, if_true] <;> omega
      · simp only [h, if_false] <;> omega
theorem slicePick_cut (its : List Value) (lo hi : Option Int) : slicePick its.toArray lo hi none = ((its.drop (HT.sIx its.length 0 lo)).take (HT.sIx its.length its.length hi - HT.sIx its.length 0 lo)).toArray := by
  obtain ⟨h1, h2, h3⟩ := slice_bounds lo hi its.toArray.size
  unfold slicePick
  rw [h1, h2, h3]
  simp only [sliceRange_one, pick_run, List.size_toArray] <;> rfl
/-- xs[lo:hi] of a list: a new list -/
noncomputable def rSlL (K : PySem.W.Frag) : V → Option Int → Option Int → Hp → VK → Prop := fun x lo hi H Q => ∃ a xs, x = .ref a ∧ SqL K H a xs ∧ ∀ p, H p = none → Q (.ref p) (upd H p (.lst (cutV xs lo hi)))
theorem sl_list : SlR X (rSlL X.K) := by
  intro pins s σ H x v vl vu lo hi sl Q I rx hs pl pu h
  obtain ⟨a, xs, rfl, hx, q⟩ := h
  cases rx
  obtain ⟨its, r, ht, hz⟩ := I.list hx
  have hlen := r.length
  refine ⟨"list", _, slot_list_getitem.lookup, ht.isList.typeIs, ?_⟩
  refine wpAny_getItem_list_slice ht.isList hs pl pu .none (by simp) ?_ (by rw [List.size_toArray] <;> omega)
  rw [slicePick_cut, ← hlen]
  refine ⟨.ref s.heap.objs.size, _, I.laid (t' := s.toks) (o := .lst (cutV xs lo hi)) (fun b ob q => Heap.get?_push_of_some _ q) (Nat.le_refl _) ?_, rfl, q _ (I.hok.fresh (Nat.le_refl _))⟩
  exact ⟨Nat.le_trans (cutV_length xs lo hi) hz, _, 0, (r.drop (HT.sIx xs.length 0 lo)).take (HT.sIx xs.length xs.length hi - HT.sIx xs.length 0 lo), Heap.get?_push_size _ rfl⟩

/-! ### in, not in: flat items -/
/-! ### len, list(x), tuple(x) of any list or tuple that is read -/
theorem call_len_seq : CallR X (.builtin "len") (fun xs H Q => ∃ p ys, xs = [.ref p] ∧ (SqL X.K H p ys ∨ SqT X.K H p ys) ∧ Q (.int ys.length) H) := by
  intro pins s σ H xs us Q I r h
  obtain ⟨p, ys, rfl, hq, q⟩ := h
  obtain ⟨u, rfl, rx⟩ := vals1 r
  cases rx
  have hn := line63
  rcases hq with hq | hq
  · obtain ⟨its, r', pl, hz⟩ := I.list hq
    have hlen := r'.length
    exact Calls.call_len_list pl.isList (by simp only [List.size_toArray] <;> omega) ⟨.int ys.length, H, I.tok _, ⟨s.toks + 1, by rw [List.size_toArray, hlen]⟩, q⟩
  · obtain ⟨its, r', pl, hz⟩ := I.tuple hq
    have hlen := r'.length
    exact len_tuple pl (by simp only [List.size_toArray] <;> omega) ⟨.int ys.length, H, I.tok _, ⟨s.toks + 1, by rw [List.size_toArray, hlen]⟩, q⟩
theorem call_tuple_of : CallR X (.type "tuple") (fun xs H Q => ∃ p ys, xs = [.ref p] ∧ ((SqL X.K H p ys ∧ ∀ l, H l = none → Q (.ref l) (upd H l (.tup ys))) ∨ (SqT X.K H p ys ∧ Q (.ref p) H))) := by
  intro pins s σ H xs us Q I r h
  obtain ⟨p, ys, rfl, h⟩ := h
  obtain ⟨u, rfl, rx⟩ := vals1 r
  cases rx
  rcases h with ⟨hq, q⟩ | ⟨hq, q⟩
  · obtain ⟨its, r', pl, hz⟩ := I.list hq
    have hlen := r'.length
    refine call_tuple_list pl.isList (fun h' kp => ?_) (by simp only [List.size_toArray] <;> omega)
    have I1 : Inv X pins σ H { s with heap := h' } := I.kept (t' := s.toks) kp
    have I2 : Inv X pins σ (upd H h'.objs.size (.tup ys)) { s with heap := h'.push { cls := .type "tuple", data := .seq its.toArray } } :=
      I1.laid (t' := s.toks) (fun b o e => Heap.get?_push_of_some _ e) (Nat.le_refl _) (show ObjOk X.prog X.w _ _ _ (.tup ys) from ⟨hz, its, r', IsTup.new _ _⟩)
    exact ⟨.ref h'.objs.size, _, I2, rfl, q _ (I1.hok.fresh (Nat.le_refl _))⟩
  · obtain ⟨its, r', pl, hz⟩ := I.tuple hq
    exact call_tuple_same pl ⟨.ref p, H, I, rfl, q⟩

/-! ### the call of a builtin's method: o.m(..) -/
/-- the value is of that builtin type -/
noncomputable def tyV (K : PySem.W.Frag) (T : String) (x : V) (H : Hp) : Prop := match x with
  | .str _ => T = "str"
  | .int _ => T = "int"
  | .ref p => (T = "list" ∧ ∃ xs, SqL K H p xs) ∨ (T = "tuple" ∧ ∃ o, K.lookup p = some o ∧ o.cls = .type "tuple" ∧ o.dict = none) ∨
      (T = "dict" ∧ ((∃ kvs, H p = some (.dK kvs)) ∨ ∃ kvs, H p = some (.dT kvs))) ∨ (T = "set" ∧ ∃ S n, H p = some (.set S n))
  | _ => False
theorem tyV_is {pins : List (Addr × Obj)} {σ : St} {H : Hp} {s : Shared} {T : String} {x : V} {v : Value} (I : Inv X pins σ H s) (r : RelV x v) (ty : tyV X.K T x H) :
    s.TypeIs v T ∧ ∀ a, v = .ref a → ∃ ob, s.heap.get? a = some ob ∧ ob.dict = none := by
  cases x with
  | str z =>
    obtain ⟨t, rfl⟩ := r
    cases (show T = "str" from ty)
    exact ⟨typeIs_str s z t, fun _ e => nomatch e⟩
  | int i =>
    obtain ⟨t, rfl⟩ := r
    cases (show T = "int" from ty)
    exact ⟨typeIs_int s i t, fun _ e => nomatch e⟩
  | ref p =>
    cases r
    rcases ty with ⟨rfl, xs, hq⟩ | ⟨rfl, o, hk, hc, hd⟩ | ⟨rfl, hk⟩ | ⟨rfl, S, n, hk⟩
    · obtain ⟨its, _, pl, _⟩ := I.list hq
      refine ⟨pl.isList.typeIs, fun a e => ?_⟩
      cases e
      obtain ⟨o, n, e, c, hd, _⟩ := pl
      exact ⟨o, e, hd⟩
    · refine ⟨⟨o, I.kIn p o hk, hc⟩, fun a e => ?_⟩
      cases e
      exact ⟨o, I.kIn _ o hk, hd⟩
    · have z : ∃ o, s.heap.get? p = some o ∧ o.ExactDict := by
        rcases hk with ⟨kvs, hk⟩ | ⟨kvs, hk⟩
        · obtain ⟨_, _, _, _, o, _, _, e, ex, _⟩ := I.hok p _ hk
          exact ⟨o, e, ex⟩
        · obtain ⟨_, _, _, _, o, _, _, e, ex, _⟩ := I.hok p _ hk
          exact ⟨o, e, ex⟩
      obtain ⟨o, e, ex⟩ := z
      refine ⟨⟨o, e, ex.1⟩, fun a e2 => ?_⟩
      cases e2
      exact ⟨o, e, ex.2.1⟩
    · obtain ⟨o, _, _, _, e, ex, _⟩ := I.hok p _ hk
      refine ⟨⟨o, e, ex.1⟩, fun a e2 => ?_⟩
      cases e2
      exact ⟨o, e, ex.2.1⟩
  | _ => exact False.elim ty
noncomputable def tBM (K : PySem.W.Frag) (T : String) (r : V → List V → Hp → VK → Prop) (to : TE) (t : TA) : TE := fun σ H Q => to σ H fun x H1 => tyV K T x H1 ∧ t σ H1 fun xs H2 => r x xs H2 Q
variable {o e : Expr} {es : List Expr} {to : TE} {t : TA} {name : Str} {apos cpos : Pos} {T id : String} {r : V → List V → Hp → VK → Prop}
theorem pe_bm (pa : PlainAttrs T) (slot : Slot T name id) (hty : typeOf (.builtin id) = pure (.type "method_descriptor")) (hm : MtR X id r) (ho : PE X o to) (ha : PA X (e :: es) t)
    (hbase : attributeBase o name X.env (eval o X.env) = eval o X.env := by rfl)
    (hfew : ((backTo cpos (starEach (e :: es) X.env)).all (fun x => !x.1) && (backToKw cpos (keywordEach [] X.env)).all (fun x => x.1.isSome)
      && decide ((e :: es).length + ([] : List Keyword).length + (if ([] : List Keyword).isEmpty then 0 else 1) < 30)) = true := by rfl)
    (hline : (apos.endLine == cpos.line) = true := by rfl) (hs : starEach (e :: es) X.env = (false, eval e X.env) :: starEach es X.env := by rfl) (hplain : (backTo cpos (starEach es X.env)).any (·.1) = false := by rfl) :
    PE X (.Call (.Attribute o name apos) (e :: es) [] cpos) (tBM X.K T r to t) := by
  intro pins s σ H Q I h
  refine wpAny_Call_method_late hbase hfew hline rfl (thn (ho pins s σ H _ I h) fun v s1 ⟨x, H1, I1, r1, ty, q1⟩ => ?_)
  obtain ⟨h1, h2⟩ := tyV_is I1 r1 ty
  refine ⟨T, id, pa, slot, hty, h1, h2, ?_⟩
  have hA := ha cpos pins s1 σ H1 _ I1 q1
  rw [hs] at hA ⊢
  refine Calls.callWith_builtin (by show (false || (backTo cpos (starEach es X.env)).any (·.1)) = false; rw [hplain] <;> rfl) (Calls.evalArgs_plain ?_)
  exact thn hA fun us s2 ⟨vs, H2, I2, r2, q2⟩ => hm pins s2 σ H2 x vs v us Q I2 r1 r2 q2
/- xs.append(e), list.index on a module's tuple .. are MtR facts of 06m -/
end
end L2

namespace L2
open PySem PySem.Spec PyProof.Rows

noncomputable def MtM (X : Cx) (id : String) (r : V → List V → Hp → VK → Prop) : Prop :=
  ∀ (pins : List (Addr × Obj)) (s : Shared) (σ : St) (H : Hp) (x : V) (xs : List V) (v : Value) (us : List Value) (Q : VK), Inv X pins σ H s → RelV x v → Vals xs us → r x xs H Q →
    wpAny (model X.prog X.w) X.A (call (.builtin id) (v :: us)) (EP X pins σ Q) X.xe s

/-! ### lists of values -/
theorem Vals.one : ∀ {x : V} {us : List Value}, Vals [x] us → ∃ u, us = [u] ∧ RelV x u
  | _, _, .cons r .nil => ⟨_, rfl, r⟩
section
variable {X : Cx} {pins : List (Addr × Obj)} {σ : St} {H : Hp} {s : Shared} {l b : Addr} {xs ys zs : List V}

/-! ### the two steps: a tracked list is rewritten, a new list is laid -/
theorem Inv.lset {its its' : List Value} {n : Nat} {f : Array Value → Array Value} {t' : Nat} (I : Inv X pins σ H s) (hH : H l = some (.lst xs))
    (e : s.heap.get? l = some { cls := .type "list", data := .seq its.toArray n }) (hf : f its.toArray = its'.toArray) (hv : Vals ys its') (hz : ys.length ≤ sizeLine) :
    Inv X pins σ (upd H l (.lst ys)) { s with heap := s.heap.update l (Obj.mapSeq f), toks := t' } := by
  have q := PySem.IsL.update e f
  rw [hf] at q
  refine I.write (x := l) (e := l) (by rw [hH]; exact trivial) (.inl rfl) (fun b' u hb hu => (Heap.get?_update_other s.heap (Obj.mapSeq f) (Ne.symm hb)).trans hu) ⟨_, q⟩ ?_
  exact ⟨hz, its', _, hv, q⟩
theorem Inv.lnew {its : List Value} {t' : Nat} (I : Inv X pins σ H s) (hv : Vals ys its) (hz : ys.length ≤ sizeLine) :
    Inv X pins σ (upd H s.heap.objs.size (.lst ys)) { s with heap := s.heap.push { cls := .type "list", data := .seq its.toArray }, toks := t' } :=
  I.laid (fun _ _ q => Heap.get?_push_of_some _ q) (Nat.le_refl _) ⟨hz, its, 0, hv, Heap.get?_push_size _ rfl⟩
theorem Inv.fresh (I : Inv X pins σ H s) : H s.heap.objs.size = none := I.hok.fresh (Nat.le_refl _)
theorem Inv.lstM (I : Inv X pins σ H s) (hH : H l = some (.lst xs)) : xs.length ≤ sizeLine ∧ ∃ (its : List Value) (n : Nat), Vals xs its ∧ xs.length = its.length ∧ s.heap.get? l = some { cls := .type "list", data := .seq its.toArray n } := by
  obtain ⟨z, its, n, r, e⟩ := I.hok l _ hH
  exact ⟨z, its, n, r, r.length, e⟩

theorem notLongL {n : Nat} (h : n ≤ sizeLine) : Builtin.List.listTooLong n = false := by
  unfold Builtin.List.listTooLong
  exact decide_eq_false (by omega)
end

section
variable {X : Cx}

/-! ### methods -/
noncomputable def rAppend : V → List V → Hp → VK → Prop := fun x vs H Q => ∃ l xs y, x = .ref l ∧ vs = [y] ∧ H l = some (.lst xs) ∧ xs.length < sizeLine ∧ Q .non (upd H l (.lst (xs ++ [y])))
theorem mt_append : MtM X "list.append" rAppend := by
  intro pins s σ H x vs v us Q I rx rv h
  obtain ⟨l, xs, y, rfl, rfl, hH, hz, q⟩ := h
  cases rx
  obtain ⟨u, rfl, ru⟩ := rv.one
  obtain ⟨z, its, n, r, hl, e⟩ := I.lstM hH
  refine call_meets F.slot_list_append ⟨_, e, rfl⟩ F.entry_list_append (F.args_list_append_2 _ _) (PySem.list_append l its.toArray n u (by rw [List.size_toArray]; omega)) ⟨e, ?_⟩
  refine ⟨.non, _, I.lset (its' := its ++ [u]) hH e (by simp) (r.append (.cons ru .nil)) ?_, rfl, q⟩
  rw [List.length_append, List.length_singleton]
  omega

noncomputable def rExtend : V → List V → Hp → VK → Prop := fun x vs H Q => ∃ l b xs zs, x = .ref l ∧ vs = [.ref b] ∧ H l = some (.lst xs) ∧ H b = some (.lst zs) ∧ xs.length + zs.length ≤ sizeLine ∧ Q .non (upd H l (.lst (xs ++ zs)))
theorem mt_extend : MtM X "list.extend" rExtend := by
  intro pins s σ H x vs v us Q I rx rv h
  obtain ⟨l, b, xs, zs, rfl, rfl, hH, hB, hz, q⟩ := h
  cases rx
  obtain ⟨u, rfl, ru⟩ := rv.one
  cases ru
  obtain ⟨z, its, n, r, hl, e⟩ := I.lstM hH
  obtain ⟨z2, its2, n2, r2, hl2, e2⟩ := I.lstM hB
  have hsz : its.toArray.size + its2.toArray.size ≤ sizeLine := by rw [List.size_toArray, List.size_toArray]; omega
  have hlong : ¬ (!its.toArray.isEmpty && Builtin.List.listTooLong (its.toArray.size + its2.toArray.size)) = true := by
    rw [notLongL hsz, Bool.and_false]
    exact Bool.false_ne_true
  refine call_meets F.slot_list_extend ⟨_, e, rfl⟩ F.entry_list_extend (F.args_list_extend_2 _ _)
    (AutoSeq1.list_extend_list_list_0 l its.toArray n b its2.toArray n2 hlong (by rw [List.size_toArray]; omega) (by omega)) ⟨e, e2, ?_⟩
  refine ⟨.non, _, I.lset (its' := its ++ its2) hH e (by simp) (r.append r2) ?_, rfl, q⟩
  rw [List.length_append]
  omega

/-! ### list + list, list += list, list * int -/
noncomputable def rCat : R2 := fun x y H Q => ∃ l b xs zs, x = .ref l ∧ y = .ref b ∧ H l = some (.lst xs) ∧ H b = some (.lst zs) ∧ xs.length + zs.length ≤ sizeLine ∧ ∀ p, H p = none → Q (.ref p) (upd H p (.lst (xs ++ zs)))
theorem op_cat : OpR X (binaryOp .Add) rCat := by
  intro pins s σ H x y v u Q I rx ry h
  obtain ⟨l, b, xs, zs, rfl, rfl, hH, hB, hz, q⟩ := h
  cases rx
  cases ry
  obtain ⟨z, its, n, r, hl, e⟩ := I.lstM hH
  obtain ⟨z2, its2, n2, r2, hl2, e2⟩ := I.lstM hB
  refine PySem.P.add_list e e2 ?_ (by rw [List.size_toArray, List.size_toArray]; omega)
  have ea : its.toArray ++ its2.toArray = (its ++ its2).toArray := by simp
  rw [ea]
  exact ⟨.ref _, _, I.lnew (t' := s.toks) (r.append r2) (by rw [List.length_append]; omega), rfl, q _ I.fresh⟩
/-! ### del xs[i] -/
end

/-! ### xs[a:b] = ys -/
section
variable {prog : Program} {w : World} {A : Around} {E : Value → Shared → Prop} {s : Shared}
set_option maxRecDepth 100000 in
end

section
variable {X : Cx}
end
end L2

namespace L2
open PySem PySem.Spec PyProof.Rows

theorem Vals.ints : ∀ {ns : List Int} {us : List Value}, Vals (ns.map V.int) us → IntsAre us ns
  | [], us, h => by
    rw [List.map_nil] at h
    cases h
    exact IntsAre.nil
  | n :: ns, us, h => by
    rw [List.map_cons] at h
    cases h with
    | cons r t =>
      obtain ⟨k, rfl⟩ := r
      exact IntsAre.cons n k (Vals.ints t)
theorem Vals.ref1 {a : Addr} {us : List Value} (r : Vals [V.ref a] us) : us = [Value.ref a] := by
  cases r with
  | cons r t =>
    cases t
    cases r
    rfl
/-! ### the library's walks over a list of ints, kept objects alone -/
section
variable {prog : Program} {w : World} {A : Around} {E : Value → Shared → Prop} {s : Shared} {l : Addr} {its : List Value} {ns : List Int} {Q : Value → Shared → Prop}
theorem max_raw (hh : A.handled = none) (hl : s.heap.IsList l its.toArray) (hi : IntsAre its ns) (hne : 0 < ns.length)
    (h : ∀ h' tk M t', (∀ b o, s.heap.get? b = some o → h'.get? b = some o) → M ∈ ns → (∀ a, a ∈ ns → a ≤ M) → Q (.int M t') { s with heap := h', toks := tk }) : wpAny (model prog w) A (call (.builtin "max") [.ref l]) Q E s := by
  obtain ⟨xs, e⟩ := hi.allInts.items
  have hn : numsOf (intItems xs).toList = ns := by rw [← e]; exact hi.numsOf
  rw [nums_intItems] at hn
  subst hn
  rw [e] at hl
  have hsz : 0 < xs.size := by simpa using hne
  refine PySem.max_intList hh hl hsz fun v h' tk hv hk => ?_
  obtain ⟨t, rfl⟩ := intItems_at hv
  obtain ⟨h1, h2⟩ := argBest_gt (numAt xs) (xs.size - 1)
  refine h h' tk _ t hk ?_ fun a ha => ?_
  · rw [numAt_eq]; exact PySem.getD_mem (by rw [List.length_map, Array.length_toList]; omega)
  · obtain ⟨j, hj, rfl⟩ := mem_getD ha
    rw [List.length_map, Array.length_toList] at hj
    rw [← numAt_eq]; exact h2 j (by omega)
end

/-! ### the calls, by values (CallR of 03t; MtR of 06l) -/
section
variable {X : Cx}
/-- max(xs), min(xs) of a list of ints -/
noncomputable def rMax (K : PySem.W.Frag) : List V → Hp → VK → Prop := fun vs H Q => ∃ (a : Addr) (ns : List Int), vs = [V.ref a] ∧ SqL K H a (ns.map V.int) ∧ 0 < ns.length ∧ ∀ m, m ∈ ns → (∀ y, y ∈ ns → y ≤ m) → Q (.int m) H
theorem cr_max (hc : X.calm = true) : CallR X (.builtin "max") (rMax X.K) := by
  intro pins s σ H vs us Q I r h
  obtain ⟨a, ns, rfl, hs, hne, q⟩ := h
  obtain ⟨its, rv, hl, _⟩ := I.list hs
  rw [Vals.ref1 r]
  exact max_raw (I.ok.hd hc) hl.isList rv.ints hne fun h' tk m t' hk h1 h2 => ⟨.int _, H, I.kept hk, ⟨_, rfl⟩, q m h1 h2⟩
/-! sorted, sort (fewer than 64 items: the library's own bound) -/
end

/-! ### list.index, flat items -/
section
variable {X : Cx}
end

/-! ### type(x) of an own instance; is, is not of a module's class -/
section
variable {X : Cx}
end

/-! ### any(xs), all(xs) of a list of bools -/
section
variable {X : Cx}
end

/-! ### == and != of data at any depth: none, bools, ints, texts, lists, tuples -/
mutual
inductive Dp (K : PySem.W.Frag) (H : Hp) : V → PyData → Prop
  | non : Dp K H .non .none
  | bl (b : Bool) : Dp K H (.bl b) (.bool b)
  | int (i : Int) : Dp K H (.int i) (.int i)
  | str (x : Str) : Dp K H (.str x) (.str x)
  | lst {a : Addr} {xs : List V} {ds : List PyData} : SqL K H a xs → DpAll K H xs ds → Dp K H (.ref a) (.list ds)
  | tup {a : Addr} {xs : List V} {ds : List PyData} : SqT K H a xs → DpAll K H xs ds → Dp K H (.ref a) (.tuple ds)
inductive DpAll (K : PySem.W.Frag) (H : Hp) : List V → List PyData → Prop
  | nil : DpAll K H [] []
  | cons {v : V} {vs : List V} {d : PyData} {ds : List PyData} : Dp K H v d → DpAll K H vs ds → DpAll K H (v :: vs) (d :: ds)
end
section
variable {X : Cx} {pins : List (Addr × Obj)} {σ : St} {H : Hp} {s : Shared}
mutual
theorem Dp.reads (I : Inv X pins σ H s) : ∀ (d : PyData) (v : V) (u : Value), Dp X.K H v d → RelV v u → ∃ as, Reads s.heap u d as
  | .none, _, _, h, r => by
    cases h
    cases r
    exact ⟨_, Reads.none⟩
  | .bool b, _, _, h, r => by
    cases h
    cases r
    exact ⟨_, Reads.bool b⟩
  | .int i, _, _, h, r => by
    cases h
    obtain ⟨t, rfl⟩ := r
    exact ⟨_, Reads.int i t⟩
  | .str x, _, _, h, r => by
    cases h
    obtain ⟨t, rfl⟩ := r
    exact ⟨_, Reads.str x t⟩
  | .list ds, _, _, h, r => by
    cases h with
    | lst hs ha =>
      cases r
      obtain ⟨its, rv, ⟨o, n, ho, hc, _, hd⟩, _⟩ := I.list hs
      obtain ⟨as, hr⟩ := Dp.readsAll I ds _ its ha rv
      exact ⟨_, Reads.list ho hc hd hr⟩
  | .tuple ds, _, _, h, r => by
    cases h with
    | tup hs ha =>
      cases r
      obtain ⟨its, rv, ⟨o, ho, hc, n, hd⟩, _⟩ := I.tuple hs
      obtain ⟨as, hr⟩ := Dp.readsAll I ds _ its ha rv
      exact ⟨_, Reads.tuple ho hc hd hr⟩
  | .dict _, _, _, h, _ => by cases h
theorem Dp.readsAll (I : Inv X pins σ H s) : ∀ (ds : List PyData) (vs : List V) (us : List Value), DpAll X.K H vs ds → Vals vs us → ∃ as, ReadsAll s.heap us ds as
  | [], _, _, h, r => by
    cases h
    cases r
    exact ⟨_, ReadsAll.nil⟩
  | d :: ds, _, _, h, r => by
    cases h with
    | cons h1 h2 =>
      cases r with
      | cons r1 r2 =>
        obtain ⟨as, q1⟩ := Dp.reads I d _ _ h1 r1
        obtain ⟨bs, q2⟩ := Dp.readsAll I ds _ _ h2 r2
        exact ⟨_, ReadsAll.cons q1 q2⟩
end
end
section
variable {X : Cx}
noncomputable def rEqD (K : PySem.W.Frag) : R2 := fun x y H Q => ∃ d e, Dp K H x d ∧ Dp K H y e ∧ SeqAt.shaped d = true ∧ SeqAt.shaped e = true ∧ Q (.bl (PyData.eqv d e)) H
theorem op_eqD (hu : X.A.units + 64 < cLine) : OpR X (compareOp .Eq) (rEqD X.K) := by
  intro pins s σ H x y v u Q I rx ry h
  obtain ⟨d, e, hd, he, sd, se, q⟩ := h
  obtain ⟨as, r1⟩ := Dp.reads I d x v hd rx
  obtain ⟨bs, r2⟩ := Dp.reads I e y u he ry
  exact SeqAt.compareEq_shaped r1 r2 sd se hu ⟨.bl _, H, I, rfl, q⟩
end
end L2

namespace L2
open PySem PySem.Spec PyProof.Rows
noncomputable abbrev CellAt (h : Heap) (c : Addr) (v : Option Value) : Prop := h.IsCell c v
noncomputable def relS (scope sc : Scope) : Scope :=
  { scope with names := scope.names.map fun (n, k) => if (k == .free && sc.kind == .function && sc.names.lookup n == some .cell) then (n, .cell) else (n, k) }

noncomputable def cloFrom (cells : List (Str × Addr)) : List (Str × NameKind) → List (Str × Addr) → List (Str × Addr)
  | [], acc => acc
  | (n, k) :: r, acc => if k == .free then cloFrom cells r ((n, (cells.lookup n).getD 0) :: acc) else cloFrom cells r acc

theorem closure_loop (env : Env) (f : Str × NameKind → List (Str × Addr) → Sem (ForInStep (List (Str × Addr))))
    (hf : ∀ n k c, f (n, k) c = if k == .free then (do let a ← cellOf env n; pure (.yield ((n, a) :: c))) else pure (.yield c)) :
    ∀ (names : List (Str × NameKind)) (acc : List (Str × Addr)), (∀ y ∈ names, y.2 = .free → ∃ c, env.cells.lookup y.1 = some c) → forIn names acc f = pure (cloFrom env.cells names acc)
  | [], acc, _ => by rw [List.forIn_nil]; rfl
  | (n, k) :: r, acc, h => by
    rw [List.forIn_cons, hf]
    have ih := fun acc => closure_loop env f hf r acc fun y hy => h y (List.mem_cons_of_mem _ hy)
    unfold cloFrom
    by_cases hk : (k == NameKind.free) = true
    · rw [if_pos hk, if_pos hk]
      obtain ⟨c, hc⟩ := h (n, k) List.mem_cons_self (by simpa using hk)
      have e : cellOf env n = pure c := by unfold cellOf; rw [hc]
      rw [e]
      have e2 : (env.cells.lookup n).getD 0 = c := by rw [hc]; rfl
      rw [e2]
      exact ih _
    · rw [if_neg hk, if_neg hk]
      exact ih _
theorem closure_ok {scope : Scope} {env : Env} (h : ∀ y ∈ scope.names, y.2 = .free → ∃ c, env.cells.lookup y.1 = some c) : closureFor scope env = pure (cloFrom env.cells scope.names []) := by
  simp only [closureFor]
  rw [closure_loop env _ (fun n k c => rfl) scope.names [] h]
  rfl

theorem mem_lookup {α : Type} : ∀ {l : List (Str × α)} {n : Str} {c : α}, (n, c) ∈ l → ∃ c', l.lookup n = some c'
  | (k, v) :: r, n, c, h => by
    rw [List.lookup_cons]
    cases hb : n == k with
    | true => exact ⟨_, rfl⟩
    | false =>
      rcases List.mem_cons.mp h with e | h
      · cases e; simp at hb
      · exact mem_lookup h

theorem cloFrom_mem {cells : List (Str × Addr)} : ∀ {names : List (Str × NameKind)} {acc : List (Str × Addr)} {n : Str} {c : Addr}, (n, c) ∈ cloFrom cells names acc → (n, c) ∈ acc ∨ ((n, .free) ∈ names ∧ c = (cells.lookup n).getD 0)
  | [], _, _, _, h => .inl h
  | (m, k) :: r, acc, n, c, h => by
    unfold cloFrom at h
    split at h
    · rename_i hk
      have hk : k = .free := by simpa using hk
      rcases cloFrom_mem h with h | ⟨h1, h2⟩
      · rcases List.mem_cons.mp h with e | h
        · cases e; exact .inr ⟨hk ▸ List.mem_cons_self, rfl⟩
        · exact .inl h
      · exact .inr ⟨List.mem_cons_of_mem _ h1, h2⟩
    · rcases cloFrom_mem h with h | ⟨h1, h2⟩
      · exact .inl h
      · exact .inr ⟨List.mem_cons_of_mem _ h1, h2⟩
theorem cloFrom_acc {cells : List (Str × Addr)} : ∀ {names : List (Str × NameKind)} {acc : List (Str × Addr)} {p : Str × Addr}, p ∈ acc → p ∈ cloFrom cells names acc
  | [], _, _, h => h
  | (m, k) :: r, acc, p, h => by
    unfold cloFrom
    split
    · exact cloFrom_acc (List.mem_cons_of_mem _ h)
    · exact cloFrom_acc h
theorem cloFrom_has {cells : List (Str × Addr)} : ∀ {names : List (Str × NameKind)} {acc : List (Str × Addr)} {n : Str}, (n, .free) ∈ names → (n, (cells.lookup n).getD 0) ∈ cloFrom cells names acc
  | (m, k) :: r, acc, n, h => by
    unfold cloFrom
    rcases List.mem_cons.mp h with e | h
    · cases e
      exact cloFrom_acc List.mem_cons_self
    · split
      · exact cloFrom_has h
      · exact cloFrom_has h

theorem cells_mem : ∀ {names : List (Str × NameKind)} {h : Heap} {acc : List (Str × Addr)} {x : Str} {c : Addr}, (x, c) ∈ cellsFrom h.objs.size names acc →
    (x, c) ∈ acc ∨ ((x, .cell) ∈ names ∧ h.objs.size ≤ c ∧ CellAt (pushCells h names) c none)
  | [], _, _, _, _, h => .inl h
  | (n, k) :: r, h, acc, x, c, hm => by
    unfold cellsFrom at hm
    unfold pushCells
    split at hm
    · rename_i hk
      rw [if_pos hk]
      have hk : k = .cell := by simpa using hk
      rw [← Heap.size_push h { cls := .type "cell", data := .cell none }] at hm
      rcases cells_mem hm with hm | ⟨h1, h2, h3⟩
      · rcases List.mem_cons.mp hm with e | hm
        · cases e
          exact .inr ⟨hk ▸ List.mem_cons_self, Nat.le_refl _, _, pushCells_keeps r _ _ _ (Heap.get?_push_size _ rfl), rfl⟩
        · exact .inl hm
      · rw [Heap.size_push] at h2
        exact .inr ⟨List.mem_cons_of_mem _ h1, Nat.le_of_succ_le h2, h3⟩
    · rename_i hk
      rw [if_neg hk]
      rcases cells_mem hm with hm | ⟨h1, h2, h3⟩
      · exact .inl hm
      · exact .inr ⟨List.mem_cons_of_mem _ h1, h2, h3⟩
theorem cells_acc : ∀ {names : List (Str × NameKind)} {n : Nat} {acc : List (Str × Addr)} {p : Str × Addr}, p ∈ acc → p ∈ cellsFrom n names acc
  | [], _, _, _, h => h
  | (m, k) :: r, n, acc, p, h => by
    unfold cellsFrom
    split
    · exact cells_acc (List.mem_cons_of_mem _ h)
    · exact cells_acc h
theorem cells_has : ∀ {names : List (Str × NameKind)} {n : Nat} {acc : List (Str × Addr)} {x : Str}, (x, .cell) ∈ names → ∃ c, (x, c) ∈ cellsFrom n names acc
  | (m, k) :: r, n, acc, x, h => by
    unfold cellsFrom
    rcases List.mem_cons.mp h with e | h
    · cases e
      exact ⟨n, cells_acc List.mem_cons_self⟩
    · split
      · exact cells_has h
      · exact cells_has h
theorem cells_inj : ∀ {names : List (Str × NameKind)} {h : Heap} {acc : List (Str × Addr)} {x y : Str} {c : Addr}, (∀ p ∈ acc, p.2 < h.objs.size) → (∀ x y c, (x, c) ∈ acc → (y, c) ∈ acc → x = y) →
    (x, c) ∈ cellsFrom h.objs.size names acc → (y, c) ∈ cellsFrom h.objs.size names acc → x = y
  | [], _, _, _, _, _, _, hi, h1, h2 => hi _ _ _ h1 h2
  | (n, k) :: r, h, acc, x, y, c, hl, hi, h1, h2 => by
    unfold cellsFrom at h1 h2
    split at h1
    · rename_i hk
      rw [if_pos hk] at h2
      rw [← Heap.size_push h { cls := .type "cell", data := .cell none }] at h1 h2
      refine cells_inj (h := h.push _) (fun p hp => ?_) (fun x y c a b => ?_) h1 h2
      · rw [Heap.size_push]
        rcases List.mem_cons.mp hp with rfl | hp
        · exact Nat.lt_succ_self _
        · exact Nat.lt_succ_of_lt (hl p hp)
      · rcases List.mem_cons.mp a with e | a <;> rcases List.mem_cons.mp b with e' | b
        · cases e; cases e'; rfl
        · cases e; exact absurd (hl _ b) (Nat.lt_irrefl _)
        · cases e'; exact absurd (hl _ a) (Nat.lt_irrefl _)
        · exact hi _ _ _ a b
    · rename_i hk
      rw [if_neg hk] at h2
      exact cells_inj hl hi h1 h2

theorem newEnv_comp {M : Model} {A : Around} {E : Value → Shared → Prop} {s : Shared} {scope : Scope} {globals : Addr} {closure : List (Str × Addr)} {qual : Str} {func : Option Addr} {code : Value} {around : Env} {builtins : Addr} {Q : Env → Shared → Prop}
    (h : Q (newEnv scope s.heap.objs.size globals (cellsFrom (s.heap.objs.size + 1) scope.names closure) qual func code (some around) builtins)
      { s with heap := pushCells (s.heap.push { cls := .type "dict", data := .dict #[] }) scope.names }) :
    wpAny M A (newFunctionEnv scope globals closure [] qual func code (some around) builtins) Q E s := by
  simp only [newFunctionEnv, Option.isSome_some, if_true]
  refine wpAny_bind (wpAny_alloc ?_)
  refine wpAny_bind (wpAny_layCells _ (fun n k c => rfl) scope.names closure _ _ ?_)
  rw [show ({ s with heap := s.heap.push { cls := .type "dict", data := .dict #[] } } : Shared).heap.objs.size = s.heap.objs.size + 1 from Heap.size_push ..]
  rw [List.forIn_nil]
  exact wpAny_bind (wpAny_pure (wpAny_pure h))

/-- every name of the written scope, in the scope that runs -/
theorem lookup_relS {sc : Scope} : ∀ {names : List (Str × NameKind)} {x : Str} {k : NameKind},
    (names.map fun (n, k) => if (k == NameKind.free && sc.kind == .function && sc.names.lookup n == some .cell) then (n, NameKind.cell) else (n, k)).lookup x = some k →
    ∃ k', names.lookup x = some k' ∧ (k = k' ∨ (k' = .free ∧ k = .cell))
  | [], _, _, h => by simp at h
  | (n, k₀) :: r, x, k, h => by
    have ih := @lookup_relS sc r x k
    have h' : List.lookup x ((if (k₀ == NameKind.free && sc.kind == .function && sc.names.lookup n == some .cell) = true then (n, NameKind.cell) else (n, k₀)) :: (r.map _)) = some k := h
    cases hx : x == n with
    | true =>
      simp only [List.lookup_cons, hx]
      by_cases hc : (k₀ == NameKind.free && sc.kind == .function && sc.names.lookup n == some .cell) = true
      · rw [if_pos hc] at h'
        simp only [List.lookup_cons, hx] at h'
        cases h'
        simp only [Bool.and_eq_true, beq_iff_eq] at hc
        exact ⟨k₀, rfl, .inr ⟨hc.1.1, rfl⟩⟩
      · rw [if_neg hc] at h'
        simp only [List.lookup_cons, hx] at h'
        cases h'
        exact ⟨_, rfl, .inl rfl⟩
    | false =>
      simp only [List.lookup_cons, hx]
      by_cases hc : (k₀ == NameKind.free && sc.kind == .function && sc.names.lookup n == some .cell) = true
      · rw [if_pos hc] at h'
        simp only [List.lookup_cons, hx] at h'
        exact ih h'
      · rw [if_neg hc] at h'
        simp only [List.lookup_cons, hx] at h'
        exact ih h'
/-- the names of a comprehension's block: its own (with their places in N), or captured -/
structure BlkOk (N : List Str) (sc scope : Scope) (own : List (Str × Nat)) : Prop where
  kind : scope.kind = .function
  uniq : ∀ y ∈ scope.names, scope.names.lookup y.1 = some y.2
  ix : ∀ p ∈ own, N[p.2]? = some p.1
  free : ∀ y ∈ scope.names, y.2 = .free → sc.names.lookup y.1 = some .cell ∨ sc.names.lookup y.1 = some .free
  own : ∀ y ∈ scope.names, y.2 = .local ∨ y.2 = .cell → y.1 ∈ own.map (·.1) ∨ y.1 ∉ N
/-- the slots of the block's own names forgotten -/
noncomputable def wipe (σ : St) : List Nat → St
  | [] => σ
  | v :: vs => (wipe σ vs).set v none
theorem wipe_length (σ : St) : ∀ vs : List Nat, (wipe σ vs).length = σ.length
  | [] => rfl
  | v :: vs => by unfold wipe; rw [List.length_set, wipe_length σ vs]
theorem wipe_some {σ : St} {i : Nat} {x : V} : ∀ {vs : List Nat}, (wipe σ vs)[i]? = some (some x) → σ[i]? = some (some x) ∧ i ∉ vs
  | [], h => ⟨h, by simp⟩
  | v :: vs, h => by
    unfold wipe at h
    by_cases hi : v = i
    · subst hi
      by_cases hv : v < (wipe σ vs).length
      · rw [List.getElem?_set_self hv] at h; cases h
      · rw [List.getElem?_eq_none (by simpa using hv)] at h; cases h
    · rw [List.getElem?_set_ne hi] at h
      obtain ⟨h1, h2⟩ := wipe_some h
      exact ⟨h1, by simp only [List.mem_cons, not_or]; exact ⟨fun e => hi e.symm, h2⟩⟩

/-- the context of a block that starts at s, its iterator's objects at fp -/
noncomputable abbrev Cx.blk (X : Cx) (s : Shared) (H : Hp) (scope : Scope) (cenv : Env) (fp : List Addr) : Cx := { X with s_0 := s, H_0 := H, env := cenv, outer := X.stack, ex := fp, fn := fun x => scope.names.lookup x == some .cell, pn := [], xe := fun _ _ => False }
section
variable {X : Cx} {pins : List (Addr × Obj)} {σ : St} {H : Hp} {s : Shared}
theorem block_start {scope : Scope} {own : List (Str × Nat)} {fp : List Addr} (I : Inv X pins σ H s) (ok : BlkOk X.N X.env.scope scope own) (hN : X.N.Nodup) (hfp : ∀ b ∈ fp, FpOk X pins H b ∧ b < s.heap.objs.size) :
    Inv (X.blk s H scope (compEnvC scope (cellsFrom (s.heap.objs.size + 1) scope.names (cloFrom X.env.cells scope.names [])) s.heap.objs.size X.env) fp) [] (wipe σ (own.map (·.2))) H { s with heap := pushCells (s.heap.push { cls := .type "dict", data := .dict #[] }) scope.names } := by
  have hfree : ∀ y ∈ scope.names, y.2 = .free → ∃ c, X.env.cells.lookup y.1 = some c := fun y hy e => by
    rcases ok.free y hy e with k | k
    · exact I.ok.has _ (.inl k)
    · exact I.ok.has _ (.inr k)
  generalize hcenv : compEnvC scope (cellsFrom (s.heap.objs.size + 1) scope.names (cloFrom X.env.cells scope.names [])) s.heap.objs.size X.env = cenv
  have kp : ∀ b o, s.heap.get? b = some o → (pushCells (s.heap.push { cls := .type "dict", data := .dict #[] }) scope.names).get? b = some o := fun b o e => pushCells_keeps _ _ _ _ (Heap.get?_push_of_some _ e)
  have hL : cenv.locals = s.heap.objs.size := by rw [← hcenv]; rfl
  have hcl : cenv.cells = cellsFrom (s.heap.objs.size + 1) scope.names (cloFrom X.env.cells scope.names []) := by rw [← hcenv]; rfl
  have hsc : cenv.scope = relS scope X.env.scope := by rw [← hcenv]; rfl
  rw [← Heap.size_push s.heap { cls := .type "dict", data := .dict #[] }] at hcl
  have cm : ∀ {y c}, (y, c) ∈ cloFrom X.env.cells scope.names [] → X.env.cells.lookup y = some c ∧ c < s.heap.objs.size := fun {y c} hm => by
    rcases cloFrom_mem hm with hm | ⟨h1, rfl⟩
    · cases hm
    · obtain ⟨c, hc⟩ := hfree _ h1 rfl
      rw [hc]
      obtain ⟨w, z⟩ := I.cell _ _ hc
      exact ⟨rfl, z.lt⟩
  have mem : ∀ {y c}, cenv.cells.lookup y = some c → (X.env.cells.lookup y = some c ∧ c < s.heap.objs.size) ∨ (s.heap.objs.size + 1 ≤ c ∧ CellAt (pushCells (s.heap.push { cls := .type "dict", data := .dict #[] }) scope.names) c none) := fun {y c} e => by
    rw [hcl] at e
    rcases cells_mem (PySem.mem_of_lookup e) with hm | ⟨_, h2, h3⟩
    · exact .inl (cm hm)
    · rw [Heap.size_push] at h2; exact .inr ⟨h2, h3⟩
  have look : ∀ {y}, scope.names.lookup y = some .free → ∃ c, cenv.cells.lookup y = some c ∧ X.env.cells.lookup y = some c := fun {y} hl => by
    have hy : (y, NameKind.free) ∈ scope.names := PySem.mem_of_lookup hl
    obtain ⟨c', e'⟩ := mem_lookup (cells_acc (names := scope.names) (n := (s.heap.push { cls := .type "dict", data := .dict #[] }).objs.size) (cloFrom_has (cells := X.env.cells) (acc := []) hy))
    rw [← hcl] at e'
    refine ⟨c', e', ?_⟩
    rw [hcl] at e'
    rcases cells_mem (PySem.mem_of_lookup e') with hm | ⟨h1, _, _⟩
    · exact (cm hm).1
    · have := ok.uniq _ h1
      rw [hl] at this; cases this
  have okB : (X.blk s H scope cenv fp).Ok := by
    refine ⟨I.ok.mod, by show cenv.scope.kind = _; rw [hsc]; exact ok.kind, by show cenv.globals = _; rw [← hcenv]; exact I.ok.glob, by show cenv.builtins = _; rw [← hcenv]; exact I.ok.blt, by show s.heap.objs.size ≤ cenv.locals; rw [hL]; exact Nat.le_refl _,
      fun y z c e1 e2 => ?_, fun y hy => ?_, fun y c z e => ?_, I.ok.hd, I.ok.frames, .inl rfl, fun b hb => ⟨?_, fun y c e z => ?_⟩, I.bs, Nat.le_trans I.ok.bsz I.sz, fun b o e hb => ?_, fun b hb z => ?_, I.stack, I.stkFree⟩
    · have e1 : cenv.cells.lookup y = some c := e1
      have e2 : cenv.cells.lookup z = some c := e2
      rw [hcl] at e1 e2
      refine cells_inj (fun p hp => ?_) (fun y z c a b => I.ok.inj y z c (cm a).1 (cm b).1) (PySem.mem_of_lookup e1) (PySem.mem_of_lookup e2)
      rw [Heap.size_push]
      exact Nat.lt_succ_of_lt (cm (y := p.1) (c := p.2) hp).2
    · show ∃ c, cenv.cells.lookup y = some c
      have key : ∀ k, cenv.kindOf y = some k → (k = .cell ∨ k = .free) → ∃ c, cenv.cells.lookup y = some c := fun k hk hk' => by
        unfold Env.kindOf at hk
        rw [hsc] at hk
        obtain ⟨k', e, r⟩ := lookup_relS hk
        have : k' = .cell ∨ k' = .free := by
          rcases r with rfl | ⟨rfl, _⟩
          · exact hk'
          · exact .inr rfl
        rcases this with rfl | rfl
        · obtain ⟨c, hm⟩ := cells_has (n := (s.heap.push { cls := .type "dict", data := .dict #[] }).objs.size) (acc := cloFrom X.env.cells scope.names []) (PySem.mem_of_lookup e)
          obtain ⟨c', e'⟩ := mem_lookup hm
          exact ⟨c', by rw [hcl]; exact e'⟩
        · obtain ⟨c, h1, _⟩ := look e
          exact ⟨c, h1⟩
      rcases hy with hy | hy
      · exact key _ hy (.inl rfl)
      · exact key _ hy (.inr rfl)
    · have z : (scope.names.lookup y == some NameKind.cell) = true := z
      have z : scope.names.lookup y = some .cell := by simpa using z
      have e : cenv.cells.lookup y = some c := e
      rw [hcl] at e
      rcases cells_mem (PySem.mem_of_lookup e) with hm | ⟨_, h2, _⟩
      · rcases cloFrom_mem hm with hm | ⟨h1, _⟩
        · cases hm
        · have q := ok.uniq _ h1
          rw [z] at q; cases q
      · rw [Heap.size_push] at h2
        exact Nat.le_of_succ_le h2
    · show b ≠ cenv.locals
      rw [hL]; exact Nat.ne_of_lt (hfp b hb).2
    · have e : cenv.cells.lookup y = some c := e
      rcases mem e with ⟨h1, _⟩ | ⟨h1, _⟩
      · exact (hfp b hb).1.2.2.2.2.1 y c h1 z
      · have h2 : s.heap.objs.size + 1 ≤ b := by rw [← z]; exact h1
        exact absurd (Nat.lt_of_lt_of_le (hfp b hb).2 (Nat.le_of_succ_le h2)) (Nat.lt_irrefl _)
    · rcases (hfp b hb).1.2.2.2.1 with z | z
      · exact I.ok.noex b o e z
      · exact absurd (Nat.lt_of_lt_of_le (Heap.lt_size e) (Nat.le_trans I.ok.bsz z)) (Nat.lt_irrefl _)
    · rcases List.mem_cons.mp (I.stkSub b z) with z | z
      · exact (hfp b hb).1.2.1 z
      · exact (hfp b hb).1.2.2.1 z
  refine ⟨okB, rfl, I.bare, Un.kept kp, ⟨fun _ => none, ?_, fun i y av e1 e2 e3 => ?_⟩, fun y c e => ?_, ?_, fun y c e => ?_, fun p hp => ?_, I.hok.kept kp, by rw [wipe_length]; exact I.len⟩
  · show Heap.Ns _ cenv.locals _
    rw [hL]
    exact Heap.Ns.keeps (Heap.Ns.new ..) fun b o e => pushCells_keeps _ _ _ _ e
  · obtain ⟨e2, hne⟩ := wipe_some e2
    have hfr : scope.names.lookup y = some .free ∧ (cenv.kindOf y = some .cell ∨ cenv.kindOf y = some .free) := by
      have key : ∀ k, cenv.scope.names.lookup y = some k → k = .local ∨ k = .cell ∨ k = .free → scope.names.lookup y = some .free ∧ (cenv.kindOf y = some .cell ∨ cenv.kindOf y = some .free) := fun k hk hk' => by
        have hk0 := hk
        rw [hsc] at hk
        obtain ⟨k', e, r⟩ := lookup_relS hk
        have no : ¬ (k' = .local ∨ k' = .cell) := fun hh => by
          rcases ok.own _ (PySem.mem_of_lookup e) hh with e' | e'
          · obtain ⟨p, hp, hpy⟩ := List.mem_map.mp e'
            have e3 := ok.ix p hp
            have : p.1 = y := hpy
            rw [this] at e3
            exact hne (List.mem_map.mpr ⟨p, hp, nodup_ix hN e3 e1⟩)
          · exact e' (List.mem_of_getElem? e1)
        rcases r with rfl | ⟨rfl, rfl⟩
        · rcases hk' with rfl | rfl | rfl
          · exact absurd (.inl rfl) no
          · exact absurd (.inr rfl) no
          · exact ⟨e, .inr hk0⟩
        · exact ⟨e, .inl hk0⟩
      have e3 : Vis cenv.scope y := e3
      rcases e3 with e3 | e3 | e3
      · exact key _ e3 (.inl rfl)
      · exact key _ e3 (.inr (.inl rfl))
      · exact key _ e3 (.inr (.inr rfl))
    obtain ⟨m, hn, hl⟩ := I.loc
    have hvis : Vis X.env.scope y := (ok.free _ (PySem.mem_of_lookup hfr.1) rfl).elim (fun k => .inr (.inl k)) (fun k => .inr (.inr k))
    obtain ⟨w, r, q⟩ := hl i y av e1 e2 hvis
    refine ⟨w, r, .inr ⟨hfr.2, ?_⟩⟩
    obtain ⟨c, h1, h2⟩ := look hfr.1
    rcases q with ⟨k, _⟩ | ⟨_, c', e', z⟩
    · have k : X.env.scope.names.lookup y = some .local := k
      rcases ok.free _ (PySem.mem_of_lookup hfr.1) rfl with k' | k' <;> rw [show X.env.scope.names.lookup y = _ from k'] at k <;> cases k
    · rw [h2] at e'; cases e'
      exact ⟨c, h1, z.keeps kp⟩
  · have e : cenv.cells.lookup y = some c := e
    rcases mem e with ⟨h1, _⟩ | ⟨_, z⟩
    · obtain ⟨w, z⟩ := I.cell y c h1
      exact ⟨w, z.keeps kp⟩
    · exact ⟨_, z⟩
  · show H cenv.locals = none
    rw [hL]; exact I.hok.fresh (Nat.le_refl _)
  · have e : cenv.cells.lookup y = some c := e
    rcases mem e with ⟨h1, _⟩ | ⟨h1, _⟩
    · exact I.freeC y c h1
    · exact I.hok.fresh (Nat.le_of_succ_le h1)
  · exact absurd (show p ∈ ([] : List (Addr × Obj)) ++ [] from hp) (by simp)

/-- an item appended to a tracked list -/
theorem app_ok {E : Value → Shared → Prop} {D : Addr} {xs : List V} {y : V} {v : Value} {Q : Value → Shared → Prop} (I : Inv X pins σ H s) (hD : H D = some (.lst xs)) (hz : xs.length < sizeLine) (r : RelV y v)
    (h : ∀ s', Inv X pins σ (upd H D (.lst (xs ++ [y]))) s' → Q .none s') : wpAny (model X.prog X.w) X.A (call (.builtin "list.append") [.ref D, v]) Q E s := by
  obtain ⟨hz', its, n, ri, e⟩ := I.hok D _ hD
  have hl := ri.length
  refine append_at (hsz := by rw [List.size_toArray]; omega) e fun h' sb ho' => ?_
  refine h { s with heap := h' } (I.write (t' := s.toks) (by rw [hD]; trivial) (.inl rfl) (fun b u hb q => (sb.2 b hb).trans q) ⟨_, ho'⟩ ⟨by rw [List.length_append]; exact hz, its ++ [v], n + 1, ri.append (.cons r .nil), ?_⟩)
  rw [ho']
  simp

/-- a clause's tests -/
noncomputable def PTs (X : Cx) (ifs : List Expr) (t : TT) : Prop :=
  ∀ (pins : List (Addr × Obj)) (s : Shared) (σ : St) (H : Hp) (Q : Bool → Hp → Prop), Inv X pins σ H s → t σ H Q →
    wpAny (model X.prog X.w) X.A (forIn ifs true fun c r => if r = true then do let ok ← isTrue c X.env (eval c X.env); pure (ForInStep.yield ok) else pure (ForInStep.yield r)) (TP X pins σ Q) X.xe s
noncomputable def tYes : TT := fun _ H Q => Q true H
theorem pts_nil : PTs X [] tYes := fun _ _ _ H _ I h => wpAny_tests_nil ⟨H, I, h⟩
theorem pts_one {c : Expr} {t : TT} (h : PT X c t) : PTs X [c] t := fun pins s σ H Q I hw => wpAny_tests_one (h pins s σ H Q I hw)
end

theorem thnF {α : Type} {t : Sem α} {Q Q' : α → Shared → Prop} {M : Model} {A : Around} {E : Value → Shared → Prop} {s : Shared} (h : wpAny M A t Q (fun _ _ => False) s) (hQ : ∀ a s, Q a s → Q' a s) : wpAny M A t Q' E s := wpAny_mono h hQ fun _ _ z => False.elim z

/-- the loop of a list comprehension's block, the target of any form (codeAny_compLoop_tests asks a target that no tuple goes to; statement and proof follow it, PyProof/CompMap.lean:41-61, with the step letOwnedTupleGo kept) -/
theorem compLoop_any {prog : Program} {w : World} {A : Around} {R : Result → Shared → Prop} {s : Shared} {elt target iter : Expr} {ifs : List Expr} {scope : Scope} {pos : Pos} {it acc : Value} {env : Env} (I : Nat → Shared → Prop)
    (turn : ∀ n s, I n s → wpAny (model prog w) A (pyNext it) (fun r s₁ => match r with
      | none => R (.ok .next) s₁
      | some v => wpAny (model prog w) A (letOwnedTupleGo target it v) (fun _ s₁' => wpAny (model prog w) A (assign target env v) (fun _ s₂ =>
          wpAny (model prog w) A (forIn ifs true fun c r => if r = true then do let ok ← isTrue c env (eval c env); pure (ForInStep.yield ok) else pure (ForInStep.yield r)) (fun ok s₃ =>
            if ok = true then wpAny (model prog w) A (eval elt env) (fun x s₄ =>
              wpAny (model prog w) A (call (.builtin "list.append") [acc, x]) (fun _ s₅ => ∃ m, m < n ∧ I m s₅) (notedBy (model prog w) A env fun e s' => R (.error e) s') s₄) (notedBy (model prog w) A env fun e s' => R (.error e) s') s₃
            else ∃ m, m < n ∧ I m s₃) (notedBy (model prog w) A env fun e s' => R (.error e) s') s₂) (notedBy (model prog w) A env fun e s' => R (.error e) s') s₁') (notedBy (model prog w) A env fun e s' => R (.error e) s') s₁) (notedBy (model prog w) A env fun e s' => R (.error e) s') s)
    (n : Nat) (h : I n s) :
    codeAny (model prog w) A (.compLoop (.ListComp elt [⟨target, iter, ifs, 0⟩] scope pos) 0 it acc env) R s := by
  refine codeAny_loop rfl I (fun n s hI => ?_) n h
  show wpAny _ A ((compTurn (.ListComp elt [⟨target, iter, ifs, 0⟩] scope pos) 0 it acc env).onRaise (fun x => do noteFrame x env; theTreesLotGoes x)) _ _ s
  refine wpAny_noted ?_
  rw [compTurn_list]
  refine wpAny_bind (wpAny_standAt (wpAny_bind (wpAny_mono (turn n s hI) (fun r s₁ h₁ => ?_) fun _ _ h' => h')))
  cases r with
  | none => exact wpAny_pure h₁
  | some v =>
    refine wpAny_bind (wpAny_mono h₁ (fun _ s₁' h₁' => ?_) fun _ _ h' => h')
    refine wpAny_bind (wpAny_mono h₁' (fun _ s₂ h₂ => wpAny_bind (wpAny_mono h₂ (fun ok s₃ h₃ => ?_) fun _ _ h' => h')) fun _ _ h' => h')
    cases ok with
    | false => exact wpAny_pure ⟨rfl, h₃⟩
    | true =>
      exact wpAny_bind (wpAny_bind (wpAny_mono h₃ (fun x s₄ h₄ => wpAny_bind (wpAny_mono h₄ (fun _ s₅ h₅ => wpAny_pure (wpAny_pure ⟨rfl, h₅⟩)) fun _ _ h' => h')) fun _ _ h' => h'))

section
variable {X : Cx}
/-- [elt for target in iter if ..]: D the new list; W by the turn and a measure, Nx what a turn is to reach -/
noncomputable def tLc (wi : TI) (g : TG) (tt : TT) (te : TE) (vs : List Nat) : TE := fun σ H Q => wi σ H fun J H1 => ∀ D, H1 D = none → ∃ W : Nat → Nat → Hp → Prop, (∃ m, W 0 m (upd H1 D (.lst []))) ∧ ∀ i m H, W i m H →
  (J.stop i H ∧ Q (.ref D) H) ∨ (J.go i H ∧ ∃ Nx : Hp → Prop, (∀ H', Nx H' → ∃ m', m' < m ∧ W (i + 1) m' H') ∧ ∀ x H', J.yld i H x H' → g x (wipe σ vs) H' fun σ2 H2 => wipe σ2 vs = wipe σ vs ∧ tt σ2 H2 fun b H3 =>
    if b = true then te σ2 H3 fun y H4 => ∃ acc, H4 D = some (.lst acc) ∧ acc.length < sizeLine ∧ Nx (upd H4 D (.lst (acc ++ [y]))) else Nx H3)
theorem lc_core {pins : List (Addr × Obj)} {s : Shared} {σ : St} {H : Hp} {Q : VK} {elt tg iter : Expr} {ifs : List Expr} {scope : Scope} {own : List (Str × Nat)} {pos pos' : Pos} {wi : TI} {g : TG} {tt : TT} {te : TE} {use : Option (Value → Sem Unit)} {Qf : Value → Shared → Prop}
    (hc : X.calm = true) (hN : X.N.Nodup) (I : Inv X pins σ H s) (hi : PI X tg iter wi) (ok : BlkOk X.N X.env.scope scope own)
    (hg : ∀ (s : Shared) (H : Hp) (C : Addr) (cl : List (Str × Addr)) (fp : List Addr), PG (X.blk s H scope (compEnvC scope cl C X.env) fp) tg g) (ht : ∀ (s : Shared) (H : Hp) (C : Addr) (cl : List (Str × Addr)) (fp : List Addr), PTs (X.blk s H scope (compEnvC scope cl C X.env) fp) ifs tt)
    (he : ∀ (s : Shared) (H : Hp) (C : Addr) (cl : List (Str × Addr)) (fp : List Addr), PE (X.blk s H scope (compEnvC scope cl C X.env) fp) elt te) (hs : ∀ x, foldedSetIterable iter X.env x = pure x)
    (h : tLc wi g tt te (own.map (·.2)) σ H Q)
    (hRR : ∀ D C s' m H', Inv X pins σ H' s' → Q (.ref D) H' → s'.heap.Ns C m → FpOk X pins H' C → compPost (model X.prog X.w) X.A X.xe use Qf (.ref D) C (.ok .next) s') :
    wpAny (model X.prog X.w) X.A (comprehension (.ListComp elt [⟨tg, iter, ifs, 0⟩] scope pos) scope X.env pos' (newList []) false (eval iter X.env) use) Qf X.xe s := by
  have hfree : ∀ y ∈ scope.names, y.2 = .free → ∃ c, X.env.cells.lookup y.1 = some c := fun y hy e => by
    rcases ok.free y hy e with k | k
    · exact I.ok.has _ (.inl k)
    · exact I.ok.has _ (.inr k)
  refine wpAny_comprehension_free (use := use) rfl hs (closure_ok hfree) ok.kind (fun y hy e => by rw [ok.uniq y hy, e])
    (thn (hi pins s σ H _ I h) fun xv s1 hx => thn hx fun itv s2 h2 => ?_)
  obtain ⟨it, fp, tn, J, H2, e, I2, T, st2, f2, q⟩ := h2
  subst e
  refine wpAny_newObj_type (newEnv_comp ?_) (by show 0 ≤ sizeLine; decide)
  generalize hD : s2.heap.objs.size = D
  have hDn : H2 D = none := I2.hok.fresh (Nat.le_of_eq hD)
  obtain ⟨W, ⟨m0, w0⟩, turn⟩ := q D hDn
  -- the new list
  generalize hs3 : ({ s2 with heap := s2.heap.push { cls := .type "list", data := .seq ([] : List Value).toArray } } : Shared) = s3
  have I3 : Inv X pins σ (upd H2 D (.lst [])) s3 := by
    rw [← hs3]
    refine I2.laid (t' := s2.toks) (fun b o e => Heap.get?_push_of_some _ e) (Nat.le_of_eq hD) ⟨Nat.zero_le _, [], 0, .nil, ?_⟩
    rw [← hD]
    exact Heap.get?_push_size _ rfl
  have h3 : s3.heap = s2.heap.push { cls := .type "list", data := .seq ([] : List Value).toArray } := by rw [← hs3]
  have sz : ∀ b ∈ fp, b < s2.heap.objs.size := fun b hb => by
    obtain ⟨o, e, _⟩ := T.obj _ _ st2 b hb
    exact Heap.lt_size e
  have f3 : ∀ b ∈ fp, FpOk X pins (upd H2 D (.lst [])) b ∧ b < s3.heap.objs.size := fun b hb => by
    have hlt := sz b hb
    refine ⟨⟨?_, (f2 b hb).2⟩, by rw [h3, Heap.size_push]; exact Nat.lt_succ_of_lt hlt⟩
    rw [upd_ne (by rw [← hD]; exact Nat.ne_of_lt hlt)]
    exact (f2 b hb).1
  have st3 : tn 0 s3.heap := T.keep _ _ _ st2 fun b _ o e => by rw [h3]; exact Heap.get?_push_of_some _ e
  have I4 := block_start I3 ok hN f3
  have pg := hg s3 (upd H2 D (.lst [])) s3.heap.objs.size (cellsFrom (s3.heap.objs.size + 1) scope.names (cloFrom X.env.cells scope.names [])) fp
  have pt := ht s3 (upd H2 D (.lst [])) s3.heap.objs.size (cellsFrom (s3.heap.objs.size + 1) scope.names (cloFrom X.env.cells scope.names [])) fp
  have pe := he s3 (upd H2 D (.lst [])) s3.heap.objs.size (cellsFrom (s3.heap.objs.size + 1) scope.names (cloFrom X.env.cells scope.names [])) fp
  show codeAny _ _ (.compStart (.ListComp elt [⟨tg, iter, ifs, 0⟩] scope pos) 0 (.ref it) (.ref D) (compEnvC scope (cellsFrom (s3.heap.objs.size + 1) scope.names (cloFrom X.env.cells scope.names [])) s3.heap.objs.size X.env)) (compPost (model X.prog X.w) X.A X.xe use Qf (.ref D) s3.heap.objs.size) { s3 with heap := pushCells (s3.heap.push { cls := .type "dict", data := .dict #[] }) scope.names }
  have nfp : ∀ b ∈ fp, (upd H2 D (.lst [])) b = none := fun b hb => (f3 b hb).1.1
  generalize hce : compEnvC scope (cellsFrom (s3.heap.objs.size + 1) scope.names (cloFrom X.env.cells scope.names [])) s3.heap.objs.size X.env = ce at I4 pg pt pe ⊢
  have cL : ce.locals = s3.heap.objs.size := by subst hce; rfl
  generalize hH3 : upd H2 D (.lst []) = H3 at I3 I4 pg pt pe w0 nfp f3
  generalize hs4 : ({ s3 with heap := pushCells (s3.heap.push { cls := .type "dict", data := .dict #[] }) scope.names } : Shared) = s4 at I4 ⊢
  have st4 : tn 0 s4.heap := T.keep _ _ _ st3 fun b _ o e => by rw [← hs4]; exact pushCells_keeps _ _ _ _ (Heap.get?_push_of_some _ e)
  have stat : ∀ {σ' : St} {H' : Hp} {s' : Shared}, Inv (X.blk s3 H3 scope ce fp) [] σ' H' s' → (∀ b ∈ fp, H' b = none) → ∀ b ∈ fp, FpOk (X.blk s3 H3 scope ce fp) [] H' b := fun {σ' H' s'} I' hn b hb =>
    ⟨hn b hb, (I'.ok.exf b hb).1, I'.ok.exfs b hb, .inl hb, fun x c e => (I'.ok.exf b hb).2 x c e, fun p hp => absurd (show p ∈ ([] : List (Addr × Obj)) ++ [] from hp) (by simp)⟩
  have loop : codeAny (model X.prog X.w) X.A (.compLoop (.ListComp elt [⟨tg, iter, ifs, 0⟩] scope pos) 0 (.ref it) (.ref D) ce) (compPost (model X.prog X.w) X.A X.xe use Qf (.ref D) s3.heap.objs.size) s4 := by
    refine compLoop_any (fun n s' => ∃ i H', Inv (X.blk s3 H3 scope ce fp) [] (wipe σ (own.map (·.2))) H' s' ∧ tn i s'.heap ∧ (∀ b ∈ fp, H' b = none) ∧ W i n H') ?_ m0 ⟨0, H3, I4, st4, nfp, w0⟩
    rintro n s5 ⟨i, H5, I5, st5, n5, w5⟩
    rcases turn i n H5 w5 with ⟨stop, qq⟩ | ⟨go, Nx, hNx, step⟩
    · have td := T.done (X.blk s3 H3 scope ce fp) rfl rfl rfl hc i [] s5 _ H5 (fun _ _ => False) I5 (stat I5 n5) st5 stop
      refine thnF td fun r s6 ⟨hr, I6⟩ => ?_
      subst hr
      -- back in the def's context
      have I7 : Inv X pins σ H5 s6 := I3.call' (ch := fp) I6.os I6.base I6.hok I6.bare fun b hb => ⟨(f3 b hb).1.2.2.2.1, (f3 b hb).1.2.1, (f3 b hb).1.2.2.2.2.1, (f3 b hb).1.2.2.2.2.2⟩
      have nC : H5 s3.heap.objs.size = none := by
        have z : H5 ce.locals = none := I6.free
        rw [cL] at z
        exact z
      obtain ⟨m, hn, _⟩ := I6.loc
      have hn : s6.heap.Ns ce.locals m := hn
      rw [cL] at hn
      exact hRR D s3.heap.objs.size s6 m H5 I7 qq hn (I3.fpOk (Nat.le_refl _) nC)
    · have ti := T.item (X.blk s3 H3 scope ce fp) rfl rfl rfl hc i [] s5 _ H5 (fun _ _ => False) I5 (stat I5 n5) st5 go
      refine thnF ti fun r s6 ⟨u, hr, h6⟩ => ?_
      subst hr
      refine thnF h6 fun _ s7 ⟨x, H7, I7, r7, y7, st7, n7⟩ => ?_
      have I7' := I7.pinned (stat I7 n7) (T.obj _ _ st7)
      refine thnF (pg _ s7 _ H7 x u _ I7' r7 (step x H7 y7)) fun _ s8 ⟨σ8, H8, I8, hw8, q8⟩ => ?_
      refine thnF (pt _ s8 σ8 H8 _ I8 q8) fun b s9 ⟨H9, I9, q9⟩ => ?_
      -- the turn's end
      have fin : ∀ {s' : Shared} {H' : Hp}, Inv (X.blk s3 H3 scope ce fp) ([] ++ pinsAt fp s7.heap) σ8 H' s' → Nx H' → ∃ m, m < n ∧ ∃ i H', Inv (X.blk s3 H3 scope ce fp) [] (wipe σ (own.map (·.2))) H' s' ∧ tn i s'.heap ∧ (∀ b ∈ fp, H' b = none) ∧ W i m H' := fun {s' H'} I' nx => by
        obtain ⟨m', hm, w'⟩ := hNx H' nx
        have pin' : ∀ b ∈ fp, ∀ o, s7.heap.get? b = some o → s'.heap.get? b = some o ∧ H' b = none := fun b hb o e =>
          let z := I'.pin (b, o) (List.mem_append_right _ (List.mem_append_right _ (mem_pinsAt hb e)))
          ⟨z.1, z.2.1⟩
        have hl : (wipe σ (own.map (·.2))).length = σ8.length := by rw [← hw8, wipe_length]
        refine ⟨m', hm, i + 1, H', (I'.unpinned (pins := [])).weak hl (fun j v e => ?_), T.keep _ _ _ st7 fun b hb o e => (pin' b hb o e).1, fun b hb => ?_, w'⟩
        · rw [← hw8] at e
          exact (wipe_some e).1
        · obtain ⟨o, e, _⟩ := T.obj _ _ st7 b hb
          exact (pin' b hb o e).2
      cases b with
      | false =>
        simp only [Bool.false_eq_true, if_false] at q9 ⊢
        exact fin I9 q9
      | true =>
        simp only [if_true] at q9 ⊢
        refine thnF (pe _ s9 σ8 H9 _ I9 q9) fun z s10 ⟨yv, H10, I10, r10, acc, hD10, hz10, nx⟩ => ?_
        exact app_ok (X := X.blk s3 H3 scope ce fp) I10 hD10 hz10 r10 fun s11 I11 => fin I11 nx
  exact codeAny_compStart_list loop (T.self X.A 0 _ _ _ st4 loop)
/-- as a value -/
theorem pe_lc {elt tg iter : Expr} {ifs : List Expr} {scope : Scope} {own : List (Str × Nat)} {pos : Pos} {wi : TI} {g : TG} {tt : TT} {te : TE} (hc : X.calm = true) (hN : X.N.Nodup) (hi : PI X tg iter wi) (ok : BlkOk X.N X.env.scope scope own)
    (hg : ∀ (s : Shared) (H : Hp) (C : Addr) (cl : List (Str × Addr)) (fp : List Addr), PG (X.blk s H scope (compEnvC scope cl C X.env) fp) tg g) (ht : ∀ (s : Shared) (H : Hp) (C : Addr) (cl : List (Str × Addr)) (fp : List Addr), PTs (X.blk s H scope (compEnvC scope cl C X.env) fp) ifs tt)
    (he : ∀ (s : Shared) (H : Hp) (C : Addr) (cl : List (Str × Addr)) (fp : List Addr), PE (X.blk s H scope (compEnvC scope cl C X.env) fp) elt te) (hs : ∀ x, foldedSetIterable iter X.env x = pure x := by intro _; rfl) :
    PE X (.ListComp elt [⟨tg, iter, ifs, 0⟩] scope pos) (tLc wi g tt te (own.map (·.2))) := by
  intro pins s σ H Q I h
  rw [eval_ListComp]
  refine lc_core hc hN I hi ok hg ht he hs h fun D C s' m H' I' q hn f => ⟨m, hn, fun h'' sb => ?_⟩
  obtain ⟨f0, f1, f2, f3, f4, f5⟩ := f
  exact ⟨.ref D, H', I'.turned (t' := s'.toks) (fun b o hb e => (sb.2 b hb).trans e) f0 f1 f3 f4 f5, rfl, q⟩
/-- name = [..] on one line, the name a local -/
theorem ps_setLc {i : Nat} {y : Str} {py : Pos} {elt tg iter : Expr} {ifs : List Expr} {scope : Scope} {own : List (Str × Nat)} {pos spos : Pos} {wi : TI} {g : TG} {tt : TT} {te : TE} (hc : X.calm = true) (hN : X.N.Nodup) (hy : X.N[i]? = some y) (hyl : X.env.scope.names.lookup y = some .local)
    (hsw : swapsWith (.ListComp elt [⟨tg, iter, ifs, 0⟩] scope pos) (some (.Name y py)) spos.line X.env = pure true) (hi : PI X tg iter wi) (ok : BlkOk X.N X.env.scope scope own)
    (hg : ∀ (s : Shared) (H : Hp) (C : Addr) (cl : List (Str × Addr)) (fp : List Addr), PG (X.blk s H scope (compEnvC scope cl C X.env) fp) tg g) (ht : ∀ (s : Shared) (H : Hp) (C : Addr) (cl : List (Str × Addr)) (fp : List Addr), PTs (X.blk s H scope (compEnvC scope cl C X.env) fp) ifs tt)
    (he : ∀ (s : Shared) (H : Hp) (C : Addr) (cl : List (Str × Addr)) (fp : List Addr), PE (X.blk s H scope (compEnvC scope cl C X.env) fp) elt te) (hs : ∀ x, foldedSetIterable iter X.env x = pure x := by intro _; rfl) :
    PS X (.Assign [.Name y py] (.ListComp elt [⟨tg, iter, ifs, 0⟩] scope pos) spos) (tAsg (tLc wi g tt te (own.map (·.2))) (gName i)) := by
  intro pins s σ H D I h
  rw [exec_Assign_Name_used _ _ _ _ hsw]
  refine wpAny_bind (wpAny_standAt (wpAny_bind ?_))
  show wpAny _ X.A (do let _ ← comprehension (.ListComp elt [⟨tg, iter, ifs, 0⟩] scope pos) scope X.env (firstIterPos [⟨tg, iter, ifs, 0⟩] pos) (newList []) false (eval iter X.env) (some (assign (.Name y py) X.env))) _ _ s
  have h : tLc wi g tt te (own.map (·.2)) σ H (fun x H1 => gName i x σ H1 D.nx) := h
  refine wpAny_bind (thn (lc_core (Qf := fun _ s' => SP X pins D .next s') hc hN I hi ok hg ht he hs h fun L C s' m H' I' q hn f => ?_) fun _ s' hq => wpAny_pure (wpAny_pure hq))
  show wpAny _ _ (assign (.Name y py) X.env (.ref L)) _ _ _
  refine wpAny_assign_Name (store_ok2 (v := V.ref L) I' hN hy (.inl hyl) rfl (fun s2 I2 ⟨a, sb, ha⟩ => ?_) (.inr hyl))
  obtain ⟨f0, f1, f2, f3, f4, f5⟩ := f
  have haC : C ≠ a := by
    rcases ha with z | z
    · rw [z]; exact f1
    · exact fun e => f4 y a z e.symm
  refine ⟨m, hn.sameBut sb haC, fun h3 sb3 => ?_⟩
  exact ⟨_, H', I2.turned (t' := s2.toks) (fun b o hb e => (sb3.2 b hb).trans e) f0 f1 f3 f4 f5, q⟩
end

/-! ### the forms one uses -/
end L2

namespace L2
open PySem PySem.Spec PyProof.Rows

section
variable {prog : Program} {w : World} {A : Around} {R : Result → Shared → Prop} {s : Shared} {elt t0 i0 t1 i1 : Expr} {ifs0 ifs1 : List Expr} {scope : Scope} {pos : Pos} {it acc : Value} {env : Env}
end

section
variable {X : Cx}
end
end L2

namespace L2
open PySem PySem.Spec PyProof.Rows

/-! ### lists of pairs as tables -/
section
variable {κ : Type} [DecidableEq κ]
end


/-! ### a tracked dict, its keys ints and texts or tuples of these -/
section
variable {P : Program} {w : World} {H : Hp} {h : Heap} {a : Addr}
end

section
variable {X : Cx} {pins : List (Addr × Obj)} {σ : St} {H : Hp} {s : Shared} {a : Addr} {y v : V} {u r : Value} {o : Option V} {A : Around} {E : Value → Shared → Prop}

end

section
variable {X : Cx} {pins : List (Addr × Obj)} {σ : St} {H : Hp} {s : Shared} {a : Addr} {kvs : List (Key × V)} {k : Key} {u : Value} {A : Around} {E : Value → Shared → Prop}
end


/-! ### readings and rules -/
section
variable {X : Cx} {o i e value : Expr} {pos pos' tpos : Pos} {td ty tv : TE}
end


/-! ### displays -/
section
variable {X : Cx} {pos : Pos}
end

/-! ### methods -/
/-- a method call o.m(e) of a built-in, with one argument: what must be seen of the text -/
structure M1 (X : Cx) (o : Expr) (m : Str) (apos : Pos) (e : Expr) (cpos : Pos) : Prop where
  base : attributeBase o m X.env (eval o X.env) = eval o X.env
  few : ((backTo cpos (starEach [e] X.env)).all (fun x => !x.1) && (backToKw cpos (keywordEach [] X.env)).all (fun x => x.1.isSome)
    && decide (([e] : List Expr).length + ([] : List Keyword).length + (if ([] : List Keyword).isEmpty then 0 else 1) < 30)) = true
  line : (apos.endLine == cpos.line) = true
  trees : backTo cpos (starEach [e] X.env) = [(false, eval e X.env)]
structure M2 (X : Cx) (o : Expr) (m : Str) (apos : Pos) (e f : Expr) (cpos : Pos) : Prop where
  base : attributeBase o m X.env (eval o X.env) = eval o X.env
  few : ((backTo cpos (starEach [e, f] X.env)).all (fun x => !x.1) && (backToKw cpos (keywordEach [] X.env)).all (fun x => x.1.isSome)
    && decide (([e, f] : List Expr).length + ([] : List Keyword).length + (if ([] : List Keyword).isEmpty then 0 else 1) < 30)) = true
  line : (apos.endLine == cpos.line) = true
  trees : backTo cpos (starEach [e, f] X.env) = [(false, eval e X.env), (false, eval f X.env)]

section
variable {X : Cx} {pins : List (Addr × Obj)} {σ : St} {H : Hp} {s : Shared} {a : Addr} {y d : V} {u r : Value} {o : Option V} {A : Around} {E : Value → Shared → Prop}
end

section
variable {X : Cx} {o e f : Expr} {apos cpos : Pos} {td ty tx : TE}
end

/-! ### dict(d): a copy -/
section
variable {X : Cx} {pins : List (Addr × Obj)} {σ : St} {H : Hp} {s : Shared} {a : Addr} {kvs : List (Key × V)} {A : Around} {E : Value → Shared → Prop}
end


section
variable {X : Cx} {pins : List (Addr × Obj)} {σ : St} {H : Hp} {s : Shared} {a : Addr} {y : V} {u : Value} {A : Around} {E : Value → Shared → Prop}
end
end L2

namespace L2
open PySem PySem.Spec PyProof.Rows

section
variable {prog : Program} {w : World} {A : Around} {E : Value → Shared → Prop}
end

section
variable {X : Cx}
end
end L2

namespace L2
open PySem PySem.Spec PyProof.Rows

section
variable {X : Cx} {pins : List (Addr × Obj)} {σ : St} {H : Hp} {s : Shared} {h' : Heap}
/-- several records of ours have turned -/
theorem Inv.turnedL {t' : Nat} {ch : List Addr} (I : Inv X pins σ H s) (k : ∀ b o, b ∉ ch → s.heap.get? b = some o → h'.get? b = some o) (hf : ∀ b ∈ ch, FpOk X pins H b) : Inv X pins σ H { s with heap := h', toks := t' } := by
  have nit : ∀ b u, H b = some u → b ∉ ch := fun b u e z => by
    have q := (hf b z).1
    rw [q] at e; cases e
  refine I.step (g' := s.gens) (d' := s.drawn) (ch := ch) (fun b hb => ⟨(hf b hb).2.2.2.1, (hf b hb).2.1, (hf b hb).2.2.2.2.1, (hf b hb).2.2.2.2.2⟩) (fun b o _ _ hc e _ => k b o hc e) (fun b o _ _ hc e _ => ⟨o.slots, k b o hc e⟩)
    (fun _ _ _ _ n => n) (fun b o hc e => ⟨o, k b o hc e⟩) (fun _ _ e => e) (fun _ _ _ e => e) (fun b ps e => ⟨#[], by rw [e]; simp⟩) (fun m hm => ?_) (fun b u e => ?_) I.bare
  · obtain ⟨o, es, ep, ho, r⟩ := hm
    exact ⟨o, es, ep, k _ o (fun z => (hf _ z).2.1 rfl) ho, r⟩
  · refine (I.hok b u e).stay (fun c v hc q => k c v ?_ q) (fun _ q => q) fun _ _ q => q
    rcases hc with z | z
    · rw [z]; exact nit b u e
    · exact nit c _ z
/-- .. and one new object is laid -/
theorem Inv.turnedNew {t' : Nat} {ch : List Addr} {T : Addr} {ob : HO} (I : Inv X pins σ H s) (k : ∀ b o, b ∉ ch → s.heap.get? b = some o → h'.get? b = some o) (hf : ∀ b ∈ ch, FpOk X pins H b) (hT : s.heap.objs.size ≤ T)
    (new : ObjOk X.prog X.w (upd H T ob) h' T ob) : Inv X pins σ (upd H T ob) { s with heap := h', toks := t' } := by
  have hn : H T = none := I.hok.fresh hT
  have nit : ∀ b u, H b = some u → b ∉ ch := fun b u e z => by
    have q := (hf b z).1
    rw [q] at e; cases e
  refine I.step (g' := s.gens) (d' := s.drawn) (ch := ch) (fun b hb => ⟨(hf b hb).2.2.2.1, (hf b hb).2.1, (hf b hb).2.2.2.2.1, (hf b hb).2.2.2.2.2⟩) (fun b o _ _ hc e _ => k b o hc e) (fun b o _ _ hc e _ => ⟨o.slots, k b o hc e⟩)
    (fun b o _ e n => ?_) (fun b o hc e => ⟨o, k b o hc e⟩) (fun b xs e => ?_) (fun b o u e => ?_) (fun b ps e => ⟨#[], ?_⟩) (fun m hm => ?_) (fun b u e => ?_) I.bare
  · rw [upd_ne (Nat.ne_of_lt (Nat.lt_of_lt_of_le (Heap.lt_size e) hT))]; exact n
  · rw [upd_ne (ne_of_none e hn)]; exact e
  · rw [upd_ne (ne_of_none e hn)]; exact e
  · rw [upd_ne (ne_of_none e hn), e]; simp
  · obtain ⟨o, es, ep, ho, r⟩ := hm
    exact ⟨o, es, ep, k _ o (fun z => (hf _ z).2.1 rfl) ho, r⟩
  · by_cases hb : b = T
    · subst hb
      rw [upd_same] at e
      cases e
      exact new
    · rw [upd_ne hb] at e
      refine (I.hok b u e).stay (fun c v hc q => k c v ?_ q) (fun c q => by rw [upd_ne (ne_of_none q hn)]; exact q) fun c xs q => by rw [upd_ne (ne_of_none q hn)]; exact q
      rcases hc with z | z
      · rw [z]; exact nit b u e
      · exact nit c _ z

/-! ### locking a thing while a statement runs -/
end
section
variable {X : Cx}
/-! ### one iterator just laid -/
theorem pi_one {tg : Expr} {pins : List (Addr × Obj)} {σ : St} {H : Hp} {s : Shared} {R : It → Hp → Prop} {J : It} {tn : Nat → Heap → Prop} {tk : Nat} (I : Inv X pins σ H s) (o : Obj)
    (T : Turn X.prog X.w X.K tg J [s.heap.objs.size] s.heap.objs.size tn) (st : tn 0 (s.heap.push o)) (q : R J H) : PIE X pins σ tg R (.ref s.heap.objs.size) { s with heap := s.heap.push o, toks := tk } := by
  refine ⟨s.heap.objs.size, [s.heap.objs.size], tn, J, H, rfl, I.kept fun b ob e => Heap.get?_push_of_some _ e, T, st, fun b hb => ?_, q⟩
  have e : b = s.heap.objs.size := by simpa using hb
  subst e
  exact I.fpOk (Nat.le_refl _) (I.hok.fresh (Nat.le_refl _))
end

/-! ### range with a step -/
/-- lo, lo + c, .. (n of them) -/
noncomputable def Itc (lo c : Int) (n : Nat) : It := ⟨fun i _ => i < n, fun i H x H' => H' = H ∧ x = .int (lo + (i : Nat) * c), fun i _ => n ≤ i⟩
theorem turn_rangeC {P : Program} {w : World} {K : PySem.W.Frag} {tg : Expr} (it : Addr) (lo c : Int) (n : Nat) : Turn P w K tg (Itc lo c n) [it] it (fun i h => IsRangeIter h it (lo + (i : Nat) * c) ((n : Int) - (i : Nat)) c) where
  mem := by simp
  obj := fun i h st b hb => by
    have e : b = it := by simpa using hb
    subst e
    exact ⟨_, st, fun v z => nomatch z⟩
  keep := fun i h h' st k => k it (by simp) _ st
  item := by
    intro X hP hw hK hc i pins s σ H E I hf st hg
    subst hP hw hK
    obtain ⟨f0, f1, f2, f3, f4, f5⟩ := hf it (by simp)
    have W := Walks.range (prog := X.prog) (w := X.w) (I.ok.hd hc) it lo c n
    refine W.item i s _ _ hg st fun v h' tk hv st' kk => ?_
    obtain ⟨t, rfl⟩ := hv
    have I1 : Inv X pins σ H { s with heap := h', toks := tk } := I.turned (fun b o hb e => kk b o (by simpa using hb) e) f0 f1 f3 f4 f5
    exact ⟨_, rfl, go_of (s := { s with heap := h', toks := tk }) (n := "range_iterator") st' rfl rfl (by decide) ⟨.int (lo + (i : Nat) * c), H, I1, ⟨t, rfl⟩, ⟨rfl, rfl⟩, st', fun b hb => (hf b hb).1⟩⟩
  done := by
    intro X hP hw hK hc i pins s σ H E I hf st hg
    subst hP hw hK
    obtain ⟨f0, f1, f2, f3, f4, f5⟩ := hf it (by simp)
    exact wpAny_pyNext_range_end (I.ok.hd hc) st (by have : n ≤ i := hg; omega) fun h' eb => ⟨rfl, I.turned (t' := s.toks) (fun b o hb e => eb b o hb e) f0 f1 f3 f4 f5⟩
  self := fun A i s Q E st h => wpAny_pyIter_rangeiter st h
/-- range(i, j, c): small bounds, n items -/
noncomputable def RgC (i j c : Int) (n : Nat) : Prop := c ≠ 0 ∧ c.natAbs < 1073741824 ∧ Builtin.Range.small i j c = true ∧ Builtin.Range.rangeSize i j c = n
noncomputable def iRng3 (ta : TA) : TI := fun σ H R => ta σ H fun vs H1 => ∃ (i j c : Int) (n : Nat), vs = [.int i, .int j, .int c] ∧ RgC i j c n ∧ R (Itc i c n) H1
section
variable {X : Cx} {tg : Expr}
theorem pi_range3 {a b c : Expr} {ta : TA} {p pos : Pos} (hg : Gl X "range") (hm : X.mg "range" = none) (ha : PA X [a, b, c] ta)
    (hs : starEach [a, b, c] X.env = (false, eval a X.env) :: starEach [b, c] X.env := by rfl) (hpl : (backTo pos (starEach [b, c] X.env)).any (·.1) = false := by rfl) :
    PI X tg (.Call (.Name "range" p) [a, b, c] [] pos) (iRng3 ta) := by
  intro pins s σ H R I h
  refine Call_ (ld_blt I hg hm boot_range (PyProof.Rows.callWith_type1 (thn (ha pos pins s σ H _ I h) fun us s1 ⟨vs, H1, I1, r1, q1⟩ => ?_) hs hpl))
  obtain ⟨i, j, k, n, e, ⟨c0, c1, c2, c3⟩, q⟩ := q1
  subst e
  cases r1 with
  | cons r rr =>
    cases rr with
    | cons r' rr =>
      cases rr with
      | cons r'' rr =>
        cases rr
        obtain ⟨t, rfl⟩ := r
        obtain ⟨t', rfl⟩ := r'
        obtain ⟨t'', rfl⟩ := r''
        refine call_range_3 c0 ?_ (.inl (PyProof.noPylong_small c1))
        refine wpAny_pyIter_range (IsRange.new ..) c2 ?_
        have I2 : Inv X pins σ H1 { s1 with heap := s1.heap.push { cls := .type "range", data := .fields #[.int i t, .int j t', .int k t''] } } := I1.kept (t' := s1.toks) fun b o e => Heap.get?_push_of_some _ e
        refine pi_one (tk := s1.toks) I2 _ (turn_rangeC _ i k n) ?_ q
        have e1 : i + ((0 : Nat) : Int) * k = i := by simp
        have e2 : (n : Int) - ((0 : Nat) : Int) = Builtin.Range.rangeSize i j k := by rw [c3]; simp
        show IsRangeIter _ _ (i + ((0 : Nat) : Int) * k) ((n : Int) - ((0 : Nat) : Int)) k
        rw [e1, e2]
        exact Heap.get?_push_size _ rfl
end
/-! ### reversed(list) -/
section
variable {X : Cx} {tg : Expr}
end

/-! ### a str -/
/-! ### a dict's keys: any dict's entries -/
section
variable {prog : Program} {w : World} {A : Around} {E : Value → Shared → Prop} {s : Shared}
end

/-! ### a locked dict -/
section
variable {X : Cx} {pins : List (Addr × Obj)} {σ : St} {H : Hp} {s : Shared} {d : Addr} {o : Obj}
end

section
variable {P : Program} {w : World} {K : PySem.W.Frag} {tg : Expr} {d : Addr} {o : Obj} {es : Array DictEntry} {ep : Nat}
end

/-! ### for k in d, d.keys(), d.values(), d.items() -/
section
variable {X : Cx} {tg e : Expr} {td : TE} {apos cpos : Pos}
end

/-! ### enumerate(list) -/
/-- the list at a as it stands at each turn, each item in a new pair -/
noncomputable def Ite (K : PySem.W.Frag) (a : Addr) : It :=
  ⟨fun i H => ∃ (xs : List V) (x : V), SqL K H a xs ∧ xs[i]? = some x, fun i H v H' => ∃ T x, v = .ref T ∧ H T = none ∧ H' = upd H T (.tup [.int (i : Nat), x]) ∧ ∀ xs, SqL K H a xs → xs[i]? = some x, fun i H => ∃ xs : List V, SqL K H a xs ∧ xs.length ≤ i⟩
theorem turn_enum {P : Program} {w : World} {K : PySem.W.Frag} {elts : List Expr} {kk : Nat} {tpos : Pos} (a e it : Addr) :
    Turn P w K (.Tuple elts kk tpos) (Ite K a) [e, it] e (fun i h => (∃ old, IsEnum h e it ((i : Nat) : Int) old) ∧ h.IsListIter it a i ∧ e ≠ it) where
  mem := by simp
  obj := fun i h st b hb => by
    obtain ⟨⟨old, he⟩, ⟨o, ho, hc, hd⟩, _⟩ := st
    have e' : b = e ∨ b = it := by simpa using hb
    rcases e' with z | z
    · rw [z]; exact ⟨_, he, fun v q => nomatch q⟩
    · rw [z]; exact ⟨o, ho, fun v q => by rw [hd] at q; cases q⟩
  keep := fun i h h' st k => let ⟨⟨old, he⟩, hi, hne⟩ := st; ⟨⟨old, k e (by simp) _ he⟩, hi.at fun o q => k it (by simp) o q, hne⟩
  item := by
    intro X hP hw hK hc i pins s σ H E I hf st hg
    subst hP hw hK
    obtain ⟨⟨old, he⟩, hit, hne⟩ := st
    obtain ⟨xs, x, hq, hx⟩ := hg
    obtain ⟨its, rv, p, hz⟩ := I.list hq
    obtain ⟨u, hu, ru⟩ := rv.get hx
    have hel : e < s.heap.objs.size := Heap.lt_size he
    have hil : it < s.heap.objs.size := by obtain ⟨_, q, _⟩ := hit; exact Heap.lt_size q
    refine wpAny_pyNext_enum_item he hit p.isList (x := u) (by simpa using hu) hne fun h' ho hit' hT hsz hk => ?_
    refine ⟨_, rfl, wpAny_letOwnedTupleGo_enum (s := { s with heap := h', toks := s.toks + 1 }) ho fun h'' he' sb => ?_⟩
    have hT2 : h''.get? s.heap.objs.size = some { cls := .type "tuple", data := .seq #[.int i s.toks, u] } := (sb.2 _ (Nat.ne_of_gt hel)).trans hT
    have new : ObjOk X.prog X.w (upd H s.heap.objs.size (.tup [.int (i : Nat), x])) h'' s.heap.objs.size (.tup [.int (i : Nat), x]) :=
      ⟨by show 2 ≤ sizeLine; decide, [.int i s.toks, u], .cons ⟨_, rfl⟩ (.cons ru .nil), ⟨_, hT2, rfl, _, rfl⟩⟩
    have I1 : Inv X pins σ (upd H s.heap.objs.size (.tup [.int (i : Nat), x])) { s with heap := h'', toks := s.toks + 1 } :=
      I.turnedNew (ch := [e, it]) (fun b ob hb q => (sb.2 b (fun z => hb (by simp [z]))).trans (hk b ob (fun z => hb (by simp [z])) (fun z => hb (by simp [z])) q)) hf (Nat.le_refl _) new
    refine ⟨.ref s.heap.objs.size, _, I1, rfl, ⟨_, x, rfl, I.hok.fresh (Nat.le_refl _), rfl, fun ys hy => by rw [I.list_inj hy hq]; exact hx⟩, ⟨⟨u, ?_⟩, hit'.at fun o q => (sb.2 it (Ne.symm hne)).trans q, hne⟩, fun b hb => ?_⟩
    · have e1 : ((i + 1 : Nat) : Int) = (i : Int) + 1 := by omega
      rw [e1]; exact he'
    · have hb' : b < s.heap.objs.size := by
        have e' : b = e ∨ b = it := by simpa using hb
        rcases e' with z | z
        · rw [z]; exact hel
        · rw [z]; exact hil
      rw [upd_ne (Nat.ne_of_lt hb')]
      exact (hf b hb).1
  done := by
    intro X hP hw hK hc i pins s σ H E I hf st hg
    subst hP hw hK
    obtain ⟨⟨old, he⟩, hit, hne⟩ := st
    obtain ⟨xs, hq, hx⟩ := hg
    obtain ⟨its, rv, p, hz⟩ := I.list hq
    obtain ⟨f0, f1, f2, f3, f4, f5⟩ := hf it (by simp)
    have hl := rv.length
    exact wpAny_pyNext_enum_end (I.ok.hd hc) he hit p.isList (by simp; omega) fun h' eb => ⟨rfl, I.turned (t' := s.toks) (fun b o hb q => eb b o hb q) f0 f1 f3 f4 f5⟩
  self := fun A i s Q E st h => let ⟨⟨_, he⟩, _⟩ := st; wpAny_pyIter_enum he h
noncomputable def iEnum (K : PySem.W.Frag) (ta : TA) : TI := fun σ H R => ta σ H fun vs H1 => ∃ a xs, vs = [.ref a] ∧ SqL K H1 a xs ∧ R (Ite K a) H1
theorem pi_enum {X : Cx} {e : Expr} {ta : TA} {p pos tpos : Pos} {elts : List Expr} {kk : Nat} (hg : Gl X "enumerate") (hm : X.mg "enumerate" = none) (ha : PA X [e] ta) (hs : starEach [e] X.env = [(false, eval e X.env)] := by rfl) :
    PI X (.Tuple elts kk tpos) (.Call (.Name "enumerate" p) [e] [] pos) (iEnum X.K ta) := by
  intro pins s σ H R I h
  refine Call_ (ld_blt I hg hm boot_enumerate (PyProof.Rows.callWith_type1 (thn (ha pos pins s σ H _ I h) fun us s1 ⟨vs, H1, I1, r1, q1⟩ => ?_) hs rfl))
  obtain ⟨a, xs, ex, hq, q⟩ := q1
  subst ex
  cases r1 with
  | cons r rr =>
    cases rr
    cases r
    obtain ⟨its, rv, p', hz⟩ := I1.list hq
    refine call_enumerate_list p'.isList fun h' he hit hsz hk => wpAny_pyIter_enum he ?_
    have I2 : Inv X pins σ H1 { s1 with heap := h' } := I1.kept (t' := s1.toks) hk
    refine ⟨s1.heap.objs.size + 1, [s1.heap.objs.size + 1, s1.heap.objs.size], _, _, H1, rfl, I2, turn_enum a (s1.heap.objs.size + 1) s1.heap.objs.size, ⟨⟨.none, he⟩, hit, Nat.succ_ne_self _⟩, fun b hb => ?_, q⟩
    have e' : b = s1.heap.objs.size + 1 ∨ b = s1.heap.objs.size := by simpa using hb
    have hle : s1.heap.objs.size ≤ b := by
      rcases e' with z | z
      · rw [z]; exact Nat.le_add_right _ _
      · rw [z]; exact Nat.le_refl _
    exact I1.fpOk hle (I1.hok.fresh hle)
/-! ### zip(list, list) -/
theorem boot_zip5 : bootBuiltins "zip" = some (.type "zip") := by decide +kernel
end L2

section 
namespace Bits
open PySem PyProof.Rows

end Bits
end 

section 
namespace TL
open PySem PySem.Builtin PySem.Builtin.Str PySem.StrLaws

/-! ### the list functions -/
/-! ### the model's split and partition are these -/
/-! ### computing spl and par -/
/-! ### digits -/
/-! ### words: x.split() -/
end TL
end 

namespace L2
open PySem PySem.Spec PyProof.Rows

section
variable {X : Cx} {pins : List (Addr × Obj)} {σ : St} {H : Hp} {s : Shared} {Q : VK}
end

section
variable {X : Cx}

/-! ### of a text alone -/
/-! ### of a text and a text -/
end

section
variable {X : Cx} {o e : Expr} {to te : TE}
end
end L2

namespace L2
open PySem PySem.Spec PyProof.Rows

section
variable {X : Cx}
end

/-! ### slices of a text -/
end L2

namespace Att
open PySem PySem.W PySem.Calls PyProof.Rows

/-! ### the script -/
/-! ### the attachment: holds_open's last premise (the goal 'hc' behind k_head) from a wpAny of the law's body -/
/-! ### rules over ANY heap (no ledger) from facts about the written part K: the library's own take a ledger (News) for what they write -/
section
variable {prog : Program} {w : World} {A : Around} {E : Value → Shared → Prop} {s : Shared} {K : Frag}

/-! the whole heap as the ledger: makes every rule that writes through a ledger a rule over any heap -/
end
end Att

namespace L2
open PySem PySem.Spec PyProof.Rows

end L2

namespace L2
open PySem PySem.Spec PyProof.Rows

end L2

/- THE LAST THEOREM (shape; LID, My.* are yours):
   My.Adr: a structure of the addresses that your layer names (classes, functions); My.Txt K t: a structure (Prop) of the equations over K;
   My.txt_mk : {K} {implicit addresses ..} (e1 : nsIn K mainGlobals "law" = some (some (.ref f))) (e2 : K.lookup f = some ⟨oc, od, .func (fnOf "law" "law" params body scope dV kV doc pm an cdv ct), sl⟩) (e3 : codeIn K cdv "law" = true) .. : ∃ t, My.Txt K t

set_option maxRecDepth 100000 in
set_option maxHeartbeats 0 in
theorem PySem.Challenge.cw_LID_holds : PySem.Challenge.rw_LID.Holds := by
  w_on; o_law; k_head; (case hw => w_witness2)
  k_fill
  refine L2.walk_of (l := PySem.Challenge.rw_LID) (n := 63) (k := 40) (x := "script") (CX := fun w => ..) (sp := fun _ => My.sp_law) rfl (by decide) rfl ⟨rfl, by decide, by decide⟩ (fun w h Y => PySem.W.kIn_of Y) ?F ?S ?C
  case F =>
    intro w mg fa h KX G hmg
    have T : ∃ t, My.Txt (L2.KOf KX) t := by
      dsimp only [L2.KOf]                          -- K must stand as «<heap const> w.params» for k_is
      refine' My.txt_mk ?e1 ?e2 ?e3 ..
      (case e1 => PySem.W.k_is)                    -- in the order: a name -> its address -> its object -> its parts
      (case e2 => PySem.W.k_is)
      ..
    obtain ⟨t, T⟩ := T
    have e0 := hmg.symm.trans (PySem.W.mg_of KX G T.law)
    cases e0                                       -- fa is the law's own address
    exact ⟨_, fun s u => .of_eq rfl, fun base kb nb => My.law_fn T kb nb⟩     -- if «.of_eq rfl» comes too early: refine' ⟨_, ?b, fun base kb nb => My.law_fn T kb nb⟩; exact fun s u => .of_eq rfl
  case S => exact fun w H a ns hl hO hS => ..
  case C => exact ..
(the tactic k_is has no namespace: write k_is) -/

/-! SHORT WORDS over the layer: a def of the text, its body, what a loop and a test want. -/
namespace L2
open PySem PySem.Spec PyProof.Rows

/-! ### the text by places -/
/-- the j-th statement of a class's body -/
noncomputable def inClass (s : Stmt) (j : Nat) : Stmt := match s with
  | .ClassDef _ _ _ body _ _ _ _ _ _ _ => body.getD j (.Pass ⟨0, 0, 0, 0⟩)
  | _ => .Pass ⟨0, 0, 0, 0⟩
noncomputable def defArgs (s : Stmt) : Arguments := match s with
  | .FunctionDef _ a _ _ _ _ _ _ _ _ => a
  | _ => { posonlyargs := [], args := [], vararg := none, kwonlyargs := [], kw_defaults := [], kwarg := none, defaults := [] }
noncomputable def defBody (s : Stmt) : List Stmt := match s with
  | .FunctionDef _ _ b _ _ _ _ _ _ _ => b
  | _ => []
noncomputable def defScope (s : Stmt) : Scope := match s with
  | .FunctionDef _ _ _ _ _ _ sc _ _ _ => sc
  | _ => { kind := .function, names := [], isGenerator := false, isCoroutine := false }

/-! ### no exception leaves a def -/
noncomputable abbrev CX0 : CXT := fun _ _ _ _ _ _ => False
noncomputable abbrev E0 : XK := fun _ _ _ => False
theorem pass0 {X : Cx} : Passes CX0 X E0 := fun _ _ _ _ _ _ _ h => h.elim

/-! ### a def (or method) of the text as it stands behind the top -/
structure Fun (K : PySem.W.Frag) (x qual : Str) (st : Stmt) (f : Addr) (fd : FuncData) : Prop where
  ex : ∃ (oc : Value) (od : Option Addr) (kV doc pm : Value) (an : Option Addr) (cdv ct : Value) (osl : Array (Option Value)),
    fd = PySem.W.fnOf x qual (defArgs st) (defBody st) (defScope st) .none kV doc pm an cdv ct ∧ K.lookup f = some ⟨oc, od, .func fd, osl⟩ ∧ PySem.W.codeIn K cdv qual = true
  kp : PySem.W.keepIn K (.ref f) = true
section
variable {P : Program} {w : World} {K : PySem.W.Frag} {mg : Str → Option Value} {base : Heap}
/-- THE RULE for a def: its body as a term of rules, and the reading of that term -/
theorem Fun.ok {x qual : Str} {st : Stmt} {f : Addr} {fd : FuncData} {N ps : List Str} {k : Nat} {sp : Sp} (F : Fun K x qual st f fd) (S : FnScope N ps (defScope st)) (len : ∀ vs H Q E, sp vs H Q E → vs.length = ps.length)
    (hbody : ∀ (cdv : Value) (A : Around) (outer : List Env) (s : Shared) (H : Hp) (vs : List V) (Q : VK) (E : XK), Room k (A.deeper (envOfC qual (defScope st) s.heap.objs.size f cdv)) → sp vs H Q E →
      ∃ t, PSs (cxOf CX0 P w K mg base N qual (defScope st) f cdv A outer s H E).nox (defBody st) t ∧ t { nx := fun _ H' => Q .non H', rt := Q } (start N vs) H) : FnOk P w K mg base CX0 (k + 1) f fd ps sp := by
  obtain ⟨oc, od, kV, doc, pm, an, cdv, ct, osl, rfl, lk, hcd⟩ := F.ex
  refine fn_of lk hcd S len fun A outer s H vs Q E hr hsp => ?_
  obtain ⟨t, h, q⟩ := hbody cdv A outer s H vs Q E hr hsp
  exact ⟨t, h.nox, q⟩
/-- how its arguments bind (no defaults): h is «fun _ _ _ _ _ _ us hl => match us, hl with | [_, _], _ => rfl», one _ a parameter -/
theorem Fun.binds {x qual : Str} {st : Stmt} {f : Addr} {fd : FuncData} {ps : List Str} (F : Fun K x qual st f fd)
    (h : ∀ (kV doc pm : Value) (an : Option Addr) (cdv ct : Value) (us : List Value), us.length = ps.length → bindArgs (PySem.W.fnOf x qual (defArgs st) (defBody st) (defScope st) .none kV doc pm an cdv ct) ⟨us, []⟩ = pure (ps.zip us)) : Binds K fd ps [] := by
  obtain ⟨oc, od, kV, doc, pm, an, cdv, ct, osl, rfl, lk, hcd⟩ := F.ex
  exact .all (h kV doc pm an cdv ct)
theorem fun_mk {x qual : Str} {st : Stmt} {f : Addr} {oc : Value} {od an : Option Addr} {osl : Array (Option Value)} {kV doc pm cdv ct : Value} (l : K.lookup f = some ⟨oc, od, .func (PySem.W.fnOf x qual (defArgs st) (defBody st) (defScope st) .none kV doc pm an cdv ct), osl⟩)
    (c : PySem.W.codeIn K cdv qual = true) (k : PySem.W.keepIn K (.ref f) = true) : Fun K x qual st f (PySem.W.fnOf x qual (defArgs st) (defBody st) (defScope st) .none kV doc pm an cdv ct) := ⟨⟨oc, od, kV, doc, pm, an, cdv, ct, osl, rfl, l, c⟩, k⟩
end
/-! ### expressions in short: the name that stands in the i-th slot -/
section
variable {X : Cx}
theorem pv (i : Nat) {x : Str} {pos : Pos} (hN : X.N[i]? = some x := by rfl) (hv : Vis X.env.scope x := by first | exact Or.inl rfl | exact Or.inr (Or.inl rfl) | exact Or.inr (Or.inr rfl)) (hd : (x == ("__debug__" : Str)) = false := by decide)
    (hcd : (x == ("__classdict__" : Str)) = false := by decide) : PE X (.Name x pos) (tVar i) := pe_var hN hv hd hcd
end

/-! ### tests -/
theorem iteF {A B : Prop} (h : B) : if false = true then A else B := by
  rw [if_neg Bool.false_ne_true]
  exact h
theorem iteT {A B : Prop} (h : A) : if true = true then A else B := by
  rw [if_pos rfl]
  exact h
theorem ite2 {c A B : Prop} [Decidable c] (h1 : c → A) (h2 : ¬ c → B) : if c then A else B := by
  by_cases h : c
  · rw [if_pos h]
    exact h1 h
  · rw [if_neg h]
    exact h2 h
theorem iteNS {c A B : Prop} [Decidable c] (hc : c) (h : B) : if (!decide c) = true then A else B := by
  rw [decide_eq_true hc]
  exact iteF h

/-! ### heaps -/
/-- all that was tracked is as it was -/
noncomputable def Same (H H' : Hp) : Prop := ∀ b o, H b = some o → H' b = some o
theorem Same.refl (H : Hp) : Same H H := fun _ _ h => h
theorem Same.trans {H H1 H2 : Hp} (a : Same H H1) (b : Same H1 H2) : Same H H2 := fun c o h => b c o (a c o h)
theorem Same.free {H H' : Hp} (e : Same H H') {l : Addr} (h : H' l = Option.none) : H l = Option.none := by
  cases q : H l with
  | none => rfl
  | some o =>
    rw [e l o q] at h
    cases h
theorem Same.seq {K : PySem.W.Frag} {H H' : Hp} {a : Addr} {xs : List V} (e : Same H H') (h : SqL K H a xs) : SqL K H' a xs := by
  rcases h with (h | ⟨o, h⟩) | h
  · exact .inl (.inl (e _ _ h))
  · exact .inl (.inr ⟨o, e _ _ h⟩)
  · exact .inr h

/-! ### a dict's pairs: keys that differ -/
section
variable {κ : Type} [DecidableEq κ]
end
/-! ### lists -/
theorem at_of {xs : List V} {z : Int} {j : Nat} {v : V} (e : z = (j : Int)) (h : xs[j]? = some v) : atI xs z = some v := by
  rw [e]
  exact atI_nat h
/-- a new instance and its __init__ leave all that was tracked as it was -/
theorem Same.made {H H1 : Hp} {x dx C : Addr} (nx : H x = Option.none) (nd : H dx = Option.none) (k : ∀ b o, (upd (upd H dx (.own x)) x (.ins C dx [])) b = some o → b ≠ x → H1 b = some o) : Same H H1 := fun b o e =>
  k b o (by rw [upd_ne (ne_of_none e nx), upd_ne (ne_of_none e nd)]; exact e) (ne_of_none e nx)
end L2
section
set_option Elab.async false
set_option linter.all false
set_option bootstrap.genMatcherCode false
set_option genSizeOf false
set_option maxRecDepth 100000
set_option maxHeartbeats 2000000
namespace L2
open PySem PySem.Spec PyProof.Rows
open PySem.W (WData Codec OpenSpec Well WellAll ReadsW ReadsAllW)
/-! ### an answer as data -/
mutual
/-- x stands for the datum d, lists and tuples all the way -/
inductive Dw (K : PySem.W.Frag) (H : Hp) : V → WData → Prop
  | non : Dw K H .non .none
  | bl (b : Bool) : Dw K H (.bl b) (.bool b)
  | int (i : Int) : Dw K H (.int i) (.int i)
  | str (x : Str) : Dw K H (.str x) (.str x)
  | byt (b : Array UInt8) : Dw K H (.byt b) (.bytes b.toList)
  | lst {a : Addr} {xs : List V} {ds : List WData} : SqL K H a xs → DwAll K H xs ds → Dw K H (.ref a) (.list ds)
  | tup {a : Addr} {xs : List V} {ds : List WData} : SqT K H a xs → DwAll K H xs ds → Dw K H (.ref a) (.tuple ds)
inductive DwAll (K : PySem.W.Frag) (H : Hp) : List V → List WData → Prop
  | nil : DwAll K H [] []
  | cons {v : V} {vs : List V} {d : WData} {ds : List WData} : Dw K H v d → DwAll K H vs ds → DwAll K H (v :: vs) (d :: ds)
end
theorem dw_ints {K : PySem.W.Frag} {H : Hp} : ∀ ns : List Int, DwAll K H (ns.map V.int) (ns.map WData.int)
  | [] => .nil
  | n :: r => .cons (.int n) (dw_ints r)
theorem ints_dw {K : PySem.W.Frag} {H : Hp} : ∀ (ns : List Int) (xs : List V), DwAll K H xs (ns.map WData.int) → xs = ns.map V.int
  | [], xs, h => by
    cases h
    rfl
  | n :: r, xs, h => by
    cases h with
    | cons h1 h2 =>
      cases h1
      rw [ints_dw r _ h2] <;> rfl
section
variable {P : Program} {w : World} {K : PySem.W.Frag} {H : Hp} {h : Heap} {R : PySem.W.WRecords} {cl : Str → Option Addr}
theorem sqL_at {a : Addr} {xs : List V} (hok : HOk P w H h) (KX : K.In h) (q : SqL K H a xs) : ∃ (its : List Value) (o : Obj) (n : Nat), Vals xs its ∧ h.get? a = some o ∧ o.cls = .type "list" ∧ o.data = .seq its.toArray n := by
  rcases q with q | ⟨o, its, n, e, hc, _, hd, _, hv⟩
  · obtain ⟨_, its, n, hv, e⟩ := (show ObjOk P w H h a (.lst xs) from q.ok hok)
    exact ⟨its, _, n, hv, e, rfl, rfl⟩
  · exact ⟨its.toList, o, n, hv, KX _ _ e, hc, by simp [hd]⟩
theorem sqT_at {a : Addr} {xs : List V} (hok : HOk P w H h) (KX : K.In h) (q : SqT K H a xs) : ∃ (its : List Value) (o : Obj) (n : Nat), Vals xs its ∧ h.get? a = some o ∧ o.cls = .type "tuple" ∧ o.data = .seq its.toArray n := by
  rcases q with q | ⟨o, its, n, e, hc, hd, _, hv⟩
  · obtain ⟨_, its, hv, o, e, hc, n, hd⟩ := (show ObjOk P w H h a (.tup xs) from q.ok hok)
    exact ⟨its, o, n, hv, e, hc, hd⟩
  · exact ⟨its.toList, o, n, hv, KX _ _ e, hc, by simp [hd]⟩
mutual
theorem Dw.reads (hok : HOk P w H h) (KX : K.In h) : ∀ (d : WData) (v : V) (u : Value), Dw K H v d → RelV v u → ∃ as, ReadsW R cl h u d as
  | .none, _, _, x, r => by
    cases x
    cases r
    exact ⟨_, ReadsW.none⟩
  | .bool b, _, _, x, r => by
    cases x
    cases r
    exact ⟨_, ReadsW.bool b⟩
  | .int i, _, _, x, r => by
    cases x
    obtain ⟨t, rfl⟩ := r
    exact ⟨_, ReadsW.int i t⟩
  | .str s, _, _, x, r => by
    cases x
    obtain ⟨t, rfl⟩ := r
    exact ⟨_, ReadsW.str s t⟩
  | .bytes b, _, _, x, r => by
    cases x
    obtain ⟨t, rfl⟩ := r
    exact ⟨_, ReadsW.bytes _ t⟩
  | .list ds, _, _, x, r => by
    cases x with
    | lst hs ha =>
      cases r
      obtain ⟨its, o, n, rv, ho, hc, hd⟩ := sqL_at hok KX hs
      obtain ⟨as, hr⟩ := Dw.readsAll hok KX ds _ its ha rv
      exact ⟨_, ReadsW.list ho hc hd hr⟩
  | .tuple ds, _, _, x, r => by
    cases x with
    | tup hs ha =>
      cases r
      obtain ⟨its, o, n, rv, ho, hc, hd⟩ := sqT_at hok KX hs
      obtain ⟨as, hr⟩ := Dw.readsAll hok KX ds _ its ha rv
      exact ⟨_, ReadsW.tuple ho hc hd hr⟩
  | .float _, _, _, x, _ => by cases x
  | .dict _, _, _, x, _ => by cases x
  | .bytearray _, _, _, x, _ => by cases x
  | .set _, _, _, x, _ => by cases x
  | .frozenset _, _, _, x, _ => by cases x
  | .obj _ _, _, _, x, _ => by cases x
theorem Dw.readsAll (hok : HOk P w H h) (KX : K.In h) : ∀ (ds : List WData) (vs : List V) (us : List Value), DwAll K H vs ds → Vals vs us → ∃ as, ReadsAllW R cl h us ds as
  | [], _, _, x, r => by
    cases x
    cases r
    exact ⟨_, ReadsAllW.nil⟩
  | d :: ds, _, _, x, r => by
    cases x with
    | cons h1 h2 =>
      cases r with
      | cons r1 r2 =>
        obtain ⟨as, q1⟩ := Dw.reads hok KX d _ _ h1 r1
        obtain ⟨bs, q2⟩ := Dw.readsAll hok KX ds _ _ h2 r2
        exact ⟨_, ReadsAllW.cons q1 q2⟩
end
end
/-! ### the arguments -/
mutual
/-- data that a codec tells -/
noncomputable def plW : WData → Bool
  | .none => true
  | .bool _ => true
  | .int _ => true
  | .str _ => true
  | .bytes _ => true
  | .list xs => plWs xs
  | .tuple xs => plWs xs
  | _ => false
noncomputable def plWs : List WData → Bool
  | [] => true
  | x :: r => plW x && plWs r
end
theorem plWs_map {α : Type} {f : α → WData} (h : ∀ a, plW (f a) = true) : ∀ l : List α, plWs (l.map f) = true
  | [] => rfl
  | x :: r => by
    show (plW (f x) && plWs (r.map f)) = true
    rw [h x, plWs_map h r] <;> rfl
theorem pl_enc : ∀ (c : Codec) (a : c.denote), plW (c.enc a) = true
  | .unit, _ => rfl
  | .bool, _ => rfl
  | .int _ _, _ => rfl
  | .nat _ _, _ => rfl
  | .u8, _ => rfl
  | .bytes _ _, _ => rfl
  | .text _ _ _ _, _ => rfl
  | .list _ _ c, a => plWs_map (fun x => pl_enc c x) a
  | .pair c d, a => by
    show (plW (c.enc a.1) && (plW (d.enc a.2) && true)) = true
    rw [pl_enc c a.1, pl_enc d a.2] <;> rfl
  | .triple c d e, a => by
    show (plW (c.enc a.1) && (plW (d.enc a.2.1) && (plW (e.enc a.2.2) && true))) = true
    rw [pl_enc c a.1, pl_enc d a.2.1, pl_enc e a.2.2] <;> rfl
  | .option c, none => rfl
  | .option c, some x => pl_enc c x
theorem pl_encAll : ∀ (cs : List Codec) (a : Codec.denoteAll cs), plWs (Codec.encAll cs a) = true
  | [], _ => rfl
  | c :: cs, a => by
    show (plW (c.enc a.1) && plWs (Codec.encAll cs a.2)) = true
    rw [pl_enc c a.1, pl_encAll cs a.2] <;> rfl
theorem weight_mem : ∀ {xs : List WData} {d : WData}, d ∈ xs → d.weight ≤ WData.weightAll xs
  | [], d, h => absurd h (by simp)
  | x :: r, d, h => by
    show d.weight ≤ x.weight + 1 + WData.weightAll r
    rcases List.mem_cons.mp h with e | m
    · rw [e]
      omega
    · have z := weight_mem m
      omega
noncomputable def toV : Value → V
  | .none => .non
  | .bool b => .bl b
  | .int i _ => .int i
  | .str x _ => .str x
  | .bytes b _ => .byt b
  | .ref a => .ref a
  | _ => .non
/-- a value of the arguments, its objects among A -/
noncomputable def OkU (A : List Addr) : Value → Prop
  | .none => True
  | .bool _ => True
  | .int _ _ => True
  | .str _ _ => True
  | .bytes _ _ => True
  | .ref a => a ∈ A
  | _ => False
theorem OkU.mono {A B : List Addr} (h : ∀ a ∈ A, a ∈ B) : ∀ {u : Value}, OkU A u → OkU B u := fun {u} x => by
  cases u with
  | ref a => exact h a x
  | none => trivial
  | bool b => trivial
  | int i t => trivial
  | str s t => trivial
  | bytes b t => trivial
  | _ => exact False.elim x
theorem relV_toV {A : List Addr} {u : Value} (x : OkU A u) : RelV (toV u) u := by
  cases u with
  | ref a => rfl
  | none => rfl
  | bool b => rfl
  | int i t => exact ⟨t, rfl⟩
  | str s t => exact ⟨t, rfl⟩
  | bytes b t => exact ⟨t, rfl⟩
  | _ => exact False.elim x
theorem vals_toV {A : List Addr} : ∀ {vs : List Value}, (∀ u ∈ vs, OkU A u) → Vals (vs.map toV) vs
  | [], _ => .nil
  | u :: r, h => .cons (relV_toV (h u (List.mem_cons_self ..))) (vals_toV fun x hx => h x (List.mem_cons_of_mem _ hx))
/-- an object of the arguments -/
noncomputable def ArgOb (h : Heap) (A : List Addr) (a : Addr) : Prop := ∃ vs : List Value, vs.length ≤ sizeLine ∧ (∀ u ∈ vs, OkU A u) ∧
  (h.get? a = some { cls := .type "list", data := .seq vs.toArray } ∨ h.get? a = some { cls := .type "tuple", data := .seq vs.toArray })
theorem ArgOb.mono {h : Heap} {A B : List Addr} {a : Addr} (k : ∀ a ∈ A, a ∈ B) (x : ArgOb h A a) : ArgOb h B a := by
  obtain ⟨vs, h1, h2, h3⟩ := x
  exact ⟨vs, h1, fun u hu => (h2 u hu).mono k, h3⟩
theorem wellAll_len {P : Params} {h : Heap} : ∀ {vs : List Value} {ds : List WData}, WellAll P h vs ds → vs.length = ds.length
  | _, _, .nil => rfl
  | _, _, .cons _ b => by
    show _ + 1 = _ + 1
    rw [wellAll_len b]
theorem well_list {P : Params} {h : Heap} {v : Value} {ds : List WData} (x : Well P h v (.list ds)) : ∃ (a : Addr) (vs : List Value), v = .ref a ∧ h.get? a = some { cls := .type "list", data := .seq vs.toArray } ∧ WellAll P h vs ds := by
  cases x with
  | list ho hall => exact ⟨_, _, rfl, ho, hall⟩
theorem well_tuple {P : Params} {h : Heap} {v : Value} {ds : List WData} (x : Well P h v (.tuple ds)) : ∃ (a : Addr) (vs : List Value), v = .ref a ∧ h.get? a = some { cls := .type "tuple", data := .seq vs.toArray } ∧ WellAll P h vs ds := by
  cases x with
  | tuple ho hall => exact ⟨_, _, rfl, ho, hall⟩
theorem well_cons {P : Params} {h : Heap} {us : List Value} {d : WData} {ds : List WData} (x : WellAll P h us (d :: ds)) : ∃ (v : Value) (vs : List Value), us = v :: vs ∧ Well P h v d ∧ WellAll P h vs ds := by
  cases x with
  | cons a b => exact ⟨_, _, rfl, a, b⟩
theorem line_of {n : Nat} (h : n ≤ 1048576) : n ≤ sizeLine := Nat.le_trans h (by decide)
section
variable {P : Params} {h : Heap}
mutual
theorem area_one : ∀ (d : WData) (v : Value), Well P h v d → plW d = true → d.weight ≤ 1048576 → ∃ A : List Addr, OkU A v ∧ ∀ a ∈ A, ArgOb h A a
  | .none, _, x, _, _ => by
    cases x
    exact ⟨[], trivial, fun a m => absurd m (by simp)⟩
  | .bool b, _, x, _, _ => by
    cases x
    exact ⟨[], trivial, fun a m => absurd m (by simp)⟩
  | .int i, _, x, _, _ => by
    cases x
    exact ⟨[], trivial, fun a m => absurd m (by simp)⟩
  | .str s, _, x, _, _ => by
    cases x
    exact ⟨[], trivial, fun a m => absurd m (by simp)⟩
  | .bytes b, _, x, _, _ => by
    cases x
    exact ⟨[], trivial, fun a m => absurd m (by simp)⟩
  | .list ds, _, x, p, z => by
    obtain ⟨a, vs, rfl, ho, hall⟩ := well_list x
    have z2 : WData.weightAll ds ≤ 1048576 := z
    obtain ⟨A, h1, h2⟩ := area_all ds _ hall p fun d hd => Nat.le_trans (weight_mem hd) z2
    have k : ∀ b ∈ A, b ∈ a :: A := fun b hb => List.mem_cons_of_mem _ hb
    refine ⟨a :: A, List.mem_cons_self .., fun b hb => ?_⟩
    rcases List.mem_cons.mp hb with e | m
    · rw [e]
      exact ⟨vs, line_of (by rw [wellAll_len hall]; exact Nat.le_trans (PySem.W.length_le_weightAllW ds) z2), fun u hu => (h1 u hu).mono k, .inl ho⟩
    · exact (h2 b m).mono k
  | .tuple ds, _, x, p, z => by
    obtain ⟨a, vs, rfl, ho, hall⟩ := well_tuple x
    have z2 : WData.weightAll ds ≤ 1048576 := z
    obtain ⟨A, h1, h2⟩ := area_all ds _ hall p fun d hd => Nat.le_trans (weight_mem hd) z2
    have k : ∀ b ∈ A, b ∈ a :: A := fun b hb => List.mem_cons_of_mem _ hb
    refine ⟨a :: A, List.mem_cons_self .., fun b hb => ?_⟩
    rcases List.mem_cons.mp hb with e | m
    · rw [e]
      exact ⟨vs, line_of (by rw [wellAll_len hall]; exact Nat.le_trans (PySem.W.length_le_weightAllW ds) z2), fun u hu => (h1 u hu).mono k, .inr ho⟩
    · exact (h2 b m).mono k
  | .float _, _, _, p, _ => Bool.noConfusion (show false = true from p)
  | .dict _, _, _, p, _ => Bool.noConfusion (show false = true from p)
  | .bytearray _, _, _, p, _ => Bool.noConfusion (show false = true from p)
  | .set _, _, _, p, _ => Bool.noConfusion (show false = true from p)
  | .frozenset _, _, _, p, _ => Bool.noConfusion (show false = true from p)
  | .obj _ _, _, _, p, _ => Bool.noConfusion (show false = true from p)
theorem area_all : ∀ (ds : List WData) (vs : List Value), WellAll P h vs ds → plWs ds = true → (∀ d ∈ ds, d.weight ≤ 1048576) → ∃ A : List Addr, (∀ u ∈ vs, OkU A u) ∧ ∀ a ∈ A, ArgOb h A a
  | [], _, x, _, _ => by
    cases x
    exact ⟨[], fun u m => absurd m (by simp), fun a m => absurd m (by simp)⟩
  | d :: ds, _, x, p, z => by
    obtain ⟨v, vs, rfl, x1, x2⟩ := well_cons x
    have q : plW d = true ∧ plWs ds = true := Bool.and_eq_true_iff.mp p
    obtain ⟨A, a1, a2⟩ := area_one d v x1 q.1 (z d (List.mem_cons_self ..))
    obtain ⟨B, b1, b2⟩ := area_all ds vs x2 q.2 fun e he => z e (List.mem_cons_of_mem _ he)
    have kA : ∀ b ∈ A, b ∈ A ++ B := fun b hb => List.mem_append.mpr (.inl hb)
    have kB : ∀ b ∈ B, b ∈ A ++ B := fun b hb => List.mem_append.mpr (.inr hb)
    refine ⟨A ++ B, fun u hu => ?_, fun b hb => ?_⟩
    · rcases List.mem_cons.mp hu with e | m
      · rw [e]
        exact a1.mono kA
      · exact (b1 u m).mono kB
    · rcases List.mem_append.mp hb with m | m
      · exact (a2 b m).mono kA
      · exact (b2 b m).mono kB
end
end
/-- what is tracked of an argument's object -/
noncomputable def hoOf (o : Obj) : Option HO := match o.data with
  | .seq vs _ => if (o.cls == Value.type "list") = true then some (.frz o (.lst (vs.toList.map toV))) else some (.frz o (.tup (vs.toList.map toV)))
  | _ => none
noncomputable def argH (K : PySem.W.Frag) (h : Heap) (A : List Addr) : Hp := fun b => if b ∈ A then (if (K.lookup b).isNone = true then (h.get? b).bind hoOf else none) else none
/-- nothing is tracked but what is known to the object -/
noncomputable def OnlyF (H : Hp) : Prop := ∀ b, H b = none ∨ ∃ o u, H b = some (.frz o u)
theorem hoOf_lst (vs : List Value) : hoOf { cls := .type "list", data := .seq vs.toArray } = some (.frz { cls := .type "list", data := .seq vs.toArray } (.lst (vs.map toV))) := by
  show (if (Value.type "list" == Value.type "list") = true then some (HO.frz { cls := .type "list", data := .seq vs.toArray } (.lst (vs.toArray.toList.map toV))) else some (HO.frz { cls := .type "list", data := .seq vs.toArray } (.tup (vs.toArray.toList.map toV)))) = _
  rw [if_pos (beq_self_eq_true _)]
theorem hoOf_tup (vs : List Value) : hoOf { cls := .type "tuple", data := .seq vs.toArray } = some (.frz { cls := .type "tuple", data := .seq vs.toArray } (.tup (vs.map toV))) := by
  show (if (Value.type "tuple" == Value.type "list") = true then some (HO.frz { cls := .type "tuple", data := .seq vs.toArray } (.lst (vs.toArray.toList.map toV))) else some (HO.frz { cls := .type "tuple", data := .seq vs.toArray } (.tup (vs.toArray.toList.map toV)))) = _
  rw [if_neg (by decide)]
section
variable {P : Program} {w : World} {K : PySem.W.Frag} {h : Heap} {A : List Addr}
theorem argH_at {b : Addr} {o : Obj} (hb : b ∈ A) (hk : K.lookup b = none) (e : h.get? b = some o) : argH K h A b = hoOf o := by
  unfold argH
  rw [if_pos hb, hk, if_pos (show (none : Option Obj).isNone = true from rfl), e] <;> rfl
theorem of_argH {b : Addr} {u : HO} (q : argH K h A b = some u) : b ∈ A ∧ K.lookup b = none := by
  unfold argH at q
  by_cases hb : b ∈ A
  · rw [if_pos hb] at q
    cases hk : K.lookup b with
    | none => exact ⟨hb, rfl⟩
    | some o =>
      rw [hk, if_neg (by simp)] at q
      cases q
  · rw [if_neg hb] at q
    cases q
/-- what stands tracked -/
theorem argH_is (ar : ∀ a ∈ A, ArgOb h A a) {b : Addr} {u : HO} (q : argH K h A b = some u) : K.lookup b = none ∧ ∃ vs : List Value, vs.length ≤ sizeLine ∧ (∀ u ∈ vs, OkU A u) ∧
    ((h.get? b = some { cls := .type "list", data := .seq vs.toArray } ∧ u = .frz { cls := .type "list", data := .seq vs.toArray } (.lst (vs.map toV))) ∨
     (h.get? b = some { cls := .type "tuple", data := .seq vs.toArray } ∧ u = .frz { cls := .type "tuple", data := .seq vs.toArray } (.tup (vs.map toV)))) := by
  obtain ⟨hb, hk⟩ := of_argH q
  obtain ⟨vs, h1, h2, h3⟩ := ar b hb
  refine ⟨hk, vs, h1, h2, ?_⟩
  rcases h3 with e | e
  · rw [argH_at hb hk e, hoOf_lst] at q
    exact .inl ⟨e, (Option.some.inj q).symm⟩
  · rw [argH_at hb hk e, hoOf_tup] at q
    exact .inr ⟨e, (Option.some.inj q).symm⟩
theorem argH_only (ar : ∀ a ∈ A, ArgOb h A a) : OnlyF (argH K h A) := fun b => by
  cases q : argH K h A b with
  | none => exact .inl rfl
  | some u =>
    obtain ⟨_, vs, _, _, ⟨_, e⟩ | ⟨_, e⟩⟩ := argH_is ar q
    · exact .inr ⟨_, _, by rw [e]⟩
    · exact .inr ⟨_, _, by rw [e]⟩
theorem argH_ok (ar : ∀ a ∈ A, ArgOb h A a) : HOk P w (argH K h A) h := fun b u q => by
  obtain ⟨_, vs, h1, h2, ⟨e, rfl⟩ | ⟨e, rfl⟩⟩ := argH_is ar q
  · exact ⟨e, by rw [List.length_map]; exact h1, vs, _, vals_toV h2, e⟩
  · exact ⟨e, by rw [List.length_map]; exact h1, vs, vals_toV h2, _, e, rfl, _, rfl⟩
theorem seq_inj {c c' : Value} {vs us : List Value} (e : (some { cls := c, data := .seq vs.toArray } : Option Obj) = some { cls := c', data := .seq us.toArray }) : c = c' ∧ vs = us := by
  have e1 := Option.some.inj e
  have e2 : c = c' := congrArg Obj.cls e1
  have e3 : Data.seq vs.toArray = Data.seq us.toArray := congrArg Obj.data e1
  injection e3 with e4
  refine ⟨e2, ?_⟩
  have e5 := congrArg Array.toList e4
  simpa using e5
/-- a list argument -/
theorem argL (KX : K.In h) (ar : ∀ a ∈ A, ArgOb h A a) {a : Addr} {vs : List Value} (ha : a ∈ A) (e : h.get? a = some { cls := .type "list", data := .seq vs.toArray }) : (∀ u ∈ vs, OkU A u) ∧ SqL K (argH K h A) a (vs.map toV) := by
  obtain ⟨us, h1, h2, h3⟩ := ar a ha
  have hu : us = vs := by
    rcases h3 with q | q
    · rw [e] at q
      exact (seq_inj q).2.symm
    · rw [e] at q
      exact absurd (Value.type.inj (seq_inj q).1) (by decide)
  subst hu
  refine ⟨h2, ?_⟩
  cases hk : K.lookup a with
  | none => exact .inl (.inr ⟨_, by rw [argH_at ha hk e, hoOf_lst]⟩)
  | some o =>
    have e2 := KX a o hk
    rw [e] at e2
    obtain rfl := Option.some.inj e2
    exact .inr ⟨_, us.toArray, _, hk, rfl, rfl, rfl, by rw [List.size_toArray]; exact h1, by simpa using vals_toV h2⟩
theorem argT (KX : K.In h) (ar : ∀ a ∈ A, ArgOb h A a) {a : Addr} {vs : List Value} (ha : a ∈ A) (e : h.get? a = some { cls := .type "tuple", data := .seq vs.toArray }) : (∀ u ∈ vs, OkU A u) ∧ SqT K (argH K h A) a (vs.map toV) := by
  obtain ⟨us, h1, h2, h3⟩ := ar a ha
  have hu : us = vs := by
    rcases h3 with q | q
    · rw [e] at q
      exact absurd (Value.type.inj (seq_inj q).1) (by decide)
    · rw [e] at q
      exact (seq_inj q).2.symm
  subst hu
  refine ⟨h2, ?_⟩
  cases hk : K.lookup a with
  | none => exact .inl (.inr ⟨_, by rw [argH_at ha hk e, hoOf_tup]⟩)
  | some o =>
    have e2 := KX a o hk
    rw [e] at e2
    obtain rfl := Option.some.inj e2
    exact .inr ⟨_, us.toArray, _, hk, rfl, rfl, by rw [List.size_toArray]; exact h1, by simpa using vals_toV h2⟩
mutual
theorem dw_one {Pm : Params} (KX : K.In h) (ar : ∀ a ∈ A, ArgOb h A a) : ∀ (d : WData) (v : Value), Well Pm h v d → plW d = true → OkU A v → Dw K (argH K h A) (toV v) d
  | .none, _, x, _, _ => by
    cases x
    exact .non
  | .bool b, _, x, _, _ => by
    cases x
    exact .bl b
  | .int i, _, x, _, _ => by
    cases x
    exact .int i
  | .str s, _, x, _, _ => by
    cases x
    exact .str s
  | .bytes b, _, x, _, _ => by
    cases x
    have z := Dw.byt (K := K) (H := argH K h A) b.toArray
    exact z
  | .list ds, _, x, p, hu => by
    obtain ⟨a, vs, rfl, ho, hall⟩ := well_list x
    obtain ⟨h2, hs⟩ := argL KX ar hu ho
    exact .lst hs (dw_all KX ar ds _ hall p h2)
  | .tuple ds, _, x, p, hu => by
    obtain ⟨a, vs, rfl, ho, hall⟩ := well_tuple x
    obtain ⟨h2, hs⟩ := argT KX ar hu ho
    exact .tup hs (dw_all KX ar ds _ hall p h2)
  | .float _, _, _, p, _ => Bool.noConfusion (show false = true from p)
  | .dict _, _, _, p, _ => Bool.noConfusion (show false = true from p)
  | .bytearray _, _, _, p, _ => Bool.noConfusion (show false = true from p)
  | .set _, _, _, p, _ => Bool.noConfusion (show false = true from p)
  | .frozenset _, _, _, p, _ => Bool.noConfusion (show false = true from p)
  | .obj _ _, _, _, p, _ => Bool.noConfusion (show false = true from p)
theorem dw_all {Pm : Params} (KX : K.In h) (ar : ∀ a ∈ A, ArgOb h A a) : ∀ (ds : List WData) (vs : List Value), WellAll Pm h vs ds → plWs ds = true → (∀ u ∈ vs, OkU A u) → DwAll K (argH K h A) (vs.map toV) ds
  | [], _, x, _, _ => by
    cases x
    exact .nil
  | d :: ds, _, x, p, hu => by
    obtain ⟨v, vs, rfl, x1, x2⟩ := well_cons x
    have q : plW d = true ∧ plWs ds = true := Bool.and_eq_true_iff.mp p
    exact .cons (dw_one KX ar d v x1 q.1 (hu _ (List.mem_cons_self ..))) (dw_all KX ar ds vs x2 q.2 fun u m => hu u (List.mem_cons_of_mem _ m))
end
end
/-! ### the call -/
theorem spec_call {P : Program} {w : World} {K : PySem.W.Frag} {mg mb : Str → Option Value} {CX : CXT} {k : Nat} {fa : Addr} {fd : FuncData} {ps : List Str} {sp : Sp} {s₁ : Shared} {vals : List Value} {ds : List WData} {R : PySem.W.WRecords} {cl : Str → Option Addr} {d0 : WData}
    (KX : K.In s₁.heap) (hns : s₁.heap.Ns mainGlobals mg) (hb : s₁.heap.Ns builtinsNs mb) (hbb : ∀ x : Str, x ≠ "__name__" → mb x = bootBuiltins x) (hlim : s₁.heap.NoLimit) (hg : s₁.gens = #[])
    (hwl : WellAll w.params s₁.heap vals ds) (hpl : plWs ds = true) (hwt : ∀ d ∈ ds, d.weight ≤ 1048576) (hr : Room k callerA)
    (F : ∀ base : Heap, K.In base → base.Ns mainGlobals mg → FnOk P w K mg base CX k fa fd ps sp) (hbind : ∀ (s : Shared) (us : List Value), us.length = ps.length → BindsTo s fd ⟨us, []⟩ (ps.zip us)) (hlen : ds.length = ps.length)
    (hsp : ∀ (H : Hp) (xs : List V), OnlyF H → DwAll K H xs ds → sp xs H (fun v H' => Dw K H' v d0) fun _ _ _ => False)
    (hCX : ∀ H e s', CX [] H s₁ (fun _ _ _ => False) e s' → False) :
    codeAny (model P w) callerA (.call (.ref fa) ⟨vals, []⟩) (fun r s' => ∃ u as, r = .ok (.ret u) ∧ ReadsW R cl s'.heap u d0 as ∧ OldK s₁.heap s'.heap ∧ s'.os = s₁.os ∧ AllBare s'.gens) s₁ := by
  obtain ⟨A, ho, ar⟩ := area_all ds vals hwl hpl hwt
  have hO : OnlyF (argH K s₁.heap A) := argH_only ar
  have hok : HOk P w (argH K s₁.heap A) s₁.heap := argH_ok ar
  have hS := dw_all KX ar ds vals hwl hpl ho
  have hV := vals_toV ho
  have hK : ∀ b u, argH K s₁.heap A b = some u → K.lookup b = none := fun b u q => (argH_is ar q).1
  have noA : ∀ {b : Addr} {o : Obj} {es : Array DictEntry} {ep : Nat}, s₁.heap.get? b = some o → o.data = .dict es ep → argH K s₁.heap A b = none := fun {b o es ep} e d => by
    cases q : argH K s₁.heap A b with
    | none => rfl
    | some u =>
      obtain ⟨_, vs, _, _, ⟨e2, _⟩ | ⟨e2, _⟩⟩ := argH_is ar q
      · rw [e2] at e
        cases e
        have d' : Data.seq vs.toArray _ = Data.dict es ep := d
        cases d'
      · rw [e2] at e
        cases e
        have d' : Data.seq vs.toArray _ = Data.dict es ep := d
        cases d'
  generalize argH K s₁.heap A = H at hO hok hS hK noA
  have base_of : ∀ {b : Addr} {o : Obj}, s₁.heap.get? b = some o → H b = none → (hidT s₁.heap H).get? b = some o := fun e n => hidT_get e n
  have nsK : ∀ {b : Addr} {m : Str → Option Value}, s₁.heap.Ns b m → (hidT s₁.heap H).Ns b m := fun {b m} ⟨o, es, ep, e, d, r⟩ => ⟨o, es, ep, base_of e (noA e d), d, r⟩
  have nK : ∀ b o, K.lookup b = some o → H b = none := fun b o e => by
    cases q : H b with
    | none => rfl
    | some u =>
      rw [hK b u q] at e
      cases e
  have hKb : K.In (hidT s₁.heap H) := fun b o e => base_of (KX b o e) (nK b o e)
  have hM : Mod K mg (hidT s₁.heap H) := ⟨hKb, nsK hns, ⟨mb, nsK hb, hbb⟩, let ⟨mc, h1, h2⟩ := hlim; ⟨mc, nsK h1, h2⟩⟩
  have e0 : Env0 P w K mg (hidT s₁.heap H) callerA [] s₁ H := ⟨rfl, hM, fun b o e => of_hidT e, Nat.le_of_eq (hidT_size _ _), trivial, fun b hb => absurd (show b ∈ ([] : List Addr) from hb) (by simp), hok, .of_eq hg⟩
  have hl : vals.length = ps.length := by rw [wellAll_len hwl]; exact hlen
  refine codeAny_mono ((F _ hKb (nsK hns)).run callerA [] s₁ H ⟨vals, []⟩ vals (vals.map toV) _ _ hr e0 (hbind s₁ vals hl) hV (hsp H _ hO hS)) fun r s' x => ?_
  cases r with
  | error e => exact (hCX H e s' x).elim
  | ok fl =>
    cases fl with
    | next => exact False.elim x
    | brk => exact False.elim x
    | cont => exact False.elim x
    | ret u =>
      obtain ⟨v, H', os, bare, un, hok', r', q⟩ := x
      have kept : ∀ b o, s₁.heap.get? b = some o → s'.heap.get? b = some o := fun b o e => by
        cases q2 : H b with
        | none => exact un.keep b o e q2 (by intro z; exact absurd (show b ∈ ([] : List Addr) from z) (by simp)) (by simp)
        | some u2 =>
          rcases hO b with z | ⟨ob, u3, z⟩
          · rw [q2] at z
            cases z
          · have z2 := un.frzs b ob _ z
            obtain ⟨e1, _⟩ := hok b _ z
            obtain ⟨e2, _⟩ := hok' b _ z2
            rw [e] at e1
            cases e1
            exact e2
      have KX' : K.In s'.heap := fun b o e => kept b o (KX b o e)
      obtain ⟨as, hrd⟩ := Dw.reads (R := R) (cl := cl) hok' KX' d0 v u q r'
      exact ⟨u, as, rfl, hrd, OldK.of_keep kept, os, bare⟩
/-! ### the row -/
theorem layable_weight {ds : List WData} (h : WData.layableAll ds = true) : ∀ d ∈ ds, d.weight ≤ 1048576 := fun d hd =>
  (PySem.W.layableW_iff.mp (List.all_eq_true.mp h d hd)).2.2
theorem encAll_len : ∀ (cs : List Codec) (a : Codec.denoteAll cs), (Codec.encAll cs a).length = cs.length
  | [], _ => rfl
  | c :: cs, a => by
    show (Codec.encAll cs a.2).length + 1 = cs.length + 1
    rw [encAll_len cs a.2]
/-- the goal that k_headS leaves (case hc), from the promise of the row's def: whatever the arguments that the codecs let and the row asks for, the def gives what stands for enc (f ..) -/
theorem walk_spec {r : OpenSpec} {k : Nat} {q : Program} {loose : List Str} {XP : (Str → Option Value) → Heap → Prop} {YP : World → Heap → Prop} {d : DefRec} {K : Params → PySem.W.Frag} {CX : World → CXT} {ps : List Str} {sp : World → Sp}
    (hwell : r.wellSaid = true) (hdf : d.params.defaults = []) (hlen : r.args.length = ps.length) (hr : Room k callerA)
    (hY : ∀ (w : World) (h : Heap), YP w h → (K w.params).In h)
    (F : ∀ (w : World) (mg : Str → Option Value) (fa : Addr) (h : Heap), YP w h → (K w.params).In h → h.Ns mainGlobals mg → mg d.name = some (.ref fa) →
      ∃ fd : FuncData, (∀ (s : Shared) (us : List Value), us.length = ps.length → BindsTo s fd ⟨us, []⟩ (ps.zip us)) ∧
        ∀ base : Heap, (K w.params).In base → base.Ns mainGlobals mg → FnOk r.prog w (K w.params) mg base (CX w) k fa fd ps (sp w))
    (hsp : ∀ (w : World) (H : Hp) (xs : List V) (a : Codec.denoteAll r.args), OnlyF H → Codec.withinAll r.args a = true → Codec.app r.args r.asked a = true → DwAll (K w.params) H xs (Codec.encAll r.args a) →
      sp w xs H (fun v H' => Dw (K w.params) H' v (r.ret.enc (Codec.app r.args r.f a))) fun _ _ _ => False)
    (hCX : ∀ (w : World) (H : Hp) (s : Shared) (e : Value) (s' : Shared), CX w [] H s (fun _ _ _ => False) e s' → False) :
    PySem.W.WalkOS q loose XP YP r d [] (fun f vs => PySem.call f vs) := by
  intro w s_0 s₁ mg mb G Y fa o pm cd doc dV kV ho hd hcd hD hmg hg args vals as hpre hlay hrd hwl hlo
  obtain ⟨a, e1, e2⟩ := PySem.W.os_pre_some hpre
  obtain ⟨e3, hwi⟩ := Codec.encAll_of_decAll r.args args a e1
  subst e3
  have KX := hY w _ Y
  obtain ⟨fd, hb, hF⟩ := F w mg fa _ Y KX G.T.g hmg
  refine PySem.W.enter_call (codeAny_mono (spec_call (R := []) (cl := classAt s_0.heap) (d0 := r.ret.enc (Codec.app r.args r.f a)) KX G.T.g G.T.b G.T.builtins G.T.nolimit hg hwl (pl_encAll _ _) (layable_weight hlay) hr hF hb (by rw [encAll_len]; exact hlen)
    (fun H xs hO hS => hsp w H xs a hO hwi e2 hS) fun H e s' => hCX w H s₁ e s') fun r' s' hq => ?_)
  obtain ⟨u, as', rfl, h1, h2, h3, h4⟩ := hq
  exact ⟨.inl ⟨u, _, as', rfl, fun _ => rfl, h1, (OpenSpec.post_iff hwell hwi _ _).mpr rfl, fun z => Bool.noConfusion (show false = true from z)⟩, h2, h3, h4⟩
/-- the same where the promise hangs on the written part alone -/
theorem walk_specK {r : OpenSpec} {k : Nat} {q : Program} {loose : List Str} {XP : (Str → Option Value) → Heap → Prop} {YP : World → Heap → Prop} {d : DefRec} {K : Params → PySem.W.Frag} {CX : CXT} {ps : List Str} {sp : PySem.W.Frag → Sp}
    (hwell : r.wellSaid = true) (hdf : d.params.defaults = []) (hlen : r.args.length = ps.length) (hr : Room k callerA)
    (hY : ∀ (w : World) (h : Heap), YP w h → (K w.params).In h)
    (F : ∀ (w : World) (mg : Str → Option Value) (fa : Addr) (h : Heap), YP w h → (K w.params).In h → h.Ns mainGlobals mg → mg d.name = some (.ref fa) →
      ∃ fd : FuncData, (∀ (s : Shared) (us : List Value), us.length = ps.length → BindsTo s fd ⟨us, []⟩ (ps.zip us)) ∧
        ∀ base : Heap, (K w.params).In base → base.Ns mainGlobals mg → FnOk r.prog w (K w.params) mg base CX k fa fd ps (sp (K w.params)))
    (hsp : ∀ (K : PySem.W.Frag) (H : Hp) (xs : List V) (a : Codec.denoteAll r.args), OnlyF H → Codec.withinAll r.args a = true → Codec.app r.args r.asked a = true → DwAll K H xs (Codec.encAll r.args a) →
      sp K xs H (fun v H' => Dw K H' v (r.ret.enc (Codec.app r.args r.f a))) fun _ _ _ => False)
    (hCX : ∀ (H : Hp) (s : Shared) (e : Value) (s' : Shared), CX [] H s (fun _ _ _ => False) e s' → False) :
    PySem.W.WalkOS q loose XP YP r d [] (fun f vs => PySem.call f vs) :=
  walk_spec (K := K) (CX := fun _ => CX) (sp := fun w => sp (K w.params)) hwell hdf hlen hr hY F (fun w H xs a h1 h2 h3 h4 => hsp (K w.params) H xs a h1 h2 h3 h4) fun _ H s e s' => hCX H s e s'
end L2
-- rests on (row put in by the clerk, for the bench that shows a file only what it spells): KE.SpHead KE.OsShapes
end
end
section
set_option Elab.async false
set_option linter.all false
set_option bootstrap.genMatcherCode false
set_option genSizeOf false
set_option maxRecDepth 100000
set_option maxHeartbeats 4000000
/-! zip of two tuples: the walk of one turn, its end, the making, and the rule for a for loop's head -/
namespace Zt
open PySem PySem.Spec PyProof.Rows L2
/-- a tuple iterator at place i, and the tuple that it walks -/
structure On (h : Heap) (it t : Addr) (i : Nat) (xs : Array Value) : Prop where
  at_ : h.IsTupleIter it t i
  is : h.IsTuple t xs
theorem On.past {h h' : Heap} {it t b : Addr} {i : Nat} {xs : Array Value} (o : On h it t i xs) (e : Heap.ExtBut b h h') (h1 : it ≠ b) (h2 : t ≠ b) : On h' it t i xs := ⟨o.at_.extBut e h1, o.is.extBut e h2⟩
section
variable {prog : Program} {w : World} {A : Around} {E : Value → Shared → Prop} {s : Shared}
theorem draw1 {it t : Addr} {i : Nat} {xs : Array Value} {x : Value} {Q : Value → Shared → Prop} (o : On s.heap it t i xs) (hx : xs[i]? = some x) (hne : t ≠ it)
    (q : ∀ h', On h' it t (i + 1) xs → Heap.SameBut it s.heap h' → Q x { s with heap := h' }) : wpAny (model prog w) A (Builtin.SmallTypes.nextOf (.ref it)) Q E s := by
  obtain ⟨ob, ho, hc, hd⟩ := id o.at_
  obtain ⟨ol, hol, _, nl, hdl⟩ := id o.is
  unfold Builtin.SmallTypes.nextOf
  have ht := o.at_.typeIs
  refine wpAny_bind (wpAny_callSpecial?_slot (name := Str.ofString "__next__") ht F.slot_tuple_iterator_next (wpAny_call_entry F.slot_tuple_iterator_next ht F.entry_tuple_iterator_next ?_ (F.args_tuple_iterator_next_1 _)))
  show wpAny _ _ (field (.ref it) 0 >>= _) _ _ s
  refine wpAny_bind (wpAny_field ho hd (x := .ref t) rfl ?_); show wpAny _ _ (if (Value.ref t == Value.none) = true then _ else _) _ _ s
  rw [if_neg (show ¬ ((Value.ref t == Value.none) = true) from Bool.false_ne_true)]; show wpAny _ _ (field (.ref it) 1 >>= _) _ _ s
  refine wpAny_bind (wpAny_field ho hd (x := .int i 0) rfl ?_); show wpAny _ _ (seqItems? (.ref t) >>= _) _ _ s
  refine wpAny_bind (wpAny_seqItems hol hdl ?_)
  simp only [Int.toNat_natCast, hx]
  refine wpAny_bind (wpAny_setField ho hd (by simp) (wpAny_pure ⟨x, rfl, wpAny_pure (q _ ⟨?_, o.is.extBut (Heap.SameBut.update ..).extBut hne⟩ (Heap.SameBut.update ..))⟩))
  exact ⟨_, Heap.get?_update_self _ ho (Obj.isFreed_of_fields (Obj.data_mapFields hd _)), (Obj.cls_mapFields ..).trans hc, by rw [Obj.data_mapFields hd]; simp [rawInt]⟩
theorem draw0 {it t : Addr} {i : Nat} {xs : Array Value} {Q : Value → Shared → Prop} (hh : A.handled = none) (o : On s.heap it t i xs) (hx : xs[i]? = none)
    (q : ∀ h' e, Heap.ExtBut it s.heap h' → (∃ ob, h'.get? e = some ob ∧ ob.cls = .type "StopIteration") → E (.ref e) { s with heap := h' }) : wpAny (model prog w) A (Builtin.SmallTypes.nextOf (.ref it)) Q E s := by
  obtain ⟨ob, ho, hc, hd⟩ := id o.at_
  obtain ⟨ol, hol, _, nl, hdl⟩ := id o.is
  unfold Builtin.SmallTypes.nextOf
  have ht := o.at_.typeIs
  refine wpAny_bind (wpAny_callSpecial?_slot (name := Str.ofString "__next__") ht F.slot_tuple_iterator_next (wpAny_call_entry F.slot_tuple_iterator_next ht F.entry_tuple_iterator_next ?_ (F.args_tuple_iterator_next_1 _)))
  show wpAny _ _ (field (.ref it) 0 >>= _) _ _ s
  refine wpAny_bind (wpAny_field ho hd (x := .ref t) rfl ?_); show wpAny _ _ (if (Value.ref t == Value.none) = true then _ else _) _ _ s
  rw [if_neg (show ¬ ((Value.ref t == Value.none) = true) from Bool.false_ne_true)]; show wpAny _ _ (field (.ref it) 1 >>= _) _ _ s
  refine wpAny_bind (wpAny_field ho hd (x := .int i 0) rfl ?_); show wpAny _ _ (seqItems? (.ref t) >>= _) _ _ s
  refine wpAny_bind (wpAny_seqItems hol hdl ?_)
  simp only [Int.toNat_natCast, hx]
  refine wpAny_bind (wpAny_rule (wpAny_bind (wpAny_setField ho hd (by simp) ?_))); show wpAny _ _ (newExc (.type "StopIteration") [] >>= _) _ _ _
  refine wpAny_bind ?_; simp only [newExc, newTuple]
  refine wpAny_bind (wpAny_newObj_type ?_ (by size_fits)); refine wpAny_bind (m := firstArgMember _ _) (wpAny_of_eq (a := Value.none) (by first | rfl | (simp only [firstArgMember]; rfl)) ?_)
  refine wpAny_newObj_type ?_ (by size_fits); simp only [raiseNew]
  refine wpAny_bind (wpAny_handled ?_); first | rw [show A.in1.handled = none from hh] | rw [hh]
  refine wpAny_bind (wpAny_pure (wpAny_throw ?_)); exact q _ _ (((Heap.SameBut.update ..).extBut.push _).push _) ⟨_, Heap.get?_push_size _ rfl, rfl⟩
variable {z TI TO i1 i2 l1 l2 : Addr} {k1 k2 : Nat} {xs ys : Array Value} {x y a b : Value}
theorem next1 {Q : Value → Shared → Prop} (D : ZipApart z TI TO i1 i2 l1 l2) (hz : IsZip s.heap z TI TO .none) (hTI : IsPair s.heap TI (.ref i1) (.ref i2)) (hTO : IsPair s.heap TO a b)
    (o1 : On s.heap i1 l1 k1 xs) (o2 : On s.heap i2 l2 k2 ys) (hx : xs[k1]? = some x) (hy : ys[k2]? = some y)
    (q : ∀ h', IsZip h' z TI TO (rawInt s.heap.objs.size) → IsPair h' TO x y → On h' i1 l1 (k1 + 1) xs → On h' i2 l2 (k2 + 1) ys → IsPair h' s.heap.objs.size x y → h'.objs.size = s.heap.objs.size + 1 →
      (∀ c o, c ≠ z → c ≠ TO → c ≠ i1 → c ≠ i2 → s.heap.get? c = some o → h'.get? c = some o) → Q (.ref s.heap.objs.size) { s with heap := h' }) :
    wpAny (model prog w) A (Builtin.«zip.__next__» ⟨[.ref z], []⟩) (fun fin s' => ∃ v, fin = .done (.ret v) ∧ Q v s') E s := by
  show wpAny _ _ (field (.ref z) 2 >>= _) _ _ _
  refine wpAny_bind (wpAny_field hz rfl (x := .bool false) rfl ?_); show wpAny _ _ (field (.ref z) 3 >>= _) _ _ _
  refine wpAny_bind (wpAny_field hz rfl (x := .ref TI) rfl ?_); refine wpAny_bind (wpAny_seqItems hTI rfl ?_)
  show wpAny _ _ (Builtin.SmallTypes.ownedTupleIsFree (.ref z) >>= _) _ _ _
  refine wpAny_bind ?_; unfold Builtin.SmallTypes.ownedTupleIsFree
  refine wpAny_bind (wpAny_field hz rfl (x := .none) rfl (wpAny_pure ?_)); simp only [if_true]
  refine wpAny_bind (wpAny_rule ?_); refine wpAny_bind (wpAny_field hz rfl (x := .ref TO) rfl ?_)
  refine wpAny_bind (wpAny_setField_rec hz (by simp) fun g1 z1 e1 => ?_); replace z1 : IsZip g1 z TI TO .ellipsis := z1
  refine wpAny_bind ?_; simp only [List.zipIdx_cons, List.zipIdx_nil, List.forIn_cons, List.forIn_nil]
  -- the first tuple's item
  refine wpAny_bind (wpAny_bind (wpAny_onRaise ?_)); show wpAny _ _ (Builtin.SmallTypes.nextOf (.ref i1) >>= _) _ _ _
  refine wpAny_bind (draw1 (o1.past e1.extBut D.i1z D.l1z) hx D.l1i1 fun g2 p2 e2 => wpAny_pure ?_)
  have t2 : IsPair g2 TO a b := e2.extBut _ _ D.TOi1 (e1.extBut _ _ D.TOz hTO)
  refine wpAny_bind (wpAny_seqItems t2 rfl ?_); refine wpAny_bind (wpAny_updateSeq_pair t2 fun g3 t3 e3 => ?_)
  replace t3 : IsPair g3 TO x b := t3
  refine wpAny_bind (wpAny_letGo (wpAny_pure ?_))
  -- the second's
  refine wpAny_bind (wpAny_bind (wpAny_onRaise ?_)); show wpAny _ _ (Builtin.SmallTypes.nextOf (.ref i2) >>= _) _ _ _
  refine wpAny_bind (draw1 (((o2.past e1.extBut D.i2z D.l2z).past e2.extBut D.i12.symm D.l2i1).past e3.extBut D.TOi2.symm D.l2TO) hy D.l2i2 fun g4 p4 e4 => wpAny_pure ?_)
  have t4 : IsPair g4 TO x b := e4.extBut _ _ D.TOi2 t3
  refine wpAny_bind (wpAny_seqItems t4 rfl ?_); refine wpAny_bind (wpAny_updateSeq_pair t4 fun g5 t5 e5 => ?_)
  replace t5 : IsPair g5 TO x y := t5
  refine wpAny_bind (wpAny_letGo (wpAny_pure (wpAny_pure ?_)))
  -- the pair that is handed out
  refine wpAny_bind (wpAny_seqItems t5 rfl ?_); refine wpAny_bind (wpAny_newTuple ?_)
  have sz : g5.objs.size = s.heap.objs.size := by rw [e5.1, e4.1, e3.1, e2.1, e1.1]
  have z5 : IsZip g5 z TI TO .ellipsis := e5.extBut _ _ D.TOz.symm (e4.extBut _ _ D.i2z.symm (e3.extBut _ _ D.TOz.symm (e2.extBut _ _ D.i1z.symm z1)))
  have k5 : ∀ c o, c ≠ z → c ≠ TO → c ≠ i1 → c ≠ i2 → s.heap.get? c = some o → g5.get? c = some o := fun c o c1 c2 c3 c4 e => e5.extBut _ _ c2 (e4.extBut _ _ c4 (e3.extBut _ _ c2 (e2.extBut _ _ c3 (e1.extBut _ _ c1 e))))
  have p15 : On g5 i1 l1 (k1 + 1) xs := ((p2.past e3.extBut D.TOi1.symm D.l1TO).past e4.extBut D.i12 D.l1i2).past e5.extBut D.TOi1.symm D.l1TO
  have p25 : On g5 i2 l2 (k2 + 1) ys := p4.past e5.extBut D.TOi2.symm D.l2TO
  have zl : z < g5.objs.size := Heap.lt_size z5
  show wpAny _ _ (Builtin.SmallTypes.ownedTupleHandOut (.ref z) (.ref g5.objs.size) >>= _) _ _ _
  refine wpAny_bind ?_; unfold Builtin.SmallTypes.ownedTupleHandOut
  have z6 : IsZip (g5.push { cls := .type "tuple", data := .seq #[x, y] }) z TI TO .ellipsis := Heap.get?_push_of_some _ z5
  refine wpAny_bind (wpAny_setField_rec z6 (by simp) fun g7 z7 e7 => ?_); replace z7 : IsZip g7 z TI TO (rawInt g5.objs.size) := z7
  refine wpAny_setField_rec z7 (by simp) fun g8 z8 e8 => ?_; replace z8 : IsZip g8 z TI TO (rawInt g5.objs.size) := z8
  have up : ∀ c o, c ≠ z → g5.get? c = some o → g8.get? c = some o := fun c o c1 e => e8.extBut _ _ c1 (e7.extBut _ _ c1 (Heap.get?_push_of_some _ e))
  have t8 : IsPair g8 g5.objs.size x y := e8.extBut _ _ (Nat.ne_of_gt zl) (e7.extBut _ _ (Nat.ne_of_gt zl) (Heap.get?_push_size _ rfl))
  have s8 : g8.objs.size = g5.objs.size + 1 := by rw [e8.1, e7.1, Heap.size_push]
  have on8 : ∀ {it t : Addr} {k : Nat} {vs : Array Value}, On g5 it t k vs → it ≠ z → t ≠ z → On g8 it t k vs := fun o h1 h2 =>
    ⟨o.at_.at fun ob e => up _ ob h1 e, let ⟨ob, e, r⟩ := o.is; ⟨ob, up _ ob h2 e, r⟩⟩
  rw [sz] at z8 t8 s8
  refine wpAny_pure ⟨_, rfl, ?_⟩; show Q (.ref g5.objs.size) _
  rw [sz]
  exact q g8 z8 (up _ _ D.TOz t5) (on8 p15 D.i1z D.l1z) (on8 p25 D.i2z D.l2z) t8 s8 fun c o c1 c2 c3 c4 e => up c o c1 (k5 c o c1 c2 c3 c4 e)
theorem next0 {Q : Fin → Shared → Prop} (hh : A.handled = none) (D : ZipApart z TI TO i1 i2 l1 l2) (hz : IsZip s.heap z TI TO .none) (hTI : IsPair s.heap TI (.ref i1) (.ref i2)) (hTO : IsPair s.heap TO a b)
    (o1 : On s.heap i1 l1 k1 xs) (o2 : On s.heap i2 l2 k2 ys) (hend : xs[k1]? = none ∨ ys[k2]? = none)
    (q : ∀ h' e, (∀ c o, c ≠ z → c ≠ TO → c ≠ i1 → c ≠ i2 → s.heap.get? c = some o → h'.get? c = some o) → (∃ o, h'.get? e = some o ∧ o.cls = .type "StopIteration") → E (.ref e) { s with heap := h' }) :
    wpAny (model prog w) A (Builtin.«zip.__next__» ⟨[.ref z], []⟩) Q E s := by
  show wpAny _ _ (field (.ref z) 2 >>= _) _ _ _
  refine wpAny_bind (wpAny_field hz rfl (x := .bool false) rfl ?_); show wpAny _ _ (field (.ref z) 3 >>= _) _ _ _
  refine wpAny_bind (wpAny_field hz rfl (x := .ref TI) rfl ?_); refine wpAny_bind (wpAny_seqItems hTI rfl ?_)
  show wpAny _ _ (Builtin.SmallTypes.ownedTupleIsFree (.ref z) >>= _) _ _ _
  refine wpAny_bind ?_; unfold Builtin.SmallTypes.ownedTupleIsFree
  refine wpAny_bind (wpAny_field hz rfl (x := .none) rfl (wpAny_pure ?_)); simp only [if_true]
  refine wpAny_bind (wpAny_rule ?_); refine wpAny_bind (wpAny_field hz rfl (x := .ref TO) rfl ?_)
  refine wpAny_bind (wpAny_setField_rec hz (by simp) fun g1 z1 e1 => ?_); replace z1 : IsZip g1 z TI TO .ellipsis := z1
  refine wpAny_bind ?_; simp only [List.zipIdx_cons, List.zipIdx_nil, List.forIn_cons, List.forIn_nil]
  refine wpAny_bind (wpAny_bind (wpAny_onRaise ?_)); show wpAny _ _ (Builtin.SmallTypes.nextOf (.ref i1) >>= _) _ _ _
  -- the state that the end leaves
  have fin : ∀ {g : Heap} {e : Addr}, IsZip g z TI TO .ellipsis → (∀ c o, c ≠ z → c ≠ TO → c ≠ i1 → c ≠ i2 → s.heap.get? c = some o → g.get? c = some o) → (∃ o, g.get? e = some o ∧ o.cls = .type "StopIteration") →
      e ≠ z ∧ ∀ h', Heap.SameBut z g h' → E (.ref e) { s with heap := h' } := fun {g e} zg kg ⟨oe, hoe, hce⟩ => by
    have hez : e ≠ z := fun u => by subst u; rw [zg] at hoe; cases hoe; simp at hce
    exact ⟨hez, fun h' sb => q h' e (fun c o c1 c2 c3 c4 u => sb.extBut _ _ c1 (kg c o c1 c2 c3 c4 u)) ⟨oe, sb.extBut _ _ hez hoe, hce⟩⟩
  cases hx : xs[k1]? with
  | none =>
    refine wpAny_bind (draw0 hh (o1.past e1.extBut D.i1z D.l1z) hx fun g2 e e2 he => ?_)
    have z2 : IsZip g2 z TI TO .ellipsis := e2 _ _ D.i1z.symm z1
    obtain ⟨_, f⟩ := fin z2 (fun c o c1 _ c3 _ u => e2 _ _ c3 (e1.extBut _ _ c1 u)) he
    exact wpAny_setField_rec z2 (by simp) fun g3 _ e3 => f g3 e3
  | some x =>
    have hy : ys[k2]? = none := by
      rcases hend with h | h
      · rw [hx] at h; cases h
      · exact h
    refine wpAny_bind (draw1 (o1.past e1.extBut D.i1z D.l1z) hx D.l1i1 fun g2 p2 e2 => wpAny_pure ?_)
    have t2 : IsPair g2 TO a b := e2.extBut _ _ D.TOi1 (e1.extBut _ _ D.TOz hTO)
    refine wpAny_bind (wpAny_seqItems t2 rfl ?_); refine wpAny_bind (wpAny_updateSeq_pair t2 fun g3 t3 e3 => ?_)
    refine wpAny_bind (wpAny_letGo (wpAny_pure ?_)); refine wpAny_bind (wpAny_bind (wpAny_onRaise ?_))
    show wpAny _ _ (Builtin.SmallTypes.nextOf (.ref i2) >>= _) _ _ _
    refine wpAny_bind (draw0 hh (((o2.past e1.extBut D.i2z D.l2z).past e2.extBut D.i12.symm D.l2i1).past e3.extBut D.TOi2.symm D.l2TO) hy fun g4 e e4 he => ?_)
    have z4 : IsZip g4 z TI TO .ellipsis := e4 _ _ D.i2z.symm (e3.extBut _ _ D.TOz.symm (e2.extBut _ _ D.i1z.symm z1))
    obtain ⟨_, f⟩ := fin z4 (fun c o c1 c2 c3 c4 u => e4 _ _ c4 (e3.extBut _ _ c2 (e2.extBut _ _ c3 (e1.extBut _ _ c1 u)))) he
    exact wpAny_setField_rec z4 (by simp) fun g5 _ e5 => f g5 e5
theorem pyNext1 {Q : Option Value → Shared → Prop} (D : ZipApart z TI TO i1 i2 l1 l2) (hz : IsZip s.heap z TI TO .none) (hTI : IsPair s.heap TI (.ref i1) (.ref i2)) (hTO : IsPair s.heap TO a b)
    (o1 : On s.heap i1 l1 k1 xs) (o2 : On s.heap i2 l2 k2 ys) (hx : xs[k1]? = some x) (hy : ys[k2]? = some y)
    (q : ∀ h', IsZip h' z TI TO (rawInt s.heap.objs.size) → IsPair h' TO x y → On h' i1 l1 (k1 + 1) xs → On h' i2 l2 (k2 + 1) ys → IsPair h' s.heap.objs.size x y → h'.objs.size = s.heap.objs.size + 1 →
      (∀ c o, c ≠ z → c ≠ TO → c ≠ i1 → c ≠ i2 → s.heap.get? c = some o → h'.get? c = some o) → Q (some (.ref s.heap.objs.size)) { s with heap := h' }) :
    wpAny (model prog w) A (pyNext (.ref z)) Q E s := by
  have ht : s.TypeIs (.ref z) "zip" := ⟨_, hz, rfl⟩
  unfold pyNext
  refine wpAny_bind (wpAny_attempt (wpAny_callSpecial?_slot (name := Str.ofString "__next__") ht F.slot_zip_next (wpAny_call_entry F.slot_zip_next ht F.entry_zip_next (next1 D hz hTI hTO o1 o2 hx hy ?_) (F.args_zip_next_1 _))))
  exact fun h' a1 a2 a3 a4 a5 a6 a7 => wpAny_pure (q h' a1 a2 a3 a4 a5 a6 a7)
theorem pyNext0 {Q : Option Value → Shared → Prop} (hh : A.handled = none) (D : ZipApart z TI TO i1 i2 l1 l2) (hz : IsZip s.heap z TI TO .none) (hTI : IsPair s.heap TI (.ref i1) (.ref i2)) (hTO : IsPair s.heap TO a b)
    (o1 : On s.heap i1 l1 k1 xs) (o2 : On s.heap i2 l2 k2 ys) (hend : xs[k1]? = none ∨ ys[k2]? = none)
    (q : ∀ h', (∀ c o, c ≠ z → c ≠ TO → c ≠ i1 → c ≠ i2 → s.heap.get? c = some o → h'.get? c = some o) → Q none { s with heap := h' }) : wpAny (model prog w) A (pyNext (.ref z)) Q E s := by
  have ht : s.TypeIs (.ref z) "zip" := ⟨_, hz, rfl⟩
  unfold pyNext
  refine wpAny_bind (wpAny_attempt (wpAny_callSpecial?_slot (name := Str.ofString "__next__") ht F.slot_zip_next (wpAny_call_entry F.slot_zip_next ht F.entry_zip_next (next0 hh D hz hTI hTO o1 o2 hend fun h' e hk he => ?_) (F.args_zip_next_1 _))))
  obtain ⟨o, ho, hc⟩ := he
  exact wpAny_bind (wpAny_isInstance (T := "StopIteration") (b := true) ⟨o, ho, hc⟩ isSubtype_stop (wpAny_pure (q _ hk)))
end
/-! ## the making -/
noncomputable abbrev m1 (h : Heap) (l1 : Addr) : Heap := h.push { cls := .type "tuple_iterator", data := .fields #[.ref l1, .int 0 0] }
noncomputable abbrev m2 (h : Heap) (l1 l2 : Addr) : Heap := (m1 h l1).push { cls := .type "tuple_iterator", data := .fields #[.ref l2, .int 0 0] }
noncomputable abbrev m3 (h : Heap) (l1 l2 : Addr) : Heap := (m2 h l1 l2).push { cls := .type "tuple", data := .seq #[.ref h.objs.size, .ref (m1 h l1).objs.size] }
noncomputable abbrev m4 (h : Heap) (l1 l2 : Addr) : Heap := (m3 h l1 l2).push { cls := .type "tuple", data := .seq #[.none, .none] }
noncomputable abbrev m5 (h : Heap) (l1 l2 : Addr) : Heap := (m4 h l1 l2).push { cls := .type "zip", data := .fields #[.none, .bool false, .bool false, .ref (m2 h l1 l2).objs.size, .ref (m3 h l1 l2).objs.size] }
theorem meets (l1 l2 : Addr) (xs ys : Array Value) :
    Meets (Builtin.«zip.__new__» ⟨[.type "zip", .ref l1, .ref l2], []⟩) (fun _ R s => s.heap.IsTuple l1 xs ∧ s.heap.IsTuple l2 ys ∧ R (.ok (.ret (.ref (m4 s.heap l1 l2).objs.size))) { s with heap := m5 s.heap l1 l2 }) :=
  .of_wp fun prog w A R s h => by
    obtain ⟨hp, g, d, tk, os⟩ := s; obtain ⟨u1, u2, h⟩ := h
    have hsub := sub_zip
    have v1 : Heap.IsTuple (Shared.heap ⟨hp, g, d, tk, os⟩) l1 xs := u1
    have v2 : Heap.IsTuple (Shared.heap ⟨hp.push { cls := .type "tuple_iterator", data := .fields #[.ref l1, .int 0 0] }, g, d, tk, os⟩) l2 ys := Heap.IsTuple.push u2 _
    wp_walk using wpAny_pyIter_tuple v1, wpAny_pyIter_tuple v2
    exact ⟨_, rfl, h⟩
theorem make2 {prog : Program} {w : World} {A : Around} {E : Value → Shared → Prop} {s : Shared} {l1 l2 : Addr} {xs ys : Array Value} {Q : Value → Shared → Prop} (u1 : s.heap.IsTuple l1 xs) (u2 : s.heap.IsTuple l2 ys)
    (q : ∀ h', IsZip h' (s.heap.objs.size + 4) (s.heap.objs.size + 2) (s.heap.objs.size + 3) .none → IsPair h' (s.heap.objs.size + 2) (.ref s.heap.objs.size) (.ref (s.heap.objs.size + 1)) →
      IsPair h' (s.heap.objs.size + 3) .none .none → h'.IsTupleIter s.heap.objs.size l1 0 → h'.IsTupleIter (s.heap.objs.size + 1) l2 0 → (∀ c o, s.heap.get? c = some o → h'.get? c = some o) → Q (.ref (s.heap.objs.size + 4)) { s with heap := h' }) :
    wpAny (model prog w) A (call (.type "zip") [.ref l1, .ref l2]) Q E s := by
  refine callType_new F.called_zip (by decide) (F.typeCall_zip_2 _ _) (F.newCall_zip_2 _ _) (fun obj => F.args_object_init_3 obj _ _) F.entry_zip_new (meets l1 l2 xs ys) ⟨u1, u2, ?_⟩
  have z1 : (m1 s.heap l1).objs.size = s.heap.objs.size + 1 := Heap.size_push ..
  have z2 : (m2 s.heap l1 l2).objs.size = s.heap.objs.size + 2 := by rw [Heap.size_push, z1]
  have z3 : (m3 s.heap l1 l2).objs.size = s.heap.objs.size + 3 := by rw [Heap.size_push, z2]
  have z4 : (m4 s.heap l1 l2).objs.size = s.heap.objs.size + 4 := by rw [Heap.size_push, z3]
  have up := fun {c : Addr} {o : Obj} (h : Heap) (n : Obj) (e : h.get? c = some o) => Heap.get?_push_of_some n e
  have g5 : (m5 s.heap l1 l2).get? (m4 s.heap l1 l2).objs.size = some _ := Heap.get?_push_size _ rfl
  have g4 : (m5 s.heap l1 l2).get? (m3 s.heap l1 l2).objs.size = some _ := up _ _ (Heap.get?_push_size _ rfl)
  have g3 : (m5 s.heap l1 l2).get? (m2 s.heap l1 l2).objs.size = some _ := up _ _ (up _ _ (Heap.get?_push_size _ rfl))
  have g2 : (m5 s.heap l1 l2).get? (m1 s.heap l1).objs.size = some _ := up _ _ (up _ _ (up _ _ (Heap.get?_push_size _ rfl)))
  have g1 : (m5 s.heap l1 l2).get? s.heap.objs.size = some _ := up _ _ (up _ _ (up _ _ (up _ _ (Heap.get?_push_size _ rfl))))
  show _ ∧ _
  rw [z2, z3, z4] at g5
  rw [z1, z2] at g3
  rw [z3] at g4
  rw [z1] at g2
  rw [z4]
  exact ⟨⟨_, g5, rfl⟩, q _ g5 g3 g4 ⟨_, g1, rfl, rfl⟩ ⟨_, g2, rfl, rfl⟩ fun c o e => up _ _ (up _ _ (up _ _ (up _ _ (up _ _ e))))⟩
/-! ## the loop's head -/
/-- the tuples at a and b, the items in new pairs -/
noncomputable def ItZ (K : PySem.W.Frag) (a b : Addr) : It :=
  ⟨fun i H => ∃ (xs ys : List V) (x y : V), SqT K H a xs ∧ SqT K H b ys ∧ xs[i]? = some x ∧ ys[i]? = some y,
    fun i H v H' => ∃ T x y, v = .ref T ∧ H T = none ∧ H' = upd H T (.tup [x, y]) ∧ (∀ xs, SqT K H a xs → xs[i]? = some x) ∧ ∀ ys, SqT K H b ys → ys[i]? = some y,
    fun i H => ∃ xs ys : List V, SqT K H a xs ∧ SqT K H b ys ∧ (xs.length ≤ i ∨ ys.length ≤ i)⟩
theorem turn {P : Program} {w : World} {K : PySem.W.Frag} {elts : List Expr} {kk : Nat} {tpos : Pos} {a b z TI TO i1 i2 : Addr} (D : ZipApart z TI TO i1 i2 a b) :
    Turn P w K (.Tuple elts kk tpos) (ItZ K a b) [z, TI, TO, i1, i2] z (fun i h => IsZip h z TI TO .none ∧ IsPair h TI (.ref i1) (.ref i2) ∧ (∃ x y, IsPair h TO x y) ∧ h.IsTupleIter i1 a i ∧ h.IsTupleIter i2 b i) where
  mem := List.mem_cons_self
  obj := fun i h st c hc => by
    obtain ⟨hz, hTI, ⟨x, y, hTO⟩, ⟨o1, e1, _, d1⟩, ⟨o2, e2, _, d2⟩⟩ := st
    simp only [List.mem_cons, List.not_mem_nil, or_false] at hc
    rcases hc with rfl | rfl | rfl | rfl | rfl
    · exact ⟨_, hz, fun v q => nomatch q⟩
    · exact ⟨_, hTI, fun v q => nomatch q⟩
    · exact ⟨_, hTO, fun v q => nomatch q⟩
    · exact ⟨o1, e1, fun v q => by rw [d1] at q; cases q⟩
    · exact ⟨o2, e2, fun v q => by rw [d2] at q; cases q⟩
  keep := fun i h h' ⟨hz, hTI, ⟨x, y, hTO⟩, h1, h2⟩ k =>
    ⟨k z (by simp) _ hz, k TI (by simp) _ hTI, ⟨x, y, k TO (by simp) _ hTO⟩, h1.at fun o q => k i1 (by simp) o q, h2.at fun o q => k i2 (by simp) o q⟩
  item := by
    intro X hP hw hK hc i pins s σ H E I hf st hg
    subst hP hw hK
    obtain ⟨hz, hTI, ⟨x0, y0, hTO⟩, h1, h2⟩ := st
    obtain ⟨xs, ys, x, y, qx, qy, hx, hy⟩ := hg
    obtain ⟨its, rv, p, _⟩ := I.tuple qx
    obtain ⟨jts, rw', p', _⟩ := I.tuple qy
    obtain ⟨u, hu, ru⟩ := rv.get hx
    obtain ⟨v, hv, rv'⟩ := rw'.get hy
    have zl : z < s.heap.objs.size := Heap.lt_size hz
    refine pyNext1 D hz hTI hTO ⟨h1, show s.heap.IsTuple a its.toArray from p⟩ ⟨h2, show s.heap.IsTuple b jts.toArray from p'⟩ (x := u) (y := v) (by simpa using hu) (by simpa using hv) fun h' z' t' o1 o2 hT hsz hk => ?_
    refine ⟨_, rfl, wpAny_letOwnedTupleGo_zip (s := { s with heap := h' }) z' fun h'' z'' sb => ?_⟩
    have hT2 : h''.get? s.heap.objs.size = some { cls := .type "tuple", data := .seq #[u, v] } := (sb.2 _ (Nat.ne_of_gt zl)).trans hT
    have new : ObjOk X.prog X.w (upd H s.heap.objs.size (.tup [x, y])) h'' s.heap.objs.size (.tup [x, y]) := ⟨by show 2 ≤ sizeLine; decide, [u, v], .cons ru (.cons rv' .nil), ⟨_, hT2, rfl, _, rfl⟩⟩
    have out : ∀ {c : Addr}, c ∉ [z, TI, TO, i1, i2] → c ≠ z ∧ c ≠ TO ∧ c ≠ i1 ∧ c ≠ i2 := fun h => by simp at h; exact ⟨h.1, h.2.2.1, h.2.2.2.1, h.2.2.2.2⟩
    have I1 : Inv X pins σ (upd H s.heap.objs.size (.tup [x, y])) { s with heap := h'' } :=
      I.turnedNew (t' := s.toks) (ch := [z, TI, TO, i1, i2]) (fun c o hb q => let n := out hb; (sb.2 c n.1).trans (hk c o n.1 n.2.1 n.2.2.1 n.2.2.2 q)) hf (Nat.le_refl _) new
    refine ⟨.ref s.heap.objs.size, _, I1, rfl, ⟨_, x, y, rfl, I.hok.fresh (Nat.le_refl _), rfl, fun l hl => by rw [I.tuple_inj hl qx]; exact hx, fun l hl => by rw [I.tuple_inj hl qy]; exact hy⟩, ⟨z'', ?_, ⟨u, v, ?_⟩, ?_, ?_⟩, fun c hcm => ?_⟩
    · exact (sb.2 _ D.TIz).trans (hk _ _ D.TIz D.TITO D.TIi1 D.TIi2 hTI)
    · exact (sb.2 _ D.TOz).trans t'
    · exact o1.at_.at fun o q => (sb.2 _ D.i1z).trans q
    · exact o2.at_.at fun o q => (sb.2 _ D.i2z).trans q
    · have lt : c < s.heap.objs.size := by
        simp only [List.mem_cons, List.not_mem_nil, or_false] at hcm
        rcases hcm with rfl | rfl | rfl | rfl | rfl
        · exact zl
        · exact Heap.lt_size hTI
        · exact Heap.lt_size hTO
        · obtain ⟨_, e1, _⟩ := h1; exact Heap.lt_size e1
        · obtain ⟨_, e2, _⟩ := h2; exact Heap.lt_size e2
      rw [upd_ne (Nat.ne_of_lt lt)]
      exact (hf c hcm).1
  done := by
    intro X hP hw hK hc i pins s σ H E I hf st hg
    subst hP hw hK
    obtain ⟨hz, hTI, ⟨x0, y0, hTO⟩, h1, h2⟩ := st
    obtain ⟨xs, ys, qx, qy, hend⟩ := hg
    obtain ⟨its, rv, p, _⟩ := I.tuple qx
    obtain ⟨jts, rw', p', _⟩ := I.tuple qy
    have e1 := rv.length
    have e2 := rw'.length
    have he : its.toArray[i]? = none ∨ jts.toArray[i]? = none := hend.imp (fun q => by simp; omega) (fun q => by simp; omega)
    refine pyNext0 (I.ok.hd hc) D hz hTI hTO ⟨h1, show s.heap.IsTuple a its.toArray from p⟩ ⟨h2, show s.heap.IsTuple b jts.toArray from p'⟩ he fun h' hk => ⟨rfl, I.turnedL (t' := s.toks) (ch := [z, TI, TO, i1, i2]) (fun c o hb q => ?_) hf⟩
    simp at hb
    exact hk c o hb.1 hb.2.2.1 hb.2.2.2.1 hb.2.2.2.2 q
  self := fun A i s Q E st h => wpAny_pyIter_zip st.1 h
noncomputable def iZip (K : PySem.W.Frag) (ta : TA) : TI := fun σ H R => ta σ H fun vs H1 => ∃ a b xs ys, vs = [.ref a, .ref b] ∧ SqT K H1 a xs ∧ SqT K H1 b ys ∧ R (ItZ K a b) H1
theorem pi {X : Cx} {e e2 : Expr} {ta : TA} {p pos tpos : Pos} {elts : List Expr} {kk : Nat} (hg : Gl X "zip") (hm : X.mg "zip" = none) (ha : PA X [e, e2] ta)
    (hs : starEach [e, e2] X.env = (false, eval e X.env) :: starEach [e2] X.env := by rfl) (hpl : (backTo pos (starEach [e2] X.env)).any (·.1) = false := by rfl) :
    PI X (.Tuple elts kk tpos) (.Call (.Name "zip" p) [e, e2] [] pos) (iZip X.K ta) := by
  intro pins s σ H R I h
  refine Call_ (ld_blt I hg hm boot_zip5 (PyProof.Rows.callWith_type1 (thn (ha pos pins s σ H _ I h) fun us s1 ⟨vs, H1, I1, r1, q1⟩ => ?_) hs hpl))
  obtain ⟨a, b, xs, ys, ex, qx, qy, q⟩ := q1
  subst ex
  cases r1 with
  | cons r rr =>
    cases rr with
    | cons r' rr =>
      cases rr; cases r; cases r'
      obtain ⟨its, rv, p1, _⟩ := I1.tuple qx
      obtain ⟨jts, rv2, p2, _⟩ := I1.tuple qy
      have p1 : s1.heap.IsTuple a its.toArray := p1
      have p2 : s1.heap.IsTuple b jts.toArray := p2
      have la : a < s1.heap.objs.size := by obtain ⟨o, e, _⟩ := p1; exact Heap.lt_size e
      have lb : b < s1.heap.objs.size := by obtain ⟨o, e, _⟩ := p2; exact Heap.lt_size e
      refine make2 p1 p2 fun h' hz hTI hTO h1 h2 hk => wpAny_pyIter_zip hz ?_
      have I2 : Inv X pins σ H1 { s1 with heap := h' } := I1.kept (t' := s1.toks) hk
      refine ⟨s1.heap.objs.size + 4, [s1.heap.objs.size + 4, s1.heap.objs.size + 2, s1.heap.objs.size + 3, s1.heap.objs.size, s1.heap.objs.size + 1], _, _, H1, rfl, I2, turn (PySem.W.ktu_apart s1.heap.objs.size a b la lb), ⟨hz, hTI, ⟨_, _, hTO⟩, h1, h2⟩, fun c hcm => ?_, q⟩
      have hle : s1.heap.objs.size ≤ c := by
        simp only [List.mem_cons, List.not_mem_nil, or_false] at hcm
        rcases hcm with e | e | e | e | e <;> rw [e] <;> first | exact Nat.le_add_right _ _ | exact Nat.le_refl _
      exact I1.fpOk hle (I1.hok.fresh hle)
/-- the turns, by what holds between them -/
theorem loop {K : PySem.W.Frag} {a b : Addr} {xs ys : List V} {g : TG} {tb : TS} {D : Ends} {σ : L2.St} {H : Hp} (Pv : Nat → L2.St → Hp → Prop) (h0 : Pv 0 σ H) (hl : ∀ i σ H, Pv i σ H → SqT K H a xs ∧ SqT K H b ys) (hn : xs.length = ys.length)
    (hs : ∀ i x y σ H T, xs[i]? = some x → ys[i]? = some y → H T = none → Pv i σ H → g (.ref T) σ (upd H T (.tup [x, y])) fun σ2 H2 => tb { D with nx := Pv (i + 1), ct := Pv (i + 1), bk := D.nx } σ2 H2) (hd : ∀ σ H, Pv xs.length σ H → D.nx σ H) :
    ∃ W : Nat → Nat → L2.St → Hp → Prop, (∃ m, W 0 m σ H) ∧ ∀ i m σ H, W i m σ H →
      ((ItZ K a b).stop i H ∧ D.nx σ H) ∨ ((ItZ K a b).go i H ∧ ∃ N : L2.St → Hp → Prop, (∀ σ' H', N σ' H' → ∃ m', m' < m ∧ W (i + 1) m' σ' H') ∧ ∀ x H', (ItZ K a b).yld i H x H' → g x σ H' fun σ2 H2 => tb { D with nx := N, ct := N, bk := D.nx } σ2 H2) := by
  refine ⟨fun i m σ H => m = xs.length - i ∧ i ≤ xs.length ∧ Pv i σ H, ⟨xs.length, by simp, Nat.zero_le _, h0⟩, ?_⟩
  rintro i m σ H ⟨rfl, hi, p⟩
  obtain ⟨q1, q2⟩ := hl i σ H p
  by_cases hlt : i < xs.length
  · refine .inr ⟨⟨xs, ys, xs[i], ys[i], q1, q2, List.getElem?_eq_getElem hlt, List.getElem?_eq_getElem (by omega)⟩, Pv (i + 1), fun σ' H' p' => ⟨xs.length - (i + 1), by omega, rfl, hlt, p'⟩, fun x H' y => ?_⟩
    obtain ⟨T, u, v, rfl, hT, rfl, hu, hv⟩ := y
    exact hs i u v σ H T (hu xs q1) (hv ys q2) hT p
  · have e : i = xs.length := by omega
    subst e
    exact .inl ⟨⟨xs, ys, q1, q2, .inl (Nat.le_refl _)⟩, hd σ H p⟩
end Zt
end
section
set_option Elab.async false
set_option linter.all false
set_option bootstrap.genMatcherCode false
set_option genSizeOf false
set_option maxRecDepth 100000
set_option maxHeartbeats 2000000
namespace Gc
open PySem PySem.Spec PyProof.Rows L2
noncomputable def top (i : Nat) : Stmt := PySem.Challenge.pw_gaugeclock_s01_answers.main.body.getD i (.Pass ⟨0, 0, 0, 0⟩)
noncomputable abbrev s_Reader_init : Stmt := inClass (top 12) 0
noncomputable abbrev s_Reader_is_done : Stmt := inClass (top 12) 1
noncomputable abbrev s_Reader_take_number : Stmt := inClass (top 12) 2
noncomputable abbrev s_Reader_take_row : Stmt := inClass (top 12) 3
noncomputable abbrev s_Gauge_init : Stmt := inClass (top 13) 0
noncomputable abbrev s_Recorder_init : Stmt := inClass (top 14) 0
noncomputable abbrev s_answers : Stmt := top 15
noncomputable abbrev s_answer_call : Stmt := top 16
noncomputable abbrev s_answer_gauge : Stmt := top 17
noncomputable abbrev s_in_groups : Stmt := top 18
noncomputable abbrev s_form_fault : Stmt := top 19
noncomputable abbrev s_first_fault : Stmt := top 20
noncomputable abbrev s_in_bounds : Stmt := top 21
noncomputable abbrev s_rises : Stmt := top 22
noncomputable abbrev s_answer_spikes : Stmt := top 23
noncomputable abbrev s_is_spike : Stmt := top 24
noncomputable abbrev s_answer_time : Stmt := top 25
noncomputable abbrev s_answer_zero : Stmt := top 26
noncomputable abbrev s_is_time : Stmt := top 27
noncomputable abbrev s_true_time : Stmt := top 28
noncomputable abbrev s_zero_at : Stmt := top 29
noncomputable abbrev s_between_checks : Stmt := top 30
noncomputable abbrev s_on_line : Stmt := top 31
noncomputable abbrev s_fraction_answer : Stmt := top 32
noncomputable abbrev s_common_divisor : Stmt := top 33
noncomputable abbrev s_kept_points : Stmt := top 34
noncomputable abbrev s_answer_at : Stmt := top 35
noncomputable abbrev s_answer_row : Stmt := top 36
noncomputable abbrev s_rows_answer : Stmt := top 37
noncomputable abbrev s_height_at : Stmt := top 38
noncomputable abbrev s_first_not_before : Stmt := top 39
noncomputable abbrev s_time_span : Stmt := top 40
noncomputable abbrev s_height_between : Stmt := top 41
noncomputable abbrev s_nearest : Stmt := top 42
noncomputable abbrev s_answer_smooth : Stmt := top 43
noncomputable abbrev s_is_height_in_form : Stmt := top 44
noncomputable abbrev s_smoothed : Stmt := top 45
end Gc
end
section
set_option Elab.async false
set_option linter.all false
set_option bootstrap.genMatcherCode false
set_option genSizeOf false
set_option maxRecDepth 100000
set_option maxHeartbeats 2000000
namespace Gc
open PySem PySem.Spec PyProof.Rows L2
/-! ## numbers of any size up to some thousand bits -/
noncomputable def CMulZ (i j : Int) : Prop := ∃ m n : Nat, i.natAbs < 2 ^ m ∧ j.natAbs < 2 ^ n ∧ m ≤ 4000 ∧ n ≤ 4000
noncomputable def CDivZ (_ j : Int) : Prop := 0 < j ∧ ∃ m : Nat, j.natAbs < 2 ^ m ∧ m ≤ 8000
section
variable {X : Cx}
theorem CMulZ.ok {i j : Int} (h : CMulZ i j) : IntMulOk i j := by
  obtain ⟨m, n, h1, h2, h3, h4⟩ := h
  exact IntMulOk.of_le (intBits_le_iff.mpr h1) (intBits_le_iff.mpr h2) (by omega)
theorem op_mulZ : OpR X (binaryOp .Mult) (rI CMulZ fun i j => .int (i * j)) := opI fun _ _ _ _ _ _ _ hc q => mul_int q hc.ok
theorem op_fdivZ : OpR X (binaryOp .FloorDiv) (rI CDivZ fun i j => .int (i / j)) := opI fun i j _ _ _ _ _ hc q => by
  obtain ⟨h0, m, h1, h2⟩ := hc
  have hl : j.natAbs.log2 < 9000 := by
    have h3 : j.natAbs ≠ 0 := by omega
    have h4 : j.natAbs.log2 < m := (Nat.log2_lt h3).mpr h1
    omega
  exact floordiv_int (by omega) (by rw [Int.fdiv_eq_ediv_of_nonneg i (by omega)]; exact q) (.inl (PyProof.noPylong_of_log2 hl))
end
/-! ## bits -/
noncomputable def Bt (n : Nat) (x : Int) : Prop := x.natAbs < 2 ^ n
theorem Bt.mono {m n : Nat} {x : Int} (h : Bt m x) (e : m ≤ n) : Bt n x := Nat.lt_of_lt_of_le h (Nat.pow_le_pow_right (by decide) e)
theorem Bt.mul {m n : Nat} {x y : Int} (h : Bt m x) (k : Bt n y) : Bt (m + n) (x * y) := by
  unfold Bt at *
  rw [Int.natAbs_mul, Nat.pow_add]
  exact Nat.mul_lt_mul'' h k
theorem Bt.add {m : Nat} {x y : Int} (h : Bt m x) (k : Bt m y) : Bt (m + 1) (x + y) := by
  unfold Bt at *
  rw [Nat.pow_succ]
  omega
theorem Bt.sub {m : Nat} {x y : Int} (h : Bt m x) (k : Bt m y) : Bt (m + 1) (x - y) := by
  unfold Bt at *
  rw [Nat.pow_succ]
  omega
theorem Bt.cm {m n : Nat} {x y : Int} (h : Bt m x) (k : Bt n y) (e : m ≤ 4000 := by decide) (e' : n ≤ 4000 := by decide) : CMulZ x y := ⟨m, n, h, k, e, e'⟩
theorem bt_one : Bt 200 1 := by unfold Bt; decide
theorem bt_two : Bt 2 2 := by unfold Bt; decide
theorem bt40 {x : Int} (h : x.natAbs < 2 ^ 40) : Bt 40 x := h
theorem bt41 {x y : Int} (h : x.natAbs < 2 ^ 40) (k : y.natAbs < 2 ^ 40) : Bt 41 (x - y) := (bt40 h).sub (bt40 k)
section
variable {X : Cx}
/-- a name of the module that holds an int -/
theorem pe_gi {x : Str} {n : Int} {t : Tok} {pos : Pos} (hg : Gl X x) (hm : X.mg x = some (.int n t)) (hd : (x == ("__debug__" : Str)) = false := by decide) : PE X (.Name x pos) (tC (.int n)) := pe_glob hg hm ⟨t, rfl⟩ hd
/-- .. that holds an object -/
theorem pe_gr {x : Str} {a : Addr} {pos : Pos} (hg : Gl X x) (hm : X.mg x = some (.ref a)) (hd : (x == ("__debug__" : Str)) = false := by decide) : PE X (.Name x pos) (tC (.ref a)) := pe_glob hg hm rfl hd
end
/-! ## what is handed back -/
/-- a tuple of ints, all that was there as it was -/
noncomputable def RetT (H : Hp) (Q : VK) (xs : List Int) : Prop := ∀ (H' : Hp) (p : Addr), Same H H' → H p = none → H' p = some (.tup (xs.map V.int)) → Q (.ref p) H'
/-- a list of ints likewise -/
noncomputable def RetL (H : Hp) (Q : VK) (xs : List Int) : Prop := ∀ (H' : Hp) (p : Addr), Same H H' → H p = none → H' p = some (.lst (xs.map V.int)) → Q (.ref p) H'
theorem same_new {H : Hp} {p : Addr} {o : HO} (h : H p = none) : Same H (upd H p o) := fun b u e => by
  rw [upd_ne (ne_of_none e h)]
  exact e
theorem same_tup {K : PySem.W.Frag} {H H' : Hp} {a : Addr} {xs : List V} (e : Same H H') (h : SqT K H a xs) : SqT K H' a xs := by
  rcases h with (h | ⟨o, h⟩) | h
  · exact .inl (.inl (e _ _ h))
  · exact .inl (.inr ⟨o, e _ _ h⟩)
  · exact .inr h
theorem RetT.here {H : Hp} {Q : VK} {xs : List Int} {p : Addr} (k : RetT H Q xs) (h : H p = none) : Q (.ref p) (upd H p (.tup (xs.map V.int))) := k _ p (same_new h) h upd_same
theorem RetL.here {H : Hp} {Q : VK} {xs : List Int} {p : Addr} (k : RetL H Q xs) (h : H p = none) : Q (.ref p) (upd H p (.lst (xs.map V.int))) := k _ p (same_new h) h upd_same
theorem RetT.after {H H1 : Hp} {Q : VK} {xs : List Int} (k : RetT H Q xs) (s : Same H H1) : RetT H1 Q xs := fun H' p e h0 h => k H' p (s.trans e) (s.free h0) h
theorem RetL.after {H H1 : Hp} {Q : VK} {xs : List Int} (k : RetL H Q xs) (s : Same H H1) : RetL H1 Q xs := fun H' p e h0 h => k H' p (s.trans e) (s.free h0) h
/-! ## lists of tuples of ints -/
noncomputable def TupsAt (K : PySem.W.Frag) (H : Hp) (l : Addr) (rs : List (List Int)) : Prop :=
  ∃ xs : List V, SqL K H l xs ∧ xs.length = rs.length ∧ ∀ (i : Nat) (r : List Int), rs[i]? = some r → ∃ a, xs[i]? = some (.ref a) ∧ SqT K H a (r.map V.int)
noncomputable def pr (p : Int × Int) : List Int := [p.1, p.2]
noncomputable def PairsAt (K : PySem.W.Frag) (H : Hp) (l : Addr) (ps : List (Int × Int)) : Prop := TupsAt K H l (ps.map pr)
theorem TupsAt.same {K : PySem.W.Frag} {H H' : Hp} {l : Addr} {rs : List (List Int)} (t : TupsAt K H l rs) (s : Same H H') : TupsAt K H' l rs := by
  obtain ⟨xs, h1, h2, h3⟩ := t
  refine ⟨xs, s.seq h1, h2, fun i r e => ?_⟩
  obtain ⟨a, h4, h5⟩ := h3 i r e
  exact ⟨a, h4, same_tup s h5⟩
theorem PairsAt.same {K : PySem.W.Frag} {H H' : Hp} {l : Addr} {ps : List (Int × Int)} (t : PairsAt K H l ps) (s : Same H H') : PairsAt K H' l ps := TupsAt.same t s
theorem PairsAt.get {K : PySem.W.Frag} {H : Hp} {l : Addr} {ps : List (Int × Int)} (t : PairsAt K H l ps) :
    ∃ xs : List V, SqL K H l xs ∧ xs.length = ps.length ∧ ∀ (i : Nat) (p : Int × Int), ps[i]? = some p → ∃ a, xs[i]? = some (.ref a) ∧ SqT K H a [.int p.1, .int p.2] := by
  obtain ⟨xs, h1, h2, h3⟩ := t
  refine ⟨xs, h1, by rw [h2, List.length_map], fun i p e => ?_⟩
  exact h3 i (pr p) (by rw [List.getElem?_map, e]; rfl)
theorem atI_end {α : Type} {xs : List α} {v : α} (h : xs[xs.length - 1]? = some v) : atI xs (-1) = some v := by
  have hl : xs.length - 1 < xs.length := (List.getElem?_eq_some_iff.mp h).1
  have e : ixN xs.length (-1) = some (xs.length - 1) := by
    unfold ixN
    rw [if_neg (by decide), if_pos (by omega)]
    congr 1
    omega
  unfold atI
  rw [e]
  exact h
theorem at0 {α : Type} {x : α} {xs : List α} : atI (x :: xs) 0 = some x := atI_nat (j := 0) rfl
theorem at1 {α : Type} {x y : α} {xs : List α} : atI (x :: y :: xs) 1 = some y := atI_nat (j := 1) rfl
theorem at2 {α : Type} {x y z : α} {xs : List α} : atI (x :: y :: z :: xs) 2 = some z := atI_nat (j := 2) rfl
/-! ## what the module's names hold -/
structure Mg (K : PySem.W.Frag) (mg : Str → Option Value) : Prop where
  len : mg "len" = none
  range : mg "range" = none
  tuple : mg "tuple" = none
  enumerate : mg "enumerate" = none
  zip : mg "zip" = none
  max : mg "max" = none
  abs : mg "abs" = none
  tb : ∃ t, mg "TIME_BOUND" = some (.int 68719476736 t)
  hb : ∃ t, mg "HEIGHT_BOUND" = some (.int 1000000 t)
  se : ∃ t, mg "SETTING_END" = some (.int 4294967296 t)
  mp : ∃ t, mg "MOST_POINTS" = some (.int 256 t)
  mc : ∃ t, mg "MOST_CHECKS" = some (.int 32 t)
  mh : ∃ t, mg "MOST_HEIGHTS" = some (.int 256 t)
  mw : ∃ t, mg "MOST_WEIGHTS" = some (.int 32 t)
  wb : ∃ t, mg "WEIGHT_BOUND" = some (.int 65536 t)
  sb : ∃ t, mg "SMOOTH_BOUND" = some (.int 4000000 t)
  nc : ∃ a, mg "NUMBERS_OF_CALL" = some (.ref a) ∧ ∀ H, SqT K H a [.int 2, .int 0, .int 1, .int 1, .int 1, .int 3, .int 0]
  rc : ∃ a, mg "ROWS_OF_CALL" = some (.ref a) ∧ ∀ H, SqT K H a [.int 3, .int 0, .int 0, .int 0, .int 0, .int 0, .int 2]
section
variable {P : Program} {w : World} {K : PySem.W.Frag} {mg : Str → Option Value} {base : Heap}
/-! ## common_divisor -/
noncomputable def sp_common_divisor : Sp := fun vs H Q _ => ∃ a b : Nat, vs = [.int a, .int b] ∧ Q (.int (Nat.gcd b a : Nat)) H
theorem sc_common_divisor : FnScope ["first", "second", "rest"] ["first", "second"] (defScope s_common_divisor) := ⟨rfl, rfl, rfl, by decide +kernel, rfl, by decide +kernel, by decide +kernel⟩
theorem ok_common_divisor {f : Addr} {fd : FuncData} (F : Fun K "common_divisor" "common_divisor" s_common_divisor f fd) : FnOk P w K mg base CX0 1 f fd ["first", "second"] sp_common_divisor := by
  have nd := sc_common_divisor.nd
  refine F.ok sc_common_divisor (fun vs H Q E h => ?_) (fun cdv A outer s H vs Q E hr h => ?_)
  · obtain ⟨a, b, rfl, _⟩ := h
    rfl
  · obtain ⟨a, b, rfl, k⟩ := h
    refine ⟨_, pss_cons (ps_while PassesOwn.never (pt_cmpR op_ne (pv 1) pe_int (nomark _))
      (pss_cons (ps_set (i := 2) nd rfl (Or.inl rfl) (pe_op op_mod (pv 0) (pv 1)))
      (pss_cons (ps_set (i := 0) nd rfl (Or.inl rfl) (pv 1))
      (pss_one (ps_set (i := 1) nd rfl (Or.inl rfl) (pv 2))))))
      (pss_one (ps_ret (pv 0))), ?_⟩
    refine while_by (fun σ H' => H' = H ∧ ∃ (x y : Nat) (r : Option V), σ = [some (.int x), some (.int y), r] ∧ Nat.gcd y x = Nat.gcd b a)
      (fun σ _ => match σ with | [_, some (.int y), _] => y.toNat | _ => 0) ⟨rfl, a, b, none, rfl, rfl⟩ ?_ ?_
    · rintro σ H' ⟨rfl, x, y, r, rfl, hg⟩
      refine ⟨_, rfl, rfl, _, rfl, ?_⟩
      by_cases hy : y = 0
      · subst hy
        refine iteNS rfl ⟨_, rfl, ?_⟩
        rw [Nat.gcd_zero_left] at hg
        rw [hg]
        exact k
      · rw [decide_eq_false (by intro e; injection e with e; omega)]
        refine iteT ⟨_, rfl, _, rfl, _, _, rfl, rfl, (by omega), _, rfl, _, rfl, ⟨rfl, y, x % y, _, rfl, ?_⟩, ?_⟩
        · rw [← hg]
          exact (Nat.gcd_rec y x).symm
        · have := Nat.mod_lt x (Nat.pos_of_ne_zero hy)
          show (((x % y : Nat) : Int)).toNat < (y : Int).toNat
          omega
    · intro σ H Q Q' hq h
      obtain ⟨x, h1, h2, k, h3, h4⟩ := h
      exact ⟨x, h1, h2, k, h3, hq _ _ h4⟩
/-! ## fraction_answer -/
noncomputable def toldF (n d : Int) : List Int := [0, n / d, ((n % d).toNat / Nat.gcd d.toNat (n % d).toNat : Nat), (d.toNat / Nat.gcd d.toNat (n % d).toNat : Nat)]
noncomputable def sp_fraction_answer (K : PySem.W.Frag) : Sp := fun vs H Q _ => ∃ (a : Addr) (n d : Int), vs = [.ref a] ∧ SqT K H a [.int n, .int d] ∧ 0 < d ∧ d < 2 ^ 64 ∧ RetL H Q (toldF n d)
theorem sc_fraction_answer : FnScope ["fraction", "bottom", "whole", "over", "common"] ["fraction"] (defScope s_fraction_answer) := ⟨rfl, rfl, rfl, by decide +kernel, rfl, by decide +kernel, by decide +kernel⟩
theorem ok_fraction_answer {f f1 : Addr} {fd fd1 : FuncData} (F : Fun K "fraction_answer" "fraction_answer" s_fraction_answer f fd)
    (G : FnOk P w K mg base CX0 1 f1 fd1 ["first", "second"] sp_common_divisor) (m1 : mg "common_divisor" = some (.ref f1)) (k1 : PySem.W.keepIn K (.ref f1) = true) (b1 : Binds K fd1 ["first", "second"] []) :
    FnOk P w K mg base CX0 2 f fd ["fraction"] (sp_fraction_answer K) := by
  have nd := sc_fraction_answer.nd
  refine F.ok sc_fraction_answer (fun vs H Q E h => ?_) (fun cdv A outer s H vs Q E hr h => ?_)
  · obtain ⟨a, n, d, rfl, _⟩ := h
    rfl
  · obtain ⟨a, n, d, rfl, ht, h0, h1, k⟩ := h
    refine ⟨_, pss_cons (ps_set (i := 1) nd rfl (Or.inl rfl) (pe_ix ix_tup (pv 0) pe_int (fun _ _ => rfl)))
      (pss_cons (ps_set (i := 2) nd rfl (Or.inl rfl) (pe_op op_fdivZ (pe_ix ix_tup (pv 0) pe_int (fun _ _ => rfl)) (pv 1)))
      (pss_cons (ps_set (i := 3) nd rfl (Or.inl rfl) (pe_op op_mod (pe_ix ix_tup (pv 0) pe_int (fun _ _ => rfl)) (pv 1)))
      (pss_cons (ps_set (i := 4) nd rfl (Or.inl rfl) (pe_call G hr rfl m1 k1 b1 .nil pass0 (pa_cons (pv 3) (pa_cons (pv 1) pa_nil))))
      (pss_one (ps_ret (pe_lst (pa_cons pe_int (pa_cons (pv 2) (pa_cons (pe_op op_fdivZ (pv 3) (pv 4)) (pa_cons (pe_op op_fdivZ (pv 1) (pv 4)) pa_nil)))))))))), ?_⟩
    have hm : 0 ≤ n % d := Int.emod_nonneg _ (by omega)
    have em : n % d = ((n % d).toNat : Int) := (Int.toNat_of_nonneg hm).symm
    have ed : d = (d.toNat : Int) := (Int.toNat_of_nonneg (by omega)).symm
    have hg0 : 0 < Nat.gcd d.toNat (n % d).toNat := Nat.gcd_pos_of_pos_left _ (by omega)
    have hg1 : Nat.gcd d.toNat (n % d).toNat ≤ d.toNat := Nat.gcd_le_left _ (by omega)
    have hdv : CDivZ n d := ⟨h0, 64, by omega, by omega⟩
    have hdg : ∀ i, CDivZ i (Nat.gcd d.toNat (n % d).toNat : Nat) := fun i => ⟨by omega, 64, by omega, by omega⟩
    refine ⟨_, rfl, a, _, _, _, rfl, rfl, ht, at1, _, rfl, a, _, _, _, rfl, rfl, ht, at0, _, rfl, _, _, rfl, rfl, hdv, _, rfl, a, _, _, _, rfl, rfl, ht, at0, _, rfl, _, _, rfl, rfl, h0, _, rfl, _, rfl,
      (n % d).toNat, d.toNat, by rw [← em, ← ed]; rfl, _, rfl, _, rfl, _, rfl, _, _, rfl, rfl, hdg _, _, rfl, _, rfl, _, _, rfl, rfl, hdg _, (by show 4 ≤ sizeLine; decide), fun p hp => ?_⟩
    have e1 : n % d / ((Nat.gcd d.toNat (n % d).toNat : Nat) : Int) = (((n % d).toNat / Nat.gcd d.toNat (n % d).toNat : Nat) : Int) := by rw [Int.natCast_ediv, ← em]
    have e2 : d / ((Nat.gcd d.toNat (n % d).toNat : Nat) : Int) = ((d.toNat / Nat.gcd d.toNat (n % d).toNat : Nat) : Int) := by rw [Int.natCast_ediv, ← ed]
    have z := RetL.here k hp
    unfold toldF at z
    rw [← e1, ← e2] at z
    exact z
end
end Gc
end
section
set_option Elab.async false
set_option linter.all false
set_option bootstrap.genMatcherCode false
set_option genSizeOf false
set_option maxRecDepth 100000
set_option maxHeartbeats 2000000
namespace Gc
open PySem PySem.Spec PyProof.Rows L2
/-! ## the lines between checks -/
noncomputable def lineF (a b : Int × Int) (c : Int) : Int × Int := (a.2 * (b.1 - a.1) + (c - a.1) * (b.2 - a.2), b.1 - a.1)
noncomputable def betw : Int × Int → List (Int × Int) → Int → Int × Int
  | _, [], _ => (0, 1)
  | a, b :: l, c => if c ≤ b.1 then lineF a b c else betw b l c
noncomputable def lastOf : Int × Int → List (Int × Int) → Int × Int
  | a, [] => a
  | _, b :: l => lastOf b l
noncomputable def ttF (ps : List (Int × Int)) (c : Int) : Int × Int := match ps with
  | [] => (c, 1)
  | a :: l => if c ≤ a.1 then (c + a.2 - a.1, 1) else if (lastOf a l).1 ≤ c then (c + (lastOf a l).2 - (lastOf a l).1, 1) else betw a l c
noncomputable def zzF (ps : List (Int × Int)) (c : Int) : Int × Int := match ps with
  | [] => (0, 1)
  | a :: l => if c ≤ a.1 then (a.2, 1) else if (lastOf a l).1 ≤ c then ((lastOf a l).2, 1) else betw a l c
/-- all within 2 ^ 40 -/
noncomputable def Small (ps : List (Int × Int)) : Prop := ∀ p ∈ ps, p.1.natAbs < 2 ^ 40 ∧ p.2.natAbs < 2 ^ 40
theorem last_get : ∀ (a : Int × Int) (l : List (Int × Int)), (a :: l)[(a :: l).length - 1]? = some (lastOf a l)
  | a, [] => rfl
  | a, b :: l => by
    have ih := last_get b l
    show (b :: l)[(b :: l).length - 1]? = some (lastOf b l)
    exact ih
theorem last_mem : ∀ (a : Int × Int) (l : List (Int × Int)), lastOf a l ∈ a :: l
  | a, [] => List.mem_cons_self
  | a, b :: l => List.mem_cons_of_mem _ (last_mem b l)
theorem betw_drop {ps : List (Int × Int)} {c : Int} {k : Nat} {x y : Int × Int} (h1 : ps[k]? = some x) (h2 : ps[k + 1]? = some y) :
    betw x (ps.drop (k + 1)) c = if c ≤ y.1 then lineF x y c else betw y (ps.drop (k + 2)) c := by
  obtain ⟨hk, e⟩ := List.getElem?_eq_some_iff.mp h2
  rw [List.drop_eq_getElem_cons hk, e]
  rfl
section
variable {P : Program} {w : World} {K : PySem.W.Frag} {mg : Str → Option Value} {base : Heap}
/-! ## is_time -/
noncomputable def sp_is_time : Sp := fun vs H Q _ => ∃ c : Int, vs = [.int c] ∧ Q (.bl (decide (-68719476736 ≤ c ∧ c ≤ 68719476736))) H
theorem sc_is_time : FnScope ["number"] ["number"] (defScope s_is_time) := ⟨rfl, rfl, rfl, by decide +kernel, rfl, by decide +kernel, by decide +kernel⟩
theorem ok_is_time {f : Addr} {fd : FuncData} (F : Fun K "is_time" "is_time" s_is_time f fd) (T : Mg K mg) : FnOk P w K mg base CX0 1 f fd ["number"] sp_is_time := by
  obtain ⟨tt, ht⟩ := T.tb
  refine F.ok sc_is_time (fun vs H Q E h => ?_) (fun cdv A outer s H vs Q E hr h => ?_)
  · obtain ⟨c, rfl, _⟩ := h
    rfl
  · obtain ⟨c, rfl, k⟩ := h
    refine ⟨_, pss_one (ps_ret (pe_chain op_le op_le (pe_un un_neg (pe_gi rfl ht)) (pv 0) (pe_gi rfl ht))), ?_⟩
    refine ⟨_, rfl, _, rfl, _, _, rfl, rfl, _, rfl, ?_⟩
    by_cases h1 : -68719476736 ≤ c
    · rw [decide_eq_true h1]
      refine iteT ⟨_, _, rfl, rfl, ?_⟩
      have e : decide (c ≤ 68719476736) = decide (-68719476736 ≤ c ∧ c ≤ 68719476736) := by simp [h1]
      show Q (.bl (decide (c ≤ 68719476736))) H
      rw [e]
      exact k
    · rw [decide_eq_false h1]
      refine iteF ?_
      rw [decide_eq_false (fun z => h1 z.1)] at k
      exact k
/-! ## on_line -/
noncomputable def sp_on_line (K : PySem.W.Frag) : Sp := fun vs H Q _ => ∃ (a b : Addr) (x y : Int × Int) (c : Int), vs = [.ref a, .ref b, .int c] ∧ SqT K H a [.int x.1, .int x.2] ∧ SqT K H b [.int y.1, .int y.2] ∧
  x.1.natAbs < 2 ^ 40 ∧ x.2.natAbs < 2 ^ 40 ∧ y.1.natAbs < 2 ^ 40 ∧ y.2.natAbs < 2 ^ 40 ∧ c.natAbs < 2 ^ 40 ∧ RetT H Q (pr (lineF x y c))
theorem sc_on_line : FnScope ["before", "behind", "clock", "span", "top"] ["before", "behind", "clock"] (defScope s_on_line) := ⟨rfl, rfl, rfl, by decide +kernel, rfl, by decide +kernel, by decide +kernel⟩
theorem ok_on_line {f : Addr} {fd : FuncData} (F : Fun K "on_line" "on_line" s_on_line f fd) : FnOk P w K mg base CX0 1 f fd ["before", "behind", "clock"] (sp_on_line K) := by
  have nd := sc_on_line.nd
  refine F.ok sc_on_line (fun vs H Q E h => ?_) (fun cdv A outer s H vs Q E hr h => ?_)
  · obtain ⟨a, b, x, y, c, rfl, _⟩ := h
    rfl
  · obtain ⟨a, b, x, y, c, rfl, ha, hb, b1, b2, b3, b4, b5, k⟩ := h
    refine ⟨_, pss_cons (ps_set (i := 3) nd rfl (Or.inl rfl) (pe_op op_sub (pe_ix ix_tup (pv 1) pe_int (fun _ _ => rfl)) (pe_ix ix_tup (pv 0) pe_int (fun _ _ => rfl))))
      (pss_cons (ps_set (i := 4) nd rfl (Or.inl rfl) (pe_op op_add (pe_op op_mulZ (pe_ix ix_tup (pv 0) pe_int (fun _ _ => rfl)) (pv 3))
        (pe_op op_mulZ (pe_op op_sub (pv 2) (pe_ix ix_tup (pv 0) pe_int (fun _ _ => rfl))) (pe_op op_sub (pe_ix ix_tup (pv 1) pe_int (fun _ _ => rfl)) (pe_ix ix_tup (pv 0) pe_int (fun _ _ => rfl))))))
      (pss_one (ps_ret (pe_tup (pa_cons (pv 4) (pa_cons (pv 3) pa_nil)))))), ?_⟩
    refine ⟨_, rfl, b, _, _, _, rfl, rfl, hb, at0, _, rfl, a, _, _, _, rfl, rfl, ha, at0, _, _, rfl, rfl, ?_⟩
    refine ⟨_, rfl, a, _, _, _, rfl, rfl, ha, at1, _, rfl, _, _, rfl, rfl, (bt40 b2).cm (bt41 b3 b1), ?_⟩
    refine ⟨_, rfl, _, rfl, a, _, _, _, rfl, rfl, ha, at0, _, _, rfl, rfl, _, rfl, b, _, _, _, rfl, rfl, hb, at1, _, rfl, a, _, _, _, rfl, rfl, ha, at1, _, _, rfl, rfl, _, _, rfl, rfl, (bt41 b5 b1).cm (bt41 b4 b2), _, _, rfl, rfl, ?_⟩
    refine ⟨_, rfl, _, rfl, (by show 2 ≤ sizeLine; decide), fun p hp => ?_⟩
    exact RetT.here k hp
/-! ## between_checks -/
noncomputable def sp_between_checks (K : PySem.W.Frag) : Sp := fun vs H Q _ => ∃ (l : Addr) (a : Int × Int) (ps : List (Int × Int)) (c : Int), vs = [.ref l, .int c] ∧ PairsAt K H l (a :: ps) ∧ Small (a :: ps) ∧ c.natAbs < 2 ^ 40 ∧
  a.1 < c ∧ c ≤ (lastOf a ps).1 ∧ RetT H Q (pr (betw a ps c))
theorem sc_between_checks : FnScope ["checks", "clock", "k"] ["checks", "clock"] (defScope s_between_checks) := ⟨rfl, rfl, rfl, by decide +kernel, rfl, by decide +kernel, by decide +kernel⟩
theorem ok_between_checks {f f1 : Addr} {fd fd1 : FuncData} (F : Fun K "between_checks" "between_checks" s_between_checks f fd)
    (G : FnOk P w K mg base CX0 1 f1 fd1 ["before", "behind", "clock"] (sp_on_line K)) (m1 : mg "on_line" = some (.ref f1)) (k1 : PySem.W.keepIn K (.ref f1) = true) (b1 : Binds K fd1 ["before", "behind", "clock"] []) :
    FnOk P w K mg base CX0 2 f fd ["checks", "clock"] (sp_between_checks K) := by
  have nd := sc_between_checks.nd
  refine F.ok sc_between_checks (fun vs H Q E h => ?_) (fun cdv A outer s H vs Q E hr h => ?_)
  · obtain ⟨l, a, ps, c, rfl, _⟩ := h
    rfl
  · obtain ⟨l, a, ps, c, rfl, hl, hs, hc, h1, h2, k⟩ := h
    obtain ⟨xs, hx, hlen, hat⟩ := hl.get
    refine ⟨_, pss_cons (ps_set (i := 2) nd rfl (Or.inl rfl) pe_int)
      (pss_cons (ps_while PassesOwn.never (pt_cmpR op_lt (pe_ix ix_tup (pe_ix ix_list (pv 0) (pv 2) (fun _ _ => rfl)) pe_int (fun _ _ => rfl)) (pv 1) (nomark _))
        (pss_one (ps_aug (i := 2) nd rfl (Or.inl rfl) pe_int ip_add)))
      (pss_one (ps_ret (pe_call G hr rfl m1 k1 b1 .nil pass0 (pa_cons (pe_ix ix_list (pv 0) (pe_op op_sub (pv 2) pe_int) (fun _ _ => rfl)) (pa_cons (pe_ix ix_list (pv 0) (pv 2) (fun _ _ => rfl)) (pa_cons (pv 1) pa_nil))))))), ?_⟩
    have hlast := last_get a ps
    have hl2 : 1 < (a :: ps).length := by
      match ps, h2 with
      | [], h2 => exact absurd h2 (by show ¬ c ≤ a.1; omega)
      | _ :: _, _ => simp
    refine while_by (fun σ H' => H' = H ∧ ∃ (j : Nat) (x : Int × Int), σ = [some (.ref l), some (.int c), some (.int (j + 1 : Nat))] ∧ j + 1 < (a :: ps).length ∧ (a :: ps)[j]? = some x ∧ x.1 < c ∧ betw x ((a :: ps).drop (j + 1)) c = betw a ps c)
      (fun σ _ => match σ with | [_, _, some (.int z)] => (a :: ps).length - z.toNat | _ => 0) ⟨rfl, 0, a, rfl, hl2, rfl, h1, rfl⟩ ?_ ?_
    · rintro σ H' ⟨rfl, j, x, rfl, hj, hjx, hxc, hb⟩
      obtain ⟨y, hy⟩ : ∃ y, (a :: ps)[j + 1]? = some y := ⟨_, List.getElem?_eq_getElem hj⟩
      obtain ⟨ay, hay, tay⟩ := hat (j + 1) y hy
      obtain ⟨ax, hax, tax⟩ := hat j x hjx
      refine ⟨_, rfl, _, rfl, l, _, _, _, rfl, rfl, hx, atI_nat hay, ay, _, _, _, rfl, rfl, tay, at0, _, rfl, _, _, rfl, rfl, _, rfl, ?_⟩
      have hd := betw_drop (c := c) hjx hy
      refine ite2 (fun hlt => ?_) (fun hge => ?_)
      · have hlt : y.1 < c := of_decide_eq_true hlt
        rw [if_neg (by omega)] at hd
        refine ⟨_, rfl, _, _, rfl, rfl, ⟨rfl, j + 1, y, rfl, ?_, hy, hlt, by rw [← hb, hd]⟩, ?_⟩
        · have : (a :: ps).length - 1 ≠ j + 1 := fun e => by
            rw [e, hy] at hlast
            have e2 := Option.some.inj hlast
            rw [← e2] at h2
            omega
          omega
        · show (a :: ps).length - (((j + 1 : Nat) : Int) + 1).toNat < (a :: ps).length - (((j + 1 : Nat) : Int)).toNat
          omega
      · have hge : ¬ y.1 < c := fun z => hge (decide_eq_true z)
        rw [if_pos (by omega)] at hd
        have sx := hs x (List.mem_of_getElem? hjx)
        have sy := hs y (List.mem_of_getElem? hy)
        refine ⟨_, rfl, _, rfl, _, _, rfl, rfl, l, _, _, _, rfl, rfl, hx, at_of (j := j) (by omega) hax, _, rfl, _, rfl, l, _, _, _, rfl, rfl, hx, atI_nat hay, _, rfl, ?_⟩
        refine ⟨ax, ay, x, y, c, rfl, tax, tay, sx.1, sx.2, sy.1, sy.2, hc, ?_⟩
        rw [← hd, hb]
        exact k
    · intro σ H Q Q' hq h
      obtain ⟨x, h1, y, h2, p, xs, i, v, h3, h4, h5, h6, p', xs', i', v', h7, h8, h9, h10, z, h11, i2, j2, h12, h13, b, h14, h15⟩ := h
      exact ⟨x, h1, y, h2, p, xs, i, v, h3, h4, h5, h6, p', xs', i', v', h7, h8, h9, h10, z, h11, i2, j2, h12, h13, b, h14, hq _ _ h15⟩
end
end Gc
end
section
set_option Elab.async false
set_option linter.all false
set_option bootstrap.genMatcherCode false
set_option genSizeOf false
set_option maxRecDepth 100000
set_option maxHeartbeats 2000000
namespace Gc
open PySem PySem.Spec PyProof.Rows L2
theorem dec_vi {a b : Int} (h : a ≠ b) : decide (V.int a = V.int b) = false := decide_eq_false fun e => h (V.int.inj e)
theorem dec_vt {a b : Int} (h : a = b) : decide (V.int a = V.int b) = true := decide_eq_true (congrArg V.int h)
section
variable {a : Int × Int} {ps : List (Int × Int)} {c : Int}
theorem ttF_1 (h1 : c ≤ a.1) : ttF (a :: ps) c = (c + a.2 - a.1, 1) := if_pos h1
theorem ttF_2 (h1 : ¬ c ≤ a.1) (h2 : (lastOf a ps).1 ≤ c) : ttF (a :: ps) c = (c + (lastOf a ps).2 - (lastOf a ps).1, 1) := (if_neg h1).trans (if_pos h2)
theorem ttF_3 (h1 : ¬ c ≤ a.1) (h2 : ¬ (lastOf a ps).1 ≤ c) : ttF (a :: ps) c = betw a ps c := (if_neg h1).trans (if_neg h2)
theorem zzF_1 (h1 : c ≤ a.1) : zzF (a :: ps) c = (a.2, 1) := if_pos h1
theorem zzF_2 (h1 : ¬ c ≤ a.1) (h2 : (lastOf a ps).1 ≤ c) : zzF (a :: ps) c = ((lastOf a ps).2, 1) := (if_neg h1).trans (if_pos h2)
theorem zzF_3 (h1 : ¬ c ≤ a.1) (h2 : ¬ (lastOf a ps).1 ≤ c) : zzF (a :: ps) c = betw a ps c := (if_neg h1).trans (if_neg h2)
end
section
variable {P : Program} {w : World} {K : PySem.W.Frag} {mg : Str → Option Value} {base : Heap}
/-! ## true_time, zero_at -/
noncomputable def sp_checks (K : PySem.W.Frag) (g : List (Int × Int) → Int → Int × Int) : Sp := fun vs H Q _ => ∃ (l : Addr) (ps : List (Int × Int)) (c : Int), vs = [.ref l, .int c] ∧ PairsAt K H l ps ∧ Small ps ∧ c.natAbs < 2 ^ 40 ∧ RetT H Q (pr (g ps c))
theorem sc_true_time : FnScope ["checks", "clock", "first", "last"] ["checks", "clock"] (defScope s_true_time) := ⟨rfl, rfl, rfl, by decide +kernel, rfl, by decide +kernel, by decide +kernel⟩
theorem ok_true_time {f f1 : Addr} {fd fd1 : FuncData} (F : Fun K "true_time" "true_time" s_true_time f fd) (T : Mg K mg)
    (G : FnOk P w K mg base CX0 2 f1 fd1 ["checks", "clock"] (sp_between_checks K)) (m1 : mg "between_checks" = some (.ref f1)) (k1 : PySem.W.keepIn K (.ref f1) = true) (b1 : Binds K fd1 ["checks", "clock"] []) :
    FnOk P w K mg base CX0 3 f fd ["checks", "clock"] (sp_checks K ttF) := by
  have nd := sc_true_time.nd
  refine F.ok sc_true_time (fun vs H Q E h => ?_) (fun cdv A outer s H vs Q E hr h => ?_)
  · obtain ⟨l, ps, c, rfl, _⟩ := h
    rfl
  · obtain ⟨l, ps, c, rfl, hl, hs, hc, k⟩ := h
    obtain ⟨xs, hx, hlen, hat⟩ := hl.get
    refine ⟨_, pss_cons (ps_if (pt_cmpR op_eq (pe_callB call_len_seq (by rfl) T.len PySem.boot_len (pa_cons (pv 0) pa_nil)) pe_int (nomark _)) (pss_one (ps_ret (pe_tup (pa_cons (pv 1) (pa_cons pe_int pa_nil))))) pss_nil)
      (pss_cons (ps_set (i := 2) nd rfl (Or.inl rfl) (pe_ix ix_list (pv 0) pe_int (fun _ _ => rfl)))
      (pss_cons (ps_if (pt_cmpR op_le (pv 1) (pe_ix ix_tup (pv 2) pe_int (fun _ _ => rfl)) (nomark _))
        (pss_one (ps_ret (pe_tup (pa_cons (pe_op op_sub (pe_op op_add (pv 1) (pe_ix ix_tup (pv 2) pe_int (fun _ _ => rfl))) (pe_ix ix_tup (pv 2) pe_int (fun _ _ => rfl))) (pa_cons pe_int pa_nil))))) pss_nil)
      (pss_cons (ps_set (i := 3) nd rfl (Or.inl rfl) (pe_ix ix_list (pv 0) (pe_un un_neg pe_int) (fun _ _ => rfl)))
      (pss_cons (ps_if (pt_cmpR op_ge (pv 1) (pe_ix ix_tup (pv 3) pe_int (fun _ _ => rfl)) (nomark _))
        (pss_one (ps_ret (pe_tup (pa_cons (pe_op op_sub (pe_op op_add (pv 1) (pe_ix ix_tup (pv 3) pe_int (fun _ _ => rfl))) (pe_ix ix_tup (pv 3) pe_int (fun _ _ => rfl))) (pa_cons pe_int pa_nil))))) pss_nil)
      (pss_one (ps_ret (pe_call G hr rfl m1 k1 b1 .nil pass0 (pa_cons (pv 0) (pa_cons (pv 1) pa_nil))))))))), ?_⟩
    refine ⟨_, rfl, l, xs, rfl, .inl hx, rfl, _, rfl, ?_⟩
    cases ps with
    | nil =>
      have e0 : xs.length = 0 := hlen
      rw [e0]
      refine iteT ⟨_, rfl, (by show 2 ≤ sizeLine; decide), fun p hp => RetT.here k hp⟩
    | cons a ps =>
      have e0 : (xs.length : Int) ≠ 0 := by rw [hlen]; simp; omega
      rw [dec_vi e0]
      obtain ⟨aa, haa, taa⟩ := hat 0 a rfl
      obtain ⟨az, haz, taz⟩ := hat _ _ (last_get a ps)
      rw [← hlen] at haz
      refine iteF ⟨_, rfl, l, _, _, _, rfl, rfl, hx, atI_nat (j := 0) haa, ?_⟩
      refine ⟨_, rfl, _, rfl, aa, _, _, _, rfl, rfl, taa, at0, _, _, rfl, rfl, _, rfl, ?_⟩
      refine ite2 (fun h1 => ?_) (fun h1 => ?_)
      · have h1 : c ≤ a.1 := of_decide_eq_true h1
        refine ⟨_, rfl, _, rfl, aa, _, _, _, rfl, rfl, taa, at1, _, _, rfl, rfl, _, rfl, aa, _, _, _, rfl, rfl, taa, at0, _, _, rfl, rfl, (by show 2 ≤ sizeLine; decide), fun p hp => ?_⟩
        rw [ttF_1 h1] at k
        exact RetT.here k hp
      · have h1 : ¬ c ≤ a.1 := fun z => h1 (decide_eq_true z)
        refine ⟨_, rfl, _, rfl, l, _, _, _, rfl, rfl, hx, atI_end haz, ?_⟩
        refine ⟨_, rfl, _, rfl, az, _, _, _, rfl, rfl, taz, at0, _, _, rfl, rfl, _, rfl, ?_⟩
        refine ite2 (fun h2 => ?_) (fun h2 => ?_)
        · have h2 : (lastOf a ps).1 ≤ c := of_decide_eq_true h2
          refine ⟨_, rfl, _, rfl, az, _, _, _, rfl, rfl, taz, at1, _, _, rfl, rfl, _, rfl, az, _, _, _, rfl, rfl, taz, at0, _, _, rfl, rfl, (by show 2 ≤ sizeLine; decide), fun p hp => ?_⟩
          rw [ttF_2 h1 h2] at k
          exact RetT.here k hp
        · have h2 : ¬ (lastOf a ps).1 ≤ c := fun z => h2 (decide_eq_true z)
          refine ⟨_, rfl, _, rfl, l, a, ps, c, rfl, hl, hs, hc, by omega, by omega, ?_⟩
          rw [ttF_3 h1 h2] at k
          exact k
theorem sc_zero_at : FnScope ["checks", "clock", "first", "last"] ["checks", "clock"] (defScope s_zero_at) := ⟨rfl, rfl, rfl, by decide +kernel, rfl, by decide +kernel, by decide +kernel⟩
theorem ok_zero_at {f f1 : Addr} {fd fd1 : FuncData} (F : Fun K "zero_at" "zero_at" s_zero_at f fd) (T : Mg K mg)
    (G : FnOk P w K mg base CX0 2 f1 fd1 ["checks", "clock"] (sp_between_checks K)) (m1 : mg "between_checks" = some (.ref f1)) (k1 : PySem.W.keepIn K (.ref f1) = true) (b1 : Binds K fd1 ["checks", "clock"] []) :
    FnOk P w K mg base CX0 3 f fd ["checks", "clock"] (sp_checks K zzF) := by
  have nd := sc_zero_at.nd
  refine F.ok sc_zero_at (fun vs H Q E h => ?_) (fun cdv A outer s H vs Q E hr h => ?_)
  · obtain ⟨l, ps, c, rfl, _⟩ := h
    rfl
  · obtain ⟨l, ps, c, rfl, hl, hs, hc, k⟩ := h
    obtain ⟨xs, hx, hlen, hat⟩ := hl.get
    refine ⟨_, pss_cons (ps_if (pt_cmpR op_eq (pe_callB call_len_seq (by rfl) T.len PySem.boot_len (pa_cons (pv 0) pa_nil)) pe_int (nomark _)) (pss_one (ps_ret (pe_tup (pa_cons pe_int (pa_cons pe_int pa_nil))))) pss_nil)
      (pss_cons (ps_set (i := 2) nd rfl (Or.inl rfl) (pe_ix ix_list (pv 0) pe_int (fun _ _ => rfl)))
      (pss_cons (ps_if (pt_cmpR op_le (pv 1) (pe_ix ix_tup (pv 2) pe_int (fun _ _ => rfl)) (nomark _))
        (pss_one (ps_ret (pe_tup (pa_cons (pe_ix ix_tup (pv 2) pe_int (fun _ _ => rfl)) (pa_cons pe_int pa_nil))))) pss_nil)
      (pss_cons (ps_set (i := 3) nd rfl (Or.inl rfl) (pe_ix ix_list (pv 0) (pe_un un_neg pe_int) (fun _ _ => rfl)))
      (pss_cons (ps_if (pt_cmpR op_ge (pv 1) (pe_ix ix_tup (pv 3) pe_int (fun _ _ => rfl)) (nomark _))
        (pss_one (ps_ret (pe_tup (pa_cons (pe_ix ix_tup (pv 3) pe_int (fun _ _ => rfl)) (pa_cons pe_int pa_nil))))) pss_nil)
      (pss_one (ps_ret (pe_call G hr rfl m1 k1 b1 .nil pass0 (pa_cons (pv 0) (pa_cons (pv 1) pa_nil))))))))), ?_⟩
    refine ⟨_, rfl, l, xs, rfl, .inl hx, rfl, _, rfl, ?_⟩
    cases ps with
    | nil =>
      have e0 : xs.length = 0 := hlen
      rw [e0]
      refine iteT ⟨(by show 2 ≤ sizeLine; decide), fun p hp => RetT.here k hp⟩
    | cons a ps =>
      have e0 : (xs.length : Int) ≠ 0 := by rw [hlen]; simp; omega
      rw [dec_vi e0]
      obtain ⟨aa, haa, taa⟩ := hat 0 a rfl
      obtain ⟨az, haz, taz⟩ := hat _ _ (last_get a ps)
      rw [← hlen] at haz
      refine iteF ⟨_, rfl, l, _, _, _, rfl, rfl, hx, atI_nat (j := 0) haa, ?_⟩
      refine ⟨_, rfl, _, rfl, aa, _, _, _, rfl, rfl, taa, at0, _, _, rfl, rfl, _, rfl, ?_⟩
      refine ite2 (fun h1 => ?_) (fun h1 => ?_)
      · have h1 : c ≤ a.1 := of_decide_eq_true h1
        refine ⟨_, rfl, aa, _, _, _, rfl, rfl, taa, at1, (by show 2 ≤ sizeLine; decide), fun p hp => ?_⟩
        rw [zzF_1 h1] at k
        exact RetT.here k hp
      · have h1 : ¬ c ≤ a.1 := fun z => h1 (decide_eq_true z)
        refine ⟨_, rfl, _, rfl, l, _, _, _, rfl, rfl, hx, atI_end haz, ?_⟩
        refine ⟨_, rfl, _, rfl, az, _, _, _, rfl, rfl, taz, at0, _, _, rfl, rfl, _, rfl, ?_⟩
        refine ite2 (fun h2 => ?_) (fun h2 => ?_)
        · have h2 : (lastOf a ps).1 ≤ c := of_decide_eq_true h2
          refine ⟨_, rfl, az, _, _, _, rfl, rfl, taz, at1, (by show 2 ≤ sizeLine; decide), fun p hp => ?_⟩
          rw [zzF_2 h1 h2] at k
          exact RetT.here k hp
        · have h2 : ¬ (lastOf a ps).1 ≤ c := fun z => h2 (decide_eq_true z)
          refine ⟨_, rfl, _, rfl, l, a, ps, c, rfl, hl, hs, hc, by omega, by omega, ?_⟩
          rw [zzF_3 h1 h2] at k
          exact k
end
end Gc
end
section
set_option Elab.async false
set_option linter.all false
set_option bootstrap.genMatcherCode false
set_option genSizeOf false
set_option maxRecDepth 100000
set_option maxHeartbeats 2000000
namespace Gc
open PySem PySem.Spec PyProof.Rows L2
/-! ## the gauge as an object -/
noncomputable def gfs (s g : Nat) (pl wl zl kl : Addr) : List (Str × V) := [("spike_size", .int s), ("widest_gap", .int g), ("points", .ref pl), ("watch_checks", .ref wl), ("zero_checks", .ref zl), ("kept", .ref kl)]
noncomputable def spikeB (s : Nat) (ps : List (Int × Int)) (i : Nat) : Bool := decide (0 < i) && (match ps[i - 1]?, ps[i]?, ps[i + 1]? with
  | some a, some x, some b => Tide.isSpike s a.2 x.2 b.2
  | _, _, _ => false)
/-- a kept point: time and height, both as fractions -/
noncomputable abbrev Kp := (Int × Int) × (Int × Int)
noncomputable def keptOf (ws zs : List (Int × Int)) (p : Int × Int) : Kp := (ttF ws p.1, (p.2 * (zzF zs p.1).2 + (zzF zs p.1).1, (zzF zs p.1).2))
noncomputable def keptF (s : Nat) (ps ws zs : List (Int × Int)) (n : Nat) : List Kp := ((List.range n).filter fun i => !spikeB s ps i).filterMap fun i => (ps[i]?).map (keptOf ws zs)
theorem keptF_succ (s : Nat) (ps ws zs : List (Int × Int)) (n : Nat) {p : Int × Int} (h : ps[n]? = some p) : keptF s ps ws zs (n + 1) = keptF s ps ws zs n ++ (if spikeB s ps n = true then [] else [keptOf ws zs p]) := by
  unfold keptF
  rw [List.range_succ, List.filter_append, List.filterMap_append]
  congr 1
  by_cases e : spikeB s ps n = true
  · rw [if_pos e, List.filter_cons, if_neg (by rw [e]; decide), List.filter_nil, List.filterMap_nil]
  · rw [if_neg e, List.filter_cons, if_pos (by simpa using e), List.filter_nil, List.filterMap_cons, h]
    rfl
theorem keptF_len (s : Nat) (ps ws zs : List (Int × Int)) (n : Nat) : (keptF s ps ws zs n).length ≤ n := by
  unfold keptF
  refine Nat.le_trans (List.length_filterMap_le _ _) (Nat.le_trans (List.length_filter_le _ _) ?_)
  rw [List.length_range]
  exact Nat.le_refl _
noncomputable def KpAt (K : PySem.W.Frag) (H : Hp) (a : Addr) (k : Kp) : Prop := ∃ b c, SqT K H a [.ref b, .ref c] ∧ SqT K H b [.int k.1.1, .int k.1.2] ∧ SqT K H c [.int k.2.1, .int k.2.2]
noncomputable def KeptAt (K : PySem.W.Frag) (H : Hp) (l : Addr) (ks : List Kp) : Prop :=
  ∃ xs : List V, SqL K H l xs ∧ xs.length = ks.length ∧ ∀ (i : Nat) (k : Kp), ks[i]? = some k → ∃ a, xs[i]? = some (.ref a) ∧ KpAt K H a k
theorem KpAt.same {K : PySem.W.Frag} {H H' : Hp} {a : Addr} {k : Kp} (h : KpAt K H a k) (s : Same H H') : KpAt K H' a k := by
  obtain ⟨b, c, h1, h2, h3⟩ := h
  exact ⟨b, c, same_tup s h1, same_tup s h2, same_tup s h3⟩
theorem KeptAt.same {K : PySem.W.Frag} {H H' : Hp} {l : Addr} {ks : List Kp} (t : KeptAt K H l ks) (s : Same H H') : KeptAt K H' l ks := by
  obtain ⟨xs, h1, h2, h3⟩ := t
  refine ⟨xs, s.seq h1, h2, fun i k e => ?_⟩
  obtain ⟨a, h4, h5⟩ := h3 i k e
  exact ⟨a, h4, h5.same s⟩
structure ClsG (K : PySem.W.Frag) (C : Addr) : Prop where
  cl : Cls K C
  n1 : NoAttr K C "spike_size"
  n2 : NoAttr K C "widest_gap"
  n3 : NoAttr K C "points"
  n4 : NoAttr K C "watch_checks"
  n5 : NoAttr K C "zero_checks"
  n6 : NoAttr K C "kept"
/-- what a gauge holds: s, g, points, watch checks, zero checks -/
structure Gd where
  s : Nat
  g : Nat
  pts : List (Int × Int)
  ws : List (Int × Int)
  zs : List (Int × Int)
noncomputable def Gd.kept (G : Gd) : List Kp := keptF G.s G.pts G.ws G.zs G.pts.length
structure GaugeAt (K : PySem.W.Frag) (C : Addr) (H : Hp) (a : Addr) (G : Gd) : Prop where
  ex : ∃ dx pl wl zl kl, H a = some (.ins C dx (gfs G.s G.g pl wl zl kl)) ∧ PairsAt K H pl G.pts ∧ PairsAt K H wl G.ws ∧ PairsAt K H zl G.zs ∧ KeptAt K H kl G.kept
  sp : Small G.pts
  sw : Small G.ws
  sz : Small G.zs
theorem GaugeAt.same {K : PySem.W.Frag} {C : Addr} {H H' : Hp} {a : Addr} {G : Gd} (h : GaugeAt K C H a G) (s : Same H H') : GaugeAt K C H' a G := by
  obtain ⟨⟨dx, pl, wl, zl, kl, h1, h2, h3, h4, h5⟩, s1, s2, s3⟩ := h
  exact ⟨⟨dx, pl, wl, zl, kl, s _ _ h1, h2.same s, h3.same s, h4.same s, h5.same s⟩, s1, s2, s3⟩
theorem one_den : (0 : Int) < 1 ∧ (1 : Int) < 2 ^ 64 := by decide
theorem betw_den : ∀ (a : Int × Int) (l : List (Int × Int)) (c : Int), Small (a :: l) → (∀ i x y, (a :: l)[i]? = some x → (a :: l)[i + 1]? = some y → x.1 < y.1) → 0 < (betw a l c).2 ∧ (betw a l c).2 < 2 ^ 64
  | a, [], c, _, _ => one_den
  | a, b :: l, c, hs, hr => by
    show 0 < (if c ≤ b.1 then lineF a b c else betw b l c).2 ∧ (if c ≤ b.1 then lineF a b c else betw b l c).2 < 2 ^ 64
    split
    · have h1 := hr 0 a b rfl rfl
      have h2 := (hs a List.mem_cons_self).1
      have h3 := (hs b (List.mem_cons_of_mem _ List.mem_cons_self)).1
      show 0 < b.1 - a.1 ∧ b.1 - a.1 < 2 ^ 64
      omega
    · exact betw_den b l c (fun p hp => hs p (List.mem_cons_of_mem _ hp)) fun i x y h1 h2 => hr (i + 1) x y h1 h2
theorem bt64 {x : Int} (h : 0 < x ∧ x < 2 ^ 64) : Bt 64 x := by
  unfold Bt
  omega
/-- clocks rise -/
noncomputable def Rise (ps : List (Int × Int)) : Prop := ∀ (i : Nat) (x y : Int × Int), ps[i]? = some x → ps[i + 1]? = some y → x.1 < y.1
theorem ttF_den {ps : List (Int × Int)} {c : Int} (hs : Small ps) (hr : Rise ps) : 0 < (ttF ps c).2 ∧ (ttF ps c).2 < 2 ^ 64 := by
  cases ps with
  | nil => exact one_den
  | cons a l =>
    unfold ttF
    dsimp only
    split
    · exact one_den
    · split
      · exact one_den
      · exact betw_den a l c hs hr
theorem zzF_den {ps : List (Int × Int)} {c : Int} (hs : Small ps) (hr : Rise ps) : 0 < (zzF ps c).2 ∧ (zzF ps c).2 < 2 ^ 64 := by
  cases ps with
  | nil => exact one_den
  | cons a l =>
    unfold zzF
    dsimp only
    split
    · exact one_den
    · split
      · exact one_den
      · exact betw_den a l c hs hr
noncomputable def timelyP (c : Int) : Prop := -68719476736 ≤ c ∧ c ≤ 68719476736
noncomputable instance (c : Int) : Decidable (timelyP c) := inferInstanceAs (Decidable (_ ∧ _))
section
variable {P : Program} {w : World} {K : PySem.W.Frag} {mg : Str → Option Value} {base : Heap}
/-! ## answer_time, answer_zero -/
noncomputable def sp_answer_time (K : PySem.W.Frag) (C : Addr) : Sp := fun vs H Q _ => ∃ (a : Addr) (G : Gd) (c : Int), vs = [.ref a, .int c] ∧ GaugeAt K C H a G ∧ Rise G.ws ∧ RetL H Q (if timelyP c then toldF (ttF G.ws c).1 (ttF G.ws c).2 else [-1])
noncomputable def sp_answer_zero (K : PySem.W.Frag) (C : Addr) : Sp := fun vs H Q _ => ∃ (a : Addr) (G : Gd) (c : Int), vs = [.ref a, .int c] ∧ GaugeAt K C H a G ∧ Rise G.zs ∧ RetL H Q (if timelyP c then toldF (zzF G.zs c).1 (zzF G.zs c).2 else [-1])
theorem sc_answer_time : FnScope ["gauge", "clock"] ["gauge", "clock"] (defScope s_answer_time) := ⟨rfl, rfl, rfl, by decide +kernel, rfl, by decide +kernel, by decide +kernel⟩
theorem ok_answer_time {C f f1 f2 f3 : Addr} {fd fd1 fd2 fd3 : FuncData} (F : Fun K "answer_time" "answer_time" s_answer_time f fd) (T : ClsG K C)
    (G1 : FnOk P w K mg base CX0 1 f1 fd1 ["number"] sp_is_time) (m1 : mg "is_time" = some (.ref f1)) (k1 : PySem.W.keepIn K (.ref f1) = true) (b1 : Binds K fd1 ["number"] [])
    (G2 : FnOk P w K mg base CX0 2 f2 fd2 ["fraction"] (sp_fraction_answer K)) (m2 : mg "fraction_answer" = some (.ref f2)) (k2 : PySem.W.keepIn K (.ref f2) = true) (b2 : Binds K fd2 ["fraction"] [])
    (G3 : FnOk P w K mg base CX0 3 f3 fd3 ["checks", "clock"] (sp_checks K ttF)) (m3 : mg "true_time" = some (.ref f3)) (k3 : PySem.W.keepIn K (.ref f3) = true) (b3 : Binds K fd3 ["checks", "clock"] []) :
    FnOk P w K mg base CX0 4 f fd ["gauge", "clock"] (sp_answer_time K C) := by
  refine F.ok sc_answer_time (fun vs H Q E h => ?_) (fun cdv A outer s H vs Q E hr h => ?_)
  · obtain ⟨a, G, c, rfl, _⟩ := h
    rfl
  · obtain ⟨a, G, c, rfl, ⟨⟨dx, pl, wl, zl, kl, h1, h2, h3, h4, h5⟩, s1, s2, s3⟩, hR, k⟩ := h
    refine ⟨_, pss_cons (ps_if (pt_not (pt_val (pe_call G1 (hr.mono (by decide)) rfl m1 k1 b1 .nil pass0 (pa_cons (pv 1) pa_nil)))) (pss_one (ps_ret (pe_lst (pa_cons (pe_un un_neg pe_int) pa_nil)))) pss_nil)
      (pss_one (ps_ret (pe_call G2 (hr.mono (by decide)) rfl m2 k2 b2 .nil pass0 (pa_cons (pe_call G3 hr rfl m3 k3 b3 .nil pass0 (pa_cons (pe_fld (pv 0) rfl) (pa_cons (pv 1) pa_nil))) pa_nil)))), ?_⟩
    refine ⟨_, rfl, c, rfl, _, rfl, ?_⟩
    by_cases ht : timelyP c
    · rw [if_pos ht] at k
      have ht' : -68719476736 ≤ c ∧ c ≤ 68719476736 := ht
      rw [decide_eq_true ht']
      refine iteF ⟨_, rfl, a, C, dx, _, _, rfl, h1, T.cl, T.n4, rfl, _, rfl, wl, G.ws, c, rfl, h3, s2, by omega, fun H' p sm hn hp => ?_⟩
      exact ⟨p, _, _, rfl, SqT.of hp, (ttF_den s2 hR).1, (ttF_den s2 hR).2, k.after sm⟩
    · rw [if_neg ht] at k
      rw [decide_eq_false (show ¬ (-68719476736 ≤ c ∧ c ≤ 68719476736) from ht)]
      exact iteT ⟨_, rfl, (by show 1 ≤ sizeLine; decide), fun p hp => RetL.here k hp⟩
theorem sc_answer_zero : FnScope ["gauge", "clock"] ["gauge", "clock"] (defScope s_answer_zero) := ⟨rfl, rfl, rfl, by decide +kernel, rfl, by decide +kernel, by decide +kernel⟩
theorem ok_answer_zero {C f f1 f2 f3 : Addr} {fd fd1 fd2 fd3 : FuncData} (F : Fun K "answer_zero" "answer_zero" s_answer_zero f fd) (T : ClsG K C)
    (G1 : FnOk P w K mg base CX0 1 f1 fd1 ["number"] sp_is_time) (m1 : mg "is_time" = some (.ref f1)) (k1 : PySem.W.keepIn K (.ref f1) = true) (b1 : Binds K fd1 ["number"] [])
    (G2 : FnOk P w K mg base CX0 2 f2 fd2 ["fraction"] (sp_fraction_answer K)) (m2 : mg "fraction_answer" = some (.ref f2)) (k2 : PySem.W.keepIn K (.ref f2) = true) (b2 : Binds K fd2 ["fraction"] [])
    (G3 : FnOk P w K mg base CX0 3 f3 fd3 ["checks", "clock"] (sp_checks K zzF)) (m3 : mg "zero_at" = some (.ref f3)) (k3 : PySem.W.keepIn K (.ref f3) = true) (b3 : Binds K fd3 ["checks", "clock"] []) :
    FnOk P w K mg base CX0 4 f fd ["gauge", "clock"] (sp_answer_zero K C) := by
  refine F.ok sc_answer_zero (fun vs H Q E h => ?_) (fun cdv A outer s H vs Q E hr h => ?_)
  · obtain ⟨a, G, c, rfl, _⟩ := h
    rfl
  · obtain ⟨a, G, c, rfl, ⟨⟨dx, pl, wl, zl, kl, h1, h2, h3, h4, h5⟩, s1, s2, s3⟩, hR, k⟩ := h
    refine ⟨_, pss_cons (ps_if (pt_not (pt_val (pe_call G1 (hr.mono (by decide)) rfl m1 k1 b1 .nil pass0 (pa_cons (pv 1) pa_nil)))) (pss_one (ps_ret (pe_lst (pa_cons (pe_un un_neg pe_int) pa_nil)))) pss_nil)
      (pss_one (ps_ret (pe_call G2 (hr.mono (by decide)) rfl m2 k2 b2 .nil pass0 (pa_cons (pe_call G3 hr rfl m3 k3 b3 .nil pass0 (pa_cons (pe_fld (pv 0) rfl) (pa_cons (pv 1) pa_nil))) pa_nil)))), ?_⟩
    refine ⟨_, rfl, c, rfl, _, rfl, ?_⟩
    by_cases ht : timelyP c
    · rw [if_pos ht] at k
      have ht' : -68719476736 ≤ c ∧ c ≤ 68719476736 := ht
      rw [decide_eq_true ht']
      refine iteF ⟨_, rfl, a, C, dx, _, _, rfl, h1, T.cl, T.n5, rfl, _, rfl, zl, G.zs, c, rfl, h4, s3, by omega, fun H' p sm hn hp => ?_⟩
      exact ⟨p, _, _, rfl, SqT.of hp, (zzF_den s3 hR).1, (zzF_den s3 hR).2, k.after sm⟩
    · rw [if_neg ht] at k
      rw [decide_eq_false (show ¬ (-68719476736 ≤ c ∧ c ≤ 68719476736) from ht)]
      exact iteT ⟨_, rfl, (by show 1 ≤ sizeLine; decide), fun p hp => RetL.here k hp⟩
/-! ## is_spike -/
noncomputable def sp_is_spike (K : PySem.W.Frag) : Sp := fun vs H Q _ => ∃ (pl : Addr) (pts : List (Int × Int)) (z i : Nat), vs = [.ref pl, .int i, .int z] ∧ PairsAt K H pl pts ∧ i < pts.length ∧ Q (.bl (spikeB z pts i)) H
theorem sc_is_spike : FnScope ["points", "k", "size", "from_before", "from_behind"] ["points", "k", "size"] (defScope s_is_spike) := ⟨rfl, rfl, rfl, by decide +kernel, rfl, by decide +kernel, by decide +kernel⟩
theorem ok_is_spike {f : Addr} {fd : FuncData} (F : Fun K "is_spike" "is_spike" s_is_spike f fd) (M : Mg K mg) : FnOk P w K mg base CX0 1 f fd ["points", "k", "size"] (sp_is_spike K) := by
  have nd := sc_is_spike.nd
  refine F.ok sc_is_spike (fun vs H Q E h => ?_) (fun cdv A outer s H vs Q E hr h => ?_)
  · obtain ⟨pl, pts, z, i, rfl, _⟩ := h
    rfl
  · obtain ⟨pl, pts, z, i, rfl, h2, hi, k⟩ := h
    obtain ⟨xs, hx, hlen, hat⟩ := h2.get
    refine ⟨_, pss_cons (ps_if (PW.pt (pw_or (pt_cmpR op_eq (pv 1) pe_int (nomark _)) (pw_or1 (pt_cmpR op_eq (pv 1) (pe_op op_sub (pe_callB call_len_seq (by rfl) M.len PySem.boot_len (pa_cons (pv 0) pa_nil)) pe_int) (nomark _))))) (pss_one (ps_ret pe_bl)) pss_nil)
      (pss_cons (ps_set (i := 3) nd rfl (Or.inl rfl) (pe_op op_sub (pe_ix ix_tup (pe_ix ix_list (pv 0) (pv 1) (fun _ _ => rfl)) pe_int (fun _ _ => rfl)) (pe_ix ix_tup (pe_ix ix_list (pv 0) (pe_op op_sub (pv 1) pe_int) (fun _ _ => rfl)) pe_int (fun _ _ => rfl))))
      (pss_cons (ps_set (i := 4) nd rfl (Or.inl rfl) (pe_op op_sub (pe_ix ix_tup (pe_ix ix_list (pv 0) (pv 1) (fun _ _ => rfl)) pe_int (fun _ _ => rfl)) (pe_ix ix_tup (pe_ix ix_list (pv 0) (pe_op op_add (pv 1) pe_int) (fun _ _ => rfl)) pe_int (fun _ _ => rfl))))
      (pss_cons (ps_if (PW.pt (pw_and (pt_cmpR op_gt (pv 3) (pv 2) (nomark _)) (pw_and1 (pt_cmpR op_gt (pv 4) (pv 2) (nomark _))))) (pss_one (ps_ret pe_bl)) pss_nil)
      (pss_one (ps_ret (pe_and (pe_cmpR op_gt (pe_un un_neg (pv 3)) (pv 2) (nomark _)) (pe_one (pe_cmpR op_gt (pe_un un_neg (pv 4)) (pv 2) (nomark _))))))))), ?_⟩
    refine ⟨_, rfl, rfl, _, rfl, ?_⟩
    by_cases i0 : i = 0
    · subst i0
      exact iteT (iteT k)
    · rw [dec_vi (by omega)]
      refine iteF ⟨_, rfl, _, rfl, pl, xs, rfl, .inl hx, _, _, rfl, rfl, rfl, _, rfl, ?_⟩
      by_cases i1 : i + 1 = pts.length
      · rw [dec_vt (by rw [hlen]; omega)]
        refine iteT ?_
        have e : spikeB z pts i = false := by
          unfold spikeB
          rw [List.getElem?_eq_none (i := i + 1) (by omega)]
          cases pts[i - 1]? <;> cases pts[i]? <;> simp
        rw [e] at k
        exact k
      · rw [dec_vi (by rw [hlen]; omega)]
        obtain ⟨p0, e0⟩ : ∃ p, pts[i - 1]? = some p := ⟨_, List.getElem?_eq_getElem (by omega)⟩
        obtain ⟨p1, e1⟩ : ∃ p, pts[i]? = some p := ⟨_, List.getElem?_eq_getElem (by omega)⟩
        obtain ⟨p2, e2⟩ : ∃ p, pts[i + 1]? = some p := ⟨_, List.getElem?_eq_getElem (by omega)⟩
        obtain ⟨a0, x0, t0⟩ := hat _ _ e0
        obtain ⟨a1, x1, t1⟩ := hat _ _ e1
        obtain ⟨a2, x2, t2⟩ := hat _ _ e2
        have e : spikeB z pts i = Tide.isSpike z p0.2 p1.2 p2.2 := by
          unfold spikeB
          rw [e0, e1, e2, decide_eq_true (by omega)]
          rfl
        rw [e] at k
        unfold Tide.isSpike at k
        refine iteF ⟨_, rfl, _, rfl, pl, _, _, _, rfl, rfl, hx, atI_nat x1, a1, _, _, _, rfl, rfl, t1, at1, _, rfl, _, rfl, _, _, rfl, rfl, pl, _, _, _, rfl, rfl, hx, at_of (j := i - 1) (by omega) x0, a0, _, _, _, rfl, rfl, t0, at1, _, _, rfl, rfl, ?_⟩
        refine ⟨_, rfl, _, rfl, pl, _, _, _, rfl, rfl, hx, atI_nat x1, a1, _, _, _, rfl, rfl, t1, at1, _, rfl, _, rfl, _, _, rfl, rfl, pl, _, _, _, rfl, rfl, hx, at_of (j := i + 1) (by omega) x2, a2, _, _, _, rfl, rfl, t2, at1, _, _, rfl, rfl, ?_⟩
        refine ⟨_, rfl, _, rfl, _, _, rfl, rfl, _, rfl, ?_⟩
        have tail : ¬ (p0.2 + z < p1.2 ∧ p2.2 + z < p1.2) → tRet (tAndV (tOp (rI0 fun i j => .bl (decide (j < i))) (tUn (rU fun i => .int (-i)) (tVar 3)) (tVar 2)) (tOp (rI0 fun i j => .bl (decide (j < i))) (tUn (rU fun i => .int (-i)) (tVar 4)) (tVar 2)))
            { nx := fun _ H' => Q .non H', rt := Q } [some (.ref pl), some (.int i), some (.int z), some (.int (p1.2 - p0.2)), some (.int (p1.2 - p2.2))] H := fun hn => by
          refine ⟨_, rfl, _, rfl, _, rfl, _, _, rfl, rfl, _, rfl, ?_⟩
          refine ite2 (fun q => ?_) (fun q => ?_)
          · have q : (z : Int) < -(p1.2 - p0.2) := of_decide_eq_true q
            refine ⟨_, rfl, _, rfl, _, rfl, _, _, rfl, rfl, ?_⟩
            have zz : (decide (p0.2 + z < p1.2) && decide (p2.2 + z < p1.2) || decide (p1.2 + z < p0.2) && decide (p1.2 + z < p2.2)) = decide ((z : Int) < -(p1.2 - p2.2)) := by
              rw [decide_eq_false (show ¬ p0.2 + z < p1.2 by omega), decide_eq_true (show p1.2 + z < p0.2 by omega)]
              simp only [Bool.false_and, Bool.false_or, Bool.true_and]
              exact decide_eq_decide.mpr ⟨fun _ => by omega, fun _ => by omega⟩
            rw [zz] at k
            exact k
          · have q : ¬ (z : Int) < -(p1.2 - p0.2) := fun u => q (decide_eq_true u)
            have zz : (decide (p0.2 + z < p1.2) && decide (p2.2 + z < p1.2) || decide (p1.2 + z < p0.2) && decide (p1.2 + z < p2.2)) = false := by
              rw [decide_eq_false (show ¬ p1.2 + z < p0.2 by omega)]
              by_cases u : p0.2 + z < p1.2
              · rw [decide_eq_false (show ¬ p2.2 + z < p1.2 from fun v => hn ⟨u, v⟩)]
                simp
              · rw [decide_eq_false u]
                simp
            rw [zz] at k
            exact k
        refine ite2 (fun q => ?_) (fun q => ?_)
        · have q : (z : Int) < p1.2 - p0.2 := of_decide_eq_true q
          refine ⟨_, rfl, _, rfl, _, _, rfl, rfl, _, rfl, ?_⟩
          refine ite2 (fun q2 => ?_) (fun q2 => ?_)
          · have q2 : (z : Int) < p1.2 - p2.2 := of_decide_eq_true q2
            have zz : (decide (p0.2 + z < p1.2) && decide (p2.2 + z < p1.2) || decide (p1.2 + z < p0.2) && decide (p1.2 + z < p2.2)) = true := by
              rw [decide_eq_true (show p0.2 + z < p1.2 by omega), decide_eq_true (show p2.2 + z < p1.2 by omega)]
              rfl
            rw [zz] at k
            exact k
          · have q2 : ¬ (z : Int) < p1.2 - p2.2 := fun u => q2 (decide_eq_true u)
            exact tail (by omega)
        · have q : ¬ (z : Int) < p1.2 - p0.2 := fun u => q (decide_eq_true u)
          exact iteF (tail (by omega))
end
end Gc
end
section
set_option Elab.async false
set_option linter.all false
set_option bootstrap.genMatcherCode false
set_option genSizeOf false
set_option maxRecDepth 100000
set_option maxHeartbeats 2000000
namespace Gc
open PySem PySem.Spec PyProof.Rows L2
noncomputable def bodyAt (s : Stmt) (i : Nat) : Stmt := (defBody s).getD i (.Pass ⟨0, 0, 0, 0⟩)
noncomputable def compScope (s : Stmt) : Scope := match s with
  | .Assign _ (.ListComp _ _ sc _) _ => sc
  | .Return (some (.ListComp _ _ sc _)) _ => sc
  | .While _ (.Assign _ (.ListComp _ _ sc _) _ :: _) _ _ => sc
  | _ => { kind := .function, names := [], isGenerator := false, isCoroutine := false }
/-- a field's value, inside a comprehension -/
theorem pe_fldK {X : Cx} {K : PySem.W.Frag} {e : Expr} {f : Str} {pos : Pos} {ta : TE} (hK : X.K = K) (he : PE X e ta) (hb : attributeBase e f X.env (eval e X.env) = eval e X.env) : PE X (.Attribute e f pos) (tFld K ta f) := by
  subst hK
  exact pe_fld he hb
/-! ## comprehensions, by what holds between two turns -/
section
variable {g : TG} {tt : TT} {te : TE} {vs : List Nat} {σ : L2.St} {H : Hp} {R : Hp → Prop} {D : Addr}
/-- one turn of a comprehension, with what it is to reach -/
noncomputable abbrev lcTurn (g : TG) (tt : TT) (te : TE) (vs : List Nat) (σ : L2.St) (D : Addr) (x : V) (H' : Hp) (Nx : Hp → Prop) : Prop :=
  g x (wipe σ vs) H' fun σ2 H2 => wipe σ2 vs = wipe σ vs ∧ tt σ2 H2 fun b H3 => if b = true then te σ2 H3 fun y H4 => ∃ acc, H4 D = some (.lst acc) ∧ acc.length < sizeLine ∧ Nx (upd H4 D (.lst (acc ++ [y]))) else Nx H3
noncomputable abbrev lcAll (J : It) (g : TG) (tt : TT) (te : TE) (vs : List Nat) (σ : L2.St) (D : Addr) (H : Hp) (R : Hp → Prop) : Prop :=
  ∃ W : Nat → Nat → Hp → Prop, (∃ m, W 0 m (upd H D (.lst []))) ∧ ∀ i m H, W i m H →
    (J.stop i H ∧ R H) ∨ (J.go i H ∧ ∃ Nx : Hp → Prop, (∀ H', Nx H' → ∃ m', m' < m ∧ W (i + 1) m' H') ∧ ∀ x H', J.yld i H x H' → lcTurn g tt te vs σ D x H' Nx)
theorem lc_rng {lo : Int} {n : Nat} (Pv : Nat → Hp → Prop) (h0 : Pv 0 (upd H D (.lst []))) (hs : ∀ i H', i < n → Pv i H' → lcTurn g tt te vs σ D (.int (lo + i)) H' (Pv (i + 1))) (hd : ∀ H', Pv n H' → R H') :
    lcAll (Itr lo n) g tt te vs σ D H R := by
  refine ⟨fun i m H' => m = n - i ∧ i ≤ n ∧ Pv i H', ⟨n, by simp, Nat.zero_le _, h0⟩, ?_⟩
  rintro i m H' ⟨rfl, hi, p⟩
  by_cases hlt : i < n
  · refine .inr ⟨hlt, Pv (i + 1), fun H2 p' => ⟨n - (i + 1), by omega, rfl, hlt, p'⟩, fun x H2 y => ?_⟩
    obtain ⟨e, y⟩ := y
    subst e y
    exact hs i _ hlt p
  · have e : i = n := by omega
    subst e
    exact .inl ⟨Nat.le_refl _, hd H' p⟩
theorem lc_rngC {lo c : Int} {n : Nat} (Pv : Nat → Hp → Prop) (h0 : Pv 0 (upd H D (.lst []))) (hs : ∀ i H', i < n → Pv i H' → lcTurn g tt te vs σ D (.int (lo + (i : Nat) * c)) H' (Pv (i + 1))) (hd : ∀ H', Pv n H' → R H') :
    lcAll (Itc lo c n) g tt te vs σ D H R := by
  refine ⟨fun i m H' => m = n - i ∧ i ≤ n ∧ Pv i H', ⟨n, by simp, Nat.zero_le _, h0⟩, ?_⟩
  rintro i m H' ⟨rfl, hi, p⟩
  by_cases hlt : i < n
  · refine .inr ⟨hlt, Pv (i + 1), fun H2 p' => ⟨n - (i + 1), by omega, rfl, hlt, p'⟩, fun x H2 y => ?_⟩
    obtain ⟨e, y⟩ := y
    subst e y
    exact hs i _ hlt p
  · have e : i = n := by omega
    subst e
    exact .inl ⟨Nat.le_refl _, hd H' p⟩
theorem lc_lst {K : PySem.W.Frag} {a : Addr} {xs : List V} (Pv : Nat → Hp → Prop) (h0 : Pv 0 (upd H D (.lst []))) (hl : ∀ i H', i ≤ xs.length → Pv i H' → SqL K H' a xs)
    (hs : ∀ i x H', xs[i]? = some x → Pv i H' → lcTurn g tt te vs σ D x H' (Pv (i + 1))) (hd : ∀ H', Pv xs.length H' → R H') :
    lcAll (Itl K a) g tt te vs σ D H R := by
  refine ⟨fun i m H' => m = xs.length - i ∧ i ≤ xs.length ∧ Pv i H', ⟨xs.length, by simp, Nat.zero_le _, h0⟩, ?_⟩
  rintro i m H' ⟨rfl, hi, p⟩
  have q := hl i H' hi p
  by_cases hlt : i < xs.length
  · refine .inr ⟨⟨xs, xs[i], q, by simp [hlt]⟩, Pv (i + 1), fun H2 p' => ⟨xs.length - (i + 1), by omega, rfl, hlt, p'⟩, fun x H2 y => ?_⟩
    obtain ⟨e, y⟩ := y
    subst e
    exact hs i x _ (y xs q) p
  · have e : i = xs.length := by omega
    subst e
    exact .inl ⟨⟨xs, q, Nat.le_refl _⟩, hd H' p⟩
end
theorem same_upd {H H' : Hp} {D : Addr} {o : HO} (h : H D = none) (s : Same H H') : Same H (upd H' D o) := fun b u e => by
  rw [upd_ne (ne_of_none e h)]
  exact s b u e
noncomputable def spikesF (s : Nat) (ps : List (Int × Int)) (n : Nat) : List Nat := (List.range n).filter fun i => spikeB s ps i
theorem spikesF_len (s : Nat) (ps : List (Int × Int)) (n : Nat) : (spikesF s ps n).length ≤ n := by
  have h := List.length_filter_le (fun i => spikeB s ps i) (List.range n)
  rw [List.length_range] at h
  exact h
theorem spikesF_succ (s : Nat) (ps : List (Int × Int)) (n : Nat) : spikesF s ps (n + 1) = spikesF s ps n ++ (if spikeB s ps n = true then [n] else []) := by
  unfold spikesF
  rw [List.range_succ, List.filter_append]
  congr 1
  by_cases h : spikeB s ps n = true
  · rw [if_pos h, List.filter_cons, if_pos h, List.filter_nil]
  · rw [if_neg h, List.filter_cons, if_neg h, List.filter_nil]
section
variable {P : Program} {w : World} {K : PySem.W.Frag} {mg : Str → Option Value} {base : Heap}
/-! ## answer_spikes -/
noncomputable def nInts (l : List Nat) : List Int := l.map fun (n : Nat) => (n : Int)
noncomputable def sp_answer_spikes (K : PySem.W.Frag) (C : Addr) : Sp := fun vs H Q _ => ∃ (a : Addr) (G : Gd), vs = [.ref a] ∧ GaugeAt K C H a G ∧ G.pts.length ≤ 1000 ∧
  RetL H Q (0 :: ((spikesF G.s G.pts G.pts.length).length : Int) :: nInts (spikesF G.s G.pts G.pts.length))
theorem sc_answer_spikes : FnScope ["gauge", "numbers", "k"] ["gauge"] (defScope s_answer_spikes) := ⟨rfl, rfl, rfl, by decide +kernel, rfl, by decide +kernel, by decide +kernel⟩
theorem blk_answer_spikes : BlkOk ["gauge", "numbers", "k"] (defScope s_answer_spikes) (compScope (bodyAt s_answer_spikes 0)) [("k", 2)] := ⟨rfl, by decide +kernel, by decide +kernel, by decide +kernel, by decide +kernel⟩
theorem ok_answer_spikes {C f f1 : Addr} {fd fd1 : FuncData} (F : Fun K "answer_spikes" "answer_spikes" s_answer_spikes f fd) (T : ClsG K C) (M : Mg K mg)
    (G1 : FnOk P w K mg base CX0 1 f1 fd1 ["points", "k", "size"] (sp_is_spike K)) (m1 : mg "is_spike" = some (.ref f1)) (k1 : PySem.W.keepIn K (.ref f1) = true) (b1 : Binds K fd1 ["points", "k", "size"] []) :
    FnOk P w K mg base CX0 2 f fd ["gauge"] (sp_answer_spikes K C) := by
  have nd := sc_answer_spikes.nd
  refine F.ok sc_answer_spikes (fun vs H Q E h => ?_) (fun cdv A outer s H vs Q E hr h => ?_)
  · obtain ⟨a, G, rfl, _⟩ := h
    rfl
  · obtain ⟨a, G, rfl, hG, hn, k⟩ := h
    obtain ⟨⟨dx, pl, wl, zl, kl, h1, h2, h3, h4, h5⟩, s1, s2, s3⟩ := id hG
    obtain ⟨xs, hx, hlen, hat⟩ := h2.get
    refine ⟨_, pss_cons (ps_setLc (i := 1) (own := [("k", 2)]) rfl nd rfl rfl rfl (pi_range1 rfl M.range (pa_cons (pe_callB call_len_seq (by rfl) M.len PySem.boot_len (pa_cons (pe_fld (pv 0) rfl) pa_nil)) pa_nil))
        blk_answer_spikes (fun s H C cl fp => pg_name (i := 2) nd rfl (Or.inl rfl)) (fun s H C cl fp => pts_one (pt_val (pe_call G1 hr rfl m1 k1 b1 .nil pass0 (pa_cons (pe_fldK (K := K) rfl (pv 0) rfl) (pa_cons (pv 2) (pa_cons (pe_fldK (K := K) rfl (pv 0) rfl) pa_nil))))))
        (fun s H C cl fp => pv 2))
      (pss_one (ps_ret (pe_op op_cat (pe_lst (pa_cons pe_int (pa_cons (pe_callB call_len_seq (by rfl) M.len PySem.boot_len (pa_cons (pv 1) pa_nil)) pa_nil))) (pv 1)))), ?_⟩
    refine ⟨_, rfl, a, C, dx, _, _, rfl, h1, T.cl, T.n3, rfl, pl, xs, rfl, .inl hx, (xs.length : Int), rfl, by omega, by omega, fun D hD => ?_⟩
    refine lc_rng (fun i H' => Same H H' ∧ H' D = some (.lst ((nInts (spikesF G.s G.pts i)).map V.int))) ⟨same_new hD, upd_same⟩ ?_ ?_
    · rintro i H' hi ⟨sm, hL⟩
      have hi' : i < G.pts.length := by omega
      refine ⟨rfl, _, rfl, a, C, dx, _, _, rfl, sm _ _ h1, T.cl, T.n3, rfl, _, rfl, _, rfl, a, C, dx, _, _, rfl, sm _ _ h1, T.cl, T.n1, rfl, pl, G.pts, G.s, i, by simp, h2.same sm, hi', _, rfl, ?_⟩
      have e := spikesF_succ G.s G.pts i
      refine ite2 (fun q => ?_) (fun q => ?_)
      · rw [if_pos q] at e
        refine ⟨_, rfl, _, hL, ?_, same_upd hD sm, ?_⟩
        · rw [List.length_map]
          unfold nInts
          rw [List.length_map]
          have := spikesF_len G.s G.pts i
          exact Nat.lt_of_le_of_lt this (Nat.lt_of_lt_of_le hi' (Nat.le_trans hn (by decide)))
        · rw [upd_same, e]
          simp [nInts]
      · rw [if_neg q, List.append_nil] at e
        refine ⟨sm, ?_⟩
        rw [e]
        exact hL
    · rintro H' ⟨sm, hL⟩
      have e0 : (xs.length : Int).toNat = G.pts.length := by omega
      rw [e0] at hL
      refine ⟨_, rfl, D, _, rfl, .inl (SqL.of hL), (by show 2 ≤ sizeLine; decide), fun p hp => ?_⟩
      have hp' : p ≠ D := fun e => by rw [e, hL] at hp; cases hp
      refine ⟨_, rfl, p, D, _, _, rfl, rfl, upd_same, by rw [upd_ne (Ne.symm hp')]; exact hL, ?_, fun q hq => ?_⟩
      · rw [List.length_map]
        unfold nInts
        rw [List.length_map]
        have := spikesF_len G.s G.pts G.pts.length
        exact Nat.le_trans (Nat.add_le_add_left (Nat.le_trans this hn) _) (by show 2 + 1000 ≤ sizeLine; decide)
      · refine k _ q (sm.trans ((same_new hp).trans (same_new hq))) ((sm.trans (same_new hp)).free hq) ?_
        rw [upd_same]
        simp [nInts]
end
end Gc
end
section
set_option Elab.async false
set_option linter.all false
set_option bootstrap.genMatcherCode false
set_option genSizeOf false
set_option maxRecDepth 100000
set_option maxHeartbeats 2000000
namespace Gc
open PySem PySem.Spec PyProof.Rows L2
/-! ## enumerate, by what holds between two turns -/
theorem for_enum {K : PySem.W.Frag} {a : Addr} {xs : List V} {g : TG} {tb : TS} {D : Ends} {σ : L2.St} {H : Hp} (Pv : Nat → L2.St → Hp → Prop) (h0 : Pv 0 σ H) (hl : ∀ i σ H, Pv i σ H → SqL K H a xs)
    (hs : ∀ i x σ H T, xs[i]? = some x → H T = none → Pv i σ H → g (.ref T) σ (upd H T (.tup [.int (i : Nat), x])) fun σ2 H2 => tb { D with nx := Pv (i + 1), ct := Pv (i + 1), bk := D.nx } σ2 H2) (hd : ∀ σ H, Pv xs.length σ H → D.nx σ H) :
    ∃ W : Nat → Nat → L2.St → Hp → Prop, (∃ m, W 0 m σ H) ∧ ∀ i m σ H, W i m σ H →
      ((Ite K a).stop i H ∧ D.nx σ H) ∨ ((Ite K a).go i H ∧ ∃ N : L2.St → Hp → Prop, (∀ σ' H', N σ' H' → ∃ m', m' < m ∧ W (i + 1) m' σ' H') ∧ ∀ x H', (Ite K a).yld i H x H' → g x σ H' fun σ2 H2 => tb { D with nx := N, ct := N, bk := D.nx } σ2 H2) := by
  refine ⟨fun i m σ H => m = xs.length - i ∧ i ≤ xs.length ∧ Pv i σ H, ⟨xs.length, by simp, Nat.zero_le _, h0⟩, ?_⟩
  rintro i m σ H ⟨rfl, hi, p⟩
  have q := hl i σ H p
  by_cases hlt : i < xs.length
  · refine .inr ⟨⟨xs, xs[i], q, List.getElem?_eq_getElem hlt⟩, Pv (i + 1), fun σ' H' p' => ⟨xs.length - (i + 1), by omega, rfl, hlt, p'⟩, fun x H' y => ?_⟩
    obtain ⟨T, u, rfl, hT, rfl, hu⟩ := y
    exact hs i u σ H T (hu xs q) hT p
  · have e : i = xs.length := by omega
    subst e
    exact .inl ⟨⟨xs, q, Nat.le_refl _⟩, hd σ H p⟩
/-! ## what is in form -/
noncomputable def inB (r bs : List Int) : Bool := (r.zip bs).all fun p => decide (-p.2 ≤ p.1 ∧ p.1 ≤ p.2)
noncomputable def risesB (n : Nat) (a b : List Int) : Bool := (List.range n).all fun j => decide (a.getD j 0 < b.getD j 0)
theorem zip_at {r bs : List Int} {i : Nat} {x y : Int} (h1 : r[i]? = some x) (h2 : bs[i]? = some y) : (x, y) ∈ r.zip bs := by
  have e : (r.zip bs)[i]? = some (x, y) := by rw [List.getElem?_zip_eq_some]; exact ⟨h1, h2⟩
  exact List.mem_of_getElem? e
theorem map_at {r : List Int} {i : Nat} {x : V} (h : (r.map V.int)[i]? = some x) : ∃ z, r[i]? = some z ∧ x = .int z := by
  rw [List.getElem?_map] at h
  cases e : r[i]? with
  | none => rw [e] at h; cases h
  | some z => rw [e] at h; exact ⟨z, rfl, (Option.some.inj h).symm⟩
theorem getD_of {r : List Int} {i : Nat} {z : Int} (h : r[i]? = some z) : r.getD i 0 = z := by simp [List.getD, h]
section
variable {P : Program} {w : World} {K : PySem.W.Frag} {mg : Str → Option Value} {base : Heap}
/-! ## rises -/
noncomputable def sp_rises (K : PySem.W.Frag) : Sp := fun vs H Q _ => ∃ (a b : Addr) (r t : List Int) (n : Nat), vs = [.ref a, .ref b, .int n] ∧ SqT K H a (r.map V.int) ∧ SqT K H b (t.map V.int) ∧ n ≤ r.length ∧ n ≤ t.length ∧ n ≤ 1000 ∧ Q (.bl (risesB n r t)) H
theorem sc_rises : FnScope ["before", "behind", "rising", "column"] ["before", "behind", "rising"] (defScope s_rises) := ⟨rfl, rfl, rfl, by decide +kernel, rfl, by decide +kernel, by decide +kernel⟩
theorem ok_rises {f : Addr} {fd : FuncData} (F : Fun K "rises" "rises" s_rises f fd) (M : Mg K mg) : FnOk P w K mg base CX0 1 f fd ["before", "behind", "rising"] (sp_rises K) := by
  have nd := sc_rises.nd
  refine F.ok sc_rises (fun vs H Q E h => ?_) (fun cdv A outer s H vs Q E hr h => ?_)
  · obtain ⟨a, b, r, t, n, rfl, _⟩ := h
    rfl
  · obtain ⟨a, b, r, t, n, rfl, ha, hb, n1, n2, n3, k⟩ := h
    refine ⟨_, pss_cons (ps_for PassesOwn.never rfl (pi_range1 rfl M.range (pa_cons (pv 2) pa_nil)) (pg_name (i := 3) nd rfl (Or.inl rfl))
        (pss_one (ps_if (pt_cmpR op_le (pe_ix ix_tup (pv 1) (pv 3) (fun _ _ => rfl)) (pe_ix ix_tup (pv 0) (pv 3) (fun _ _ => rfl)) (nomark _)) (pss_one (ps_ret pe_bl)) pss_nil)))
      (pss_one (ps_ret pe_bl)), ?_⟩
    refine ⟨_, rfl, n, rfl, by omega, by omega, for_range (n := n) (fun i σ H' => H' = H ∧ (∃ v, σ = [some (.ref a), some (.ref b), some (.int n), v]) ∧ ∀ j < i, r.getD j 0 < t.getD j 0) ⟨rfl, ⟨_, rfl⟩, fun j hj => absurd hj (Nat.not_lt_zero _)⟩ ?_ ?_⟩
    · rintro i σ H' hi ⟨rfl, ⟨v, rfl⟩, hp⟩
      obtain ⟨x, hx⟩ : ∃ x, r[i]? = some x := ⟨_, List.getElem?_eq_getElem (by omega)⟩
      obtain ⟨y, hy⟩ : ∃ y, t[i]? = some y := ⟨_, List.getElem?_eq_getElem (by omega)⟩
      refine ⟨_, rfl, _, rfl, b, _, _, _, rfl, rfl, hb, at_of (j := i) (by omega) (by rw [List.getElem?_map, hy]; rfl), _, rfl, _, rfl, a, _, _, _, rfl, rfl, ha, at_of (j := i) (by omega) (by rw [List.getElem?_map, hx]; rfl), _, _, rfl, rfl, _, rfl, ?_⟩
      refine ite2 (fun q => ?_) (fun q => ?_)
      · have q : y ≤ x := of_decide_eq_true q
        have e : risesB n r t = false := by
          unfold risesB
          rw [List.all_eq_false]
          exact ⟨i, List.mem_range.mpr hi, by rw [getD_of hx, getD_of hy]; simpa using q⟩
        rw [e] at k
        exact k
      · have q : ¬ y ≤ x := fun z => q (decide_eq_true z)
        refine ⟨rfl, ⟨_, rfl⟩, fun j hj => ?_⟩
        rcases Nat.lt_succ_iff_lt_or_eq.mp hj with h | h
        · exact hp j h
        · subst h
          rw [getD_of hx, getD_of hy]
          omega
    · rintro σ H' ⟨rfl, ⟨v, rfl⟩, hp⟩
      have e : risesB n r t = true := by
        unfold risesB
        rw [List.all_eq_true]
        exact fun j hj => decide_eq_true (hp j (List.mem_range.mp hj))
      rw [e] at k
      exact k
/-! ## in_bounds -/
noncomputable def sp_in_bounds (K : PySem.W.Frag) : Sp := fun vs H Q _ => ∃ (a b : Addr) (r bs : List Int), vs = [.ref a, .ref b] ∧ SqT K H a (r.map V.int) ∧ SqT K H b (bs.map V.int) ∧ r.length = bs.length ∧ ∀ H', Same H H' → Q (.bl (inB r bs)) H'
theorem sc_in_bounds : FnScope ["group", "bounds", "value", "bound"] ["group", "bounds"] (defScope s_in_bounds) := ⟨rfl, rfl, rfl, by decide +kernel, rfl, by decide +kernel, by decide +kernel⟩
theorem ok_in_bounds {f : Addr} {fd : FuncData} (F : Fun K "in_bounds" "in_bounds" s_in_bounds f fd) (M : Mg K mg) : FnOk P w K mg base CX0 1 f fd ["group", "bounds"] (sp_in_bounds K) := by
  have nd := sc_in_bounds.nd
  refine F.ok sc_in_bounds (fun vs H Q E h => ?_) (fun cdv A outer s H vs Q E hr h => ?_)
  · obtain ⟨a, b, r, t, rfl, _⟩ := h
    rfl
  · obtain ⟨a, b, r, bs, rfl, ha, hb, hn, k⟩ := h
    refine ⟨_, pss_cons (ps_for PassesOwn.never rfl (Zt.pi rfl M.zip (pa_cons (pv 0) (pa_cons (pv 1) pa_nil))) (pg_tup rfl (pgs_cons (pg_name (i := 2) nd rfl (Or.inl rfl)) (pgs_cons (pg_name (i := 3) nd rfl (Or.inl rfl)) pgs_nil)))
        (pss_one (ps_if (PW.pt (pw_or (pt_cmpR op_lt (pv 2) (pe_un un_neg (pv 3)) (nomark _)) (pw_or1 (pt_cmpR op_gt (pv 2) (pv 3) (nomark _))))) (pss_one (ps_ret pe_bl)) pss_nil)))
      (pss_one (ps_ret pe_bl)), ?_⟩
    refine ⟨_, rfl, _, rfl, a, b, _, _, rfl, ha, hb, Zt.loop (xs := r.map V.int) (ys := bs.map V.int) (fun i σ H' => Same H H' ∧ (∃ u v, σ = [some (.ref a), some (.ref b), u, v]) ∧ ∀ j < i, ∀ x y, r[j]? = some x → bs[j]? = some y → -y ≤ x ∧ x ≤ y)
      ⟨Same.refl H, ⟨_, _, rfl⟩, fun j hj => absurd hj (Nat.not_lt_zero _)⟩ (fun i σ H' h => ⟨same_tup h.1 ha, same_tup h.1 hb⟩) (by rw [List.length_map, List.length_map, hn]) ?_ ?_⟩
    · rintro i x y σ H' T hx hy hT ⟨sm, ⟨u, v, rfl⟩, hp⟩
      obtain ⟨x, gx, rfl⟩ := map_at hx
      obtain ⟨y, gy, rfl⟩ := map_at hy
      refine ⟨T, _, rfl, SqT.of upd_same, rfl, _, _, rfl, _, _, rfl, rfl, ?_⟩
      have sm' := sm.trans (same_new (o := .tup [.int x, .int y]) hT)
      have bad : ¬ (-y ≤ x ∧ x ≤ y) → Q (.bl false) (upd H' T (.tup [.int x, .int y])) := fun q => by
        have e : inB r bs = false := by
          unfold inB
          rw [List.all_eq_false]
          exact ⟨(x, y), zip_at gx gy, by simpa using q⟩
        rw [e] at k
        exact k _ sm'
      refine ⟨_, rfl, _, rfl, _, rfl, _, _, rfl, rfl, _, rfl, ?_⟩
      refine ite2 (fun q => ?_) (fun q => ?_)
      · have q : x < -y := of_decide_eq_true q
        exact iteT (bad (by omega))
      · have q : ¬ x < -y := fun z => q (decide_eq_true z)
        refine ⟨_, rfl, _, rfl, _, _, rfl, rfl, _, rfl, ?_⟩
        refine ite2 (fun q2 => ?_) (fun q2 => ?_)
        · have q2 : y < x := of_decide_eq_true q2
          exact bad (by omega)
        · have q2 : ¬ y < x := fun z => q2 (decide_eq_true z)
          refine ⟨sm', ⟨_, _, rfl⟩, fun j hj x' y' h1 h2 => ?_⟩
          rcases Nat.lt_succ_iff_lt_or_eq.mp hj with h | h
          · exact hp j h x' y' h1 h2
          · subst h
            rw [gx] at h1
            rw [gy] at h2
            cases h1
            cases h2
            omega
    · rintro σ H' ⟨sm, ⟨u, v, rfl⟩, hp⟩
      have e : inB r bs = true := by
        unfold inB
        rw [List.all_eq_true]
        intro p hp'
        obtain ⟨j, hj⟩ := List.getElem?_of_mem hp'
        obtain ⟨h1, h2⟩ := List.getElem?_zip_eq_some.mp hj
        refine decide_eq_true (hp j ?_ _ _ h1 h2)
        rw [List.length_map]
        exact (List.getElem?_eq_some_iff.mp h1).1
      rw [e] at k
      exact k _ sm
end
end Gc
end
section
set_option Elab.async false
set_option linter.all false
set_option bootstrap.genMatcherCode false
set_option genSizeOf false
set_option maxRecDepth 100000
set_option maxHeartbeats 2000000
namespace Gc
open PySem PySem.Spec PyProof.Rows L2
/-- none as None, a number as itself -/
noncomputable def oV : Option Nat → V
  | none => .non
  | some i => .int i
noncomputable def ffF (bs : List Int) (n : Nat) (i : Nat) (p : Option (List Int)) (l : List (List Int)) : Option Nat := Tide.firstBad (fun x => inB x bs) (fun a b => risesB n a b) i p l
theorem ffF_cons (bs : List Int) (n i : Nat) (p : Option (List Int)) (x : List Int) (l : List (List Int)) :
    ffF bs n i p (x :: l) = if (inB x bs && (match p with | some y => risesB n y x | none => true)) = true then ffF bs n (i + 1) (some x) l else some i := by cases p <;> rfl
/-- the one before place i -/
noncomputable def bef (rs : List (List Int)) (i : Nat) : Option (List Int) := if i = 0 then none else rs[i - 1]?
theorem bef_succ (rs : List (List Int)) (i : Nat) : bef rs (i + 1) = rs[i]? := by simp [bef]
section
variable {P : Program} {w : World} {K : PySem.W.Frag} {mg : Str → Option Value} {base : Heap}
/-! ## first_fault -/
noncomputable def sp_first_fault (K : PySem.W.Frag) : Sp := fun vs H Q _ => ∃ (l b : Addr) (rs : List (List Int)) (bs : List Int) (n : Nat), vs = [.ref l, .ref b, .int n] ∧ TupsAt K H l rs ∧ SqT K H b (bs.map V.int) ∧ (∀ r ∈ rs, r.length = bs.length) ∧ n ≤ bs.length ∧ n ≤ 1000 ∧
  ∀ H', Same H H' → Q (oV (ffF bs n 0 none rs)) H'
theorem sc_first_fault : FnScope ["groups", "bounds", "rising", "number", "group"] ["groups", "bounds", "rising"] (defScope s_first_fault) := ⟨rfl, rfl, rfl, by decide +kernel, rfl, by decide +kernel, by decide +kernel⟩
theorem ok_first_fault {f f1 f2 : Addr} {fd fd1 fd2 : FuncData} (F : Fun K "first_fault" "first_fault" s_first_fault f fd) (M : Mg K mg)
    (G1 : FnOk P w K mg base CX0 1 f1 fd1 ["group", "bounds"] (sp_in_bounds K)) (m1 : mg "in_bounds" = some (.ref f1)) (k1 : PySem.W.keepIn K (.ref f1) = true) (b1 : Binds K fd1 ["group", "bounds"] [])
    (G2 : FnOk P w K mg base CX0 1 f2 fd2 ["before", "behind", "rising"] (sp_rises K)) (m2 : mg "rises" = some (.ref f2)) (k2 : PySem.W.keepIn K (.ref f2) = true) (b2 : Binds K fd2 ["before", "behind", "rising"] []) :
    FnOk P w K mg base CX0 2 f fd ["groups", "bounds", "rising"] (sp_first_fault K) := by
  have nd := sc_first_fault.nd
  refine F.ok sc_first_fault (fun vs H Q E h => ?_) (fun cdv A outer s H vs Q E hr h => ?_)
  · obtain ⟨l, b, rs, bs, n, rfl, _⟩ := h
    rfl
  · obtain ⟨l, b, rs, bs, n, rfl, hl, hb, hrs, n1, n2, k⟩ := h
    obtain ⟨xs, hx, hlen, hat⟩ := id hl
    refine ⟨_, pss_cons (ps_for PassesOwn.never rfl (pi_enum rfl M.enumerate (pa_cons (pv 0) pa_nil)) (pg_tup rfl (pgs_cons (pg_name (i := 3) nd rfl (Or.inl rfl)) (pgs_cons (pg_name (i := 4) nd rfl (Or.inl rfl)) pgs_nil)))
        (pss_cons (ps_if (pt_not (pt_val (pe_call G1 hr rfl m1 k1 b1 .nil pass0 (pa_cons (pv 4) (pa_cons (pv 1) pa_nil))))) (pss_one (ps_ret (pv 3))) pss_nil)
        (pss_one (ps_if (PW.pt (pw_and (pt_cmpR op_gt (pv 3) pe_int (nomark _)) (pw_and1 (pt_not (pt_val (pe_call G2 hr rfl m2 k2 b2 .nil pass0 (pa_cons (pe_ix ix_list (pv 0) (pe_op op_sub (pv 3) pe_int) (fun _ _ => rfl)) (pa_cons (pv 4) (pa_cons (pv 2) pa_nil))))))))) (pss_one (ps_ret (pv 3))) pss_nil))))
      (pss_one (ps_ret pe_non)), ?_⟩
    refine ⟨_, rfl, l, xs, rfl, hx, for_enum (xs := xs) (fun i σ H' => Same H H' ∧ (∃ u v, σ = [some (.ref l), some (.ref b), some (.int n), u, v]) ∧ ffF bs n 0 none rs = ffF bs n i (bef rs i) (rs.drop i))
      ⟨Same.refl H, ⟨_, _, rfl⟩, rfl⟩ (fun i σ H' h => h.1.seq hx) ?_ ?_⟩
    · rintro i x σ H' T hxi hT ⟨sm, ⟨u, v, rfl⟩, hp⟩
      have hi : i < rs.length := by rw [← hlen]; exact (List.getElem?_eq_some_iff.mp hxi).1
      obtain ⟨r, hr'⟩ : ∃ r, rs[i]? = some r := ⟨_, List.getElem?_eq_getElem hi⟩
      obtain ⟨a, ha, ta⟩ := hat i r hr'
      rw [hxi] at ha
      obtain rfl := Option.some.inj ha
      have sm' : Same H (upd H' T (.tup [.int (i : Nat), .ref a])) := sm.trans (same_new hT)
      have ed : rs.drop i = r :: rs.drop (i + 1) := by
        rw [List.drop_eq_getElem_cons hi]
        congr 1
        exact (List.getElem?_eq_some_iff.mp hr').2
      rw [ed, ffF_cons] at hp
      have rl := hrs r (List.mem_of_getElem? hr')
      refine ⟨T, _, rfl, SqT.of upd_same, rfl, _, _, rfl, _, _, rfl, rfl, ?_⟩
      refine ⟨_, rfl, _, rfl, a, b, r, bs, rfl, same_tup sm' ta, same_tup sm' hb, rl, fun H2 sm2 => ?_⟩
      have sH2 := sm'.trans sm2
      refine ⟨_, rfl, ?_⟩
      have bad : ffF bs n 0 none rs = some i → Q (.int i) H2 := fun e => by
        rw [e] at k
        exact k _ sH2
      cases e1 : inB r bs with
      | false =>
        rw [e1] at hp
        exact iteT ⟨_, rfl, bad hp⟩
      | true =>
        rw [e1] at hp
        refine iteF ⟨_, rfl, _, _, rfl, rfl, _, rfl, ?_⟩
        by_cases i0 : i = 0
        · subst i0
          refine iteF (iteF ⟨sH2, ⟨_, _, rfl⟩, ?_⟩)
          rw [hp, bef_succ, hr']
          rfl
        · rw [decide_eq_true (show (0 : Int) < (i : Int) by omega)]
          obtain ⟨r0, hr0⟩ : ∃ r, rs[i - 1]? = some r := ⟨_, List.getElem?_eq_getElem (by omega)⟩
          obtain ⟨a0, ha0, ta0⟩ := hat (i - 1) r0 hr0
          have rl0 := hrs r0 (List.mem_of_getElem? hr0)
          have eb : bef rs i = some r0 := by rw [bef, if_neg i0, hr0]
          rw [eb] at hp
          refine iteT ⟨_, rfl, _, rfl, _, _, rfl, rfl, l, _, _, _, rfl, rfl, sH2.seq hx, at_of (j := i - 1) (by omega) ha0, _, rfl, _, rfl, ?_⟩
          refine ⟨a0, a, r0, r, n, rfl, same_tup sH2 ta0, same_tup sH2 ta, by omega, by omega, n2, _, rfl, ?_⟩
          cases e2 : risesB n r0 r with
          | false =>
            have hp : ffF bs n 0 none rs = some i := by rw [hp]; simp [e2]
            exact iteT ⟨_, rfl, bad hp⟩
          | true =>
            refine iteF ⟨sH2, ⟨_, _, rfl⟩, ?_⟩
            rw [hp, bef_succ, hr']
            simp [e2]
    · rintro σ H' ⟨sm, ⟨u, v, rfl⟩, hp⟩
      have e : rs.drop xs.length = [] := by rw [hlen]; exact List.drop_length
      rw [e] at hp
      have e2 : ffF bs n 0 none rs = none := hp
      rw [e2] at k
      exact k _ sm
/-! ## form_fault -/
noncomputable def faultF (ps ws ts : List (List Int)) : Option (Nat × Nat) := match ffF [68719476736, 1000000] 1 0 none ps with
  | some i => some (0, i)
  | none => match ffF [68719476736, 68719476736] 2 0 none ws with
    | some i => some (1, i)
    | none => match ffF [68719476736, 1000000, 1000000] 1 0 none ts with
      | some i => some (2, i)
      | none => none
noncomputable def sp_form_fault (K : PySem.W.Frag) : Sp := fun vs H Q _ => ∃ (p q t : Addr) (ps ws ts : List (List Int)), vs = [.ref p, .ref q, .ref t] ∧ TupsAt K H p ps ∧ TupsAt K H q ws ∧ TupsAt K H t ts ∧ (∀ r ∈ ps, r.length = 2) ∧ (∀ r ∈ ws, r.length = 2) ∧ (∀ r ∈ ts, r.length = 3) ∧
  (match faultF ps ws ts with
    | none => ∀ H', Same H H' → Q .non H'
    | some (k, i) => RetT H Q [(k : Int), (i : Int)])
theorem sc_form_fault : FnScope ["points", "watch_checks", "staff_checks", "number"] ["points", "watch_checks", "staff_checks"] (defScope s_form_fault) := ⟨rfl, rfl, rfl, by decide +kernel, rfl, by decide +kernel, by decide +kernel⟩
theorem ok_form_fault {f f1 : Addr} {fd fd1 : FuncData} (F : Fun K "form_fault" "form_fault" s_form_fault f fd) (M : Mg K mg)
    (G1 : FnOk P w K mg base CX0 2 f1 fd1 ["groups", "bounds", "rising"] (sp_first_fault K)) (m1 : mg "first_fault" = some (.ref f1)) (k1 : PySem.W.keepIn K (.ref f1) = true) (b1 : Binds K fd1 ["groups", "bounds", "rising"] []) :
    FnOk P w K mg base CX0 3 f fd ["points", "watch_checks", "staff_checks"] (sp_form_fault K) := by
  have nd := sc_form_fault.nd
  obtain ⟨t1, tb⟩ := M.tb
  obtain ⟨t2, hb⟩ := M.hb
  refine F.ok sc_form_fault (fun vs H Q E h => ?_) (fun cdv A outer s H vs Q E hr h => ?_)
  · obtain ⟨p, q, t, ps, ws, ts, rfl, _⟩ := h
    rfl
  · obtain ⟨p, q, t, ps, ws, ts, rfl, hp, hq, ht, lp, lq, lt, k⟩ := h
    refine ⟨_, pss_cons (ps_set (i := 3) nd rfl (Or.inl rfl) (pe_call G1 hr rfl m1 k1 b1 .nil pass0 (pa_cons (pv 0) (pa_cons (pe_tup (pa_cons (pe_gi rfl tb) (pa_cons (pe_gi rfl hb) pa_nil))) (pa_cons pe_int pa_nil)))))
      (pss_cons (ps_if (pt_cmpR op_notN (pv 3) pe_non (nomark _)) (pss_one (ps_ret (pe_tup (pa_cons pe_int (pa_cons (pv 3) pa_nil))))) pss_nil)
      (pss_cons (ps_set (i := 3) nd rfl (Or.inl rfl) (pe_call G1 hr rfl m1 k1 b1 .nil pass0 (pa_cons (pv 1) (pa_cons (pe_tup (pa_cons (pe_gi rfl tb) (pa_cons (pe_gi rfl tb) pa_nil))) (pa_cons pe_int pa_nil)))))
      (pss_cons (ps_if (pt_cmpR op_notN (pv 3) pe_non (nomark _)) (pss_one (ps_ret (pe_tup (pa_cons pe_int (pa_cons (pv 3) pa_nil))))) pss_nil)
      (pss_cons (ps_set (i := 3) nd rfl (Or.inl rfl) (pe_call G1 hr rfl m1 k1 b1 .nil pass0 (pa_cons (pv 2) (pa_cons (pe_tup (pa_cons (pe_gi rfl tb) (pa_cons (pe_gi rfl hb) (pa_cons (pe_gi rfl hb) pa_nil)))) (pa_cons pe_int pa_nil)))))
      (pss_cons (ps_if (pt_cmpR op_notN (pv 3) pe_non (nomark _)) (pss_one (ps_ret (pe_tup (pa_cons pe_int (pa_cons (pv 3) pa_nil))))) pss_nil)
      (pss_one (ps_ret pe_non))))))), ?_⟩
    refine ⟨_, rfl, (by show 2 ≤ sizeLine; decide), fun x hx => ?_⟩
    have s1 := same_new (o := .tup [.int 68719476736, .int 1000000]) hx
    refine ⟨p, x, ps, [68719476736, 1000000], 1, rfl, hp.same s1, SqT.of upd_same, lp, by decide, by decide, fun H1 sm1 => ?_⟩
    have sH1 := s1.trans sm1
    refine ⟨_, rfl, rfl, _, rfl, ?_⟩
    cases e1 : ffF [68719476736, 1000000] 1 0 none ps with
    | some i =>
      have e : faultF ps ws ts = some (0, i) := by unfold faultF; rw [e1]
      rw [e] at k
      refine iteT ⟨_, rfl, (by show 2 ≤ sizeLine; decide), fun y hy => ?_⟩
      exact RetT.here (k.after sH1) hy
    | none =>
      refine iteF ⟨_, rfl, (by show 2 ≤ sizeLine; decide), fun x2 hx2 => ?_⟩
      have s2 := sH1.trans (same_new (o := .tup [.int 68719476736, .int 68719476736]) hx2)
      refine ⟨q, x2, ws, [68719476736, 68719476736], 2, rfl, hq.same s2, SqT.of upd_same, lq, by decide, by decide, fun H2 sm2 => ?_⟩
      have sH2 := s2.trans sm2
      refine ⟨_, rfl, rfl, _, rfl, ?_⟩
      cases e2 : ffF [68719476736, 68719476736] 2 0 none ws with
      | some i =>
        have e : faultF ps ws ts = some (1, i) := by unfold faultF; rw [e1, e2]
        rw [e] at k
        refine iteT ⟨_, rfl, (by show 2 ≤ sizeLine; decide), fun y hy => ?_⟩
        exact RetT.here (k.after sH2) hy
      | none =>
        refine iteF ⟨_, rfl, (by show 3 ≤ sizeLine; decide), fun x3 hx3 => ?_⟩
        have s3 := sH2.trans (same_new (o := .tup [.int 68719476736, .int 1000000, .int 1000000]) hx3)
        refine ⟨t, x3, ts, [68719476736, 1000000, 1000000], 1, rfl, ht.same s3, SqT.of upd_same, lt, by decide, by decide, fun H3 sm3 => ?_⟩
        have sH3 := s3.trans sm3
        refine ⟨_, rfl, rfl, _, rfl, ?_⟩
        cases e3 : ffF [68719476736, 1000000, 1000000] 1 0 none ts with
        | some i =>
          have e : faultF ps ws ts = some (2, i) := by unfold faultF; rw [e1, e2, e3]
          rw [e] at k
          refine iteT ⟨_, rfl, (by show 2 ≤ sizeLine; decide), fun y hy => ?_⟩
          exact RetT.here (k.after sH3) hy
        | none =>
          have e : faultF ps ws ts = none := by unfold faultF; rw [e1, e2, e3]
          rw [e] at k
          exact iteF (k _ sH3)
end
end Gc
end
section
set_option Elab.async false
set_option linter.all false
set_option bootstrap.genMatcherCode false
set_option genSizeOf false
set_option maxRecDepth 100000
set_option maxHeartbeats 2000000
namespace Gc
open PySem PySem.Spec PyProof.Rows L2
theorem boot_tup : bootBuiltins "tuple" = some (.type "tuple") := by decide +kernel
noncomputable def groupsF (wd m : Nat) (ns : List Int) : List (List Int) := (List.range m).map fun i => (ns.drop (i * wd)).take wd
theorem groupsF_len (wd m : Nat) (ns : List Int) : (groupsF wd m ns).length = m := by simp [groupsF]
theorem groupsF_at {wd m i : Nat} {ns : List Int} {r : List Int} (h : (groupsF wd m ns)[i]? = some r) : i < m ∧ r = (ns.drop (i * wd)).take wd := by
  unfold groupsF at h
  rw [List.getElem?_map] at h
  by_cases hi : i < m
  · rw [List.getElem?_range hi] at h
    exact ⟨hi, (Option.some.inj h).symm⟩
  · rw [List.getElem?_eq_none (by simpa using hi)] at h
    cases h
theorem cut_nat {xs : List V} {a b : Nat} (h : a + b ≤ xs.length) : cutV xs (some (a : Int)) (some ((a : Int) + (b : Int))) = (xs.drop a).take b := by
  unfold cutV
  have e : ((a : Int) + (b : Int)) = ((a + b : Nat) : Int) := by omega
  rw [e, HT.sIx_nat, HT.sIx_nat, Nat.min_eq_left (by omega), Nat.min_eq_left (by omega)]
  congr 1
  omega
theorem rg_up {m wd : Nat} (hw : 0 < wd) (hw2 : wd ≤ 1000) (hm : m ≤ 1000000) : RgC 0 ((m * wd : Nat) : Int) (wd : Int) m := by
  have hmw : m * wd ≤ 1000000000 := Nat.le_trans (Nat.mul_le_mul hm hw2) (by decide)
  have e : Builtin.Range.rangeSize 0 ((m * wd : Nat) : Int) (wd : Int) = m := by
    unfold Builtin.Range.rangeSize
    rw [if_pos (by omega)]
    by_cases h0 : m = 0
    · subst h0; simp
    · have h1 : 0 < m * wd := Nat.mul_pos (by omega) hw
      rw [if_pos (by omega)]
      have e2 : (((m * wd : Nat) : Int) - 0 - 1) = ((m * wd - 1 : Nat) : Int) := by omega
      rw [e2]
      have e3 : (m * wd - 1) / wd = m - 1 := by
        refine Nat.div_eq_of_lt_le ?_ ?_
        · have : (m - 1) * wd = m * wd - wd := by rw [Nat.sub_mul]; omega
          omega
        · have : (m - 1 + 1) * wd = m * wd := by rw [Nat.sub_add_cancel (by omega)]
          omega
      rw [← Int.natCast_ediv, e3]
      omega
  refine ⟨by omega, by omega, ?_, e⟩
  unfold Builtin.Range.small
  rw [e]
  have h5 : (m : Int) * (wd : Int) = ((m * wd : Nat) : Int) := by rw [Int.natCast_mul]
  simp only [Builtin.Range.rangeFitsLong, Bool.and_eq_true, Bool.or_eq_true, decide_eq_true_eq, beq_iff_eq, show (wd : Int) > 0 by omega, if_true]
  have h6 : ((m : Int) - 1) * (wd : Int) = ((m * wd : Nat) : Int) - wd := by rw [Int.sub_mul, h5]; omega
  have h7 : (m : Int) * (wd : Int) ≤ 1000000000 := by omega
  refine ⟨⟨?_, ?_⟩, ?_⟩ <;> omega
/-- what is new -/
noncomputable def diff (H H' : Hp) : Hp := fun b => match H b with
  | none => H' b
  | some _ => none
theorem diff_at {H H' : Hp} {a : Addr} {o : HO} (h : H a = none) (h' : H' a = some o) : diff H H' a = some o := by unfold diff; rw [h]; exact h'
theorem diff_le (H H' : Hp) : Same (diff H H') H' := fun b o e => by
  unfold diff at e
  cases q : H b with
  | none => rw [q] at e; exact e
  | some u => rw [q] at e; cases e
theorem diff_old {H H' : Hp} {a : Addr} {o : HO} (h : H a = some o) : diff H H' a = none := by unfold diff; rw [h]
/-- what is new later was new earlier; what was new stays -/
theorem diff_mono {H H1 H2 H3 : Hp} (a : Same H H1) (b : Same H2 H3) : Same (diff H1 H2) (diff H H3) := fun c o e => by
  cases q : H1 c with
  | none =>
    have e : H2 c = some o := by unfold diff at e; rw [q] at e; exact e
    exact diff_at (a.free q) (b c o e)
  | some u => rw [diff_old q] at e; cases e
noncomputable def rTup (K : PySem.W.Frag) : List V → Hp → VK → Prop := fun xs H Q => ∃ p ys, xs = [.ref p] ∧ ((SqL K H p ys ∧ ∀ l, H l = none → Q (.ref l) (upd H l (.tup ys))) ∨ (SqT K H p ys ∧ Q (.ref p) H))
section
variable {P : Program} {w : World} {K : PySem.W.Frag} {mg : Str → Option Value} {base : Heap}
/-! ## in_groups -/
noncomputable def sp_in_groups (K : PySem.W.Frag) : Sp := fun vs H Q _ => ∃ (l : Addr) (ns : List Int) (wd m : Nat), vs = [.ref l, .int wd] ∧ SqL K H l (ns.map V.int) ∧ 0 < wd ∧ wd ≤ 1000 ∧ ns.length = m * wd ∧ ns.length ≤ 100000 ∧ ∀ H' p, Same H H' → TupsAt K (diff H H') p (groupsF wd m ns) → Q (.ref p) H'
theorem sc_in_groups : FnScope ["numbers", "width", "start"] ["numbers", "width"] (defScope s_in_groups) := ⟨rfl, rfl, rfl, by decide +kernel, rfl, by decide +kernel, by decide +kernel⟩
theorem blk_in_groups : BlkOk ["numbers", "width", "start"] (defScope s_in_groups) (compScope (bodyAt s_in_groups 0)) [("start", 2)] := ⟨rfl, by decide +kernel, by decide +kernel, by decide +kernel, by decide +kernel⟩
theorem ok_in_groups {f : Addr} {fd : FuncData} (F : Fun K "in_groups" "in_groups" s_in_groups f fd) (M : Mg K mg) : FnOk P w K mg base CX0 1 f fd ["numbers", "width"] (sp_in_groups K) := by
  have nd := sc_in_groups.nd
  refine F.ok sc_in_groups (fun vs H Q E h => ?_) (fun cdv A outer s H vs Q E hr h => ?_)
  · obtain ⟨l, ns, wd, m, rfl, _⟩ := h
    rfl
  · obtain ⟨l, ns, wd, m, rfl, hl, w0, w1, hm, hn, k⟩ := h
    refine ⟨_, pss_one (ps_ret (pe_lc (own := [("start", 2)]) rfl nd (pi_range3 rfl M.range (pa_cons pe_int (pa_cons (pe_callB call_len_seq (by rfl) M.len PySem.boot_len (pa_cons (pv 0) pa_nil)) (pa_cons (pv 1) pa_nil)))) blk_in_groups
      (fun s H C cl fp => pg_name (i := 2) nd rfl (Or.inl rfl)) (fun s H C cl fp => pts_nil)
      (fun s H C cl fp => pe_callTy (r := rTup K) call_tuple_of (by rfl) M.tuple boot_tup (pa_cons (pe_slice (r := rSlL K) sl_list (pv 0) (po_some (pv 2)) (po_some (pe_op op_add (pv 2) (pv 1)))) pa_nil)))), ?_⟩
    have hm2 : m ≤ 1000000 := by
      have h1 : m * 1 ≤ m * wd := Nat.mul_le_mul_left m w0
      omega
    refine ⟨_, rfl, l, _, rfl, .inl hl, _, rfl, _, _, _, m, rfl, ?_, fun D hD => ?_⟩
    · rw [List.length_map, hm]
      exact rg_up w0 w1 hm2
    refine lc_rngC (fun i H' => Same H H' ∧ ∃ as : List Addr, H' D = some (.lst (as.map V.ref)) ∧ as.length = i ∧ ∀ (j : Nat) (a : Addr), as[j]? = some a → H a = none ∧ H' a = some (.tup (((ns.drop (j * wd)).take wd).map V.int)))
      ⟨same_new hD, [], upd_same, rfl, fun j a h => by simp at h⟩ ?_ ?_
    · rintro i H' hi ⟨sm, as, hL, la, hat⟩
      have hle : i * wd + wd ≤ ns.length := by
        rw [hm]
        have : (i + 1) * wd ≤ m * wd := Nat.mul_le_mul_right wd hi
        rw [Nat.add_mul, Nat.one_mul] at this
        exact this
      have e0 : (0 : Int) + (i : Nat) * (wd : Int) = ((i * wd : Nat) : Int) := by rw [Int.natCast_mul]; omega
      rw [e0]
      refine ⟨rfl, _, rfl, _, rfl, _, rfl, _, rfl, _, rfl, _, _, rfl, rfl, _, rfl, l, _, rfl, sm.seq hl, fun p hp => ?_⟩
      rw [cut_nat (by rw [List.length_map]; exact hle)]
      refine ⟨p, _, rfl, .inl ⟨SqL.of upd_same, fun t ht => ?_⟩⟩
      have s1 : Same H' (upd H' p (.lst (((ns.map V.int).drop (i * wd)).take wd))) := same_new hp
      have s2 := s1.trans (same_new (o := .tup (((ns.map V.int).drop (i * wd)).take wd)) ht)
      refine ⟨_, s2 _ _ hL, ?_, same_upd hD (sm.trans s2), as ++ [t], ?_, by rw [List.length_append, la]; rfl, fun j a h => ?_⟩
      · rw [List.length_map, la]
        exact Nat.lt_of_lt_of_le hi (Nat.le_trans hm2 (by decide))
      · rw [upd_same, List.map_append]
        rfl
      · by_cases hj : j < as.length
        · rw [List.getElem?_append_left hj] at h
          obtain ⟨z0, z⟩ := hat j a h
          have ne : a ≠ D := ne_of z hL (by intro q; cases q)
          rw [upd_ne ne]
          exact ⟨z0, s2 _ _ z⟩
        · have hj2 : j < (as ++ [t]).length := (List.getElem?_eq_some_iff.mp h).1
          have ej : j = as.length := by rw [List.length_append] at hj2; simp at hj2; omega
          subst ej
          rw [List.getElem?_append_right (Nat.le_refl _), Nat.sub_self] at h
          have et : t = a := Option.some.inj h
          subst et
          have ne : t ≠ D := fun q => by
            rw [q, s1 _ _ hL] at ht
            cases ht
          refine ⟨(sm.trans s1).free ht, ?_⟩
          rw [upd_ne ne, upd_same, la, List.map_take, List.map_drop]
    · rintro H' ⟨sm, as, hL, la, hat⟩
      refine k H' D sm ⟨as.map V.ref, SqL.of (diff_at hD hL), by rw [List.length_map, la, groupsF_len], fun i r h => ?_⟩
      obtain ⟨hi, rfl⟩ := groupsF_at h
      obtain ⟨a, ha⟩ : ∃ a, as[i]? = some a := ⟨_, List.getElem?_eq_getElem (by omega)⟩
      exact ⟨a, by rw [List.getElem?_map, ha]; rfl, SqT.of (diff_at (hat i a ha).1 (hat i a ha).2)⟩
/-! ## Reader -/
structure ClsR (K : PySem.W.Frag) (C : Addr) : Prop where
  cl : Cls K C
  n1 : NoAttr K C "numbers"
  n2 : NoAttr K C "place"
noncomputable def rfs (l : Addr) (i : Nat) : List (Str × V) := [("numbers", .ref l), ("place", .int i)]
/-- a reader of the list at l, at place i -/
noncomputable def ReadAt (C : Addr) (H : Hp) (a l : Addr) (i : Nat) : Prop := ∃ dx, H a = some (.ins C dx (rfs l i))
/-- all but the object at a is as it was -/
noncomputable def Save (a : Addr) (H H' : Hp) : Prop := ∀ b o, H b = some o → b ≠ a → H' b = some o
theorem Save.refl (a : Addr) (H : Hp) : Save a H H := fun _ _ h _ => h
theorem Save.trans {a : Addr} {H H1 H2 : Hp} (h : Save a H H1) (k : Save a H1 H2) : Save a H H2 := fun b o e n => k b o (h b o e n) n
theorem Save.same {a : Addr} {H H1 : Hp} (h : Same H H1) : Save a H H1 := fun b o e _ => h b o e
theorem Save.upd {a : Addr} {H : Hp} {o : HO} : Save a H (upd H a o) := fun b u e n => by rw [upd_ne n]; exact e
noncomputable def sp_Reader_init (C : Addr) : Sp := fun vs H Q _ => ∃ (p l dx : Addr), vs = [.ref p, .ref l] ∧ H p = some (.ins C dx []) ∧ ∀ H', ReadAt C H' p l 0 → Save p H H' → Q .non H'
theorem sc_Reader_init : FnScope ["self", "numbers"] ["self", "numbers"] (defScope s_Reader_init) := ⟨rfl, rfl, rfl, by decide +kernel, rfl, by decide +kernel, by decide +kernel⟩
theorem ok_Reader_init {f C : Addr} {fd : FuncData} (F : Fun K "__init__" "Reader.__init__" s_Reader_init f fd) (T : ClsR K C) : FnOk P w K mg base CX0 1 f fd ["self", "numbers"] (sp_Reader_init C) := by
  refine F.ok sc_Reader_init (fun vs H Q E h => ?_) (fun cdv A outer s H vs Q E hr h => ?_)
  · obtain ⟨p, l, dx, rfl, _⟩ := h
    rfl
  · obtain ⟨p, l, dx, rfl, hp, k⟩ := h
    refine ⟨_, pss_cons (ps_fld (pv 0) (pv 1) rfl) (pss_one (ps_fld (pv 0) pe_int rfl)), ?_⟩
    refine ⟨_, rfl, _, rfl, p, C, dx, [], rfl, hp, T.cl, T.n1, (by show 0 < 1000; decide), ?_⟩
    refine ⟨_, rfl, p, C, dx, _, rfl, upd_same, T.cl, T.n2, (by show 1 < 1000; decide), ?_⟩
    exact k _ ⟨dx, upd_same⟩ (Save.upd.trans Save.upd)
noncomputable def sp_is_done (K : PySem.W.Frag) (C : Addr) : Sp := fun vs H Q _ => ∃ (p l : Addr) (ns : List Int) (i : Nat), vs = [.ref p] ∧ ReadAt C H p l i ∧ SqL K H l (ns.map V.int) ∧ Q (.bl (decide (ns.length ≤ i))) H
theorem sc_is_done : FnScope ["self"] ["self"] (defScope s_Reader_is_done) := ⟨rfl, rfl, rfl, by decide +kernel, rfl, by decide +kernel, by decide +kernel⟩
theorem ok_is_done {f C : Addr} {fd : FuncData} (F : Fun K "is_done" "Reader.is_done" s_Reader_is_done f fd) (T : ClsR K C) (M : Mg K mg) : FnOk P w K mg base CX0 1 f fd ["self"] (sp_is_done K C) := by
  refine F.ok sc_is_done (fun vs H Q E h => ?_) (fun cdv A outer s H vs Q E hr h => ?_)
  · obtain ⟨p, l, ns, i, rfl, _⟩ := h
    rfl
  · obtain ⟨p, l, ns, i, rfl, ⟨dx, hp⟩, hl, k⟩ := h
    refine ⟨_, pss_one (ps_ret (pe_cmpR op_ge (pe_fld (pv 0) rfl) (pe_callB call_len_seq (by rfl) M.len PySem.boot_len (pa_cons (pe_fld (pv 0) rfl) pa_nil)) (nomark _))), ?_⟩
    refine ⟨_, rfl, p, C, dx, _, _, rfl, hp, T.cl, T.n2, rfl, _, rfl, p, C, dx, _, _, rfl, hp, T.cl, T.n1, rfl, l, _, rfl, .inl hl, _, _, rfl, rfl, ?_⟩
    have e : decide (((ns.map V.int).length : Int) ≤ (i : Int)) = decide (ns.length ≤ i) := by rw [List.length_map]; exact decide_eq_decide.mpr ⟨fun _ => by omega, fun _ => by omega⟩
    show Q (.bl (decide (((ns.map V.int).length : Int) ≤ (i : Int)))) H
    rw [e]
    exact k
noncomputable def sp_take_number (K : PySem.W.Frag) (C : Addr) : Sp := fun vs H Q _ => ∃ (p l : Addr) (ns : List Int) (i : Nat) (z : Int), vs = [.ref p] ∧ ReadAt C H p l i ∧ SqL K H l (ns.map V.int) ∧ ns[i]? = some z ∧ ∀ H', ReadAt C H' p l (i + 1) → Save p H H' → Q (.int z) H'
theorem sc_take_number : FnScope ["self", "number"] ["self"] (defScope s_Reader_take_number) := ⟨rfl, rfl, rfl, by decide +kernel, rfl, by decide +kernel, by decide +kernel⟩
theorem ok_take_number {f C : Addr} {fd : FuncData} (F : Fun K "take_number" "Reader.take_number" s_Reader_take_number f fd) (T : ClsR K C) : FnOk P w K mg base CX0 1 f fd ["self"] (sp_take_number K C) := by
  have nd := sc_take_number.nd
  refine F.ok sc_take_number (fun vs H Q E h => ?_) (fun cdv A outer s H vs Q E hr h => ?_)
  · obtain ⟨p, l, ns, i, z, rfl, _⟩ := h
    rfl
  · obtain ⟨p, l, ns, i, z, rfl, ⟨dx, hp⟩, hl, hz, k⟩ := h
    refine ⟨_, pss_cons (ps_set (i := 1) nd rfl (Or.inl rfl) (pe_ix ix_list (pe_fld (pv 0) rfl) (pe_fld (pv 0) rfl) (fun _ _ => rfl)))
      (pss_cons (ps_fldaug (pv 0) pe_int in_add) (pss_one (ps_ret (pv 1)))), ?_⟩
    refine ⟨_, rfl, p, C, dx, _, _, rfl, hp, T.cl, T.n1, rfl, _, rfl, p, C, dx, _, _, rfl, hp, T.cl, T.n2, rfl, l, _, _, _, rfl, rfl, hl, atI_nat (j := i) (by rw [List.getElem?_map, hz]; rfl), ?_⟩
    refine ⟨_, rfl, p, C, dx, _, _, rfl, hp, T.cl, T.n2, rfl, _, _, rfl, rfl, dx, _, hp, (by show 2 < 1000; decide), ?_⟩
    exact ⟨_, rfl, k _ ⟨dx, upd_same⟩ Save.upd⟩
noncomputable def sp_take_row (K : PySem.W.Frag) (C : Addr) : Sp := fun vs H Q _ => ∃ (p l : Addr) (ns : List Int) (i n : Nat), vs = [.ref p] ∧ ReadAt C H p l i ∧ SqL K H l (ns.map V.int) ∧ ns[i]? = some (n : Int) ∧ i + 1 + n ≤ ns.length ∧
  ∀ H' q, ReadAt C H' p l (i + 1 + n) → Save p H H' → H' q = some (.lst (((ns.drop (i + 1)).take n).map V.int)) → H q = none → Q (.ref q) H'
theorem sc_take_row : FnScope ["self", "length", "row"] ["self"] (defScope s_Reader_take_row) := ⟨rfl, rfl, rfl, by decide +kernel, rfl, by decide +kernel, by decide +kernel⟩
theorem ok_take_row {f f1 C : Addr} {fd fd1 : FuncData} (F : Fun K "take_row" "Reader.take_row" s_Reader_take_row f fd) (T : ClsR K C)
    (G1 : FnOk P w K mg base CX0 1 f1 fd1 ["self"] (sp_take_number K C)) (m1 : Meth K C "take_number" f1) (b1 : Binds K fd1 ["self"] []) : FnOk P w K mg base CX0 2 f fd ["self"] (sp_take_row K C) := by
  have nd := sc_take_row.nd
  refine F.ok sc_take_row (fun vs H Q E h => ?_) (fun cdv A outer s H vs Q E hr h => ?_)
  · obtain ⟨p, l, ns, i, n, rfl, _⟩ := h
    rfl
  · obtain ⟨p, l, ns, i, n, rfl, hR, hl, hz, hle, k⟩ := h
    obtain ⟨dx, hp⟩ := id hR
    refine ⟨_, pss_cons (ps_set (i := 1) nd rfl (Or.inl rfl) (pe_meth0 (pv 0) T.cl m1 G1 hr b1 .nil pass0))
      (pss_cons (ps_set (i := 2) nd rfl (Or.inl rfl) (pe_slice sl_list (pe_fld (pv 0) rfl) (po_some (pe_fld (pv 0) rfl)) (po_some (pe_op op_add (pe_fld (pv 0) rfl) (pv 1)))))
      (pss_cons (ps_fldaug (pv 0) (pv 1) in_add) (pss_one (ps_ret (pv 2))))), ?_⟩
    refine ⟨_, rfl, p, dx, _, rfl, hp, rfl, p, l, ns, i, n, rfl, hR, hl, hz, fun H1 ⟨dx1, hp1⟩ sv1 => ?_⟩
    have hl1 : SqL K H1 l (ns.map V.int) := by
      have hlp : ∀ o, H l = some o → l ≠ p ∨ ¬ (∃ xs, o = .lst xs ∨ ∃ ob, o = .frz ob (.lst xs)) := fun o e => by
        by_cases q : l = p
        · subst q
          rw [hp] at e
          cases e
          exact .inr fun ⟨xs, u⟩ => by rcases u with u | ⟨ob, u⟩ <;> cases u
        · exact .inl q
      rcases hl with (h | ⟨ob, h⟩) | h
      · exact .inl (.inl (sv1 _ _ h ((hlp _ h).resolve_right fun u => u ⟨_, .inl rfl⟩)))
      · exact .inl (.inr ⟨ob, sv1 _ _ h ((hlp _ h).resolve_right fun u => u ⟨_, .inr ⟨_, rfl⟩⟩)⟩)
      · exact .inr h
    refine ⟨_, rfl, p, C, dx1, _, _, rfl, hp1, T.cl, T.n1, rfl, _, rfl, p, C, dx1, _, _, rfl, hp1, T.cl, T.n2, rfl, _, rfl, _, rfl, p, C, dx1, _, _, rfl, hp1, T.cl, T.n2, rfl, _, rfl, _, _, rfl, rfl, _, rfl, l, _, rfl, hl1, fun q hq => ?_⟩
    rw [cut_nat (by rw [List.length_map]; exact hle)]
    have s1 := same_new (o := .lst (((ns.map V.int).drop (i + 1)).take n)) hq
    have pq : p ≠ q := fun e => by rw [← e, hp1] at hq; cases hq
    refine ⟨_, rfl, p, C, dx1, _, _, rfl, s1 _ _ hp1, T.cl, T.n2, rfl, _, rfl, _, _, rfl, rfl, dx1, _, s1 _ _ hp1, (by show 2 < 1000; decide), ?_⟩
    refine ⟨_, rfl, k _ q ⟨dx1, upd_same⟩ (sv1.trans ((Save.same s1).trans Save.upd)) ?_ ?_⟩
    · rw [upd_ne (Ne.symm pq), upd_same, List.map_take, List.map_drop]
    · cases e : H q with
      | none => rfl
      | some o =>
        have := sv1 q o e (Ne.symm pq)
        rw [hq] at this
        cases this
end
end Gc
end
section
set_option Elab.async false
set_option linter.all false
set_option bootstrap.genMatcherCode false
set_option genSizeOf false
set_option maxRecDepth 100000
set_option maxHeartbeats 2000000
namespace Gc
open PySem PySem.Spec PyProof.Rows L2
/-! ## kept points, new ones -/
noncomputable def KpNew (H H' : Hp) (a : Addr) (k : Kp) : Prop := ∃ b c, H a = none ∧ H b = none ∧ H c = none ∧ H' a = some (.tup [.ref b, .ref c]) ∧ H' b = some (.tup [.int k.1.1, .int k.1.2]) ∧ H' c = some (.tup [.int k.2.1, .int k.2.2])
noncomputable def KsNew (H H' : Hp) (D : Addr) (ks : List Kp) : Prop := ∃ as : List Addr, H' D = some (.lst (as.map V.ref)) ∧ as.length = ks.length ∧ ∀ (j : Nat) (a : Addr), as[j]? = some a → ∃ k, ks[j]? = some k ∧ KpNew H H' a k
theorem KpNew.same {H H1 H2 : Hp} {a : Addr} {k : Kp} (h : KpNew H H1 a k) (s : Same H1 H2) : KpNew H H2 a k := by
  obtain ⟨b, c, n1, n2, n3, h1, h2, h3⟩ := h
  exact ⟨b, c, n1, n2, n3, s _ _ h1, s _ _ h2, s _ _ h3⟩
theorem KsNew.same {H H1 H2 : Hp} {D : Addr} {ks : List Kp} (h : KsNew H H1 D ks) (s : Same H1 H2) : KsNew H H2 D ks := by
  obtain ⟨as, h1, h2, h3⟩ := h
  refine ⟨as, s _ _ h1, h2, fun j a e => ?_⟩
  obtain ⟨k, h4, h5⟩ := h3 j a e
  exact ⟨k, h4, h5.same s⟩
theorem KpNew.upd_lst {H H1 : Hp} {a D : Addr} {k : Kp} {o : HO} {xs : List V} (h : KpNew H H1 a k) (hD : H1 D = some (.lst xs)) : KpNew H (upd H1 D o) a k := by
  obtain ⟨b, c, n1, n2, n3, h1, h2, h3⟩ := h
  have e : ∀ {x : Addr} {ys : List V}, H1 x = some (.tup ys) → x ≠ D := fun q z => by
    rw [z, hD] at q
    cases q
  exact ⟨b, c, n1, n2, n3, by rw [upd_ne (e h1)]; exact h1, by rw [upd_ne (e h2)]; exact h2, by rw [upd_ne (e h3)]; exact h3⟩
theorem KsNew.push {H H1 : Hp} {D t : Addr} {ks : List Kp} {k : Kp} {as : List Addr} (hL : H1 D = some (.lst (as.map V.ref))) (la : as.length = ks.length) (hat : ∀ (j : Nat) (a : Addr), as[j]? = some a → ∃ k, ks[j]? = some k ∧ KpNew H H1 a k) (ht : KpNew H H1 t k) :
    KsNew H (upd H1 D (.lst (as.map V.ref ++ [.ref t]))) D (ks ++ [k]) := by
  refine ⟨as ++ [t], by rw [upd_same, List.map_append]; rfl, by simp [la], fun j a h => ?_⟩
  by_cases hj : j < as.length
  · rw [List.getElem?_append_left hj] at h
    obtain ⟨k', h1, h2⟩ := hat j a h
    exact ⟨k', by rw [List.getElem?_append_left (by omega)]; exact h1, h2.upd_lst hL⟩
  · have hj2 : j < (as ++ [t]).length := (List.getElem?_eq_some_iff.mp h).1
    have ej : j = as.length := by rw [List.length_append] at hj2; simp at hj2; omega
    subst ej
    rw [List.getElem?_append_right (Nat.le_refl _), Nat.sub_self] at h
    have et : t = a := Option.some.inj h
    subst et
    refine ⟨k, ?_, ht.upd_lst hL⟩
    rw [la, List.getElem?_append_right (Nat.le_refl _), Nat.sub_self]
    rfl
theorem KsNew.at {K : PySem.W.Frag} {H H' : Hp} {D : Addr} {ks : List Kp} (hD : H D = none) (h : KsNew H H' D ks) : KeptAt K (diff H H') D ks := by
  obtain ⟨as, h1, h2, h3⟩ := h
  refine ⟨as.map V.ref, SqL.of (diff_at hD h1), by simp [h2], fun i k e => ?_⟩
  have hi : i < as.length := by rw [h2]; exact (List.getElem?_eq_some_iff.mp e).1
  obtain ⟨a, ha⟩ : ∃ a, as[i]? = some a := ⟨_, List.getElem?_eq_getElem hi⟩
  obtain ⟨k', e', b, c, n1, n2, n3, g1, g2, g3⟩ := h3 i a ha
  rw [e] at e'
  obtain rfl := Option.some.inj e'
  exact ⟨a, by rw [List.getElem?_map, ha]; rfl, b, c, SqT.of (diff_at n1 g1), SqT.of (diff_at n2 g2), SqT.of (diff_at n3 g3)⟩
section
variable {P : Program} {w : World} {K : PySem.W.Frag} {mg : Str → Option Value} {base : Heap}
noncomputable def sp_kept_points (K : PySem.W.Frag) : Sp := fun vs H Q _ => ∃ (pl wl zl : Addr) (s : Nat) (pts ws zs : List (Int × Int)), vs = [.int s, .ref pl, .ref wl, .ref zl] ∧ PairsAt K H pl pts ∧ PairsAt K H wl ws ∧ PairsAt K H zl zs ∧ Small pts ∧ Small ws ∧ Small zs ∧ Rise zs ∧ pts.length ≤ 1000 ∧
  ∀ H' kl, Same H H' → H kl = none → KeptAt K (diff H H') kl (keptF s pts ws zs pts.length) → Q (.ref kl) H'
theorem sc_kept_points : FnScope ["spike_size", "points", "watch_checks", "zero_checks", "kept", "k", "point", "zero", "height"] ["spike_size", "points", "watch_checks", "zero_checks"] (defScope s_kept_points) := ⟨rfl, rfl, rfl, by decide +kernel, rfl, by decide +kernel, by decide +kernel⟩
theorem ok_kept_points {f f1 f2 f3 : Addr} {fd fd1 fd2 fd3 : FuncData} (F : Fun K "kept_points" "kept_points" s_kept_points f fd) (M : Mg K mg)
    (G1 : FnOk P w K mg base CX0 1 f1 fd1 ["points", "k", "size"] (sp_is_spike K)) (m1 : mg "is_spike" = some (.ref f1)) (k1 : PySem.W.keepIn K (.ref f1) = true) (b1 : Binds K fd1 ["points", "k", "size"] [])
    (G2 : FnOk P w K mg base CX0 3 f2 fd2 ["checks", "clock"] (sp_checks K zzF)) (m2 : mg "zero_at" = some (.ref f2)) (k2 : PySem.W.keepIn K (.ref f2) = true) (b2 : Binds K fd2 ["checks", "clock"] [])
    (G3 : FnOk P w K mg base CX0 3 f3 fd3 ["checks", "clock"] (sp_checks K ttF)) (m3 : mg "true_time" = some (.ref f3)) (k3 : PySem.W.keepIn K (.ref f3) = true) (b3 : Binds K fd3 ["checks", "clock"] []) :
    FnOk P w K mg base CX0 4 f fd ["spike_size", "points", "watch_checks", "zero_checks"] (sp_kept_points K) := by
  have nd := sc_kept_points.nd
  refine F.ok sc_kept_points (fun vs H Q E h => ?_) (fun cdv A outer s H vs Q E hr h => ?_)
  · obtain ⟨pl, wl, zl, s, pts, ws, zs, rfl, _⟩ := h
    rfl
  · obtain ⟨pl, wl, zl, z, pts, ws, zs, rfl, hp, hw, hz, sp, sw, sz, rz, np, k⟩ := h
    obtain ⟨xs, hx, hlen, hat⟩ := hp.get
    refine ⟨_, pss_cons (ps_set (i := 4) nd rfl (Or.inl rfl) (pe_lst pa_nil))
      (pss_cons (ps_for PassesOwn.never rfl (pi_enum rfl M.enumerate (pa_cons (pv 1) pa_nil)) (pg_tup rfl (pgs_cons (pg_name (i := 5) nd rfl (Or.inl rfl)) (pgs_cons (pg_name (i := 6) nd rfl (Or.inl rfl)) pgs_nil)))
        (pss_one (ps_if (pt_not (pt_val (pe_call G1 (hr.mono (by decide)) rfl m1 k1 b1 .nil pass0 (pa_cons (pv 1) (pa_cons (pv 5) (pa_cons (pv 0) pa_nil))))))
          (pss_cons (ps_set (i := 7) nd rfl (Or.inl rfl) (pe_call G2 hr rfl m2 k2 b2 .nil pass0 (pa_cons (pv 3) (pa_cons (pe_ix ix_tup (pv 6) pe_int (fun _ _ => rfl)) pa_nil))))
          (pss_cons (ps_set (i := 8) nd rfl (Or.inl rfl) (pe_tup (pa_cons (pe_op op_add (pe_op op_mulZ (pe_ix ix_tup (pv 6) pe_int (fun _ _ => rfl)) (pe_ix ix_tup (pv 7) pe_int (fun _ _ => rfl))) (pe_ix ix_tup (pv 7) pe_int (fun _ _ => rfl))) (pa_cons (pe_ix ix_tup (pv 7) pe_int (fun _ _ => rfl)) pa_nil))))
          (pss_one (ps_expr (pe_bm PySem.F.plainAttrs_list PySem.F.slot_list_append PySem.F.type_list_append mt_append (pv 4)
            (pa_cons (pe_tup (pa_cons (pe_call G3 hr rfl m3 k3 b3 .nil pass0 (pa_cons (pv 2) (pa_cons (pe_ix ix_tup (pv 6) pe_int (fun _ _ => rfl)) pa_nil))) (pa_cons (pv 8) pa_nil))) pa_nil)))))) pss_nil)))
      (pss_one (ps_ret (pv 4)))), ?_⟩
    refine ⟨Nat.zero_le _, fun D hD => ?_⟩
    have s0 := same_new (o := .lst []) hD
    refine ⟨_, rfl, pl, xs, rfl, s0.seq hx, for_enum (xs := xs) (fun i σ H' => Same H H' ∧ (∃ u5 u6 u7 u8, σ = [some (.int z), some (.ref pl), some (.ref wl), some (.ref zl), some (.ref D), u5, u6, u7, u8]) ∧ KsNew H H' D (keptF z pts ws zs i))
      ⟨s0, ⟨_, _, _, _, rfl⟩, [], upd_same, rfl, fun j a h => by simp at h⟩ (fun i σ H' h => h.1.seq hx) ?_ ?_⟩
    · rintro i x σ H' T hxi hT ⟨sm, ⟨u5, u6, u7, u8, rfl⟩, hks⟩
      have hi : i < pts.length := by rw [← hlen]; exact (List.getElem?_eq_some_iff.mp hxi).1
      obtain ⟨p, hp'⟩ : ∃ p, pts[i]? = some p := ⟨_, List.getElem?_eq_getElem hi⟩
      obtain ⟨a, ha, ta⟩ := hat i p hp'
      rw [hxi] at ha
      obtain rfl := Option.some.inj ha
      have sT := same_new (o := .tup [.int (i : Nat), .ref a]) hT
      have sm' := sm.trans sT
      have hks' := hks.same sT
      have e := keptF_succ z pts ws zs i hp'
      have sp1 := sp p (List.mem_of_getElem? hp')
      refine ⟨T, _, rfl, SqT.of upd_same, rfl, _, _, rfl, _, _, rfl, rfl, ?_⟩
      refine ⟨_, rfl, _, rfl, _, rfl, pl, pts, z, i, rfl, hp.same sm', hi, _, rfl, ?_⟩
      cases es : spikeB z pts i with
      | true =>
        rw [es, if_pos rfl, List.append_nil] at e
        refine iteF ⟨sm', ⟨_, _, _, _, rfl⟩, ?_⟩
        rw [e]
        exact hks'
      | false =>
        rw [es, if_neg (by decide)] at e
        refine iteT ⟨_, rfl, _, rfl, a, _, _, _, rfl, rfl, same_tup sm' ta, at0, zl, zs, p.1, rfl, hz.same sm', sz, sp1.1, fun H1 y s1 n1 h1 => ?_⟩
        have sm1 := sm'.trans s1
        have dz := zzF_den (c := p.1) sz rz
        refine ⟨_, rfl, a, _, _, _, rfl, rfl, same_tup sm1 ta, at1, _, rfl, y, _, _, _, rfl, rfl, SqT.of h1, at1, _, _, rfl, rfl, (bt40 sp1.2).cm (bt64 dz), _, rfl, y, _, _, _, rfl, rfl, SqT.of h1, at0, _, _, rfl, rfl, _, rfl, y, _, _, _, rfl, rfl, SqT.of h1, at1, (by show 2 ≤ sizeLine; decide), fun c hc => ?_⟩
        have s2 := same_new (o := .tup [.int (p.2 * (zzF zs p.1).2 + (zzF zs p.1).1), .int (zzF zs p.1).2]) hc
        have sm2 := sm1.trans s2
        obtain ⟨as, hL, la, hka⟩ := (hks'.same s1).same s2
        refine ⟨_, rfl, .inl ⟨rfl, _, SqL.of hL⟩, _, rfl, _, rfl, a, _, _, _, rfl, rfl, same_tup sm2 ta, at0, wl, ws, p.1, rfl, hw.same sm2, sw, sp1.1, fun H3 b s3 n3 h3 => ?_⟩
        have sm3 := sm2.trans s3
        refine ⟨_, rfl, (by show 2 ≤ sizeLine; decide), fun t ht => ?_⟩
        have s4 := same_new (o := .tup [.ref b, .ref c]) ht
        have sm4 := sm3.trans s4
        have s24 := s3.trans s4
        refine ⟨D, _, _, rfl, rfl, s24 _ _ hL, ?_, same_upd hD sm4, ⟨_, _, _, _, rfl⟩, ?_⟩
        · rw [List.length_map, la]
          exact Nat.lt_of_le_of_lt (keptF_len _ _ _ _ _) (Nat.lt_of_lt_of_le hi (Nat.le_trans np (by decide)))
        · rw [e]
          refine KsNew.push (s24 _ _ hL) la (fun j a' h => ?_) ⟨b, c, sm3.free ht, sm2.free n3, sm1.free hc, upd_same, s4 _ _ h3, s24 _ _ upd_same⟩
          obtain ⟨k', h4, h5⟩ := hka j a' h
          exact ⟨k', h4, h5.same s24⟩
    · rintro σ H' ⟨sm, ⟨u5, u6, u7, u8, rfl⟩, hks⟩
      rw [hlen] at hks
      exact ⟨_, rfl, k _ D sm hD (hks.at hD)⟩
end
end Gc
end
section
set_option Elab.async false
set_option linter.all false
set_option bootstrap.genMatcherCode false
set_option genSizeOf false
set_option maxRecDepth 100000
set_option maxHeartbeats 2000000
namespace Gc
open PySem PySem.Spec PyProof.Rows L2
/-! ## pairs and triples of a row -/
noncomputable def tr (p : Int × Int × Int) : List Int := [p.1, p.2.1, p.2.2]
noncomputable def zsOf (ts : List (Int × Int × Int)) : List (Int × Int) := ts.map fun t => (t.1, t.2.2 - t.2.1)
theorem groups_step {wd m : Nat} {x r : List Int} (hx : x.length = wd) : groupsF wd (m + 1) (x ++ r) = x :: groupsF wd m r := by
  unfold groupsF
  rw [List.range_succ_eq_map, List.map_cons, List.map_map]
  congr 1
  · rw [Nat.zero_mul, List.drop_zero]
    exact List.take_left' hx
  · refine List.map_congr_left fun i _ => ?_
    show ((x ++ r).drop ((i + 1) * wd)).take wd = (r.drop (i * wd)).take wd
    have e : (i + 1) * wd = x.length + i * wd := by rw [Nat.add_mul, Nat.one_mul, hx]; omega
    rw [e, List.drop_append, List.drop_eq_nil_of_le (by omega), List.nil_append, Nat.add_sub_cancel_left]
theorem couples_groups : ∀ {l : List Int} {ps : List (Int × Int)}, Tide.couples? l = some ps → l.length = ps.length * 2 ∧ groupsF 2 ps.length l = ps.map pr
  | [], ps, h => by cases h; exact ⟨rfl, rfl⟩
  | [_], ps, h => by cases h
  | a :: b :: r, ps, h => by
    unfold Tide.couples? at h
    cases e : Tide.couples? r with
    | none => rw [e] at h; cases h
    | some qs =>
      rw [e] at h
      cases h
      obtain ⟨h1, h2⟩ := couples_groups e
      refine ⟨by simp [h1]; omega, ?_⟩
      have z := groups_step (wd := 2) (m := qs.length) (x := [a, b]) (r := r) rfl
      rw [h2] at z
      exact z
theorem triples_groups : ∀ {l : List Int} {ps : List (Int × Int × Int)}, Tide.triples? l = some ps → l.length = ps.length * 3 ∧ groupsF 3 ps.length l = ps.map tr
  | [], ps, h => by cases h; exact ⟨rfl, rfl⟩
  | [_], ps, h => by cases h
  | [_, _], ps, h => by cases h
  | a :: b :: c :: r, ps, h => by
    unfold Tide.triples? at h
    cases e : Tide.triples? r with
    | none => rw [e] at h; cases h
    | some qs =>
      rw [e] at h
      cases h
      obtain ⟨h1, h2⟩ := triples_groups e
      refine ⟨by simp [h1]; omega, ?_⟩
      have z := groups_step (wd := 3) (m := qs.length) (x := [a, b, c]) (r := r) rfl
      rw [h2] at z
      exact z
/-! ## what no fault means -/
theorem fb_none {α : Type} {right : α → Bool} {rises : α → α → Bool} : ∀ (l : List α) (i : Nat) (p : Option α), Tide.firstBad right rises i p l = none →
    (∀ x ∈ l, right x = true) ∧ (∀ (j : Nat) (x y : α), l[j]? = some x → l[j + 1]? = some y → rises x y = true) ∧ (∀ y x, p = some y → l[0]? = some x → rises y x = true)
  | [], _, _, _ => ⟨by simp, by simp, by simp⟩
  | z :: l, i, p, h => by
    unfold Tide.firstBad at h
    by_cases hc : (right z && (match p with | some y => rises y z | none => true)) = true
    · rw [if_pos (by cases p <;> exact hc)] at h
      rw [Bool.and_eq_true] at hc
      obtain ⟨h1, h2, h3⟩ := fb_none l (i + 1) (some z) h
      refine ⟨fun x hx => ?_, fun j x y hx hy => ?_, fun y x hp hx => ?_⟩
      · rcases List.mem_cons.mp hx with rfl | hx
        · exact hc.1
        · exact h1 x hx
      · cases j with
        | zero =>
          cases hx
          exact h3 z y rfl hy
        | succ j => exact h2 j x y hx hy
      · subst hp
        cases hx
        exact hc.2
    · rw [if_neg (by cases p <;> exact hc)] at h
      cases h
theorem inB2 {a b c d : Int} (h : inB [a, b] [c, d] = true) : (-c ≤ a ∧ a ≤ c) ∧ (-d ≤ b ∧ b ≤ d) := by simpa [inB] using h
theorem inB3 {a b c d e f : Int} (h : inB [a, b, e] [c, d, f] = true) : (-c ≤ a ∧ a ≤ c) ∧ (-d ≤ b ∧ b ≤ d) ∧ (-f ≤ e ∧ e ≤ f) := by simpa [inB] using h
theorem rises1 {a b : List Int} (h : risesB 1 a b = true) : a.getD 0 0 < b.getD 0 0 := by simpa [risesB] using h
theorem rises2 {a b : List Int} (h : risesB 2 a b = true) : a.getD 0 0 < b.getD 0 0 ∧ a.getD 1 0 < b.getD 1 0 := by simpa [risesB, List.range_succ] using h
/-- all in form -/
structure Form (ps ws : List (Int × Int)) (ts : List (Int × Int × Int)) : Prop where
  pb : ∀ p ∈ ps, (-68719476736 ≤ p.1 ∧ p.1 ≤ 68719476736) ∧ (-1000000 ≤ p.2 ∧ p.2 ≤ 1000000)
  wb : ∀ p ∈ ws, (-68719476736 ≤ p.1 ∧ p.1 ≤ 68719476736) ∧ (-68719476736 ≤ p.2 ∧ p.2 ≤ 68719476736)
  tb : ∀ p ∈ ts, (-68719476736 ≤ p.1 ∧ p.1 ≤ 68719476736) ∧ (-1000000 ≤ p.2.1 ∧ p.2.1 ≤ 1000000) ∧ (-1000000 ≤ p.2.2 ∧ p.2.2 ≤ 1000000)
  pr : Rise ps
  wr : Rise ws
  wt : ∀ (i : Nat) (x y : Int × Int), ws[i]? = some x → ws[i + 1]? = some y → x.2 < y.2
  tr : Rise (zsOf ts)
theorem form_of {ps ws : List (Int × Int)} {ts : List (Int × Int × Int)} (h : faultF (ps.map Gc.pr) (ws.map Gc.pr) (ts.map Gc.tr) = none) : Form ps ws ts := by
  unfold faultF at h
  split at h
  · cases h
  · rename_i h1
    split at h
    · cases h
    · rename_i h2
      split at h
      · cases h
      · rename_i h3
        obtain ⟨a1, a2, _⟩ := fb_none _ _ _ h1
        obtain ⟨b1, b2, _⟩ := fb_none _ _ _ h2
        obtain ⟨c1, c2, _⟩ := fb_none _ _ _ h3
        have gp : ∀ {l : List (Int × Int)} {i : Nat} {x : Int × Int}, l[i]? = some x → (l.map Gc.pr)[i]? = some (Gc.pr x) := fun e => by rw [List.getElem?_map, e]; rfl
        have gt : ∀ {i : Nat} {x : Int × Int × Int}, ts[i]? = some x → (ts.map Gc.tr)[i]? = some (Gc.tr x) := fun e => by rw [List.getElem?_map, e]; rfl
        refine ⟨fun p hp => inB2 (a1 _ (List.mem_map.mpr ⟨p, hp, rfl⟩)), fun p hp => inB2 (b1 _ (List.mem_map.mpr ⟨p, hp, rfl⟩)), fun p hp => inB3 (c1 _ (List.mem_map.mpr ⟨p, hp, rfl⟩)), fun i x y hx hy => rises1 (a2 i _ _ (gp hx) (gp hy)),
          fun i x y hx hy => (rises2 (b2 i _ _ (gp hx) (gp hy))).1, fun i x y hx hy => (rises2 (b2 i _ _ (gp hx) (gp hy))).2, fun i x y hx hy => ?_⟩
        unfold zsOf at hx hy
        rw [List.getElem?_map] at hx hy
        cases ex : ts[i]? with
        | none => rw [ex] at hx; cases hx
        | some u =>
          cases ey : ts[i + 1]? with
          | none => rw [ey] at hy; cases hy
          | some v =>
            rw [ex] at hx
            rw [ey] at hy
            cases hx
            cases hy
            exact rises1 (c2 i _ _ (gt ex) (gt ey))
theorem Form.small {ps ws : List (Int × Int)} {ts : List (Int × Int × Int)} (F : Form ps ws ts) : Small ps ∧ Small ws ∧ Small (zsOf ts) := by
  refine ⟨fun p hp => ?_, fun p hp => ?_, fun p hp => ?_⟩
  · have := F.pb p hp
    omega
  · have := F.wb p hp
    omega
  · obtain ⟨t, ht, rfl⟩ := List.mem_map.mp hp
    have := F.tb t ht
    dsimp only
    omega
theorem Save.seq {K : PySem.W.Frag} {p l C dx : Addr} {fs : List (Str × V)} {xs : List V} {H H' : Hp} (sv : Save p H H') (hp : H p = some (.ins C dx fs)) (hl : SqL K H l xs) : SqL K H' l xs := by
  have ne : ∀ o, H l = some o → (∀ C dx fs, o ≠ .ins C dx fs) → l ≠ p := fun o e n q => by
    subst q
    rw [hp] at e
    exact n _ _ _ (Option.some.inj e).symm
  rcases hl with (h | ⟨ob, h⟩) | h
  · exact .inl (.inl (sv _ _ h (ne _ h fun _ _ _ q => by cases q)))
  · exact .inl (.inr ⟨ob, sv _ _ h (ne _ h fun _ _ _ q => by cases q)⟩)
  · exact .inr h
theorem Save.tup {K : PySem.W.Frag} {p l C dx : Addr} {fs : List (Str × V)} {xs : List V} {H H' : Hp} (sv : Save p H H') (hp : H p = some (.ins C dx fs)) (hl : SqT K H l xs) : SqT K H' l xs := by
  have ne : ∀ o, H l = some o → (∀ C dx fs, o ≠ .ins C dx fs) → l ≠ p := fun o e n q => by
    subst q
    rw [hp] at e
    exact n _ _ _ (Option.some.inj e).symm
  rcases hl with (h | ⟨ob, h⟩) | h
  · exact .inl (.inl (sv _ _ h (ne _ h fun _ _ _ q => by cases q)))
  · exact .inl (.inr ⟨ob, sv _ _ h (ne _ h fun _ _ _ q => by cases q)⟩)
  · exact .inr h
theorem PairsAt.save {K : PySem.W.Frag} {p l C dx : Addr} {fs : List (Str × V)} {ps : List (Int × Int)} {H H' : Hp} (t : PairsAt K H l ps) (sv : Save p H H') (hp : H p = some (.ins C dx fs)) : PairsAt K H' l ps := by
  obtain ⟨xs, h1, h2, h3⟩ := t
  refine ⟨xs, sv.seq hp h1, h2, fun i r e => ?_⟩
  obtain ⟨a, h4, h5⟩ := h3 i r e
  exact ⟨a, h4, sv.tup hp h5⟩
section
variable {P : Program} {w : World} {K : PySem.W.Frag} {mg : Str → Option Value} {base : Heap}
/-! ## Gauge.__init__, Recorder.__init__ -/
noncomputable def sp_Gauge_init (K : PySem.W.Frag) (C : Addr) : Sp := fun vs H Q _ => ∃ (p dx : Addr) (s g : Nat) (pl wl zl : Addr) (pts ws zs : List (Int × Int)), vs = [.ref p, .int s, .int g, .ref pl, .ref wl, .ref zl] ∧ H p = some (.ins C dx []) ∧
  PairsAt K H pl pts ∧ PairsAt K H wl ws ∧ PairsAt K H zl zs ∧ Small pts ∧ Small ws ∧ Small zs ∧ Rise zs ∧ pts.length ≤ 1000 ∧
  ∀ H' kl, H' p = some (.ins C dx (gfs s g pl wl zl kl)) → Save p H H' → KeptAt K (diff H H') kl (keptF s pts ws zs pts.length) → Q .non H'
theorem sc_Gauge_init : FnScope ["self", "spike_size", "widest_gap", "points", "watch_checks", "zero_checks"] ["self", "spike_size", "widest_gap", "points", "watch_checks", "zero_checks"] (defScope s_Gauge_init) := ⟨rfl, rfl, rfl, by decide +kernel, rfl, by decide +kernel, by decide +kernel⟩
theorem ok_Gauge_init {f f1 C : Addr} {fd fd1 : FuncData} (F : Fun K "__init__" "Gauge.__init__" s_Gauge_init f fd) (T : ClsG K C)
    (G1 : FnOk P w K mg base CX0 4 f1 fd1 ["spike_size", "points", "watch_checks", "zero_checks"] (sp_kept_points K)) (m1 : mg "kept_points" = some (.ref f1)) (k1 : PySem.W.keepIn K (.ref f1) = true) (b1 : Binds K fd1 ["spike_size", "points", "watch_checks", "zero_checks"] []) :
    FnOk P w K mg base CX0 5 f fd ["self", "spike_size", "widest_gap", "points", "watch_checks", "zero_checks"] (sp_Gauge_init K C) := by
  refine F.ok sc_Gauge_init (fun vs H Q E h => ?_) (fun cdv A outer s H vs Q E hr h => ?_)
  · obtain ⟨p, dx, s, g, pl, wl, zl, pts, ws, zs, rfl, _⟩ := h
    rfl
  · obtain ⟨p, dx, z, g, pl, wl, zl, pts, ws, zs, rfl, hp, h1, h2, h3, s1, s2, s3, r3, np, k⟩ := h
    refine ⟨_, pss_cons (ps_fld (pv 0) (pv 1) rfl) (pss_cons (ps_fld (pv 0) (pv 2) rfl) (pss_cons (ps_fld (pv 0) (pv 3) rfl) (pss_cons (ps_fld (pv 0) (pv 4) rfl) (pss_cons (ps_fld (pv 0) (pv 5) rfl)
      (pss_one (ps_fld (pv 0) (pe_call G1 hr rfl m1 k1 b1 .nil pass0 (pa_cons (pv 1) (pa_cons (pv 3) (pa_cons (pv 4) (pa_cons (pv 5) pa_nil))))) rfl)))))), ?_⟩
    refine ⟨_, rfl, _, rfl, p, C, dx, [], rfl, hp, T.cl, T.n1, (by show 0 < 1000; decide), ?_⟩
    refine ⟨_, rfl, _, rfl, p, C, dx, _, rfl, upd_same, T.cl, T.n2, (by show 1 < 1000; decide), ?_⟩
    refine ⟨_, rfl, _, rfl, p, C, dx, _, rfl, upd_same, T.cl, T.n3, (by show 2 < 1000; decide), ?_⟩
    refine ⟨_, rfl, _, rfl, p, C, dx, _, rfl, upd_same, T.cl, T.n4, (by show 3 < 1000; decide), ?_⟩
    refine ⟨_, rfl, _, rfl, p, C, dx, _, rfl, upd_same, T.cl, T.n5, (by show 4 < 1000; decide), ?_⟩
    refine ⟨_, rfl, _, rfl, _, rfl, _, rfl, ?_⟩
    generalize hH5 : upd (upd (upd (upd (upd H p _) p _) p _) p _) p _ = H5
    have sv5 : Save p H H5 := by
      rw [← hH5]
      exact (((Save.upd.trans Save.upd).trans Save.upd).trans Save.upd).trans Save.upd
    have hp5 : H5 p = some (.ins C dx [("spike_size", .int z), ("widest_gap", .int g), ("points", .ref pl), ("watch_checks", .ref wl), ("zero_checks", .ref zl)]) := by
      rw [← hH5, upd_same]
      rfl
    refine ⟨pl, wl, zl, z, pts, ws, zs, rfl, h1.save sv5 hp, h2.save sv5 hp, h3.save sv5 hp, s1, s2, s3, r3, np, fun H6 kl s6 n6 hk => ?_⟩
    refine ⟨_, rfl, p, C, dx, _, rfl, s6 _ _ hp5, T.cl, T.n6, (by show 5 < 1000; decide), ?_⟩
    refine k _ kl upd_same ((sv5.trans (Save.same s6)).trans Save.upd) (hk.same fun b o e => ?_)
    have hb : H5 b = none := by
      cases q : H5 b with
      | none => rfl
      | some u => rw [diff_old q] at e; cases e
    have nb : b ≠ p := fun q => by rw [q, hp5] at hb; cases hb
    have hb0 : H b = none := by
      cases q : H b with
      | none => rfl
      | some u => rw [sv5 b u q nb] at hb; cases hb
    refine diff_at hb0 ?_
    rw [upd_ne nb]
    exact diff_le _ _ _ _ e
structure ClsC (K : PySem.W.Frag) (C : Addr) : Prop where
  cl : Cls K C
  n1 : NoAttr K C "gauge"
noncomputable def sp_Recorder_init (C : Addr) : Sp := fun vs H Q _ => ∃ (p dx : Addr), vs = [.ref p] ∧ H p = some (.ins C dx []) ∧ ∀ H', H' p = some (.ins C dx [("gauge", .non)]) → Save p H H' → Q .non H'
theorem sc_Recorder_init : FnScope ["self"] ["self"] (defScope s_Recorder_init) := ⟨rfl, rfl, rfl, by decide +kernel, rfl, by decide +kernel, by decide +kernel⟩
theorem ok_Recorder_init {f C : Addr} {fd : FuncData} (F : Fun K "__init__" "Recorder.__init__" s_Recorder_init f fd) (T : ClsC K C) : FnOk P w K mg base CX0 1 f fd ["self"] (sp_Recorder_init C) := by
  refine F.ok sc_Recorder_init (fun vs H Q E h => ?_) (fun cdv A outer s H vs Q E hr h => ?_)
  · obtain ⟨p, dx, rfl, _⟩ := h
    rfl
  · obtain ⟨p, dx, rfl, hp, k⟩ := h
    refine ⟨_, pss_one (ps_fld (pv 0) pe_non rfl), ?_⟩
    refine ⟨_, rfl, p, C, dx, [], rfl, hp, T.cl, T.n1, (by show 0 < 1000; decide), ?_⟩
    exact k _ upd_same Save.upd
end
end Gc
end
section
set_option Elab.async false
set_option linter.all false
set_option bootstrap.genMatcherCode false
set_option genSizeOf false
set_option maxRecDepth 100000
set_option maxHeartbeats 4000000
namespace Gc
open PySem PySem.Spec PyProof.Rows L2
noncomputable def tooMany (s g : Nat) (ps ws : List (Int × Int)) (ts : List (Int × Int × Int)) : Prop := 256 < ps.length ∨ 32 < ws.length ∨ 32 < ts.length ∨ 4294967296 ≤ s ∨ 4294967296 ≤ g
noncomputable instance (s g : Nat) (ps ws : List (Int × Int)) (ts : List (Int × Int × Int)) : Decidable (tooMany s g ps ws ts) := inferInstanceAs (Decidable (_ ∨ _))
section
variable {P : Program} {w : World} {K : PySem.W.Frag} {mg : Str → Option Value} {base : Heap}
/-! ## answer_gauge -/
noncomputable def sp_answer_gauge (K : PySem.W.Frag) (CC CG : Addr) : Sp := fun vs H Q _ => ∃ (rec nl rl a1 a2 a3 dr : Addr) (v : V) (s g : Nat) (p1 p2 p3 : List Int) (ps ws : List (Int × Int)) (ts : List (Int × Int × Int)),
  vs = [.ref rec, .ref nl, .ref rl] ∧ H rec = some (.ins CC dr [("gauge", v)]) ∧ SqL K H nl [.int s, .int g] ∧ SqL K H rl [.ref a1, .ref a2, .ref a3] ∧ SqL K H a1 (p1.map V.int) ∧ SqL K H a2 (p2.map V.int) ∧ SqL K H a3 (p3.map V.int) ∧
  Tide.couples? p1 = some ps ∧ Tide.couples? p2 = some ws ∧ Tide.triples? p3 = some ts ∧ p1.length ≤ 100000 ∧ p2.length ≤ 100000 ∧ p3.length ≤ 100000 ∧
  (if tooMany s g ps ws ts then RetL H Q [-1] else match faultF (ps.map pr) (ws.map pr) (ts.map tr) with
    | some (k, i) => RetL H Q [-6, (k : Int), (i : Int)]
    | none => ∀ (H' : Hp) (p ga : Addr), Save rec H H' → H p = none → H' rec = some (.ins CC dr [("gauge", .ref ga)]) → GaugeAt K CG (diff H H') ga ⟨s, g, ps, ws, zsOf ts⟩ → H' p = some (.lst [.int 0]) → Q (.ref p) H')
theorem sc_answer_gauge : FnScope ["recorder", "numbers", "rows", "points", "watch_checks", "staff_checks", "fault", "zero_checks", "clock", "pen", "staff"] ["recorder", "numbers", "rows"] (defScope s_answer_gauge) := ⟨rfl, rfl, rfl, by decide +kernel, rfl, by decide +kernel, by decide +kernel⟩
theorem blk_answer_gauge : BlkOk ["recorder", "numbers", "rows", "points", "watch_checks", "staff_checks", "fault", "zero_checks", "clock", "pen", "staff"] (defScope s_answer_gauge) (compScope (bodyAt s_answer_gauge 7)) [("clock", 8), ("pen", 9), ("staff", 10)] := ⟨rfl, by decide +kernel, by decide +kernel, by decide +kernel, by decide +kernel⟩
theorem ok_answer_gauge {CC CG f f1 f2 f3 : Addr} {fd fd1 fd2 fd3 : FuncData} (F : Fun K "answer_gauge" "answer_gauge" s_answer_gauge f fd) (M : Mg K mg) (TC : ClsC K CC) (TG : ClsG K CG)
    (G1 : FnOk P w K mg base CX0 1 f1 fd1 ["numbers", "width"] (sp_in_groups K)) (m1 : mg "in_groups" = some (.ref f1)) (k1 : PySem.W.keepIn K (.ref f1) = true) (b1 : Binds K fd1 ["numbers", "width"] [])
    (G2 : FnOk P w K mg base CX0 3 f2 fd2 ["points", "watch_checks", "staff_checks"] (sp_form_fault K)) (m2 : mg "form_fault" = some (.ref f2)) (k2 : PySem.W.keepIn K (.ref f2) = true) (b2 : Binds K fd2 ["points", "watch_checks", "staff_checks"] [])
    (MG : Mk K CG f3) (G3 : FnOk P w K mg base CX0 5 f3 fd3 ["self", "spike_size", "widest_gap", "points", "watch_checks", "zero_checks"] (sp_Gauge_init K CG)) (m3 : mg "Gauge" = some (.ref CG)) (b3 : Binds K fd3 ["self", "spike_size", "widest_gap", "points", "watch_checks", "zero_checks"] []) :
    FnOk P w K mg base CX0 7 f fd ["recorder", "numbers", "rows"] (sp_answer_gauge K CC CG) := by
  have nd := sc_answer_gauge.nd
  obtain ⟨u1, mp⟩ := M.mp
  obtain ⟨u2, mc⟩ := M.mc
  obtain ⟨u3, se⟩ := M.se
  refine F.ok sc_answer_gauge (fun vs H Q E h => ?_) (fun cdv A outer s H vs Q E hr h => ?_)
  · obtain ⟨rec, nl, rl, a1, a2, a3, dr, v, s, g, p1, p2, p3, ps, ws, ts, rfl, _⟩ := h
    rfl
  · obtain ⟨rec, nl, rl, a1, a2, a3, dr, v, sz, gz, p1, p2, p3, ps, ws, ts, rfl, hrec, hnl, hrl, h1, h2, h3, c1, c2, c3, l1, l2, l3, k⟩ := h
    have hr1 : Room 1 _ := hr.mono (by decide)
    refine ⟨_, pss_cons (ps_set (i := 3) nd rfl (Or.inl rfl) (pe_call G1 hr1 rfl m1 k1 b1 .nil pass0 (pa_cons (pe_ix ix_list (pv 2) pe_int (fun _ _ => rfl)) (pa_cons pe_int pa_nil))))
      (pss_cons (ps_set (i := 4) nd rfl (Or.inl rfl) (pe_call G1 hr1 rfl m1 k1 b1 .nil pass0 (pa_cons (pe_ix ix_list (pv 2) pe_int (fun _ _ => rfl)) (pa_cons pe_int pa_nil))))
      (pss_cons (ps_set (i := 5) nd rfl (Or.inl rfl) (pe_call G1 hr1 rfl m1 k1 b1 .nil pass0 (pa_cons (pe_ix ix_list (pv 2) pe_int (fun _ _ => rfl)) (pa_cons pe_int pa_nil))))
      (pss_cons (ps_if (PW.pt (pw_or (pt_cmpR op_gt (pe_callB call_len_seq (by rfl) M.len PySem.boot_len (pa_cons (pv 3) pa_nil)) (pe_gi rfl mp) (nomark _))
          (pw_or (pt_cmpR op_gt (pe_callB call_len_seq (by rfl) M.len PySem.boot_len (pa_cons (pv 4) pa_nil)) (pe_gi rfl mc) (nomark _))
          (pw_or1 (pt_cmpR op_gt (pe_callB call_len_seq (by rfl) M.len PySem.boot_len (pa_cons (pv 5) pa_nil)) (pe_gi rfl mc) (nomark _)))))) (pss_one (ps_ret (pe_lst (pa_cons (pe_un un_neg pe_int) pa_nil)))) pss_nil)
      (pss_cons (ps_if (PW.pt (pw_or (pt_cmpR op_ge (pe_ix ix_list (pv 1) pe_int (fun _ _ => rfl)) (pe_gi rfl se) (nomark _)) (pw_or1 (pt_cmpR op_ge (pe_ix ix_list (pv 1) pe_int (fun _ _ => rfl)) (pe_gi rfl se) (nomark _)))))
          (pss_one (ps_ret (pe_lst (pa_cons (pe_un un_neg pe_int) pa_nil)))) pss_nil)
      (pss_cons (ps_set (i := 6) nd rfl (Or.inl rfl) (pe_call G2 (hr.mono (by decide)) rfl m2 k2 b2 .nil pass0 (pa_cons (pv 3) (pa_cons (pv 4) (pa_cons (pv 5) pa_nil)))))
      (pss_cons (ps_if (pt_cmpR op_notN (pv 6) pe_non (nomark _)) (pss_one (ps_ret (pe_lst (pa_cons (pe_un un_neg pe_int) (pa_cons (pe_ix ix_tup (pv 6) pe_int (fun _ _ => rfl)) (pa_cons (pe_ix ix_tup (pv 6) pe_int (fun _ _ => rfl)) pa_nil)))))) pss_nil)
      (pss_cons (ps_setLc (i := 7) (own := [("clock", 8), ("pen", 9), ("staff", 10)]) (g := gTup K 3 (gCons (gName 8) (gCons (gName 9) (gCons (gName 10) gNil)))) rfl nd rfl rfl rfl (pi_list (pv 5)) blk_answer_gauge
          (fun s H C cl fp => pg_tup rfl (pgs_cons (pg_name (i := 8) nd rfl (Or.inl rfl)) (pgs_cons (pg_name (i := 9) nd rfl (Or.inl rfl)) (pgs_cons (pg_name (i := 10) nd rfl (Or.inl rfl)) pgs_nil))))
          (fun s H C cl fp => pts_nil) (fun s H C cl fp => pe_tup (pa_cons (pv 8) (pa_cons (pe_op op_sub (pv 10) (pv 9)) pa_nil))))
      (pss_cons (ps_fld (pv 0) (pe_make MG G3 hr rfl m3 b3 .nil pass0 (pa_cons (pe_ix ix_list (pv 1) pe_int (fun _ _ => rfl)) (pa_cons (pe_ix ix_list (pv 1) pe_int (fun _ _ => rfl)) (pa_cons (pv 3) (pa_cons (pv 4) (pa_cons (pv 7) pa_nil)))))) rfl)
      (pss_one (ps_ret (pe_lst (pa_cons pe_int pa_nil)))))))))))), ?_⟩
    obtain ⟨n1, g1⟩ := couples_groups c1
    obtain ⟨n2, g2⟩ := couples_groups c2
    obtain ⟨n3, g3⟩ := triples_groups c3
    -- the three lists
    refine ⟨_, rfl, rl, _, _, _, rfl, rfl, hrl, at0, a1, p1, 2, ps.length, rfl, h1, by decide, by decide, n1, l1, fun H1 pl sm1 t1 => ?_⟩
    refine ⟨_, rfl, rl, _, _, _, rfl, rfl, sm1.seq hrl, at1, a2, p2, 2, ws.length, rfl, sm1.seq h2, by decide, by decide, n2, l2, fun H2 wl sm2 t2 => ?_⟩
    have sm02 := sm1.trans sm2
    refine ⟨_, rfl, rl, _, _, _, rfl, rfl, sm02.seq hrl, at2, a3, p3, 3, ts.length, rfl, sm02.seq h3, by decide, by decide, n3, l3, fun H3 tl sm3 t3 => ?_⟩
    have sm03 := sm02.trans sm3
    rw [g1] at t1
    rw [g2] at t2
    rw [g3] at t3
    have t1 : TupsAt K (diff H H3) pl (ps.map pr) := t1.same (diff_mono (Same.refl H) (sm2.trans sm3))
    have t2 : TupsAt K (diff H H3) wl (ws.map pr) := t2.same (diff_mono sm1 sm3)
    have t3 : TupsAt K (diff H H3) tl (ts.map tr) := t3.same (diff_mono sm02 (Same.refl H3))
    obtain ⟨x1, q1, e1, _⟩ := t1.same (diff_le H H3)
    obtain ⟨x2, q2, e2, _⟩ := t2.same (diff_le H H3)
    obtain ⟨x3, q3, e3, at3⟩ := t3.same (diff_le H H3)
    rw [List.length_map] at e1 e2 e3
    have bad : tooMany sz gz ps ws ts → tRet (tLst (tCons (tUn (rU fun i => .int (-i)) (tC (.int 1))) tNil)) { nx := fun _ H' => Q .non H', rt := Q } [some (.ref rec), some (.ref nl), some (.ref rl), some (.ref pl), some (.ref wl), some (.ref tl), none, none, none, none, none] H3 := fun hb => by
      rw [if_pos hb] at k
      exact ⟨_, rfl, (by show 1 ≤ sizeLine; decide), fun p hp => RetL.here (k.after sm03) hp⟩
    refine ⟨_, rfl, pl, _, rfl, .inl q1, _, _, rfl, rfl, _, rfl, ?_⟩
    refine ite2 (fun b1 => ?_) (fun b1 => ?_)
    · have b1 : (256 : Int) < x1.length := of_decide_eq_true b1
      exact iteT (bad (.inl (by omega)))
    have b1 : ¬ (256 : Int) < x1.length := fun z => b1 (decide_eq_true z)
    refine ⟨_, rfl, wl, _, rfl, .inl q2, _, _, rfl, rfl, _, rfl, ?_⟩
    refine ite2 (fun b2 => ?_) (fun b2 => ?_)
    · have b2 : (32 : Int) < x2.length := of_decide_eq_true b2
      exact iteT (bad (.inr (.inl (by omega))))
    have b2 : ¬ (32 : Int) < x2.length := fun z => b2 (decide_eq_true z)
    refine ⟨_, rfl, tl, _, rfl, .inl q3, _, _, rfl, rfl, _, rfl, ?_⟩
    refine ite2 (fun b3 => ?_) (fun b3 => ?_)
    · have b3 : (32 : Int) < x3.length := of_decide_eq_true b3
      exact bad (.inr (.inr (.inl (by omega))))
    have b3 : ¬ (32 : Int) < x3.length := fun z => b3 (decide_eq_true z)
    have hnl3 := sm03.seq hnl
    refine ⟨_, rfl, nl, _, _, _, rfl, rfl, hnl3, at0, _, _, rfl, rfl, _, rfl, ?_⟩
    refine ite2 (fun b4 => ?_) (fun b4 => ?_)
    · have b4 : (4294967296 : Int) ≤ sz := of_decide_eq_true b4
      exact iteT (bad (.inr (.inr (.inr (.inl (by omega))))))
    have b4 : ¬ (4294967296 : Int) ≤ sz := fun z => b4 (decide_eq_true z)
    refine ⟨_, rfl, nl, _, _, _, rfl, rfl, hnl3, at1, _, _, rfl, rfl, _, rfl, ?_⟩
    refine ite2 (fun b5 => ?_) (fun b5 => ?_)
    · have b5 : (4294967296 : Int) ≤ gz := of_decide_eq_true b5
      exact bad (.inr (.inr (.inr (.inr (by omega)))))
    have b5 : ¬ (4294967296 : Int) ≤ gz := fun z => b5 (decide_eq_true z)
    have few : ¬ tooMany sz gz ps ws ts := by
      unfold tooMany
      omega
    rw [if_neg few] at k
    -- the form
    refine ⟨_, rfl, _, rfl, _, rfl, pl, wl, tl, _, _, _, rfl, t1.same (diff_le H H3), t2.same (diff_le H H3), t3.same (diff_le H H3), ?_, ?_, ?_, ?_⟩
    · intro r hr'
      obtain ⟨p, _, rfl⟩ := List.mem_map.mp hr'
      rfl
    · intro r hr'
      obtain ⟨p, _, rfl⟩ := List.mem_map.mp hr'
      rfl
    · intro r hr'
      obtain ⟨p, _, rfl⟩ := List.mem_map.mp hr'
      rfl
    cases ef : faultF (ps.map pr) (ws.map pr) (ts.map tr) with
    | some ki =>
      obtain ⟨kk, ii⟩ := ki
      rw [ef] at k
      intro H4 p sm4 hn4 hp
      refine ⟨_, rfl, rfl, _, rfl, iteT ?_⟩
      exact ⟨_, rfl, _, rfl, p, _, _, _, rfl, rfl, SqT.of hp, at0, _, rfl, p, _, _, _, rfl, rfl, SqT.of hp, at1, (by show 3 ≤ sizeLine; decide), fun y hy => RetL.here (k.after (sm03.trans sm4)) hy⟩
    | none =>
      rw [ef] at k
      intro H4 sm4
      have fo := form_of ef
      obtain ⟨sp, sw, sz'⟩ := fo.small
      have sm04 := sm03.trans sm4
      refine ⟨_, rfl, rfl, _, rfl, iteF ?_⟩
      refine ⟨_, rfl, tl, rfl, ⟨_, sm4.seq q3⟩, fun D hD => ?_⟩
      refine lc_lst (xs := x3) (fun i H' => Same H4 H' ∧ ∃ as : List Addr, H' D = some (.lst (as.map V.ref)) ∧ as.length = i ∧ ∀ (j : Nat) (a : Addr), as[j]? = some a → H4 a = none ∧ ∃ t, ts[j]? = some t ∧ H' a = some (.tup [.int t.1, .int (t.2.2 - t.2.1)]))
        ⟨same_new hD, [], upd_same, rfl, fun j a h => by simp at h⟩ (fun i H' _ h => h.1.seq (sm4.seq q3)) ?_ ?_
      · rintro i x H' hx ⟨sm, as, hL, la, hat⟩
        have hi : i < ts.length := by rw [← e3]; exact (List.getElem?_eq_some_iff.mp hx).1
        obtain ⟨t, ht⟩ : ∃ t, ts[i]? = some t := ⟨_, List.getElem?_eq_getElem hi⟩
        obtain ⟨ax, hax, tax⟩ := at3 i (tr t) (by rw [List.getElem?_map, ht]; rfl)
        rw [hx] at hax
        obtain rfl := Option.some.inj hax
        refine ⟨ax, _, rfl, same_tup (sm4.trans sm) tax, rfl, _, _, rfl, _, _, rfl, _, _, rfl, rfl, rfl, ?_⟩
        refine ⟨_, rfl, _, rfl, _, rfl, _, _, rfl, rfl, (by show 2 ≤ sizeLine; decide), fun y hy => ?_⟩
        have s2 := same_new (o := .tup [.int t.1, .int (t.2.2 - t.2.1)]) hy
        refine ⟨_, s2 _ _ hL, ?_, same_upd hD (sm.trans s2), as ++ [y], ?_, by rw [List.length_append, la]; rfl, fun j a h => ?_⟩
        · rw [List.length_map, la]
          exact Nat.lt_of_lt_of_le hi (Nat.le_trans (show ts.length ≤ 32 by omega) (by decide))
        · rw [upd_same, List.map_append]
          rfl
        · by_cases hj : j < as.length
          · rw [List.getElem?_append_left hj] at h
            obtain ⟨z0, t', z1, z⟩ := hat j a h
            have ne : a ≠ D := ne_of z hL (by intro q; cases q)
            rw [upd_ne ne]
            exact ⟨z0, t', z1, s2 _ _ z⟩
          · have hj2 : j < (as ++ [y]).length := (List.getElem?_eq_some_iff.mp h).1
            have ej : j = as.length := by rw [List.length_append] at hj2; simp at hj2; omega
            subst ej
            rw [List.getElem?_append_right (Nat.le_refl _), Nat.sub_self] at h
            have et : y = a := Option.some.inj h
            subst et
            have ne : y ≠ D := fun q => by
              rw [q, hL] at hy
              cases hy
            refine ⟨sm.free hy, t, by rw [la]; exact ht, ?_⟩
            rw [upd_ne ne, upd_same]
      · rintro H5 ⟨sm5, as, hL, la, hat⟩
        have sm05 := sm04.trans sm5
        have hnl5 := sm05.seq hnl
        refine ⟨_, rfl, nl, _, _, _, rfl, rfl, hnl5, at0, _, rfl, nl, _, _, _, rfl, rfl, hnl5, at1, _, rfl, _, rfl, _, rfl, ?_⟩
        intro ga dx n0 m0 e0
        have so : Same H5 (upd (upd H5 dx (.own ga)) ga (.ins CG dx [])) := fun b o e => by
          rw [upd_ne (ne_of_none e n0), upd_ne (ne_of_none e m0)]
          exact e
        have z5 : TupsAt K (diff H H5) D ((zsOf ts).map pr) := by
          refine ⟨as.map V.ref, SqL.of (diff_at (sm04.free hD) hL), by simp [la, zsOf, e3], fun i r h => ?_⟩
          unfold zsOf at h
          rw [List.map_map, List.getElem?_map] at h
          cases et : ts[i]? with
          | none => rw [et] at h; cases h
          | some t =>
            rw [et] at h
            obtain rfl := Option.some.inj h
            have hi : i < as.length := by
              rw [la, e3]
              exact (List.getElem?_eq_some_iff.mp et).1
            obtain ⟨a, ha⟩ : ∃ a, as[i]? = some a := ⟨_, List.getElem?_eq_getElem hi⟩
            obtain ⟨z0, t', z1, z2⟩ := hat i a ha
            rw [et] at z1
            obtain rfl := Option.some.inj z1
            exact ⟨a, by rw [List.getElem?_map, ha]; rfl, SqT.of (diff_at (sm04.free z0) z2)⟩
        have s3o := ((sm4.trans sm5).trans so)
        have dl : Same (diff H H3) (upd (upd H5 dx (.own ga)) ga (.ins CG dx [])) := (diff_le H H3).trans s3o
        refine ⟨ga, dx, sz, gz, pl, wl, D, ps, ws, zsOf ts, rfl, upd_same, t1.same dl, t2.same dl, z5.same ((diff_le H H5).trans so), sp, sw, sz', fo.tr, by omega, fun H6 kl hga sv6 hk6 => ⟨rfl, ?_⟩⟩
        have hkept : KeptAt K (diff H H6) kl (keptF sz ps ws (zsOf ts) ps.length) := hk6.same (diff_mono (sm05.trans so) (Same.refl H6))
        have sm56 : Same H5 H6 := fun b o e => sv6 b o (so b o e) (ne_of_none e n0)
        have sm06 := sm05.trans sm56
        refine ⟨_, rfl, rec, CC, dr, _, rfl, sm06 _ _ hrec, TC.cl, TC.n1, (by show 1 < 1000; decide), ?_⟩
        have nga : ga ≠ rec := fun q => by
          have z := sm05 _ _ hrec
          rw [← q, n0] at z
          cases z
        refine ⟨(by show 1 ≤ sizeLine; decide), fun p hp => ?_⟩
        -- the end's heap
        have sv : Save rec H (upd H6 rec (.ins CC dr (putF "gauge" (.ref ga) [("gauge", v)]))) := (Save.same sm06).trans Save.upd
        have s7 := same_new (o := .lst [.int 0]) hp
        have nrp : rec ≠ p := fun q => by
          rw [← q, upd_same] at hp
          cases hp
        have hp0 : H p = none := by
          cases q : H p with
          | none => rfl
          | some o =>
            have z := sv p o q (Ne.symm nrp)
            rw [hp] at z
            cases z
        have hd : ∀ {X Y : Hp}, Same (diff H X) (diff H H6) → Same (diff H X) (diff H (upd (upd H6 rec (.ins CC dr (putF "gauge" (.ref ga) [("gauge", v)]))) p (.lst [.int 0]))) := fun {X Y} sx b o e => by
          have z := sx b o e
          have hb : H b = none := by
            cases q : H b with
            | none => rfl
            | some u => rw [diff_old q] at z; cases z
          have z6 : H6 b = some o := diff_le _ _ _ _ z
          have nb : b ≠ rec := fun q => by rw [q, hrec] at hb; cases hb
          refine diff_at hb (s7 b o ?_)
          rw [upd_ne nb]
          exact z6
        have d3 : Same (diff H H3) (diff H H6) := diff_mono (Same.refl H) ((sm4.trans sm5).trans sm56)
        refine k _ p ga (sv.trans (Save.same s7)) hp0 (by rw [upd_ne nrp, upd_same]; rfl) ⟨⟨dx, pl, wl, D, kl, ?_, t1.same (hd (Y := H) d3), t2.same (hd (Y := H) d3), ?_, ?_⟩, sp, sw, sz'⟩ upd_same
        · exact hd (X := H6) (Y := H) (Same.refl _) _ _ (diff_at (sm05.free n0) hga)
        · exact z5.same (hd (Y := H) (diff_mono (Same.refl H) sm56))
        · exact hkept.same (hd (X := H6) (Y := H) (Same.refl _))
end
end Gc
end
section
set_option Elab.async false
set_option linter.all false
set_option bootstrap.genMatcherCode false
set_option genSizeOf false
set_option maxRecDepth 100000
set_option maxHeartbeats 4000000
namespace Gc
open PySem PySem.Spec PyProof.Rows L2
/-! ## the object that the calls are on -/
noncomputable def gd (G : Tide.Gauge) : Gd := ⟨G.spike, G.gap, G.points.map fun p => (p.clock, p.pen), G.watches.map fun c => (c.clock, c.time), G.staffs.map fun t => (t.clock, t.staff - t.pen)⟩
/-- a gauge that was taken -/
structure Valid (G : Tide.Gauge) : Prop where
  form : Form (G.points.map fun p => (p.clock, p.pen)) (G.watches.map fun c => (c.clock, c.time)) (G.staffs.map fun t => (t.clock, t.pen, t.staff))
  np : G.points.length ≤ 256
  nw : G.watches.length ≤ 32
  nt : G.staffs.length ≤ 32
  ns : G.spike < 4294967296
  ng : G.gap < 4294967296
structure RecAt (K : PySem.W.Frag) (CC CG : Addr) (H : Hp) (rec : Addr) (s : TideGauges.State) (Hg : Hp) : Prop where
  ex : ∃ dr v, H rec = some (.ins CC dr [("gauge", v)]) ∧ (match s with
    | none => v = .non
    | some G => ∃ ga, v = .ref ga ∧ GaugeAt K CG Hg ga (gd G) ∧ Valid G)
  sub : Same Hg H
  no : Hg rec = none
/-- changes elsewhere leave it -/
theorem RecAt.keep {K : PySem.W.Frag} {CC CG : Addr} {H H' : Hp} {rec : Addr} {s : TideGauges.State} {Hg : Hp} (R : RecAt K CC CG H rec s Hg) (h1 : ∀ o, H rec = some o → H' rec = some o) (h2 : ∀ b o, Hg b = some o → H b = some o → H' b = some o) : RecAt K CC CG H' rec s Hg := by
  obtain ⟨⟨dr, v, e, m⟩, sub, no⟩ := R
  exact ⟨⟨dr, v, h1 _ e, m⟩, fun b o q => h2 b o q (sub b o q), no⟩
noncomputable def ListsAt (K : PySem.W.Frag) (H : Hp) (l : Addr) (rows : List (List Int)) : Prop :=
  ∃ xs : List V, SqL K H l xs ∧ xs.length = rows.length ∧ ∀ (i : Nat) (r : List Int), rows[i]? = some r → ∃ a, xs[i]? = some (.ref a) ∧ SqL K H a (r.map V.int)
theorem ListsAt.same {K : PySem.W.Frag} {H H' : Hp} {l : Addr} {rs : List (List Int)} (t : ListsAt K H l rs) (s : Same H H') : ListsAt K H' l rs := by
  obtain ⟨xs, h1, h2, h3⟩ := t
  refine ⟨xs, s.seq h1, h2, fun i r e => ?_⟩
  obtain ⟨a, h4, h5⟩ := h3 i r e
  exact ⟨a, h4, s.seq h5⟩
noncomputable abbrev stp := TideGaugesNeutral.step
noncomputable def sp_answer_call (K : PySem.W.Frag) (CC CG : Addr) : Sp := fun vs H Q _ => ∃ (rec nl rl : Addr) (s : TideGauges.State) (Hg : Hp) (c : Int) (nums : List Int) (rows : List (List Int)), vs = [.ref rec, .int c, .ref nl, .ref rl] ∧ RecAt K CC CG H rec s Hg ∧
  SqL K H nl (nums.map V.int) ∧ ListsAt K H rl rows ∧ PyWqaccr.shape c = some (nums.length, rows.length) ∧ TideGaugesNeutral.asked1 ((c :: nums) :: rows) = true ∧ (∀ r ∈ rows, r.length ≤ 26000) ∧ (∀ z ∈ nums, z.natAbs ≤ 274877906944) ∧
  ∀ (H' : Hp) (p : Addr) (Hg' : Hp), RecAt K CC CG H' rec (stp s ((c :: nums) :: rows)).1 Hg' → (∀ x o, H x = some o → Hg x = none → Hg' x = none) → Save rec H H' → H p = none → (stp s ((c :: nums) :: rows)).2.length ≤ 1000 →
    H' p = some (.lst ((stp s ((c :: nums) :: rows)).2.map V.int)) → Q (.ref p) H'
/-! ## the calls in the list -/
theorem len_s {α : Type} {l : List α} {n : Nat} (h : l.length = n + 1) : ∃ a t, l = a :: t ∧ t.length = n := by
  cases l with
  | nil => cases h
  | cons a t => exact ⟨a, t, rfl, Nat.succ.inj h⟩
theorem len_0 {α : Type} {l : List α} (h : l.length = 0) : l = [] := by
  cases l with
  | nil => rfl
  | cons a t => cases h
theorem len_1 {α : Type} {l : List α} (h : l.length = 1) : ∃ a, l = [a] := by
  obtain ⟨a, t, rfl, h1⟩ := len_s h
  obtain rfl := len_0 h1
  exact ⟨a, rfl⟩
theorem len_2 {α : Type} {l : List α} (h : l.length = 2) : ∃ a b, l = [a, b] := by
  obtain ⟨a, t, rfl, h1⟩ := len_s h
  obtain ⟨b, rfl⟩ := len_1 h1
  exact ⟨a, b, rfl⟩
theorem len_3 {α : Type} {l : List α} (h : l.length = 3) : ∃ a b c, l = [a, b, c] := by
  obtain ⟨a, t, rfl, h1⟩ := len_s h
  obtain ⟨b, c, rfl⟩ := len_2 h1
  exact ⟨a, b, c, rfl⟩
theorem len_4 {α : Type} {l : List α} (h : l.length = 4) : ∃ a b c d, l = [a, b, c, d] := by
  obtain ⟨a, t, rfl, h1⟩ := len_s h
  obtain ⟨b, c, d, rfl⟩ := len_3 h1
  exact ⟨a, b, c, d, rfl⟩
theorem len_6 {α : Type} {l : List α} (h : l.length = 6) : ∃ a b c d e f, l = [a, b, c, d, e, f] := by
  obtain ⟨a, t, rfl, h1⟩ := len_s h
  obtain ⟨b, t2, rfl, h2⟩ := len_s h1
  obtain ⟨c, d, e, f, rfl⟩ := len_4 h2
  exact ⟨a, b, c, d, e, f, rfl⟩
theorem shape_cases {p : Int} {n k : Nat} (h : PyWqaccr.shape p = some (n, k)) : (p = 0 ∧ n = 2 ∧ k = 3) ∨ (p = 1 ∧ n = 0 ∧ k = 0) ∨ (p = 2 ∧ n = 1 ∧ k = 0) ∨ (p = 3 ∧ n = 1 ∧ k = 0) ∨ (p = 4 ∧ n = 1 ∧ k = 0) ∨ (p = 5 ∧ n = 3 ∧ k = 0) ∨ (p = 6 ∧ n = 0 ∧ k = 2) := by
  unfold PyWqaccr.shape at h
  by_cases e0 : p = 0
  · rw [if_pos e0] at h
    cases h
    exact .inl ⟨e0, rfl, rfl⟩
  rw [if_neg e0] at h
  by_cases e1 : p = 1
  · rw [if_pos e1] at h
    cases h
    exact .inr (.inl ⟨e1, rfl, rfl⟩)
  rw [if_neg e1] at h
  by_cases e2 : p = 2
  · rw [if_pos e2] at h
    cases h
    exact .inr (.inr (.inl ⟨e2, rfl, rfl⟩))
  rw [if_neg e2] at h
  by_cases e3 : p = 3
  · rw [if_pos e3] at h
    cases h
    exact .inr (.inr (.inr (.inl ⟨e3, rfl, rfl⟩)))
  rw [if_neg e3] at h
  by_cases e4 : p = 4
  · rw [if_pos e4] at h
    cases h
    exact .inr (.inr (.inr (.inr (.inl ⟨e4, rfl, rfl⟩))))
  rw [if_neg e4] at h
  by_cases e5 : p = 5
  · rw [if_pos e5] at h
    cases h
    exact .inr (.inr (.inr (.inr (.inr (.inl ⟨e5, rfl, rfl⟩)))))
  rw [if_neg e5] at h
  by_cases e6 : p = 6
  · rw [if_pos e6] at h
    cases h
    exact .inr (.inr (.inr (.inr (.inr (.inr ⟨e6, rfl, rfl⟩)))))
  rw [if_neg e6] at h
  cases h
theorem shape_at {p : Int} {n k : Nat} (h : PyWqaccr.shape p = some (n, k)) : ∃ j : Nat, p = (j : Int) ∧ ([2, 0, 1, 1, 1, 3, 0] : List Nat)[j]? = some n ∧ ([3, 0, 0, 0, 0, 0, 2] : List Nat)[j]? = some k := by
  rcases shape_cases h with ⟨rfl, rfl, rfl⟩ | ⟨rfl, rfl, rfl⟩ | ⟨rfl, rfl, rfl⟩ | ⟨rfl, rfl, rfl⟩ | ⟨rfl, rfl, rfl⟩ | ⟨rfl, rfl, rfl⟩ | ⟨rfl, rfl, rfl⟩
  · exact ⟨0, rfl, rfl, rfl⟩
  · exact ⟨1, rfl, rfl, rfl⟩
  · exact ⟨2, rfl, rfl, rfl⟩
  · exact ⟨3, rfl, rfl, rfl⟩
  · exact ⟨4, rfl, rfl, rfl⟩
  · exact ⟨5, rfl, rfl, rfl⟩
  · exact ⟨6, rfl, rfl, rfl⟩
theorem calls_cons {f : Nat} {p : Int} {r : List Int} {cs : List (List (List Int))} (h : PyFlat.calls PyWqaccr.shape f (p :: r) = some cs) :
    ∃ f' n k xs t cs', PyWqaccr.shape p = some (n, k) ∧ n ≤ r.length ∧ PyFlat.rows k (r.drop n) = some (xs, t) ∧ cs = ((p :: r.take n) :: xs) :: cs' ∧ PyFlat.calls PyWqaccr.shape f' t = some cs' := by
  cases f with
  | zero => cases h
  | succ f =>
    unfold PyFlat.calls at h
    cases e : PyFlat.call PyWqaccr.shape (p :: r) with
    | none => rw [e] at h; cases h
    | some ct =>
      obtain ⟨c, t⟩ := ct
      rw [e] at h
      dsimp only at h
      cases e2 : PyFlat.calls PyWqaccr.shape f t with
      | none => rw [e2] at h; cases h
      | some cs' =>
        rw [e2] at h
        cases h
        unfold PyFlat.call at e
        dsimp only at e
        cases e3 : PyWqaccr.shape p with
        | none => rw [e3] at e; cases e
        | some nk =>
          obtain ⟨n, k⟩ := nk
          rw [e3] at e
          dsimp only at e
          by_cases hl : r.length < n
          · rw [if_pos hl] at e; cases e
          · rw [if_neg hl] at e
            cases e4 : PyFlat.rows k (r.drop n) with
            | none => rw [e4] at e; cases e
            | some xt =>
              obtain ⟨xs, t'⟩ := xt
              rw [e4] at e
              cases e
              exact ⟨f, n, k, xs, t, cs', rfl, by omega, e4, rfl, e2⟩
theorem rows_cons {k : Nat} {l : List Int} {ys : List (List Int)} {t : List Int} (h : PyFlat.rows (k + 1) l = some (ys, t)) :
    ∃ (n : Nat) (r : List Int) (xs : List (List Int)), l = (n : Int) :: r ∧ n ≤ r.length ∧ ys = r.take n :: xs ∧ PyFlat.rows k (r.drop n) = some (xs, t) := by
  unfold PyFlat.rows at h
  cases l with
  | nil => cases h
  | cons m r =>
    unfold PyFlat.row at h
    dsimp only at h
    by_cases hm : 0 ≤ m ∧ m.toNat ≤ r.length
    · rw [if_pos hm] at h
      dsimp only at h
      cases e : PyFlat.rows k (r.drop m.toNat) with
      | none => rw [e] at h; cases h
      | some xt =>
        obtain ⟨xs, t'⟩ := xt
        rw [e] at h
        cases h
        exact ⟨m.toNat, r, xs, by rw [Int.toNat_of_nonneg hm.1], hm.2, rfl, e⟩
    · rw [if_neg hm] at h; cases h
theorem rows_zero {l : List Int} {ys : List (List Int)} {t : List Int} (h : PyFlat.rows 0 l = some (ys, t)) : ys = [] ∧ t = l := by
  unfold PyFlat.rows at h
  cases h
  exact ⟨rfl, rfl⟩
theorem rows_len : ∀ {k : Nat} {l : List Int} {ys : List (List Int)} {t : List Int}, PyFlat.rows k l = some (ys, t) → ys.length = k ∧ ∀ r ∈ ys, r.length ≤ l.length
  | 0, l, ys, t, h => by
    obtain ⟨rfl, _⟩ := rows_zero h
    exact ⟨rfl, by simp⟩
  | k + 1, l, ys, t, h => by
    obtain ⟨n, r, xs, rfl, hn, rfl, h'⟩ := rows_cons h
    obtain ⟨h1, h2⟩ := rows_len h'
    refine ⟨by simp [h1], fun q hq => ?_⟩
    rcases List.mem_cons.mp hq with rfl | hq
    · rw [List.length_take, List.length_cons]
      omega
    · have := h2 q hq
      rw [List.length_drop] at this
      rw [List.length_cons]
      omega
theorem drop_cons {ns : List Int} {i : Nat} {p : Int} {r : List Int} (h : ns.drop i = p :: r) : ns[i]? = some p ∧ ns.drop (i + 1) = r ∧ i < ns.length := by
  have hi : i < ns.length := by
    have := congrArg List.length h
    rw [List.length_drop, List.length_cons] at this
    omega
  rw [List.drop_eq_getElem_cons hi] at h
  injection h with h1 h2
  exact ⟨by rw [List.getElem?_eq_getElem hi, h1], h2, hi⟩
end Gc
end
section
set_option Elab.async false
set_option linter.all false
set_option bootstrap.genMatcherCode false
set_option genSizeOf false
set_option maxRecDepth 100000
set_option maxHeartbeats 4000000
namespace Gc
open PySem PySem.Spec PyProof.Rows L2
noncomputable def whileAt (s : Stmt) (j : Nat) : Stmt := match s with
  | .While _ b _ _ => b.getD j (.Pass ⟨0, 0, 0, 0⟩)
  | _ => .Pass ⟨0, 0, 0, 0⟩
noncomputable abbrev nAns : List Str := ["calls", "reader", "recorder", "told", "call", "numbers", "rows", "answer", "count"]
theorem played_cons (s : TideGauges.State) (c : List (List Int)) (cs : List (List (List Int))) : PyFlat.told (PyFlat.played stp s (c :: cs)) = ((stp s c).2.length : Int) :: (stp s c).2 ++ PyFlat.told (PyFlat.played stp (stp s c).1 cs) := rfl
/-- the place that a reader stands at -/
noncomputable def placeOf (o : Option HO) : Nat := match o with
  | some (.ins _ _ [_, (_, .int z)]) => z.toNat
  | _ => 0
theorem ReadAt.place {C : Addr} {H : Hp} {a l : Addr} {i : Nat} (h : ReadAt C H a l i) : placeOf (H a) = i := by
  obtain ⟨dx, h⟩ := h
  rw [h]
  show ((i : Nat) : Int).toNat = i
  omega
theorem vlist_at {l : List Nat} {j n : Nat} (h : l[j]? = some n) : (l.map fun (n : Nat) => V.int n)[j]? = some (.int n) := by rw [List.getElem?_map, h]; rfl
theorem take_succ_at {ns : List Int} {i : Nat} {z : Int} (h : ns[i]? = some z) : ns.take (i + 1) = ns.take i ++ [z] := by
  obtain ⟨hi, e⟩ := List.getElem?_eq_some_iff.mp h
  rw [← e, List.take_succ_eq_append_getElem hi]
theorem shape_le {p : Int} {n k : Nat} (h : PyWqaccr.shape p = some (n, k)) : n ≤ 3 ∧ k ≤ 3 := by
  rcases shape_cases h with ⟨_, h1, h2⟩ | ⟨_, h1, h2⟩ | ⟨_, h1, h2⟩ | ⟨_, h1, h2⟩ | ⟨_, h1, h2⟩ | ⟨_, h1, h2⟩ | ⟨_, h1, h2⟩ <;> subst h1 <;> subst h2 <;> decide
section
variable {P : Program} {w : World} {K : PySem.W.Frag} {mg : Str → Option Value} {base : Heap}
noncomputable def sp_answers (K : PySem.W.Frag) : Sp := fun vs H Q _ => ∃ (a : Addr) (ns : List Int) (cs : List (List (List Int))), vs = [.ref a] ∧ SqL K H a (ns.map V.int) ∧ ns.length ≤ 26000 ∧ PyFlat.calls PyWqaccr.shape ns.length ns = some cs ∧ cs.all TideGaugesNeutral.asked1 = true ∧ cs.length ≤ 300 ∧ (∀ z ∈ ns, z.natAbs ≤ 274877906944) ∧
  ∀ (H' : Hp) (p : Addr), H' p = some (.lst ((PyFlat.told (PyFlat.played stp TideGaugesNeutral.start cs)).map V.int)) → Q (.ref p) H'
theorem sc_answers : FnScope nAns ["calls"] (defScope s_answers) := ⟨rfl, rfl, rfl, by decide +kernel, rfl, by decide +kernel, by decide +kernel⟩
theorem blk_answers1 : BlkOk nAns (defScope s_answers) (compScope (whileAt (bodyAt s_answers 3) 1)) [("count", 8)] := ⟨rfl, by decide +kernel, by decide +kernel, by decide +kernel, by decide +kernel⟩
theorem blk_answers2 : BlkOk nAns (defScope s_answers) (compScope (whileAt (bodyAt s_answers 3) 2)) [("count", 8)] := ⟨rfl, by decide +kernel, by decide +kernel, by decide +kernel, by decide +kernel⟩
/-- what stands between two calls -/
structure Main (K : PySem.W.Frag) (CR CC CG : Addr) (all : List Int) (ns : List Int) (a rdr rec tl : Addr) (σ : L2.St) (H : Hp) (i : Nat) (s : TideGauges.State) (Hg : Hp) (T : List Int) (f : Nat) (cs : List (List (List Int))) : Prop where
  st : ∃ c n r x y, σ = [some (.ref a), some (.ref rdr), some (.ref rec), some (.ref tl), c, n, r, x, y]
  ls : SqL K H a (ns.map V.int)
  na : a ≠ tl ∨ ∀ X : Hp, SqL K X a (ns.map V.int)
  rd : ReadAt CR H rdr a i
  rc : RecAt K CC CG H rec s Hg
  g1 : Hg rdr = none
  g2 : Hg tl = none
  tl : H tl = some (.lst (T.map V.int))
  ne : rdr ≠ rec
  cl : PyFlat.calls PyWqaccr.shape f (ns.drop i) = some cs
  ask : cs.all TideGaugesNeutral.asked1 = true
  out : T ++ PyFlat.told (PyFlat.played stp s cs) = all
  few : T.length + 1001 * cs.length ≤ 300300
theorem ok_answers {CR CC CG f f1 f2 f3 f4 f5 f6 : Addr} {fd fd1 fd2 fd3 fd4 fd5 fd6 : FuncData} (F : Fun K "answers" "answers" s_answers f fd) (M : Mg K mg) (TR : ClsR K CR) (TC : ClsC K CC)
    (MR : Mk K CR f1) (G1 : FnOk P w K mg base CX0 1 f1 fd1 ["self", "numbers"] (sp_Reader_init CR)) (m1 : mg "Reader" = some (.ref CR)) (b1 : Binds K fd1 ["self", "numbers"] [])
    (MC : Mk K CC f2) (G2 : FnOk P w K mg base CX0 1 f2 fd2 ["self"] (sp_Recorder_init CC)) (m2 : mg "Recorder" = some (.ref CC)) (b2 : Binds K fd2 ["self"] [])
    (G3 : FnOk P w K mg base CX0 1 f3 fd3 ["self"] (sp_is_done K CR)) (m3 : Meth K CR "is_done" f3) (b3 : Binds K fd3 ["self"] [])
    (G4 : FnOk P w K mg base CX0 1 f4 fd4 ["self"] (sp_take_number K CR)) (m4 : Meth K CR "take_number" f4) (b4 : Binds K fd4 ["self"] [])
    (G5 : FnOk P w K mg base CX0 2 f5 fd5 ["self"] (sp_take_row K CR)) (m5 : Meth K CR "take_row" f5) (b5 : Binds K fd5 ["self"] [])
    {kc : Nat} (kc0 : 2 ≤ kc) (G6 : FnOk P w K mg base CX0 kc f6 fd6 ["recorder", "call", "numbers", "rows"] (sp_answer_call K CC CG)) (m6 : mg "answer_call" = some (.ref f6)) (k6 : PySem.W.keepIn K (.ref f6) = true) (b6 : Binds K fd6 ["recorder", "call", "numbers", "rows"] []) :
    FnOk P w K mg base CX0 (kc + 1) f fd ["calls"] (sp_answers K) := by
  have nd := sc_answers.nd
  obtain ⟨nc, mnc, snc⟩ := M.nc
  obtain ⟨rc, mrc, src⟩ := M.rc
  refine F.ok sc_answers (fun vs H Q E h => ?_) (fun cdv A outer s H vs Q E hr h => ?_)
  · obtain ⟨a, ns, cs, rfl, _⟩ := h
    rfl
  · obtain ⟨a, ns, cs, rfl, hl, hn, hc, hask, hcs, hbz, k⟩ := h
    have hr2 : Room 2 _ := hr.mono kc0
    have hr1 : Room 1 _ := hr.mono (by omega)
    refine ⟨_, pss_cons (ps_set (i := 1) nd rfl (Or.inr rfl) (pe_make MR G1 hr2 rfl m1 b1 .nil pass0 (pa_cons (pv 0) pa_nil)))
      (pss_cons (ps_set (i := 2) nd rfl (Or.inl rfl) (pe_make0 MC G2 hr2 rfl m2 b2 .nil pass0))
      (pss_cons (ps_set (i := 3) nd rfl (Or.inl rfl) (pe_lst pa_nil))
      (pss_cons (ps_while PassesOwn.never (pt_not (pt_val (pe_meth0 (pv 1) TR.cl m3 G3 hr1 b3 .nil pass0)))
        (pss_cons (ps_set (i := 4) nd rfl (Or.inl rfl) (pe_meth0 (pv 1) TR.cl m4 G4 hr1 b4 .nil pass0))
        (pss_cons (ps_setLc (i := 5) (own := [("count", 8)]) rfl nd rfl rfl rfl (pi_range1 rfl M.range (pa_cons (pe_ix ix_tup (pe_gr rfl mnc) (pv 4) (fun _ _ => rfl)) pa_nil)) blk_answers1
          (fun s H C cl fp => pg_name (i := 8) nd rfl (Or.inl rfl)) (fun s H C cl fp => pts_nil) (fun s H C cl fp => pe_meth0 (pv 1) TR.cl m4 G4 hr1 b4 .nil pass0))
        (pss_cons (ps_setLc (i := 6) (own := [("count", 8)]) rfl nd rfl rfl rfl (pi_range1 rfl M.range (pa_cons (pe_ix ix_tup (pe_gr rfl mrc) (pv 4) (fun _ _ => rfl)) pa_nil)) blk_answers2
          (fun s H C cl fp => pg_name (i := 8) nd rfl (Or.inl rfl)) (fun s H C cl fp => pts_nil) (fun s H C cl fp => pe_meth0 (pv 1) TR.cl m5 G5 hr2 b5 .nil pass0))
        (pss_cons (ps_set (i := 7) nd rfl (Or.inl rfl) (pe_call G6 hr rfl m6 k6 b6 .nil pass0 (pa_cons (pv 2) (pa_cons (pv 4) (pa_cons (pv 5) (pa_cons (pv 6) pa_nil))))))
        (pss_cons (ps_expr (pe_bm PySem.F.plainAttrs_list PySem.F.slot_list_append PySem.F.type_list_append mt_append (pv 3) (pa_cons (pe_callB call_len_seq (by rfl) M.len PySem.boot_len (pa_cons (pv 7) pa_nil)) pa_nil)))
        (pss_one (ps_expr (pe_bm PySem.F.plainAttrs_list PySem.F.slot_list_extend PySem.F.type_list_extend mt_extend (pv 3) (pa_cons (pv 7) pa_nil))))))))))
      (pss_one (ps_ret (pv 3)))))), ?_⟩
    refine ⟨_, rfl, ?_⟩
    intro rdr dx0 n0 m0 e0
    refine ⟨rdr, a, dx0, rfl, upd_same, fun H1 rd1 sv1 => ⟨rfl, ?_⟩⟩
    have s1 : Same H H1 := Same.made n0 m0 sv1
    intro rec dx1 n1 m1' e1
    refine ⟨rec, dx1, rfl, upd_same, fun H2 hrec sv2 => ⟨rfl, ?_⟩⟩
    have s2 : Same H1 H2 := Same.made n1 m1' sv2
    refine ⟨Nat.zero_le _, fun tl htl => ?_⟩
    have s3 := same_new (o := .lst []) htl
    obtain ⟨dxr, hrd1⟩ := id rd1
    have ner : rdr ≠ rec := ne_of_none hrd1 n1
    have na0 : a ≠ tl ∨ ∀ X : Hp, SqL K X a (ns.map V.int) := by
      rcases hl with (h | ⟨ob, h⟩) | h
      · exact .inl (ne_of_none ((s1.trans s2) _ _ h) htl)
      · exact .inl (ne_of_none ((s1.trans s2) _ _ h) htl)
      · exact .inr fun X => .inr h
    refine while_by (fun σ H' => ∃ i s Hg T f cs', Main K CR CC CG (PyFlat.told (PyFlat.played stp TideGaugesNeutral.start cs)) ns a rdr rec tl σ H' i s Hg T f cs') (fun _ H' => ns.length - placeOf (H' rdr)) ?_ ?_ ?_
    · refine ⟨0, none, fun _ => none, [], ns.length, cs, ⟨⟨none, none, none, none, none, rfl⟩, ((s1.trans s2).trans s3).seq hl, na0, ⟨dxr, s3 _ _ (s2 _ _ hrd1)⟩, ⟨⟨dx1, .non, s3 _ _ hrec, rfl⟩, (fun b o e => by cases e), rfl⟩, rfl, rfl, upd_same, ner, hc, hask, rfl, ?_⟩⟩
      show 0 + 1001 * cs.length ≤ 300300
      omega
    · rintro σ H' ⟨i, s, Hg, T, f, cs', m⟩
      obtain ⟨v4, v5, v6, v7, v8, rfl⟩ := m.st
      obtain ⟨dxa, hrd⟩ := id m.rd
      refine ⟨_, rfl, rdr, dxa, _, rfl, hrd, rfl, rdr, a, ns, i, rfl, m.rd, m.ls, _, rfl, ?_⟩
      by_cases hi : ns.length ≤ i
      · rw [decide_eq_true hi]
        have e : ns.drop i = [] := List.drop_eq_nil_of_le hi
        have hcl := m.cl
        rw [e] at hcl
        have e2 : cs' = [] := by cases f <;> exact (Option.some.inj hcl).symm
        have ho := m.out
        rw [e2] at ho
        have ho : T = PyFlat.told (PyFlat.played stp TideGaugesNeutral.start cs) := by rw [← ho]; exact (List.append_nil T).symm
        refine iteF ⟨_, rfl, k _ tl ?_⟩
        rw [← ho]
        exact m.tl
      · rw [decide_eq_false hi]
        refine iteT ?_
        obtain ⟨p, r, epr⟩ : ∃ p r, ns.drop i = p :: r := ⟨_, _, List.drop_eq_getElem_cons (by omega)⟩
        obtain ⟨hp, hr', hlt⟩ := drop_cons epr
        have hcl := m.cl
        rw [epr] at hcl
        obtain ⟨f', n, kk, xs, t, cs2, hsh, hnr, hrows, ecs, hcl2⟩ := calls_cons hcl
        obtain ⟨j, rfl, hj1, hj2⟩ := shape_at hsh
        obtain ⟨hn3, hk3⟩ := shape_le hsh
        have hask' := m.ask
        rw [ecs, List.all_cons, Bool.and_eq_true] at hask'
        have few' := m.few
        rw [ecs, List.length_cons] at few'
        have out' := m.out
        rw [ecs, played_cons] at out'
        have htl1 := m.tl
        have netl : tl ≠ rdr := ne_of htl1 hrd (by intro q; cases q)
        obtain ⟨dr, vg, hrc, _⟩ := id m.rc.ex
        have netc : tl ≠ rec := ne_of htl1 hrc (by intro q; cases q)
        -- call = reader.take_number()
        refine ⟨_, rfl, rdr, dxa, _, rfl, hrd, rfl, rdr, a, ns, i, (j : Int), rfl, m.rd, m.ls, hp, fun Ha rda sva => ?_⟩
        obtain ⟨dxb, hrda⟩ := id rda
        have lsa := sva.seq hrd m.ls
        -- numbers = [..]
        refine ⟨_, rfl, nc, _, _, _, rfl, rfl, snc _, atI_nat (vlist_at hj1), (n : Int), rfl, by omega, by omega, fun D hD => ?_⟩
        have neD : D ≠ rdr := fun q => by rw [q, hrda] at hD; cases hD
        refine lc_rng (fun jj Hx => Save rdr Ha Hx ∧ ReadAt CR Hx rdr a (i + 1 + jj) ∧ Hx D = some (.lst (((ns.drop (i + 1)).take jj).map V.int))) ⟨Save.same (same_new hD), ⟨dxb, by rw [upd_ne (Ne.symm neD)]; exact hrda⟩, upd_same⟩ ?_ ?_
        · rintro jj Hx hjj ⟨svx, rdx, hDx⟩
          have hjj : jj < n := by omega
          obtain ⟨dxx, hrdx⟩ := id rdx
          obtain ⟨z, hz⟩ : ∃ z, ns[i + 1 + jj]? = some z := ⟨_, List.getElem?_eq_getElem (by
            have := congrArg List.length hr'
            rw [List.length_drop] at this
            omega)⟩
          refine ⟨rfl, _, rfl, rdr, dxx, _, rfl, hrdx, rfl, rdr, a, ns, i + 1 + jj, z, rfl, rdx, svx.seq hrda lsa, hz, fun Hy rdy svy => ?_⟩
          obtain ⟨dxy, hrdy⟩ := id rdy
          refine ⟨_, svy _ _ hDx neD, ?_, ?_, ⟨dxy, by rw [upd_ne (Ne.symm neD)]; exact hrdy⟩, ?_⟩
          · rw [List.length_map, List.length_take]
            exact Nat.lt_of_le_of_lt (Nat.min_le_left _ _) (Nat.lt_of_lt_of_le hjj (Nat.le_trans hn3 (by decide)))
          · intro b o e ne
            have hb : b ≠ D := fun q => by rw [q, hD] at e; cases e
            rw [upd_ne hb]
            exact svy b o (svx b o e ne) ne
          · rw [upd_same, take_succ_at (show (ns.drop (i + 1))[jj]? = some z by rw [List.getElem?_drop]; exact hz), List.map_append]
            rfl
        · rintro Hb ⟨svb, rdb, hDb⟩
          obtain ⟨dxc, hrdb⟩ := id rdb
          have enat : ((n : Int)).toNat = n := by omega
          rw [enat] at hDb rdb hrdb
          have lsb := svb.seq hrda lsa
          rw [hr'] at hDb
          -- rows = [..]
          refine ⟨_, rfl, rc, _, _, _, rfl, rfl, src _, atI_nat (vlist_at hj2), (kk : Int), rfl, by omega, by omega, fun D2 hD2 => ?_⟩
          have neD2 : D2 ≠ rdr := fun q => by rw [q, hrdb] at hD2; cases hD2
          have e0 : ns.drop (i + 1 + n) = r.drop n := by rw [← hr', List.drop_drop]
          refine lc_rng (fun jj Hx => Save rdr Hb Hx ∧ ∃ ij, i + 1 ≤ ij ∧ ReadAt CR Hx rdr a ij ∧ PyFlat.rows (kk - jj) (ns.drop ij) = some (xs.drop jj, t) ∧ ∃ as : List Addr, Hx D2 = some (.lst (as.map V.ref)) ∧ as.length = jj ∧
              ∀ (x : Nat) (b : Addr), as[x]? = some b → ∃ q, xs[x]? = some q ∧ Hx b = some (.lst (q.map V.int)) ∧ Hb b = none)
            ⟨Save.same (same_new hD2), i + 1 + n, by omega, ⟨dxc, by rw [upd_ne (Ne.symm neD2)]; exact hrdb⟩, by rw [e0]; exact hrows, [], upd_same, rfl, fun x b h => by simp at h⟩ ?_ ?_
          · rintro jj Hx hjj ⟨svx, ij, hij, rdx, hrw, as, hD2x, la, hat⟩
            have hjj : jj < kk := by omega
            obtain ⟨dxx, hrdx⟩ := id rdx
            have ek : kk - jj = (kk - (jj + 1)) + 1 := by omega
            rw [ek] at hrw
            obtain ⟨m', r', xs', hd, hm', exs, hrw'⟩ := rows_cons hrw
            obtain ⟨g1, g2, g3⟩ := drop_cons hd
            have hle : ij + 1 + m' ≤ ns.length := by
              have := congrArg List.length g2
              rw [List.length_drop] at this
              omega
            refine ⟨rfl, _, rfl, rdr, dxx, _, rfl, hrdx, rfl, rdr, a, ns, ij, m', rfl, rdx, svx.seq hrdb lsb, g1, hle, fun Hy q rdy svy hq hq0 => ?_⟩
            obtain ⟨dxy, hrdy⟩ := id rdy
            have hD2y := svy _ _ hD2x neD2
            have nq : q ≠ D2 := fun e => by rw [e, hD2x] at hq0; cases hq0
            have exj : xs[jj]? = some (r'.take m') := by
              have h := congrArg (fun l : List (List Int) => l[0]?) exs
              simpa [List.getElem?_drop] using h
            refine ⟨_, hD2y, ?_, ?_, ij + 1 + m', by omega, ⟨dxy, by rw [upd_ne (Ne.symm neD2)]; exact hrdy⟩, ?_, as ++ [q], ?_, by rw [List.length_append, la]; rfl, fun x b h => ?_⟩
            · rw [List.length_map, la]
              exact Nat.lt_of_lt_of_le hjj (Nat.le_trans hk3 (by decide))
            · intro b o e ne
              have hb : b ≠ D2 := fun q => by rw [q, hD2] at e; cases e
              rw [upd_ne hb]
              exact svy b o (svx b o e ne) ne
            · have e1 : xs.drop (jj + 1) = xs' := by
                rw [← List.drop_drop, exs]
                rfl
              have e2 : ns.drop (ij + 1 + m') = r'.drop m' := by rw [← g2, List.drop_drop]
              rw [e1, e2]
              exact hrw'
            · rw [upd_same, List.map_append]
              rfl
            · by_cases hx : x < as.length
              · rw [List.getElem?_append_left hx] at h
                obtain ⟨q', z1, z2, z3⟩ := hat x b h
                have nb : b ≠ rdr := ne_of z2 hrdx (by intro q; cases q)
                have nb2 : b ≠ D2 := fun e => by
                  rw [e] at z2 h
                  rw [hD2x] at z2
                  have z4 := HO.lst.inj (Option.some.inj z2)
                  have hm : V.ref D2 ∈ as.map V.ref := List.mem_map.mpr ⟨D2, List.mem_of_getElem? h, rfl⟩
                  rw [z4] at hm
                  obtain ⟨w', _, hw⟩ := List.mem_map.mp hm
                  cases hw
                exact ⟨q', z1, by rw [upd_ne nb2]; exact svy _ _ z2 nb, z3⟩
              · have hj2 : x < (as ++ [q]).length := (List.getElem?_eq_some_iff.mp h).1
                have ej : x = as.length := by rw [List.length_append] at hj2; simp at hj2; omega
                subst ej
                rw [List.getElem?_append_right (Nat.le_refl _), Nat.sub_self] at h
                have et : q = b := Option.some.inj h
                subst et
                refine ⟨r'.take m', by rw [la]; exact exj, ?_, ?_⟩
                · rw [upd_ne nq, hq, g2]
                · cases e : Hb q with
                  | none => rfl
                  | some o =>
                    by_cases nr : q = rdr
                    · rw [nr, hrdx] at hq0; cases hq0
                    · have z := svx q o e nr
                      rw [hq0] at z
                      cases z
          · rintro Hc ⟨svc, ij, hij, rdc, hrw, as, hD2c, la, hat⟩
            have enat2 : ((kk : Int)).toNat = kk := by omega
            rw [enat2] at hrw la
            rw [Nat.sub_self] at hrw
            obtain ⟨ex0, et0⟩ := rows_zero hrw
            obtain ⟨rl1, rl2⟩ := rows_len hrows
            obtain ⟨dxd, hrdc⟩ := id rdc
            have lsc := svc.seq hrdb lsb
            have svac : Save rdr H' Hc := (sva.trans svb).trans svc
            have rcc : RecAt K CC CG Hc rec s Hg := m.rc.keep (fun o e => svac _ _ e (Ne.symm m.ne)) fun b o e1 e2 => svac b o e2 fun q => by rw [q, m.g1] at e1; cases e1
            have tlc := svac _ _ htl1 netl
            have hDc := svc _ _ hDb neD
            have lx : as.length = xs.length := by rw [la, rl1]
            -- answer = answer_call(..)
            refine ⟨_, rfl, _, rfl, _, rfl, _, rfl, rec, D, D2, s, Hg, (j : Int), r.take n, xs, rfl, rcc, SqL.of hDc, ⟨as.map V.ref, SqL.of hD2c, by rw [List.length_map]; exact lx, fun x q hq => ?_⟩, by rw [List.length_take, Nat.min_eq_left hnr, rl1]; exact hsh, hask'.1, fun q hq => ?_, fun z hz => hbz z (List.mem_of_mem_drop (by rw [hr']; exact List.mem_of_mem_take hz)), fun Hd pa Hg' rcd hgn svd pa0 hlen hpa => ?_⟩
            · obtain ⟨b, hb⟩ : ∃ b, as[x]? = some b := ⟨_, List.getElem?_eq_getElem (by rw [lx]; exact (List.getElem?_eq_some_iff.mp hq).1)⟩
              obtain ⟨q', z1, z2, z3⟩ := hat x b hb
              rw [hq] at z1
              obtain rfl := Option.some.inj z1
              exact ⟨b, by rw [List.getElem?_map, hb]; rfl, SqL.of z2⟩
            · have := rl2 q hq
              have e1 := congrArg List.length hr'
              rw [List.length_drop] at this e1
              omega
            · have tld := svd _ _ tlc netc
              have npa : pa ≠ tl := fun q => by rw [q, tlc] at pa0; cases pa0
              refine ⟨_, rfl, .inl ⟨rfl, _, SqL.of tld⟩, _, rfl, pa, _, rfl, .inl (SqL.of hpa), tl, _, _, rfl, rfl, tld, ?_, ?_⟩
              · rw [List.length_map, sizeLine_eq]
                omega
              have svd2 := svac.trans (show Save rdr Hc Hc from Save.refl _ _)
              have hrdd : Hd rdr = some (.ins CR dxd (rfs a ij)) := svd _ _ hrdc m.ne
              refine ⟨_, rfl, .inl ⟨rfl, _, SqL.of upd_same⟩, _, rfl, tl, pa, _, _, rfl, rfl, upd_same, by rw [upd_ne npa]; exact hpa, ?_, ?_⟩
              · rw [List.length_append, List.length_map, List.length_map, sizeLine_eq]
                show T.length + 1 + _ ≤ _
                omega
              obtain ⟨drd, vd, hrcd, _⟩ := id rcd.ex
              have lsd : SqL K Hd a (ns.map V.int) := svd.seq (rcc.ex.choose_spec.choose_spec.1) lsc
              -- the end's heap: told has grown
              have hgt : Hg' tl = none := hgn tl _ tlc m.g2
              have hgr : Hg' rdr = none := hgn rdr _ hrdc m.g1
              have kp : ∀ b o, Hd b = some o → b ≠ tl → upd (upd Hd tl (.lst (T.map V.int ++ [.int (((stp s (((j : Int) :: r.take n) :: xs)).2.map V.int).length)]))) tl (.lst ((T.map V.int ++ [.int (((stp s (((j : Int) :: r.take n) :: xs)).2.map V.int).length)]) ++ (stp s (((j : Int) :: r.take n) :: xs)).2.map V.int)) b = some o := fun b o e ne => by
                rw [upd_ne ne, upd_ne ne]
                exact e
              have lse : ∀ {X : Hp}, (∀ b o, Hd b = some o → b ≠ tl → X b = some o) → SqL K X a (ns.map V.int) := fun {X} kx => by
                rcases m.na with q | q
                · rcases lsd with (h | ⟨ob, h⟩) | h
                  · exact .inl (.inl (kx _ _ h q))
                  · exact .inl (.inr ⟨ob, kx _ _ h q⟩)
                  · exact .inr h
                · exact q X
              refine ⟨⟨ij, (stp s (((j : Int) :: r.take n) :: xs)).1, Hg', T ++ (((stp s (((j : Int) :: r.take n) :: xs)).2.length : Int) :: (stp s (((j : Int) :: r.take n) :: xs)).2), f', cs2, ⟨⟨_, _, _, _, _, rfl⟩, lse kp, m.na, ⟨dxd, kp _ _ hrdd (Ne.symm netl)⟩, rcd.keep (fun o e => kp _ _ e (Ne.symm netc)) (fun b o e1 e2 => kp b o e2 fun q => by rw [q, hgt] at e1; cases e1), hgr, hgt, ?_, m.ne, ?_, hask'.2, ?_, ?_⟩⟩, ?_⟩
              · rw [upd_same]
                simp
              · rw [← et0]
                exact hcl2
              · rw [← out']
                simp
              · rw [List.length_append, List.length_cons]
                omega
              · show ns.length - placeOf _ < ns.length - placeOf _
                rw [show placeOf (H' rdr) = i from m.rd.place, ReadAt.place (C := CR) (l := a) (i := ij) ⟨dxd, kp _ _ hrdd (Ne.symm netl)⟩]
                omega
    · intro σ H Q Q' hq h
      obtain ⟨x, h1, a', dx, fs, h2, h3, h4, p, l, ns', i, h5, h6, h7, c, h8, h9⟩ := h
      exact ⟨x, h1, a', dx, fs, h2, h3, h4, p, l, ns', i, h5, h6, h7, c, h8, hq _ _ h9⟩
end
end Gc
namespace Gc
open PySem PySem.Spec PyProof.Rows L2
theorem whole_of {p : Int} {nums : List Int} {xs : List (List Int)} (h : PyWqaccr.shape p = some (nums.length, xs.length)) : PyWqaccr.whole ((p :: nums) :: xs) = (p :: nums) :: xs := by
  rcases shape_cases h with ⟨rfl, h1, h2⟩ | ⟨rfl, h1, h2⟩ | ⟨rfl, h1, h2⟩ | ⟨rfl, h1, h2⟩ | ⟨rfl, h1, h2⟩ | ⟨rfl, h1, h2⟩ | ⟨rfl, h1, h2⟩
  · obtain ⟨a, b, rfl⟩ := len_2 h1
    obtain ⟨x, y, z, rfl⟩ := len_3 h2
    rfl
  · obtain rfl := len_0 h1
    obtain rfl := len_0 h2
    rfl
  · obtain ⟨a, rfl⟩ := len_1 h1
    obtain rfl := len_0 h2
    rfl
  · obtain ⟨a, rfl⟩ := len_1 h1
    obtain rfl := len_0 h2
    rfl
  · obtain ⟨a, rfl⟩ := len_1 h1
    obtain rfl := len_0 h2
    rfl
  · obtain ⟨a, b, c, rfl⟩ := len_3 h1
    obtain rfl := len_0 h2
    rfl
  · obtain rfl := len_0 h1
    obtain ⟨x, y, rfl⟩ := len_2 h2
    rfl
theorem whole_map : ∀ (cs : List (List (List Int))) (f : Nat) (l : List Int), PyFlat.calls PyWqaccr.shape f l = some cs → cs.map PyWqaccr.whole = cs
  | [], _, _, _ => rfl
  | c :: cs, f, [], h => by
    have e : c :: cs = [] := by cases f <;> exact (Option.some.inj h).symm
    cases e
  | c :: cs, f, p :: r, h => by
    obtain ⟨f', n, k, xs, t, cs', hsh, hn, hrows, ecs, hcl⟩ := calls_cons h
    injection ecs with e1 e2
    subst e1 e2
    rw [List.map_cons, whole_map _ f' t hcl, whole_of]
    rw [List.length_take, Nat.min_eq_left hn, (rows_len hrows).1]
    exact hsh
/-- the request, as the promise of answers has it -/
theorem request {K : PySem.W.Frag} {H : Hp} {a : Addr} {ns : List Int} (hs : SqL K H a (ns.map V.int)) (hn : ns.length ≤ 26000) (hbz : ∀ z ∈ ns, z.natAbs ≤ 274877906944) (hask : PyWqaccr.answers_asked ns = true) :
    sp_answers K [.ref a] H (fun v H' => Dw K H' v (PySem.W.WData.list ((PyWqaccr.answers ns).map PySem.W.WData.int))) fun _ _ _ => False := by
  unfold PyWqaccr.answers_asked PyWqaccr.calls at hask
  cases e : PyFlat.calls PyWqaccr.shape ns.length ns with
  | none => rw [e] at hask; cases hask
  | some cs =>
    rw [e] at hask
    dsimp only at hask
    rw [whole_map _ _ _ e, Bool.and_eq_true] at hask
    obtain ⟨h1, h2⟩ := hask
    unfold TideGaugesNeutral.asked at h2
    rw [Bool.and_eq_true] at h2
    have ea : PyWqaccr.answers ns = PyFlat.told (PyFlat.played stp TideGaugesNeutral.start cs) := by
      unfold PyWqaccr.answers PyWqaccr.calls
      rw [e]
      dsimp only
      rw [whole_map _ _ _ e]
    refine ⟨a, ns, cs, rfl, hs, hn, e, h2.2, of_decide_eq_true h1, hbz, fun H' p hp => ?_⟩
    rw [ea]
    exact .lst (SqL.of hp) (dw_ints _)
end Gc
end
section
set_option linter.all false
set_option bootstrap.genMatcherCode false
set_option genSizeOf false
namespace Gm
open Tide
/-! ## fractions that are the same number -/
noncomputable def Eqv (a b : Q) : Prop := a.num * b.den = b.num * a.den
theorem nat_red {r d s e : Nat} (hd : 0 < d) (he : 0 < e) (h : r * e = s * d) : r / Nat.gcd r d = s / Nat.gcd s e ∧ d / Nat.gcd r d = e / Nat.gcd s e := by
  have g1 : Nat.gcd (r * e) (d * e) = Nat.gcd r d * e := Nat.gcd_mul_right r e d
  have g2 : Nat.gcd (s * d) (e * d) = Nat.gcd s e * d := Nat.gcd_mul_right s d e
  have c : d * e = e * d := Nat.mul_comm d e
  constructor
  · rw [← Nat.mul_div_mul_right r (Nat.gcd r d) he, ← g1, h, c, g2, Nat.mul_div_mul_right _ _ hd]
  · rw [← Nat.mul_div_mul_right d (Nat.gcd r d) he, ← g1, h, c, g2, Nat.mul_div_mul_right _ _ hd]
theorem floor_congr {a b : Q} (ha : 0 < a.den) (hb : 0 < b.den) (h : Eqv a b) : a.num / (a.den : Int) = b.num / (b.den : Int) := by
  have h1 : a.num * (b.den : Int) / ((a.den : Int) * (b.den : Int)) = a.num / (a.den : Int) := Int.mul_ediv_mul_of_pos_left _ _ (by omega)
  have h2 : b.num * (a.den : Int) / ((b.den : Int) * (a.den : Int)) = b.num / (b.den : Int) := Int.mul_ediv_mul_of_pos_left _ _ (by omega)
  rw [← h1, ← h2, Int.mul_comm (b.den : Int) (a.den : Int), show a.num * (b.den : Int) = b.num * (a.den : Int) from h]
theorem round_congr {a b : Q} (ha : 0 < a.den) (hb : 0 < b.den) (h : Eqv a b) : a.round = b.round := by
  unfold Q.round
  have h : a.num * (b.den : Int) = b.num * (a.den : Int) := h
  have h1 : (2 * a.num + a.den) * (b.den : Int) / (2 * (a.den : Int) * (b.den : Int)) = (2 * a.num + a.den) / (2 * (a.den : Int)) := Int.mul_ediv_mul_of_pos_left _ _ (by omega)
  have h2 : (2 * b.num + b.den) * (a.den : Int) / (2 * (b.den : Int) * (a.den : Int)) = (2 * b.num + b.den) / (2 * (b.den : Int)) := Int.mul_ediv_mul_of_pos_left _ _ (by omega)
  rw [← h1, ← h2]
  congr 1
  · grind
  · grind
theorem told_congr {a b : Q} (ha : 0 < a.den) (hb : 0 < b.den) (h : Eqv a b) : a.told = b.told := by
  have hf := floor_congr ha hb h
  have h : a.num * (b.den : Int) = b.num * (a.den : Int) := h
  have ra : 0 ≤ a.num % (a.den : Int) := Int.emod_nonneg _ (by omega)
  have rb : 0 ≤ b.num % (b.den : Int) := Int.emod_nonneg _ (by omega)
  have e1 := Int.mul_ediv_add_emod a.num (a.den : Int)
  have e2 := Int.mul_ediv_add_emod b.num (b.den : Int)
  have hr : a.num % (a.den : Int) * (b.den : Int) = b.num % (b.den : Int) * (a.den : Int) := by
    rw [hf] at e1
    generalize b.num / (b.den : Int) = q at e1 e2
    generalize a.num % (a.den : Int) = x at *
    generalize b.num % (b.den : Int) = y at *
    rw [← e1, ← e2] at h
    grind
  have hn : (a.num % (a.den : Int)).toNat * b.den = (b.num % (b.den : Int)).toNat * a.den := by
    have : (((a.num % (a.den : Int)).toNat * b.den : Nat) : Int) = (((b.num % (b.den : Int)).toNat * a.den : Nat) : Int) := by
      rw [Int.natCast_mul, Int.natCast_mul, Int.toNat_of_nonneg ra, Int.toNat_of_nonneg rb]
      exact hr
    exact Int.ofNat.inj this
  obtain ⟨g1, g2⟩ := nat_red ha hb hn
  unfold Q.told
  dsimp only
  rw [hf, g1, g2]
/-! ## the straight line through whole points -/
theorem line_of {x1 y1 x2 y2 c : Int} (h : x1 < x2) : line (.of x1) (.of y1) (.of x2) (.of y2) (.of c) = ⟨y1 * (x2 - x1) + (c - x1) * (y2 - y1), (x2 - x1).toNat⟩ := by
  have e : (((x2 - x1).toNat : Nat) : Int) = x2 - x1 := Int.toNat_of_nonneg (by omega)
  simp only [line, Q.of, Q.plus, Q.less, Q.times, Q.by_]
  simp only [Int.natCast_one, Int.mul_one, Nat.mul_one, Nat.one_mul, Int.natCast_mul, Int.one_mul, e]
end Gm
end
section
set_option Elab.async false
set_option linter.all false
set_option bootstrap.genMatcherCode false
set_option genSizeOf false
set_option maxRecDepth 100000
set_option maxHeartbeats 2000000
namespace Gc
open Gm
/-! ## true time and zero are the document's -/
theorem rise_tail {a : Int × Int} {l : List (Int × Int)} (h : Rise (a :: l)) : Rise l := fun i x y h1 h2 => h (i + 1) x y h1 h2
theorem last_ge : ∀ (b : Int × Int) (l : List (Int × Int)), Rise (b :: l) → b.1 ≤ (lastOf b l).1 ∧ ((lastOf b l).1 = b.1 → lastOf b l = b)
  | b, [], _ => ⟨Int.le_refl _, fun _ => rfl⟩
  | b, x :: l, h => by
    have h1 := h 0 b x rfl rfl
    obtain ⟨h2, _⟩ := last_ge x l (rise_tail h)
    show b.1 ≤ (lastOf x l).1 ∧ ((lastOf x l).1 = b.1 → lastOf x l = b)
    exact ⟨by omega, fun e => by omega⟩
/-- a pair as a fraction -/
noncomputable def qOf (p : Int × Int) : Tide.Q := ⟨p.1, p.2.toNat⟩
noncomputable def wPr (c : Tide.Watch) : Int × Int := (c.clock, c.time)
noncomputable def sPr (t : Tide.Staff) : Int × Int := (t.clock, t.staff - t.pen)
theorem eqv_refl (a : Tide.Q) : Eqv a a := rfl
theorem time_from : ∀ (a : Tide.Watch) (l : List Tide.Watch) (c : Int), Rise (wPr a :: l.map wPr) → a.clock < c →
    0 < (Tide.timeFrom a l c).den ∧ Eqv (qOf (if (lastOf (wPr a) (l.map wPr)).1 ≤ c then (c + (lastOf (wPr a) (l.map wPr)).2 - (lastOf (wPr a) (l.map wPr)).1, 1) else betw (wPr a) (l.map wPr) c)) (Tide.timeFrom a l c)
  | a, [], c, _, hc => by
    refine ⟨Nat.one_pos, ?_⟩
    rw [if_pos (show (lastOf (wPr a) ([].map wPr)).1 ≤ c from Int.le_of_lt hc)]
    show (c + a.time - a.clock) * 1 = (c + (a.time - a.clock)) * 1
    omega
  | a, b :: l, c, hR, hc => by
    have hab : a.clock < b.clock := hR 0 (wPr a) (wPr b) rfl rfl
    obtain ⟨g1, g2⟩ := last_ge (wPr b) (l.map wPr) (rise_tail hR)
    have e0 : lastOf (wPr a) ((b :: l).map wPr) = lastOf (wPr b) (l.map wPr) := rfl
    have e1 : betw (wPr a) ((b :: l).map wPr) c = if c ≤ b.clock then lineF (wPr a) (wPr b) c else betw (wPr b) (l.map wPr) c := rfl
    rw [e0, e1]
    unfold Tide.timeFrom
    by_cases hb : c ≤ b.clock
    · rw [if_pos hb, if_pos hb, line_of hab]
      refine ⟨show 0 < (b.clock - a.clock).toNat by omega, ?_⟩
      have g1 : b.clock ≤ (lastOf (wPr b) (l.map wPr)).1 := g1
      by_cases hl : (lastOf (wPr b) (l.map wPr)).1 ≤ c
      · rw [if_pos hl]
        have e2 : (lastOf (wPr b) (l.map wPr)).1 = (wPr b).1 := by show _ = b.clock; omega
        have e3 := g2 e2
        have e4 : c = b.clock := by rw [e2] at hl; have : b.clock ≤ c := hl; omega
        rw [e3]
        show (c + b.time - b.clock) * (((b.clock - a.clock).toNat : Nat) : Int) = (a.time * (b.clock - a.clock) + (c - a.clock) * (b.time - a.time)) * 1
        rw [Int.toNat_of_nonneg (by omega), e4]
        grind
      · rw [if_neg hl]
        exact eqv_refl _
    · rw [if_neg hb, if_neg hb]
      exact time_from b l c (rise_tail hR) (by omega)
theorem time_eq {G : Tide.Gauge} {c : Int} (hR : Rise (G.watches.map wPr)) : 0 < (G.time c).den ∧ Eqv (qOf (ttF (G.watches.map wPr) c)) (G.time c) := by
  unfold Tide.Gauge.time
  cases e : G.watches with
  | nil => exact ⟨Nat.one_pos, rfl⟩
  | cons a l =>
    rw [e] at hR
    dsimp only
    by_cases h : c ≤ a.clock
    · rw [if_pos h, List.map_cons, ttF_1 (show c ≤ (wPr a).1 from h)]
      refine ⟨Nat.one_pos, ?_⟩
      show (c + a.time - a.clock) * 1 = (c + (a.time - a.clock)) * 1
      omega
    · rw [if_neg h]
      obtain ⟨h1, h2⟩ := time_from a l c hR (by omega)
      refine ⟨h1, ?_⟩
      have z : ttF ((a :: l).map wPr) c = if (lastOf (wPr a) (l.map wPr)).1 ≤ c then (c + (lastOf (wPr a) (l.map wPr)).2 - (lastOf (wPr a) (l.map wPr)).1, 1) else betw (wPr a) (l.map wPr) c := if_neg (show ¬ c ≤ (wPr a).1 from h)
      rw [z]
      exact h2
theorem zero_from : ∀ (a : Tide.Staff) (l : List Tide.Staff) (c : Int), Rise (sPr a :: l.map sPr) → a.clock < c →
    0 < (Tide.zeroFrom a l c).den ∧ Eqv (qOf (if (lastOf (sPr a) (l.map sPr)).1 ≤ c then ((lastOf (sPr a) (l.map sPr)).2, 1) else betw (sPr a) (l.map sPr) c)) (Tide.zeroFrom a l c)
  | a, [], c, _, hc => by
    refine ⟨Nat.one_pos, ?_⟩
    rw [if_pos (show (lastOf (sPr a) ([].map sPr)).1 ≤ c from Int.le_of_lt hc)]
    rfl
  | a, b :: l, c, hR, hc => by
    have hab : a.clock < b.clock := hR 0 (sPr a) (sPr b) rfl rfl
    obtain ⟨g1, g2⟩ := last_ge (sPr b) (l.map sPr) (rise_tail hR)
    have e0 : lastOf (sPr a) ((b :: l).map sPr) = lastOf (sPr b) (l.map sPr) := rfl
    have e1 : betw (sPr a) ((b :: l).map sPr) c = if c ≤ b.clock then lineF (sPr a) (sPr b) c else betw (sPr b) (l.map sPr) c := rfl
    rw [e0, e1]
    unfold Tide.zeroFrom
    by_cases hb : c ≤ b.clock
    · rw [if_pos hb, if_pos hb, line_of hab]
      refine ⟨show 0 < (b.clock - a.clock).toNat by omega, ?_⟩
      have g1 : b.clock ≤ (lastOf (sPr b) (l.map sPr)).1 := g1
      by_cases hl : (lastOf (sPr b) (l.map sPr)).1 ≤ c
      · rw [if_pos hl]
        have e2 : (lastOf (sPr b) (l.map sPr)).1 = (sPr b).1 := by show _ = b.clock; omega
        have e3 := g2 e2
        have e4 : c = b.clock := by rw [e2] at hl; have : b.clock ≤ c := hl; omega
        rw [e3]
        show (b.staff - b.pen) * (((b.clock - a.clock).toNat : Nat) : Int) = ((a.staff - a.pen) * (b.clock - a.clock) + (c - a.clock) * ((b.staff - b.pen) - (a.staff - a.pen))) * 1
        rw [Int.toNat_of_nonneg (by omega), e4]
        grind
      · rw [if_neg hl]
        exact eqv_refl _
    · rw [if_neg hb, if_neg hb]
      exact zero_from b l c (rise_tail hR) (by omega)
theorem zero_eq {G : Tide.Gauge} {c : Int} (hR : Rise (G.staffs.map sPr)) : 0 < (G.zeroAt c).den ∧ Eqv (qOf (zzF (G.staffs.map sPr) c)) (G.zeroAt c) := by
  unfold Tide.Gauge.zeroAt
  cases e : G.staffs with
  | nil => exact ⟨Nat.one_pos, rfl⟩
  | cons a l =>
    rw [e] at hR
    dsimp only
    by_cases h : c ≤ a.clock
    · rw [if_pos h, List.map_cons, zzF_1 (show c ≤ (sPr a).1 from h)]
      exact ⟨Nat.one_pos, rfl⟩
    · rw [if_neg h]
      obtain ⟨h1, h2⟩ := zero_from a l c hR (by omega)
      refine ⟨h1, ?_⟩
      have z : zzF ((a :: l).map sPr) c = if (lastOf (sPr a) (l.map sPr)).1 ≤ c then ((lastOf (sPr a) (l.map sPr)).2, 1) else betw (sPr a) (l.map sPr) c := if_neg (show ¬ c ≤ (sPr a).1 from h)
      rw [z]
      exact h2
theorem told_q {n d : Int} (h : 0 < d) : toldF n d = 0 :: (Tide.Q.mk n d.toNat).told := by
  unfold toldF Tide.Q.told
  dsimp only
  rw [Int.toNat_of_nonneg (show 0 ≤ d by omega), Nat.gcd_comm]
theorem told_eq {p : Int × Int} {q : Tide.Q} (h : 0 < p.2) (hq : 0 < q.den) (e : Eqv (qOf p) q) : toldF p.1 p.2 = 0 :: q.told := by
  rw [told_q h, ← told_congr (a := qOf p) (show 0 < p.2.toNat by omega) hq e]
  rfl
/-! ## spikes -/
noncomputable def pPr (p : Tide.Point) : Int × Int := (p.clock, p.pen)
theorem spiky_eq (G : Tide.Gauge) (i : Nat) : spikeB G.spike (G.points.map pPr) i = G.spiky i := by
  unfold spikeB Tide.Gauge.spiky
  rw [List.getElem?_map, List.getElem?_map, List.getElem?_map]
  cases G.points[i - 1]? <;> cases G.points[i]? <;> cases G.points[i + 1]? <;> rfl
theorem spikes_eq (G : Tide.Gauge) : spikesF G.spike (G.points.map pPr) (G.points.map pPr).length = G.spikes := by
  unfold spikesF Tide.Gauge.spikes
  rw [List.length_map]
  congr 1
  funext i
  exact spiky_eq G i
/-! ## the form -/
theorem fb_map {α β : Type} (f : α → β) {right : β → Bool} {rises : β → β → Bool} {right' : α → Bool} {rises' : α → α → Bool} (h1 : ∀ x, right (f x) = right' x) (h2 : ∀ x y, rises (f x) (f y) = rises' x y) :
    ∀ (l : List α) (i : Nat) (p : Option α), Tide.firstBad right rises i (p.map f) (l.map f) = Tide.firstBad right' rises' i p l
  | [], _, _ => rfl
  | x :: l, i, p => by
    have ih := fb_map f h1 h2 l (i + 1) (some x)
    rw [List.map_cons]
    unfold Tide.firstBad
    rw [h1]
    cases p with
    | none =>
      show (if (right' x && true) = true then Tide.firstBad right rises (i + 1) (some (f x)) (l.map f) else some i) = _
      rw [show Tide.firstBad right rises (i + 1) (some (f x)) (l.map f) = _ from ih]
    | some y =>
      show (if (right' x && rises (f y) (f x)) = true then Tide.firstBad right rises (i + 1) (some (f x)) (l.map f) else some i) = _
      rw [h2, show Tide.firstBad right rises (i + 1) (some (f x)) (l.map f) = _ from ih]
theorem timely_iff {c : Int} : Tide.timely c = decide (-68719476736 ≤ c ∧ c ≤ 68719476736) := by
  unfold Tide.timely Tide.TIMES
  exact decide_eq_decide.mpr ⟨fun h => by omega, fun h => by omega⟩
theorem heightly_iff {c : Int} : Tide.heightly c = decide (-1000000 ≤ c ∧ c ≤ 1000000) := by
  unfold Tide.heightly Tide.HIGH
  exact decide_eq_decide.mpr ⟨fun h => by omega, fun h => by omega⟩
theorem bad_eq (a b : Nat) (ps ws : List (Int × Int)) (ts : List (Int × Int × Int)) : (TideGauges.gaugeOf a b ps ws ts).bad = faultF (ps.map pr) (ws.map pr) (ts.map tr) := by
  unfold Tide.Gauge.bad faultF ffF TideGauges.gaugeOf
  have e1 := fb_map (pr) (right := fun x => inB x [68719476736, 1000000]) (rises := fun a b => risesB 1 a b) (right' := fun x : Int × Int => Tide.timely x.1 && Tide.heightly x.2) (rises' := fun x y : Int × Int => decide (x.1 < y.1))
    (fun x => by rw [timely_iff, heightly_iff]; simp [inB, pr]) (fun x y => by simp [risesB, pr]) ps 0 none
  have e2 := fb_map (pr) (right := fun x => inB x [68719476736, 68719476736]) (rises := fun a b => risesB 2 a b) (right' := fun x : Int × Int => Tide.timely x.1 && Tide.timely x.2) (rises' := fun x y : Int × Int => decide (x.1 < y.1) && decide (x.2 < y.2))
    (fun x => by rw [timely_iff, timely_iff]; simp [inB, pr]) (fun x y => by simp [risesB, pr, List.range_succ]) ws 0 none
  have e3 := fb_map (tr) (right := fun x => inB x [68719476736, 1000000, 1000000]) (rises := fun a b => risesB 1 a b) (right' := fun x : Int × Int × Int => Tide.timely x.1 && (Tide.heightly x.2.1 && Tide.heightly x.2.2)) (rises' := fun x y : Int × Int × Int => decide (x.1 < y.1))
    (fun x => by rw [timely_iff, heightly_iff, heightly_iff]; simp [inB, tr]) (fun x y => by simp [risesB, tr]) ts 0 none
  have f1 := fb_map (fun (x : Int × Int) => (⟨x.1, x.2⟩ : Tide.Point)) (right := fun (x : Tide.Point) => Tide.timely x.clock && Tide.heightly x.pen) (rises := fun (a b : Tide.Point) => decide (a.clock < b.clock)) (right' := fun x : Int × Int => Tide.timely x.1 && Tide.heightly x.2) (rises' := fun x y : Int × Int => decide (x.1 < y.1)) (fun _ => rfl) (fun _ _ => rfl) ps 0 none
  have f2 := fb_map (fun (x : Int × Int) => (⟨x.1, x.2⟩ : Tide.Watch)) (right := fun (x : Tide.Watch) => Tide.timely x.clock && Tide.timely x.time) (rises := fun (a b : Tide.Watch) => decide (a.clock < b.clock) && decide (a.time < b.time)) (right' := fun x : Int × Int => Tide.timely x.1 && Tide.timely x.2) (rises' := fun x y : Int × Int => decide (x.1 < y.1) && decide (x.2 < y.2)) (fun _ => rfl) (fun _ _ => rfl) ws 0 none
  have f3 := fb_map (fun (x : Int × Int × Int) => (⟨x.1, x.2.1, x.2.2⟩ : Tide.Staff)) (right := fun (x : Tide.Staff) => Tide.timely x.clock && (Tide.heightly x.pen && Tide.heightly x.staff)) (rises := fun (a b : Tide.Staff) => decide (a.clock < b.clock)) (right' := fun x : Int × Int × Int => Tide.timely x.1 && (Tide.heightly x.2.1 && Tide.heightly x.2.2)) (rises' := fun x y : Int × Int × Int => decide (x.1 < y.1)) (fun _ => rfl) (fun _ _ => rfl) ts 0 none
  rw [Option.map_none] at e1 e2 e3 f1 f2 f3
  rw [e1, e2, e3, f1, f2, f3]
  generalize Tide.firstBad (fun x : Int × Int => Tide.timely x.1 && Tide.heightly x.2) (fun x y : Int × Int => decide (x.1 < y.1)) 0 none ps = u1
  generalize Tide.firstBad (fun x : Int × Int => Tide.timely x.1 && Tide.timely x.2) (fun x y : Int × Int => decide (x.1 < y.1) && decide (x.2 < y.2)) 0 none ws = u2
  generalize Tide.firstBad (fun x : Int × Int × Int => Tide.timely x.1 && (Tide.heightly x.2.1 && Tide.heightly x.2.2)) (fun x y : Int × Int × Int => decide (x.1 < y.1)) 0 none ts = u3
  cases u1 <;> cases u2 <;> cases u3 <;> rfl
/-! ## the gauge that is taken -/
theorem gd_of (a b : Nat) (ps ws : List (Int × Int)) (ts : List (Int × Int × Int)) : gd (TideGauges.gaugeOf a b ps ws ts) = ⟨a, b, ps, ws, zsOf ts⟩ := by
  unfold gd TideGauges.gaugeOf zsOf
  simp only [List.map_map]
  congr 1
  · exact List.map_id' ps
  · exact List.map_id' ws
theorem valid_of {a b : Nat} {ps ws : List (Int × Int)} {ts : List (Int × Int × Int)} (h1 : ¬ tooMany a b ps ws ts) (h2 : faultF (ps.map pr) (ws.map pr) (ts.map tr) = none) : Valid (TideGauges.gaugeOf a b ps ws ts) := by
  have F := form_of h2
  unfold tooMany at h1
  refine ⟨?_, ?_, ?_, ?_, ?_, ?_⟩
  · unfold TideGauges.gaugeOf
    simp only [List.map_map]
    have e1 : ps.map ((fun p : Tide.Point => (p.clock, p.pen)) ∘ fun (x : Int × Int) => (⟨x.1, x.2⟩ : Tide.Point)) = ps := List.map_id' ps
    have e2 : ws.map ((fun p : Tide.Watch => (p.clock, p.time)) ∘ fun (x : Int × Int) => (⟨x.1, x.2⟩ : Tide.Watch)) = ws := List.map_id' ws
    have e3 : ts.map ((fun p : Tide.Staff => (p.clock, p.pen, p.staff)) ∘ fun (x : Int × Int × Int) => (⟨x.1, x.2.1, x.2.2⟩ : Tide.Staff)) = ts := List.map_id' ts
    rw [e1, e2, e3]
    exact F
  · show (ps.map _).length ≤ 256
    rw [List.length_map]
    omega
  · show (ws.map _).length ≤ 32
    rw [List.length_map]
    omega
  · show (ts.map _).length ≤ 32
    rw [List.length_map]
    omega
  · show a < 4294967296
    omega
  · show b < 4294967296
    omega
theorem Valid.riseW {G : Tide.Gauge} (V : Valid G) : Rise (G.watches.map wPr) := V.form.wr
theorem Valid.riseZ {G : Tide.Gauge} (V : Valid G) : Rise (G.staffs.map sPr) := by
  have h := V.form.tr
  unfold zsOf at h
  rw [List.map_map] at h
  exact h
end Gc
end
section
set_option Elab.async false
set_option linter.all false
set_option bootstrap.genMatcherCode false
set_option genSizeOf false
set_option maxRecDepth 100000
set_option maxHeartbeats 2000000
namespace Gc
open PySem PySem.Spec PyProof.Rows L2
/-! ## heights, as the program has them -/
noncomputable def spanF (x y : Int × Int) : Int × Int := (y.1 * x.2 - x.1 * y.2, x.2 * y.2)
noncomputable def nearF (p : Int × Int) : Int := (2 * p.1 + p.2) / (2 * p.2)
noncomputable def bwF (x y : Kp) (t : Int) : Int := (spanF (t, 1) y.1).1 * (spanF x.1 (t, 1)).2
noncomputable def ewF (x y : Kp) (t : Int) : Int := (spanF x.1 (t, 1)).1 * (spanF (t, 1) y.1).2
noncomputable def hbF (x y : Kp) (t : Int) : Int × Int := (x.2.1 * y.2.2 * bwF x y t + y.2.1 * x.2.2 * ewF x y t, x.2.2 * y.2.2 * (bwF x y t + ewF x y t))
noncomputable def befT (t : Int) (x : Kp) : Prop := x.1.1 < t * x.1.2
noncomputable def fnb (ks : List Kp) (t : Int) : Nat := ks.findIdx fun x => !decide (x.1.1 < t * x.1.2)
noncomputable def hF (g : Nat) (ks : List Kp) (t : Int) : Option (Int × Int) := match ks[fnb ks t]? with
  | none => none
  | some b => if b.1.1 = t * b.1.2 then some b.2 else if fnb ks t = 0 then none else match ks[fnb ks t - 1]? with
    | none => none
    | some a => if (g : Int) * (spanF a.1 b.1).2 < (spanF a.1 b.1).1 then none else some (hbF a b t)
noncomputable def oI : Option Int → V
  | none => .non
  | some i => .int i
structure KpOk (k : Kp) : Prop where
  b1 : Bt 200 k.1.1
  b2 : Bt 200 k.1.2
  b3 : Bt 200 k.2.1
  b4 : Bt 200 k.2.2
  p1 : 0 < k.1.2
  p2 : 0 < k.2.2
structure KGood (ks : List Kp) : Prop where
  ok : ∀ k ∈ ks, KpOk k
  so : ∀ (i j : Nat) (x y : Kp), i ≤ j → ks[i]? = some x → ks[j]? = some y → x.1.1 * y.1.2 ≤ y.1.1 * x.1.2
  le : ks.length ≤ 1000
theorem KGood.bef {ks : List Kp} (h : KGood ks) {t : Int} {i j : Nat} {x y : Kp} (ij : i ≤ j) (hx : ks[i]? = some x) (hy : ks[j]? = some y) (hb : befT t y) : befT t x := by
  have h1 := h.so i j x y ij hx hy
  have px := (h.ok x (List.mem_of_getElem? hx)).p1
  have py := (h.ok y (List.mem_of_getElem? hy)).p1
  unfold befT at *
  have h2 : y.1.1 * x.1.2 < t * y.1.2 * x.1.2 := Int.mul_lt_mul_of_pos_right hb px
  have h3 : x.1.1 * y.1.2 < t * x.1.2 * y.1.2 := by
    have e : t * y.1.2 * x.1.2 = t * x.1.2 * y.1.2 := by rw [Int.mul_assoc, Int.mul_comm y.1.2, ← Int.mul_assoc]
    omega
  exact Int.lt_of_mul_lt_mul_right h3 (Int.le_of_lt py)
theorem fnb_eq {ks : List Kp} {t : Int} {k : Nat} (hk : k ≤ ks.length) (h1 : ∀ (i : Nat) (x : Kp), i < k → ks[i]? = some x → befT t x) (h2 : ∀ x, ks[k]? = some x → ¬ befT t x) : fnb ks t = k := by
  unfold fnb
  by_cases e : k = ks.length
  · subst e
    rw [List.findIdx_eq_length]
    intro x hx
    obtain ⟨i, hi⟩ := List.getElem?_of_mem hx
    have z := h1 i x (List.getElem?_eq_some_iff.mp hi).1 hi
    unfold befT at z
    rw [decide_eq_true z]
    rfl
  · have hlt : k < ks.length := by omega
    rw [List.findIdx_eq hlt]
    refine ⟨?_, fun j hj => ?_⟩
    · have z := h2 ks[k] (List.getElem?_eq_getElem hlt)
      unfold befT at z
      rw [decide_eq_false z]
      rfl
    · have z := h1 j (ks[j]'(by omega)) hj (List.getElem?_eq_getElem (by omega))
      unfold befT at z
      rw [decide_eq_true z]
      rfl
theorem hb_pos {x y : Kp} {t : Int} (hx : KpOk x) (hy : KpOk y) (h1 : befT t x) (h2 : t * y.1.2 < y.1.1) : 0 < (hbF x y t).2 := by
  unfold befT at h1
  have e1 : 0 < bwF x y t := by
    unfold bwF spanF
    dsimp only
    refine Int.mul_pos ?_ ?_
    · omega
    · have := hx.p1
      omega
  have e2 : 0 < ewF x y t := by
    unfold ewF spanF
    dsimp only
    refine Int.mul_pos ?_ ?_
    · omega
    · have := hy.p1
      omega
  exact Int.mul_pos (Int.mul_pos hx.p2 hy.p2) (by omega)
theorem bt_span {x y : Int × Int} (h1 : Bt 200 x.1) (h2 : Bt 200 x.2) (h3 : Bt 200 y.1) (h4 : Bt 200 y.2) : Bt 401 (spanF x y).1 ∧ Bt 400 (spanF x y).2 := ⟨(h3.mul h2).sub (h1.mul h4), h2.mul h4⟩
theorem bt_bw {x y : Kp} {t : Int} (hx : KpOk x) (hy : KpOk y) (ht : Bt 200 t) : Bt 801 (bwF x y t) ∧ Bt 801 (ewF x y t) := by
  have s1 := bt_span hx.b1 hx.b2 (y := (t, 1)) ht bt_one
  have s2 := bt_span (x := (t, 1)) ht bt_one hy.b1 hy.b2
  exact ⟨s2.1.mul s1.2, s1.1.mul s2.2⟩
theorem bt_hb {x y : Kp} {t : Int} (hx : KpOk x) (hy : KpOk y) (ht : Bt 200 t) : Bt 1300 (hbF x y t).1 ∧ Bt 1300 (hbF x y t).2 := by
  obtain ⟨b1, b2⟩ := bt_bw hx hy ht
  refine ⟨((hx.b3.mul hy.b4).mul b1).add ((hy.b3.mul hx.b4).mul b2) |>.mono (by decide), ((hx.b4.mul hy.b4).mul (b1.add b2)).mono (by decide)⟩
section
variable {P : Program} {w : World} {K : PySem.W.Frag} {mg : Str → Option Value} {base : Heap}
/-! ## nearest -/
noncomputable def sp_nearest (K : PySem.W.Frag) : Sp := fun vs H Q _ => ∃ (a : Addr) (p : Int × Int), vs = [.ref a] ∧ SqT K H a [.int p.1, .int p.2] ∧ Bt 2000 p.1 ∧ Bt 2000 p.2 ∧ 0 < p.2 ∧ Q (.int (nearF p)) H
theorem sc_nearest : FnScope ["fraction"] ["fraction"] (defScope s_nearest) := ⟨rfl, rfl, rfl, by decide +kernel, rfl, by decide +kernel, by decide +kernel⟩
theorem ok_nearest {f : Addr} {fd : FuncData} (F : Fun K "nearest" "nearest" s_nearest f fd) : FnOk P w K mg base CX0 1 f fd ["fraction"] (sp_nearest K) := by
  refine F.ok sc_nearest (fun vs H Q E h => ?_) (fun cdv A outer s H vs Q E hr h => ?_)
  · obtain ⟨a, p, rfl, _⟩ := h
    rfl
  · obtain ⟨a, p, rfl, ht, h1, h2, h3, k⟩ := h
    refine ⟨_, pss_one (ps_ret (pe_op op_fdivZ (pe_op op_add (pe_op op_mulZ pe_int (pe_ix ix_tup (pv 0) pe_int (fun _ _ => rfl))) (pe_ix ix_tup (pv 0) pe_int (fun _ _ => rfl))) (pe_op op_mulZ pe_int (pe_ix ix_tup (pv 0) pe_int (fun _ _ => rfl))))), ?_⟩
    refine ⟨_, rfl, a, _, _, _, rfl, rfl, ht, at0, _, _, rfl, rfl, bt_two.cm h1, _, rfl, a, _, _, _, rfl, rfl, ht, at1, _, _, rfl, rfl, _, rfl, a, _, _, _, rfl, rfl, ht, at1, _, _, rfl, rfl, bt_two.cm h2, _, _, rfl, rfl, ⟨by omega, 2002, bt_two.mul h2, by decide⟩, k⟩
/-! ## time_span -/
noncomputable def sp_time_span (K : PySem.W.Frag) : Sp := fun vs H Q _ => ∃ (a b : Addr) (x y : Int × Int), vs = [.ref a, .ref b] ∧ SqT K H a [.int x.1, .int x.2] ∧ SqT K H b [.int y.1, .int y.2] ∧ Bt 200 x.1 ∧ Bt 200 x.2 ∧ Bt 200 y.1 ∧ Bt 200 y.2 ∧ RetT H Q (pr (spanF x y))
theorem sc_time_span : FnScope ["before", "behind"] ["before", "behind"] (defScope s_time_span) := ⟨rfl, rfl, rfl, by decide +kernel, rfl, by decide +kernel, by decide +kernel⟩
theorem ok_time_span {f : Addr} {fd : FuncData} (F : Fun K "time_span" "time_span" s_time_span f fd) : FnOk P w K mg base CX0 1 f fd ["before", "behind"] (sp_time_span K) := by
  refine F.ok sc_time_span (fun vs H Q E h => ?_) (fun cdv A outer s H vs Q E hr h => ?_)
  · obtain ⟨a, b, x, y, rfl, _⟩ := h
    rfl
  · obtain ⟨a, b, x, y, rfl, ha, hb, h1, h2, h3, h4, k⟩ := h
    refine ⟨_, pss_one (ps_ret (pe_tup (pa_cons (pe_op op_sub (pe_op op_mulZ (pe_ix ix_tup (pv 1) pe_int (fun _ _ => rfl)) (pe_ix ix_tup (pv 0) pe_int (fun _ _ => rfl))) (pe_op op_mulZ (pe_ix ix_tup (pv 0) pe_int (fun _ _ => rfl)) (pe_ix ix_tup (pv 1) pe_int (fun _ _ => rfl))))
      (pa_cons (pe_op op_mulZ (pe_ix ix_tup (pv 0) pe_int (fun _ _ => rfl)) (pe_ix ix_tup (pv 1) pe_int (fun _ _ => rfl))) pa_nil)))), ?_⟩
    refine ⟨_, rfl, b, _, _, _, rfl, rfl, hb, at0, _, rfl, a, _, _, _, rfl, rfl, ha, at1, _, _, rfl, rfl, h3.cm h2, _, rfl, a, _, _, _, rfl, rfl, ha, at0, _, rfl, b, _, _, _, rfl, rfl, hb, at1, _, _, rfl, rfl, h1.cm h4, _, _, rfl, rfl,
      _, rfl, a, _, _, _, rfl, rfl, ha, at1, _, rfl, b, _, _, _, rfl, rfl, hb, at1, _, _, rfl, rfl, h2.cm h4, (by show 2 ≤ sizeLine; decide), fun p hp => RetT.here k hp⟩
/-! ## height_between -/
noncomputable def sp_height_between (K : PySem.W.Frag) : Sp := fun vs H Q _ => ∃ (a b : Addr) (x y : Kp) (t : Int), vs = [.ref a, .ref b, .int t] ∧ KpAt K H a x ∧ KpAt K H b y ∧ KpOk x ∧ KpOk y ∧ Bt 200 t ∧ RetT H Q (pr (hbF x y t))
theorem sc_height_between : FnScope ["before", "behind", "moment", "gone", "left", "before_weight", "behind_weight", "first", "second", "top"] ["before", "behind", "moment"] (defScope s_height_between) := ⟨rfl, rfl, rfl, by decide +kernel, rfl, by decide +kernel, by decide +kernel⟩
theorem ok_height_between {f f1 : Addr} {fd fd1 : FuncData} (F : Fun K "height_between" "height_between" s_height_between f fd)
    (G1 : FnOk P w K mg base CX0 1 f1 fd1 ["before", "behind"] (sp_time_span K)) (m1 : mg "time_span" = some (.ref f1)) (k1 : PySem.W.keepIn K (.ref f1) = true) (b1 : Binds K fd1 ["before", "behind"] []) :
    FnOk P w K mg base CX0 2 f fd ["before", "behind", "moment"] (sp_height_between K) := by
  have nd := sc_height_between.nd
  refine F.ok sc_height_between (fun vs H Q E h => ?_) (fun cdv A outer s H vs Q E hr h => ?_)
  · obtain ⟨a, b, x, y, t, rfl, _⟩ := h
    rfl
  · obtain ⟨a, b, x, y, t, rfl, ⟨xt, xh, hx1, hx2, hx3⟩, ⟨yt, yh, hy1, hy2, hy3⟩, ox, oy, bt, k⟩ := h
    refine ⟨_, pss_cons (ps_set (i := 3) nd rfl (Or.inl rfl) (pe_call G1 hr rfl m1 k1 b1 .nil pass0 (pa_cons (pe_ix ix_tup (pv 0) pe_int (fun _ _ => rfl)) (pa_cons (pe_tup (pa_cons (pv 2) (pa_cons pe_int pa_nil))) pa_nil))))
      (pss_cons (ps_set (i := 4) nd rfl (Or.inl rfl) (pe_call G1 hr rfl m1 k1 b1 .nil pass0 (pa_cons (pe_tup (pa_cons (pv 2) (pa_cons pe_int pa_nil))) (pa_cons (pe_ix ix_tup (pv 1) pe_int (fun _ _ => rfl)) pa_nil))))
      (pss_cons (ps_set (i := 5) nd rfl (Or.inl rfl) (pe_op op_mulZ (pe_ix ix_tup (pv 4) pe_int (fun _ _ => rfl)) (pe_ix ix_tup (pv 3) pe_int (fun _ _ => rfl))))
      (pss_cons (ps_set (i := 6) nd rfl (Or.inl rfl) (pe_op op_mulZ (pe_ix ix_tup (pv 3) pe_int (fun _ _ => rfl)) (pe_ix ix_tup (pv 4) pe_int (fun _ _ => rfl))))
      (pss_cons (ps_set (i := 7) nd rfl (Or.inl rfl) (pe_ix ix_tup (pv 0) pe_int (fun _ _ => rfl)))
      (pss_cons (ps_set (i := 8) nd rfl (Or.inl rfl) (pe_ix ix_tup (pv 1) pe_int (fun _ _ => rfl)))
      (pss_cons (ps_set (i := 9) nd rfl (Or.inl rfl) (pe_op op_add (pe_op op_mulZ (pe_op op_mulZ (pe_ix ix_tup (pv 7) pe_int (fun _ _ => rfl)) (pe_ix ix_tup (pv 8) pe_int (fun _ _ => rfl))) (pv 5)) (pe_op op_mulZ (pe_op op_mulZ (pe_ix ix_tup (pv 8) pe_int (fun _ _ => rfl)) (pe_ix ix_tup (pv 7) pe_int (fun _ _ => rfl))) (pv 6))))
      (pss_one (ps_ret (pe_tup (pa_cons (pv 9) (pa_cons (pe_op op_mulZ (pe_op op_mulZ (pe_ix ix_tup (pv 7) pe_int (fun _ _ => rfl)) (pe_ix ix_tup (pv 8) pe_int (fun _ _ => rfl))) (pe_op op_add (pv 5) (pv 6))) pa_nil))))))))))), ?_⟩
    have s1 := bt_span ox.b1 ox.b2 (y := (t, 1)) bt bt_one
    have s2 := bt_span (x := (t, 1)) bt bt_one oy.b1 oy.b2
    obtain ⟨w1, w2⟩ := bt_bw ox oy bt
    refine ⟨_, rfl, a, _, _, _, rfl, rfl, hx1, at0, _, rfl, (by show 2 ≤ sizeLine; decide), fun q1 n1 => ?_⟩
    have e1 := same_new (o := .tup [.int t, .int 1]) n1
    refine ⟨xt, q1, x.1, (t, 1), rfl, same_tup e1 hx2, SqT.of upd_same, ox.b1, ox.b2, bt, bt_one, fun H1 g e2 ng hg => ?_⟩
    have E1 := e1.trans e2
    refine ⟨_, rfl, (by show 2 ≤ sizeLine; decide), fun q2 n2 => ?_⟩
    have e3 := same_new (o := .tup [.int t, .int 1]) n2
    have E2 := E1.trans e3
    refine ⟨_, rfl, b, _, _, _, rfl, rfl, same_tup E2 hy1, at0, q2, yt, (t, 1), y.1, rfl, SqT.of upd_same, same_tup E2 hy2, bt, bt_one, oy.b1, oy.b2, fun H3 l e4 nl hl => ?_⟩
    have E3 := E2.trans e4
    have hg3 : SqT K H3 g [.int (spanF x.1 (t, 1)).1, .int (spanF x.1 (t, 1)).2] := SqT.of (e4 _ _ (e3 _ _ hg))
    have hl3 : SqT K H3 l [.int (spanF (t, 1) y.1).1, .int (spanF (t, 1) y.1).2] := SqT.of hl
    have hX := same_tup E3 hx1
    have hY := same_tup E3 hy1
    have hXh := same_tup E3 hx3
    have hYh := same_tup E3 hy3
    refine ⟨_, rfl, l, _, _, _, rfl, rfl, hl3, at0, _, rfl, g, _, _, _, rfl, rfl, hg3, at1, _, _, rfl, rfl, s2.1.cm s1.2, ?_⟩
    refine ⟨_, rfl, g, _, _, _, rfl, rfl, hg3, at0, _, rfl, l, _, _, _, rfl, rfl, hl3, at1, _, _, rfl, rfl, s1.1.cm s2.2, ?_⟩
    refine ⟨_, rfl, a, _, _, _, rfl, rfl, hX, at1, _, rfl, b, _, _, _, rfl, rfl, hY, at1, ?_⟩
    refine ⟨_, rfl, xh, _, _, _, rfl, rfl, hXh, at0, _, rfl, yh, _, _, _, rfl, rfl, hYh, at1, _, _, rfl, rfl, ox.b3.cm oy.b4, _, rfl, _, _, rfl, rfl, (ox.b3.mul oy.b4).cm w1, ?_⟩
    refine ⟨_, rfl, yh, _, _, _, rfl, rfl, hYh, at0, _, rfl, xh, _, _, _, rfl, rfl, hXh, at1, _, _, rfl, rfl, oy.b3.cm ox.b4, _, rfl, _, _, rfl, rfl, (oy.b3.mul ox.b4).cm w2, _, _, rfl, rfl, ?_⟩
    refine ⟨_, rfl, _, rfl, xh, _, _, _, rfl, rfl, hXh, at1, _, rfl, yh, _, _, _, rfl, rfl, hYh, at1, _, _, rfl, rfl, ox.b4.cm oy.b4, _, rfl, _, rfl, _, _, rfl, rfl, _, _, rfl, rfl, (ox.b4.mul oy.b4).cm (w1.add w2), (by show 2 ≤ sizeLine; decide), fun p hp => ?_⟩
    exact RetT.here (k.after E3) hp
end
end Gc
end
section
set_option Elab.async false
set_option linter.all false
set_option bootstrap.genMatcherCode false
set_option genSizeOf false
set_option maxRecDepth 100000
set_option maxHeartbeats 2000000
namespace Gc
open PySem PySem.Spec PyProof.Rows L2
theorem fnb_not {ks : List Kp} {t : Int} {x : Kp} (h : ks[fnb ks t]? = some x) : ¬ befT t x := by
  unfold fnb at h
  obtain ⟨hi, e⟩ := List.getElem?_eq_some_iff.mp h
  have z := List.findIdx_getElem (w := hi)
  rw [e] at z
  unfold befT
  simpa using z
section
variable {P : Program} {w : World} {K : PySem.W.Frag} {mg : Str → Option Value} {base : Heap}
/-! ## first_not_before -/
noncomputable def sp_first_not_before (K : PySem.W.Frag) : Sp := fun vs H Q _ => ∃ (l : Addr) (ks : List Kp) (t : Int), vs = [.ref l, .int t] ∧ KeptAt K H l ks ∧ KGood ks ∧ Bt 200 t ∧ Q (.int (fnb ks t : Nat)) H
theorem sc_first_not_before : FnScope ["kept", "moment", "low", "high", "middle", "time"] ["kept", "moment"] (defScope s_first_not_before) := ⟨rfl, rfl, rfl, by decide +kernel, rfl, by decide +kernel, by decide +kernel⟩
theorem ok_first_not_before {f : Addr} {fd : FuncData} (F : Fun K "first_not_before" "first_not_before" s_first_not_before f fd) (M : Mg K mg) : FnOk P w K mg base CX0 1 f fd ["kept", "moment"] (sp_first_not_before K) := by
  have nd := sc_first_not_before.nd
  refine F.ok sc_first_not_before (fun vs H Q E h => ?_) (fun cdv A outer s H vs Q E hr h => ?_)
  · obtain ⟨l, ks, t, rfl, _⟩ := h
    rfl
  · obtain ⟨l, ks, t, rfl, ⟨xs, hx, hlen, hat⟩, gd, bt, k⟩ := h
    refine ⟨_, pss_cons (ps_set (i := 2) nd rfl (Or.inl rfl) pe_int)
      (pss_cons (ps_set (i := 3) nd rfl (Or.inl rfl) (pe_callB call_len_seq (by rfl) M.len PySem.boot_len (pa_cons (pv 0) pa_nil)))
      (pss_cons (ps_while PassesOwn.never (pt_cmpR op_lt (pv 2) (pv 3) (nomark _))
        (pss_cons (ps_set (i := 4) nd rfl (Or.inl rfl) (pe_op op_fdivZ (pe_op op_add (pv 2) (pv 3)) pe_int))
        (pss_cons (ps_set (i := 5) nd rfl (Or.inl rfl) (pe_ix ix_tup (pe_ix ix_list (pv 0) (pv 4) (fun _ _ => rfl)) pe_int (fun _ _ => rfl)))
        (pss_one (ps_if (pt_cmpR op_lt (pe_ix ix_tup (pv 5) pe_int (fun _ _ => rfl)) (pe_op op_mulZ (pv 1) (pe_ix ix_tup (pv 5) pe_int (fun _ _ => rfl))) (nomark _))
          (pss_one (ps_set (i := 2) nd rfl (Or.inl rfl) (pe_op op_add (pv 4) pe_int)))
          (pss_one (ps_set (i := 3) nd rfl (Or.inl rfl) (pv 4))))))))
      (pss_one (ps_ret (pv 2))))), ?_⟩
    refine ⟨_, rfl, l, xs, rfl, .inl hx, ?_⟩
    refine while_by (fun σ H' => H' = H ∧ ∃ (lo hi : Nat) (u v : Option V), σ = [some (.ref l), some (.int t), some (.int lo), some (.int hi), u, v] ∧ lo ≤ hi ∧ hi ≤ ks.length ∧ (∀ (i : Nat) (x : Kp), i < lo → ks[i]? = some x → befT t x) ∧ (∀ (i : Nat) (x : Kp), hi ≤ i → ks[i]? = some x → ¬ befT t x))
      (fun σ _ => match σ with | [_, _, some (.int a), some (.int b), _, _] => (b - a).toNat | _ => 0) ⟨rfl, 0, ks.length, none, none, by rw [hlen]; rfl, Nat.zero_le _, Nat.le_refl _, fun i x hi => absurd hi (Nat.not_lt_zero _), fun i x hi h => ?_⟩ ?_ ?_
    · rw [List.getElem?_eq_none hi] at h
      cases h
    · rintro σ H' ⟨rfl, lo, hi, u, v, rfl, h1, h2, h3, h4⟩
      refine ⟨_, rfl, _, rfl, _, _, rfl, rfl, _, rfl, ?_⟩
      by_cases hlt : lo < hi
      · rw [decide_eq_true (show (lo : Int) < (hi : Int) by omega)]
        have em : ((lo : Int) + (hi : Int)) / 2 = (((lo + hi) / 2 : Nat) : Int) := by omega
        have hm1 : lo ≤ (lo + hi) / 2 := by omega
        have hm2 : (lo + hi) / 2 < hi := by omega
        obtain ⟨x, hxm⟩ : ∃ x, ks[(lo + hi) / 2]? = some x := ⟨_, List.getElem?_eq_getElem (by omega)⟩
        obtain ⟨a, ha, b, c, t1, t2, t3⟩ := hat _ _ hxm
        have ok := gd.ok x (List.mem_of_getElem? hxm)
        refine iteT ⟨_, rfl, _, rfl, _, _, rfl, rfl, _, _, rfl, rfl, ⟨by decide, 2, by decide, by decide⟩, ?_⟩
        refine ⟨_, rfl, _, rfl, l, _, _, _, rfl, rfl, hx, at_of (j := (lo + hi) / 2) em ha, a, _, _, _, rfl, rfl, t1, at0, ?_⟩
        refine ⟨_, rfl, b, _, _, _, rfl, rfl, t2, at0, _, rfl, _, rfl, b, _, _, _, rfl, rfl, t2, at1, _, _, rfl, rfl, bt.cm ok.b2, _, _, rfl, rfl, _, rfl, ?_⟩
        refine ite2 (fun q => ?_) (fun q => ?_)
        · have q : x.1.1 < t * x.1.2 := of_decide_eq_true q
          have q : befT t x := q
          refine ⟨_, rfl, _, _, rfl, rfl, ⟨rfl, (lo + hi) / 2 + 1, hi, some (.int (((lo : Int) + (hi : Int)) / 2)), some (.ref b), congrArg (fun z : Int => [some (V.ref l), some (V.int t), some (V.int z), some (V.int hi), some (V.int (((lo : Int) + (hi : Int)) / 2)), some (V.ref b)]) (show ((lo : Int) + (hi : Int)) / 2 + 1 = (((lo + hi) / 2 + 1 : Nat) : Int) by omega), by omega, h2, fun i y hi' hy => gd.bef (show i ≤ (lo + hi) / 2 by omega) hy hxm q, h4⟩, ?_⟩
          show ((hi : Int) - (((lo : Int) + (hi : Int)) / 2 + 1)).toNat < ((hi : Int) - (lo : Int)).toNat
          omega
        · have q : ¬ befT t x := fun z => q (decide_eq_true (show x.1.1 < t * x.1.2 from z))
          refine ⟨_, rfl, ⟨rfl, lo, (lo + hi) / 2, some (.int (((lo : Int) + (hi : Int)) / 2)), some (.ref b), congrArg (fun z : Int => [some (V.ref l), some (V.int t), some (V.int lo), some (V.int z), some (V.int (((lo : Int) + (hi : Int)) / 2)), some (V.ref b)]) em, hm1, by omega, h3, fun i y hi' hy z => q (gd.bef hi' hxm hy z)⟩, ?_⟩
          show (((lo : Int) + (hi : Int)) / 2 - (lo : Int)).toNat < ((hi : Int) - (lo : Int)).toNat
          omega
      · rw [decide_eq_false (show ¬ (lo : Int) < (hi : Int) by omega)]
        have e : lo = hi := by omega
        subst e
        refine iteF ⟨_, rfl, ?_⟩
        rw [fnb_eq h2 h3 fun x hx' => h4 lo x (Nat.le_refl _) hx'] at k
        exact k
    · intro σ H Q Q' hq h
      obtain ⟨x, h1, y, h2, i, j, h3, h4, b, h5, h6⟩ := h
      exact ⟨x, h1, y, h2, i, j, h3, h4, b, h5, hq _ _ h6⟩
/-! ## height_at -/
noncomputable def sp_height_at (K : PySem.W.Frag) (C : Addr) : Sp := fun vs H Q _ => ∃ (a : Addr) (G : Gd) (t : Int), vs = [.ref a, .int t] ∧ GaugeAt K C H a G ∧ KGood G.kept ∧ Bt 200 (G.g : Int) ∧ Bt 200 t ∧ ∀ H', Same H H' → Q (oI ((hF G.g G.kept t).map nearF)) H'
theorem sc_height_at : FnScope ["gauge", "moment", "kept", "k", "behind", "before", "span"] ["gauge", "moment"] (defScope s_height_at) := ⟨rfl, rfl, rfl, by decide +kernel, rfl, by decide +kernel, by decide +kernel⟩
theorem ok_height_at {C f f1 f2 f3 f4 : Addr} {fd fd1 fd2 fd3 fd4 : FuncData} (F : Fun K "height_at" "height_at" s_height_at f fd) (T : ClsG K C) (M : Mg K mg)
    (G1 : FnOk P w K mg base CX0 1 f1 fd1 ["kept", "moment"] (sp_first_not_before K)) (m1 : mg "first_not_before" = some (.ref f1)) (k1 : PySem.W.keepIn K (.ref f1) = true) (b1 : Binds K fd1 ["kept", "moment"] [])
    (G2 : FnOk P w K mg base CX0 1 f2 fd2 ["fraction"] (sp_nearest K)) (m2 : mg "nearest" = some (.ref f2)) (k2 : PySem.W.keepIn K (.ref f2) = true) (b2 : Binds K fd2 ["fraction"] [])
    (G3 : FnOk P w K mg base CX0 1 f3 fd3 ["before", "behind"] (sp_time_span K)) (m3 : mg "time_span" = some (.ref f3)) (k3 : PySem.W.keepIn K (.ref f3) = true) (b3 : Binds K fd3 ["before", "behind"] [])
    (G4 : FnOk P w K mg base CX0 2 f4 fd4 ["before", "behind", "moment"] (sp_height_between K)) (m4 : mg "height_between" = some (.ref f4)) (k4 : PySem.W.keepIn K (.ref f4) = true) (b4 : Binds K fd4 ["before", "behind", "moment"] []) :
    FnOk P w K mg base CX0 3 f fd ["gauge", "moment"] (sp_height_at K C) := by
  have nd := sc_height_at.nd
  refine F.ok sc_height_at (fun vs H Q E h => ?_) (fun cdv A outer s H vs Q E hr h => ?_)
  · obtain ⟨a, G, t, rfl, _⟩ := h
    rfl
  · obtain ⟨ga, G, t, rfl, ⟨⟨dx, pl, wl, zl, kl, h1, h2, h3, h4, h5⟩, s1, s2, s3⟩, good, bg, bt, k⟩ := h
    have hr1 : Room 1 _ := hr.mono (by decide)
    obtain ⟨xs, hx, hlen, hat⟩ := id h5
    refine ⟨_, pss_cons (ps_set (i := 2) nd rfl (Or.inl rfl) (pe_fld (pv 0) rfl))
      (pss_cons (ps_set (i := 3) nd rfl (Or.inl rfl) (pe_call G1 hr1 rfl m1 k1 b1 .nil pass0 (pa_cons (pv 2) (pa_cons (pv 1) pa_nil))))
      (pss_cons (ps_if (pt_cmpR op_eq (pv 3) (pe_callB call_len_seq (by rfl) M.len PySem.boot_len (pa_cons (pv 2) pa_nil)) (nomark _)) (pss_one (ps_ret pe_non)) pss_nil)
      (pss_cons (ps_set (i := 4) nd rfl (Or.inl rfl) (pe_ix ix_list (pv 2) (pv 3) (fun _ _ => rfl)))
      (pss_cons (ps_if (pt_cmpR op_eq (pe_ix ix_tup (pe_ix ix_tup (pv 4) pe_int (fun _ _ => rfl)) pe_int (fun _ _ => rfl)) (pe_op op_mulZ (pv 1) (pe_ix ix_tup (pe_ix ix_tup (pv 4) pe_int (fun _ _ => rfl)) pe_int (fun _ _ => rfl))) (nomark _))
        (pss_one (ps_ret (pe_call G2 hr1 rfl m2 k2 b2 .nil pass0 (pa_cons (pe_ix ix_tup (pv 4) pe_int (fun _ _ => rfl)) pa_nil)))) pss_nil)
      (pss_cons (ps_if (pt_cmpR op_eq (pv 3) pe_int (nomark _)) (pss_one (ps_ret pe_non)) pss_nil)
      (pss_cons (ps_set (i := 5) nd rfl (Or.inl rfl) (pe_ix ix_list (pv 2) (pe_op op_sub (pv 3) pe_int) (fun _ _ => rfl)))
      (pss_cons (ps_set (i := 6) nd rfl (Or.inl rfl) (pe_call G3 hr1 rfl m3 k3 b3 .nil pass0 (pa_cons (pe_ix ix_tup (pv 5) pe_int (fun _ _ => rfl)) (pa_cons (pe_ix ix_tup (pv 4) pe_int (fun _ _ => rfl)) pa_nil))))
      (pss_cons (ps_if (pt_cmpR op_gt (pe_ix ix_tup (pv 6) pe_int (fun _ _ => rfl)) (pe_op op_mulZ (pe_fld (pv 0) rfl) (pe_ix ix_tup (pv 6) pe_int (fun _ _ => rfl))) (nomark _)) (pss_one (ps_ret pe_non)) pss_nil)
      (pss_one (ps_ret (pe_call G2 hr1 rfl m2 k2 b2 .nil pass0 (pa_cons (pe_call G4 hr rfl m4 k4 b4 .nil pass0 (pa_cons (pv 5) (pa_cons (pv 4) (pa_cons (pv 1) pa_nil)))) pa_nil)))))))))))), ?_⟩
    refine ⟨_, rfl, ga, C, dx, _, _, rfl, h1, T.cl, T.n6, rfl, ?_⟩
    refine ⟨_, rfl, _, rfl, kl, G.kept, t, rfl, h5, good, bt, ?_⟩
    refine ⟨_, rfl, _, rfl, kl, xs, rfl, .inl hx, rfl, _, rfl, ?_⟩
    unfold hF at k
    have hfl : fnb G.kept t ≤ G.kept.length := List.findIdx_le_length
    have hbe : ∀ (i : Nat) (x : Kp), i < fnb G.kept t → G.kept[i]? = some x → befT t x := fun i x hi hx' => by
      have z := List.not_of_lt_findIdx hi
      obtain ⟨hi2, e⟩ := List.getElem?_eq_some_iff.mp hx'
      rw [e] at z
      unfold befT
      simpa using z
    have hnb := fun x => fnb_not (ks := G.kept) (t := t) (x := x)
    generalize fnb G.kept t = n at *
    by_cases en : n = G.kept.length
    · rw [dec_vt (by rw [hlen, en])]
      rw [List.getElem?_eq_none (by omega)] at k
      exact iteT (k _ (Same.refl _))
    · rw [dec_vi (by rw [hlen]; omega)]
      obtain ⟨y, hy⟩ : ∃ y, G.kept[n]? = some y := ⟨_, List.getElem?_eq_getElem (by omega)⟩
      obtain ⟨ay, hay, yt, yh, ty1, ty2, ty3⟩ := hat n y hy
      have oy := good.ok y (List.mem_of_getElem? hy)
      have ny := hnb y hy
      unfold befT at ny
      rw [hy] at k
      refine iteF ⟨_, rfl, _, rfl, kl, _, _, _, rfl, rfl, hx, atI_nat hay, ?_⟩
      refine ⟨_, rfl, ay, _, _, _, rfl, rfl, ty1, at0, yt, _, _, _, rfl, rfl, ty2, at0, _, rfl, _, rfl, ay, _, _, _, rfl, rfl, ty1, at0, yt, _, _, _, rfl, rfl, ty2, at1, _, _, rfl, rfl, bt.cm oy.b2, rfl, _, rfl, ?_⟩
      dsimp only at k
      by_cases ee : y.1.1 = t * y.1.2
      · rw [if_pos ee] at k
        rw [dec_vt ee]
        exact iteT ⟨_, rfl, ay, _, _, _, rfl, rfl, ty1, at1, yh, y.2, rfl, ty3, oy.b3.mono (by decide), oy.b4.mono (by decide), oy.p2, k _ (Same.refl _)⟩
      · rw [if_neg ee] at k
        rw [dec_vi ee]
        refine iteF ⟨_, rfl, rfl, _, rfl, ?_⟩
        by_cases e0 : n = 0
        · rw [if_pos e0] at k
          rw [dec_vt (by omega)]
          exact iteT (k _ (Same.refl _))
        · rw [if_neg e0] at k
          rw [dec_vi (by omega)]
          obtain ⟨x, hx'⟩ : ∃ x, G.kept[n - 1]? = some x := ⟨_, List.getElem?_eq_getElem (by omega)⟩
          obtain ⟨ax, hax, xt, xh, tx1, tx2, tx3⟩ := hat (n - 1) x hx'
          have ox := good.ok x (List.mem_of_getElem? hx')
          have bx := hbe (n - 1) x (by omega) hx'
          rw [hx'] at k
          dsimp only at k
          have sb := bt_span ox.b1 ox.b2 oy.b1 oy.b2
          refine iteF ⟨_, rfl, _, rfl, _, _, rfl, rfl, kl, _, _, _, rfl, rfl, hx, at_of (j := n - 1) (by omega) hax, ?_⟩
          refine ⟨_, rfl, ax, _, _, _, rfl, rfl, tx1, at0, _, rfl, ay, _, _, _, rfl, rfl, ty1, at0, xt, yt, x.1, y.1, rfl, tx2, ty2, ox.b1, ox.b2, oy.b1, oy.b2, fun H1 sp e1 n1 hsp => ?_⟩
          have hsp : SqT K H1 sp [.int (spanF x.1 y.1).1, .int (spanF x.1 y.1).2] := SqT.of hsp
          refine ⟨_, rfl, sp, _, _, _, rfl, rfl, hsp, at0, _, rfl, ga, C, dx, _, _, rfl, e1 _ _ h1, T.cl, T.n2, rfl, _, rfl, sp, _, _, _, rfl, rfl, hsp, at1, _, _, rfl, rfl, bg.cm sb.2, _, _, rfl, rfl, _, rfl, ?_⟩
          refine ite2 (fun q => ?_) (fun q => ?_)
          · have q : (G.g : Int) * (spanF x.1 y.1).2 < (spanF x.1 y.1).1 := of_decide_eq_true q
            rw [if_pos q] at k
            exact k _ e1
          · have q : ¬ (G.g : Int) * (spanF x.1 y.1).2 < (spanF x.1 y.1).1 := fun z => q (decide_eq_true z)
            rw [if_neg q] at k
            have hb := bt_hb ox oy bt
            refine ⟨_, rfl, _, rfl, _, rfl, ax, ay, x, y, t, rfl, KpAt.same ⟨xt, xh, tx1, tx2, tx3⟩ e1, KpAt.same ⟨yt, yh, ty1, ty2, ty3⟩ e1, ox, oy, bt, fun H2 p e2 n2 hp => ?_⟩
            exact ⟨p, hbF x y t, rfl, SqT.of hp, hb.1.mono (by decide), hb.2.mono (by decide), hb_pos ox oy bx (by omega), k _ (e1.trans e2)⟩
/-! ## answer_at -/
noncomputable def atF (o : Option Int) : List Int := match o with
  | none => [0]
  | some h => [1, h]
noncomputable def sp_answer_at (K : PySem.W.Frag) (C : Addr) : Sp := fun vs H Q _ => ∃ (a : Addr) (G : Gd) (t : Int), vs = [.ref a, .int t] ∧ GaugeAt K C H a G ∧ KGood G.kept ∧ Bt 200 (G.g : Int) ∧ RetL H Q (if timelyP t then atF ((hF G.g G.kept t).map nearF) else [-1])
theorem sc_answer_at : FnScope ["gauge", "moment", "height"] ["gauge", "moment"] (defScope s_answer_at) := ⟨rfl, rfl, rfl, by decide +kernel, rfl, by decide +kernel, by decide +kernel⟩
theorem bt_time {t : Int} (h : timelyP t) : Bt 200 t := by
  unfold timelyP at h
  unfold Bt
  omega
theorem ok_answer_at {C f f1 f2 : Addr} {fd fd1 fd2 : FuncData} (F : Fun K "answer_at" "answer_at" s_answer_at f fd)
    (G1 : FnOk P w K mg base CX0 1 f1 fd1 ["number"] sp_is_time) (m1 : mg "is_time" = some (.ref f1)) (k1 : PySem.W.keepIn K (.ref f1) = true) (b1 : Binds K fd1 ["number"] [])
    (G2 : FnOk P w K mg base CX0 3 f2 fd2 ["gauge", "moment"] (sp_height_at K C)) (m2 : mg "height_at" = some (.ref f2)) (k2 : PySem.W.keepIn K (.ref f2) = true) (b2 : Binds K fd2 ["gauge", "moment"] []) :
    FnOk P w K mg base CX0 4 f fd ["gauge", "moment"] (sp_answer_at K C) := by
  have nd := sc_answer_at.nd
  refine F.ok sc_answer_at (fun vs H Q E h => ?_) (fun cdv A outer s H vs Q E hr h => ?_)
  · obtain ⟨a, G, c, rfl, _⟩ := h
    rfl
  · obtain ⟨a, G, t, rfl, hG, good, bg, k⟩ := h
    refine ⟨_, pss_cons (ps_if (pt_not (pt_val (pe_call G1 (hr.mono (by decide)) rfl m1 k1 b1 .nil pass0 (pa_cons (pv 1) pa_nil)))) (pss_one (ps_ret (pe_lst (pa_cons (pe_un un_neg pe_int) pa_nil)))) pss_nil)
      (pss_cons (ps_set (i := 2) nd rfl (Or.inl rfl) (pe_call G2 hr rfl m2 k2 b2 .nil pass0 (pa_cons (pv 0) (pa_cons (pv 1) pa_nil))))
      (pss_cons (ps_if (pt_cmpR op_isN (pv 2) pe_non (nomark _)) (pss_one (ps_ret (pe_lst (pa_cons pe_int pa_nil)))) pss_nil)
      (pss_one (ps_ret (pe_lst (pa_cons pe_int (pa_cons (pv 2) pa_nil))))))), ?_⟩
    refine ⟨_, rfl, t, rfl, _, rfl, ?_⟩
    by_cases ht : timelyP t
    · rw [if_pos ht] at k
      have ht' : -68719476736 ≤ t ∧ t ≤ 68719476736 := ht
      rw [decide_eq_true ht']
      refine iteF ⟨_, rfl, _, rfl, a, G, t, rfl, hG, good, bg, bt_time ht, fun H1 s1 => ?_⟩
      refine ⟨_, rfl, rfl, _, rfl, ?_⟩
      cases e : (hF G.g G.kept t).map nearF with
      | none =>
        rw [e] at k
        exact iteT ⟨(by show 1 ≤ sizeLine; decide), fun p hp => RetL.here (k.after s1) hp⟩
      | some h =>
        rw [e] at k
        exact iteF ⟨_, rfl, (by show 2 ≤ sizeLine; decide), fun p hp => RetL.here (k.after s1) hp⟩
    · rw [if_neg ht] at k
      rw [decide_eq_false (show ¬ (-68719476736 ≤ t ∧ t ≤ 68719476736) from ht)]
      exact iteT ⟨_, rfl, (by show 1 ≤ sizeLine; decide), fun p hp => RetL.here k hp⟩
end
end Gc
end
section
set_option Elab.async false
set_option linter.all false
set_option bootstrap.genMatcherCode false
set_option genSizeOf false
set_option maxRecDepth 100000
set_option maxHeartbeats 2000000
namespace Gc
open PySem PySem.Spec PyProof.Rows L2
/-! ## rows told -/
noncomputable def rowsOf (hs : List (Option Int)) : List Int := hs.flatMap fun o => (o.toList.length : Int) :: o.toList
noncomputable def thereOf (hs : List (Option Int)) : Nat := (hs.filter Option.isSome).length
noncomputable def rowsF (hs : List (Option Int)) : List Int := (thereOf hs : Int) :: (hs.length : Int) :: rowsOf hs
theorem rowsOf_len : ∀ hs : List (Option Int), (rowsOf hs).length ≤ 2 * hs.length
  | [] => Nat.le_refl _
  | o :: hs => by
    have ih := rowsOf_len hs
    have e : rowsOf (o :: hs) = ((o.toList.length : Int) :: o.toList) ++ rowsOf hs := List.flatMap_cons
    rw [e, List.length_append, List.length_cons, List.length_cons]
    have : o.toList.length ≤ 1 := by cases o <;> simp
    omega
theorem rowsOf_snoc (hs : List (Option Int)) (o : Option Int) : rowsOf (hs ++ [o]) = rowsOf hs ++ ((o.toList.length : Int) :: o.toList) := by
  unfold rowsOf
  rw [List.flatMap_append, List.flatMap_cons, List.flatMap_nil, List.append_nil]
theorem thereOf_snoc (hs : List (Option Int)) (o : Option Int) : thereOf (hs ++ [o]) = thereOf hs + (if o.isSome = true then 1 else 0) := by
  unfold thereOf
  rw [List.filter_append, List.length_append]
  cases o <;> rfl
theorem takeo_succ {hs : List (Option Int)} {i : Nat} {z : Option Int} (h : hs[i]? = some z) : hs.take (i + 1) = hs.take i ++ [z] := by
  obtain ⟨hi, e⟩ := List.getElem?_eq_some_iff.mp h
  rw [← e, List.take_succ_eq_append_getElem hi]
theorem mapo_at {r : List (Option Int)} {i : Nat} {x : V} (h : (r.map oI)[i]? = some x) : ∃ z, r[i]? = some z ∧ x = oI z := by
  rw [List.getElem?_map] at h
  cases e : r[i]? with
  | none => rw [e] at h; cases h
  | some z => rw [e] at h; exact ⟨z, rfl, (Option.some.inj h).symm⟩
noncomputable def compArg (s : Stmt) : Scope := match s with
  | .Return (some (.Call _ (.ListComp _ _ sc _ :: _) _ _)) _ => sc
  | _ => { kind := .function, names := [], isGenerator := false, isCoroutine := false }
section
variable {P : Program} {w : World} {K : PySem.W.Frag} {mg : Str → Option Value} {base : Heap}
/-! ## rows_answer -/
noncomputable def sp_rows_answer (K : PySem.W.Frag) : Sp := fun vs H Q _ => ∃ (l : Addr) (hs : List (Option Int)), vs = [.ref l] ∧ SqL K H l (hs.map oI) ∧ hs.length ≤ 1000 ∧ RetL H Q (rowsF hs)
theorem sc_rows_answer : FnScope ["heights", "there", "rows", "height"] ["heights"] (defScope s_rows_answer) := ⟨rfl, rfl, rfl, by decide +kernel, rfl, by decide +kernel, by decide +kernel⟩
theorem ok_rows_answer {f : Addr} {fd : FuncData} (F : Fun K "rows_answer" "rows_answer" s_rows_answer f fd) (M : Mg K mg) : FnOk P w K mg base CX0 1 f fd ["heights"] (sp_rows_answer K) := by
  have nd := sc_rows_answer.nd
  refine F.ok sc_rows_answer (fun vs H Q E h => ?_) (fun cdv A outer s H vs Q E hr h => ?_)
  · obtain ⟨l, hs, rfl, _⟩ := h
    rfl
  · obtain ⟨l, hs, rfl, hl, hn, k⟩ := h
    refine ⟨_, pss_cons (ps_set (i := 1) nd rfl (Or.inl rfl) pe_int)
      (pss_cons (ps_set (i := 2) nd rfl (Or.inl rfl) (pe_lst pa_nil))
      (pss_cons (ps_for PassesOwn.never rfl (pi_list (pv 0)) (pg_name (i := 3) nd rfl (Or.inl rfl))
        (pss_one (ps_if (pt_cmpR op_isN (pv 3) pe_non (nomark _))
          (pss_one (ps_expr (pe_bm PySem.F.plainAttrs_list PySem.F.slot_list_append PySem.F.type_list_append mt_append (pv 2) (pa_cons pe_int pa_nil))))
          (pss_cons (ps_aug (i := 1) nd rfl (Or.inl rfl) pe_int ip_add)
          (pss_one (ps_expr (pe_bm PySem.F.plainAttrs_list PySem.F.slot_list_extend PySem.F.type_list_extend mt_extend (pv 2) (pa_cons (pe_lst (pa_cons pe_int (pa_cons (pv 3) pa_nil))) pa_nil))))))))
      (pss_one (ps_ret (pe_op op_cat (pe_lst (pa_cons (pv 1) (pa_cons (pe_callB call_len_seq (by rfl) M.len PySem.boot_len (pa_cons (pv 0) pa_nil)) pa_nil))) (pv 2)))))), ?_⟩
    refine ⟨Nat.zero_le _, fun D hD => ?_⟩
    have s0 := same_new (o := .lst []) hD
    refine ⟨_, rfl, l, rfl, ⟨_, s0.seq hl⟩, for_list (xs := hs.map oI) (fun i σ H' => Same H H' ∧ (∃ u, σ = [some (.ref l), some (.int (thereOf (hs.take i) : Nat)), some (.ref D), u]) ∧ H' D = some (.lst ((rowsOf (hs.take i)).map V.int)))
      ⟨s0, ⟨_, rfl⟩, upd_same⟩ (fun i σ H' _ h => h.1.seq hl) ?_ ?_⟩
    · rintro i x σ H' hxi ⟨sm, ⟨u, rfl⟩, hL⟩
      obtain ⟨o, ho, rfl⟩ := mapo_at hxi
      have hi : i < hs.length := (List.getElem?_eq_some_iff.mp ho).1
      have et := takeo_succ ho
      have e1 := rowsOf_snoc (hs.take i) o
      have e2 := thereOf_snoc (hs.take i) o
      rw [← et] at e1 e2
      have len := rowsOf_len (hs.take i)
      rw [List.length_take, Nat.min_eq_left (by omega)] at len
      refine ⟨_, rfl, rfl, _, rfl, ?_⟩
      cases o with
      | none =>
        refine iteT ⟨_, rfl, .inl ⟨rfl, _, SqL.of hL⟩, D, _, _, rfl, rfl, hL, ?_, same_upd hD sm, ⟨some .non, ?_⟩, ?_⟩
        · rw [List.length_map, sizeLine_eq]
          omega
        · rw [e2]
          rfl
        · rw [upd_same, e1, List.map_append]
          rfl
      | some z =>
        refine iteF ⟨_, rfl, _, _, rfl, rfl, _, rfl, .inl ⟨rfl, _, SqL.of hL⟩, _, rfl, (by show 2 ≤ sizeLine; decide), fun b hb => ?_⟩
        have s1 := same_new (o := .lst [.int 1, .int z]) hb
        refine ⟨D, b, _, _, rfl, rfl, s1 _ _ hL, upd_same, ?_, same_upd hD (sm.trans s1), ⟨some (.int z), ?_⟩, ?_⟩
        · rw [List.length_map, sizeLine_eq]
          show (rowsOf (hs.take i)).length + 2 ≤ _
          omega
        · rw [e2]
          rfl
        · rw [upd_same, e1, List.map_append]
          rfl
    · rintro σ H' ⟨sm, ⟨u, rfl⟩, hL⟩
      rw [List.length_map, List.take_length] at hL ⊢
      have len := rowsOf_len hs
      refine ⟨_, rfl, _, rfl, l, _, rfl, .inl (sm.seq hl), (by show 2 ≤ sizeLine; decide), fun p hp => ?_⟩
      have hp' : p ≠ D := fun e => by rw [e, hL] at hp; cases hp
      refine ⟨_, rfl, p, D, _, _, rfl, rfl, upd_same, by rw [upd_ne (Ne.symm hp')]; exact hL, ?_, fun q hq => ?_⟩
      · show 2 + ((rowsOf hs).map V.int).length ≤ sizeLine
        rw [List.length_map, sizeLine_eq]
        omega
      · refine k _ q (sm.trans ((same_new hp).trans (same_new hq))) ((sm.trans (same_new hp)).free hq) ?_
        rw [upd_same, List.length_map]
        rfl
/-! ## answer_row -/
theorem bt_one' (n : Nat) (h : 0 < n := by decide) : Bt n 1 := by
  unfold Bt
  show 1 < 2 ^ n
  exact Nat.one_lt_two_pow (by omega)
noncomputable def rowBad (t : Int) (p k : Nat) : Prop := 256 < k ∨ p = 0 ∨ ¬ timelyP t ∨ (0 < k ∧ ¬ timelyP (t + ((k : Int) - 1) * (p : Int)))
noncomputable instance (t : Int) (p k : Nat) : Decidable (rowBad t p k) := inferInstanceAs (Decidable (_ ∨ _))
noncomputable def rowHs (G : Gd) (t : Int) (p k : Nat) : List (Option Int) := (List.range k).map fun (i : Nat) => (hF G.g G.kept (t + (i : Int) * (p : Int))).map nearF
theorem rowHs_succ (G : Gd) (t : Int) (p k : Nat) : rowHs G t p (k + 1) = rowHs G t p k ++ [(hF G.g G.kept (t + (k : Int) * (p : Int))).map nearF] := by
  unfold rowHs
  rw [List.range_succ, List.map_append]
  rfl
theorem rowHs_len (G : Gd) (t : Int) (p k : Nat) : (rowHs G t p k).length = k := by simp [rowHs]
noncomputable def sp_answer_row (K : PySem.W.Frag) (C : Addr) : Sp := fun vs H Q _ => ∃ (a : Addr) (G : Gd) (t : Int) (p k : Nat), vs = [.ref a, .int t, .int p, .int k] ∧ GaugeAt K C H a G ∧ KGood G.kept ∧ Bt 200 (G.g : Int) ∧ Bt 90 t ∧ Bt 90 (p : Int) ∧ Bt 90 (k : Int) ∧
  RetL H Q (if rowBad t p k then [-1] else rowsF (rowHs G t p k))
theorem sc_answer_row : FnScope ["gauge", "start", "step", "count", "k"] ["gauge", "start", "step", "count"] (defScope s_answer_row) := ⟨rfl, rfl, rfl, by decide +kernel, rfl, by decide +kernel, by decide +kernel⟩
theorem blk_answer_row : BlkOk ["gauge", "start", "step", "count", "k"] (defScope s_answer_row) (compArg (bodyAt s_answer_row 2)) [("k", 4)] := ⟨rfl, by decide +kernel, by decide +kernel, by decide +kernel, by decide +kernel⟩
theorem ok_answer_row {C f f1 f2 f3 : Addr} {fd fd1 fd2 fd3 : FuncData} (F : Fun K "answer_row" "answer_row" s_answer_row f fd) (M : Mg K mg)
    (G1 : FnOk P w K mg base CX0 1 f1 fd1 ["number"] sp_is_time) (m1 : mg "is_time" = some (.ref f1)) (k1 : PySem.W.keepIn K (.ref f1) = true) (b1 : Binds K fd1 ["number"] [])
    (G2 : FnOk P w K mg base CX0 3 f2 fd2 ["gauge", "moment"] (sp_height_at K C)) (m2 : mg "height_at" = some (.ref f2)) (k2 : PySem.W.keepIn K (.ref f2) = true) (b2 : Binds K fd2 ["gauge", "moment"] [])
    (G3 : FnOk P w K mg base CX0 1 f3 fd3 ["heights"] (sp_rows_answer K)) (m3 : mg "rows_answer" = some (.ref f3)) (k3 : PySem.W.keepIn K (.ref f3) = true) (b3 : Binds K fd3 ["heights"] []) :
    FnOk P w K mg base CX0 4 f fd ["gauge", "start", "step", "count"] (sp_answer_row K C) := by
  have nd := sc_answer_row.nd
  obtain ⟨u1, mh⟩ := M.mh
  refine F.ok sc_answer_row (fun vs H Q E h => ?_) (fun cdv A outer s H vs Q E hr h => ?_)
  · obtain ⟨a, G, t, p, k, rfl, _⟩ := h
    rfl
  · obtain ⟨a, G, t, p, n, rfl, hG, good, bg, bt, bp, bn, k⟩ := h
    have hr1 : Room 1 _ := hr.mono (by decide)
    refine ⟨_, pss_cons (ps_if (PW.pt (pw_or (pt_cmpR op_gt (pv 3) (pe_gi rfl mh) (nomark _)) (pw_or (pt_cmpR op_eq (pv 2) pe_int (nomark _)) (pw_or1 (pt_not (pt_val (pe_call G1 hr1 rfl m1 k1 b1 .nil pass0 (pa_cons (pv 1) pa_nil)))))))) (pss_one (ps_ret (pe_lst (pa_cons (pe_un un_neg pe_int) pa_nil)))) pss_nil)
      (pss_cons (ps_if (PW.pt (pw_and (pt_cmpR op_gt (pv 3) pe_int (nomark _)) (pw_and1 (pt_not (pt_val (pe_call G1 hr1 rfl m1 k1 b1 .nil pass0 (pa_cons (pe_op op_add (pv 1) (pe_op op_mulZ (pe_op op_sub (pv 3) pe_int) (pv 2))) pa_nil))))))) (pss_one (ps_ret (pe_lst (pa_cons (pe_un un_neg pe_int) pa_nil)))) pss_nil)
      (pss_one (ps_ret (pe_call G3 hr1 rfl m3 k3 b3 .nil pass0 (pa_cons (pe_lc (own := [("k", 4)]) rfl nd (pi_range1 rfl M.range (pa_cons (pv 3) pa_nil)) blk_answer_row
        (fun s H C cl fp => pg_name (i := 4) nd rfl (Or.inl rfl)) (fun s H C cl fp => pts_nil)
        (fun s H C cl fp => pe_call G2 hr rfl m2 k2 b2 .nil pass0 (pa_cons (pv 0) (pa_cons (pe_op op_add (pv 1) (pe_op op_mulZ (pv 4) (pv 2))) pa_nil)))) pa_nil))))), ?_⟩
    have bad : rowBad t p n → tRet (tLst (tCons (tUn (rU fun i => .int (-i)) (tC (.int 1))) tNil)) { nx := fun _ H' => Q .non H', rt := Q } [some (.ref a), some (.int t), some (.int p), some (.int n), none] H := fun hb => by
      rw [if_pos hb] at k
      exact ⟨_, rfl, (by show 1 ≤ sizeLine; decide), fun p hp => RetL.here k hp⟩
    refine ⟨_, rfl, _, _, rfl, rfl, _, rfl, ?_⟩
    refine ite2 (fun q1 => ?_) (fun q1 => ?_)
    · have q1 : (256 : Int) < n := of_decide_eq_true q1
      exact iteT (bad (.inl (by omega)))
    have q1 : ¬ (256 : Int) < n := fun z => q1 (decide_eq_true z)
    refine ⟨_, rfl, rfl, _, rfl, ?_⟩
    by_cases p0 : p = 0
    · rw [dec_vt (by omega)]
      exact iteT (iteT (bad (.inr (.inl p0))))
    rw [dec_vi (by omega)]
    refine iteF ⟨_, rfl, t, rfl, _, rfl, ?_⟩
    by_cases ht : timelyP t
    · have ht' : -68719476736 ≤ t ∧ t ≤ 68719476736 := ht
      rw [decide_eq_true ht']
      have bts : Bt 91 ((n : Int) - 1) := bn.sub (bt_one' 90)
      have fin : ¬ rowBad t p n → tRet (tCall (sp_rows_answer K) [] E (tCons (tLc (iRng1 (tCons (tVar 3) tNil)) (gName 4) tYes (tCall (sp_height_at K C) [] E (tCons (tVar 0) (tCons (tOp (rI0 fun i j => .int (i + j)) (tVar 1) (tOp (rI CMulZ fun i j => .int (i * j)) (tVar 4) (tVar 2))) tNil))) [4]) tNil))
          { nx := fun _ H' => Q .non H', rt := Q } [some (.ref a), some (.int t), some (.int p), some (.int n), none] H := fun hb => by
        rw [if_neg hb] at k
        refine ⟨_, rfl, (n : Int), rfl, by omega, by omega, fun D hD => ?_⟩
        refine lc_rng (fun i H' => Same H H' ∧ H' D = some (.lst ((rowHs G t p i).map oI))) ⟨same_new hD, upd_same⟩ ?_ ?_
        · rintro i H' hi ⟨sm, hL⟩
          have hi' : i < n := by omega
          have bi : Bt 90 (i : Int) := by
            unfold Bt at bn ⊢
            omega
          have bi0 : Bt 90 (0 + (i : Int)) := by
            rw [Int.zero_add]
            exact bi
          refine ⟨rfl, _, rfl, _, rfl, _, rfl, _, rfl, _, _, rfl, rfl, bi0.cm bp, _, _, rfl, rfl, a, G, _, rfl, hG.same sm, good, bg, ((bt.mono (by decide)).add (bi0.mul bp)).mono (by decide), fun H1 s1 => ?_⟩
          refine ⟨_, s1 _ _ hL, ?_, same_upd hD (sm.trans s1), ?_⟩
          · rw [List.length_map, rowHs_len, sizeLine_eq]
            omega
          · rw [upd_same, rowHs_succ, List.map_append, Int.zero_add]
            rfl
        · rintro H' ⟨sm, hL⟩
          have e0 : ((n : Int)).toNat = n := by omega
          rw [e0] at hL
          refine ⟨D, _, rfl, SqL.of hL, ?_, k.after sm⟩
          rw [rowHs_len]
          omega
      refine iteF ⟨_, rfl, _, _, rfl, rfl, _, rfl, ?_⟩
      by_cases n0 : n = 0
      · subst n0
        refine iteF (iteF (fin ?_))
        rintro (z | z | z | z)
        · omega
        · exact p0 z
        · exact z ht
        · exact absurd z.1 (by decide)
      · rw [decide_eq_true (show (0 : Int) < (n : Int) by omega)]
        refine iteT ⟨_, rfl, _, rfl, _, _, rfl, rfl, _, rfl, _, _, rfl, rfl, bts.cm bp, _, _, rfl, rfl, _, rfl, _, rfl, ?_⟩
        by_cases hz : timelyP (t + ((n : Int) - 1) * (p : Int))
        · rw [decide_eq_true (show -68719476736 ≤ t + ((n : Int) - 1) * (p : Int) ∧ t + ((n : Int) - 1) * (p : Int) ≤ 68719476736 from hz)]
          refine iteF (fin ?_)
          rintro (z | z | z | z)
          · omega
          · exact p0 z
          · exact z ht
          · exact z.2 hz
        · rw [decide_eq_false (show ¬ (-68719476736 ≤ t + ((n : Int) - 1) * (p : Int) ∧ t + ((n : Int) - 1) * (p : Int) ≤ 68719476736) from hz)]
          exact iteT (bad (.inr (.inr (.inr ⟨by omega, hz⟩))))
    · rw [decide_eq_false (show ¬ (-68719476736 ≤ t ∧ t ≤ 68719476736) from ht)]
      exact iteT (bad (.inr (.inr (.inl ht))))
end
end Gc
end
section
set_option Elab.async false
set_option linter.all false
set_option bootstrap.genMatcherCode false
set_option genSizeOf false
set_option maxRecDepth 100000
set_option maxHeartbeats 2000000
namespace Gc
open PySem PySem.Spec PyProof.Rows L2
theorem boot_abs' : bootBuiltins "abs" = some (.builtin "abs") := by decide +kernel
theorem boot_max' : bootBuiltins "max" = some (.builtin "max") := by decide +kernel
/-! ## sums that may not be there -/
noncomputable abbrev Om := Option (Int × Int)
noncomputable def oadd : Om → Om → Om
  | some a, some b => some (a.1 + b.1, a.2 + b.2)
  | _, _ => none
noncomputable def oz : Om := some (0, 0)
theorem oadd_comm : ∀ a b : Om, oadd a b = oadd b a
  | none, none => rfl
  | none, some _ => rfl
  | some _, none => rfl
  | some a, some b => by show some (a.1 + b.1, a.2 + b.2) = some (b.1 + a.1, b.2 + a.2); rw [Int.add_comm a.1, Int.add_comm a.2]
theorem oadd_assoc : ∀ a b c : Om, oadd (oadd a b) c = oadd a (oadd b c)
  | none, none, none => rfl
  | none, none, some _ => rfl
  | none, some _, none => rfl
  | none, some _, some _ => rfl
  | some _, none, none => rfl
  | some _, none, some _ => rfl
  | some _, some _, none => rfl
  | some a, some b, some c => by show some (a.1 + b.1 + c.1, a.2 + b.2 + c.2) = some (a.1 + (b.1 + c.1), a.2 + (b.2 + c.2)); rw [Int.add_assoc, Int.add_assoc]
theorem oadd_zl : ∀ a : Om, oadd oz a = a
  | none => rfl
  | some a => by show some (0 + a.1, 0 + a.2) = some a; rw [Int.zero_add, Int.zero_add]
theorem oadd_zr (a : Om) : oadd a oz = a := by rw [oadd_comm, oadd_zl]
theorem oadd_none (a : Om) : oadd a none = none := by cases a <;> rfl
noncomputable def fsum (f : Nat → Om) : Nat → Om
  | 0 => oz
  | n + 1 => oadd (fsum f n) (f n)
theorem fsum_none {f : Nat → Om} {j : Nat} : ∀ {n : Nat}, j ≤ n → fsum f j = none → fsum f n = none
  | 0, h, e => by
    have : j = 0 := by omega
    subst this
    exact e
  | n + 1, h, e => by
    by_cases hj : j = n + 1
    · subst hj
      exact e
    · have ih := fsum_none (n := n) (by omega) e
      show oadd (fsum f n) (f n) = none
      rw [ih]
      rfl
/-! ## smoothing, as the program does it -/
noncomputable def hadP (hs : List (Int × Int)) (z : Int) : Option Int := if z < 0 then none else match hs[z.toNat]? with
  | none => none
  | some p => if p.1 = 0 then none else some p.2
noncomputable def termF (hs : List (Int × Int)) (ws : List Int) (i : Nat) (sh : Int) : Om := if ws.getD sh.natAbs 0 = 0 then oz else (hadP hs ((i : Int) + sh)).map fun h => (ws.getD sh.natAbs 0 * h, ws.getD sh.natAbs 0)
noncomputable def smF (hs : List (Int × Int)) (ws : List Int) (i : Nat) : Om := fsum (fun (j : Nat) => termF hs ws i ((j : Int) - ((ws.length - 1 : Nat) : Int))) (2 * (ws.length - 1) + 1)
noncomputable def formB (p : Int × Int) : Bool := if p.1 = 1 then decide (-4000000 ≤ p.2 ∧ p.2 ≤ 4000000) else (decide (p.1 = 0) && decide (p.2 = 0))
section
variable {P : Program} {w : World} {K : PySem.W.Frag} {mg : Str → Option Value} {base : Heap}
/-! ## is_height_in_form -/
noncomputable def sp_is_height_in_form (K : PySem.W.Frag) : Sp := fun vs H Q _ => ∃ (a : Addr) (p : Int × Int), vs = [.ref a] ∧ SqT K H a [.int p.1, .int p.2] ∧ ∀ H', Same H H' → Q (.bl (formB p)) H'
theorem sc_is_height_in_form : FnScope ["height"] ["height"] (defScope s_is_height_in_form) := ⟨rfl, rfl, rfl, by decide +kernel, rfl, by decide +kernel, by decide +kernel⟩
theorem ok_is_height_in_form {f : Addr} {fd : FuncData} (F : Fun K "is_height_in_form" "is_height_in_form" s_is_height_in_form f fd) (M : Mg K mg) : FnOk P w K mg base CX0 1 f fd ["height"] (sp_is_height_in_form K) := by
  obtain ⟨u, sb⟩ := M.sb
  refine F.ok sc_is_height_in_form (fun vs H Q E h => ?_) (fun cdv A outer s H vs Q E hr h => ?_)
  · obtain ⟨a, p, rfl, _⟩ := h
    rfl
  · obtain ⟨a, p, rfl, ht, k⟩ := h
    refine ⟨_, pss_cons (ps_if (pt_cmpR op_eq (pe_ix ix_tup (pv 0) pe_int (fun _ _ => rfl)) pe_int (nomark _)) (pss_one (ps_ret (pe_chain op_le op_le (pe_un un_neg (pe_gi rfl sb)) (pe_ix ix_tup (pv 0) pe_int (fun _ _ => rfl)) (pe_gi rfl sb)))) pss_nil)
      (pss_one (ps_ret (pe_cmpR (op_eqD hr.units) (pv 0) (pe_tup (pa_cons pe_int (pa_cons pe_int pa_nil))) (nomark _)))), ?_⟩
    refine ⟨_, rfl, a, _, _, _, rfl, rfl, ht, at0, rfl, _, rfl, ?_⟩
    unfold formB at k
    by_cases e : p.1 = 1
    · rw [dec_vt e]
      rw [if_pos e] at k
      refine iteT ⟨_, rfl, _, rfl, a, _, _, _, rfl, rfl, ht, at1, _, _, rfl, rfl, _, rfl, ?_⟩
      by_cases h1 : -4000000 ≤ p.2
      · rw [decide_eq_true h1]
        refine iteT ⟨_, _, rfl, rfl, ?_⟩
        have e2 : decide (p.2 ≤ 4000000) = decide (-4000000 ≤ p.2 ∧ p.2 ≤ 4000000) := by simp [h1]
        show Q (.bl (decide (p.2 ≤ 4000000))) H
        rw [e2]
        exact k _ (Same.refl _)
      · rw [decide_eq_false h1]
        rw [decide_eq_false (fun z => h1 z.1)] at k
        exact iteF (k _ (Same.refl _))
    · rw [dec_vi e]
      rw [if_neg e] at k
      refine iteF ⟨_, rfl, (by show 2 ≤ sizeLine; decide), fun q hq => ?_⟩
      have s1 := same_new (o := .tup [.int 0, .int 0]) hq
      refine ⟨.tuple [.int p.1, .int p.2], .tuple [.int 0, .int 0], .tup (same_tup s1 ht) (.cons (.int _) (.cons (.int _) .nil)), .tup (SqT.of upd_same) (.cons (.int _) (.cons (.int _) .nil)), rfl, rfl, ?_⟩
      have e3 : PyData.eqv (.tuple [.int p.1, .int p.2]) (.tuple [.int 0, .int 0]) = (decide (p.1 = 0) && decide (p.2 = 0)) := by
        simp only [PyData.eqv, PyData.eqvAll, Bool.and_true]
        rfl
      rw [e3]
      exact k _ s1
/-! ## smoothed -/
noncomputable def sp_smoothed (K : PySem.W.Frag) : Sp := fun vs H Q _ => ∃ (hl wl : Addr) (hs : List (Int × Int)) (ws : List Int) (i : Nat), vs = [.ref hl, .ref wl, .int i] ∧ PairsAt K H hl hs ∧ SqL K H wl (ws.map V.int) ∧ (∀ x ∈ ws, 0 ≤ x ∧ x ≤ 65536) ∧ (∃ x ∈ ws, x ≠ 0) ∧ ws.length ≤ 32 ∧ hs.length ≤ 256 ∧
  (∀ p ∈ hs, -4000000 ≤ p.2 ∧ p.2 ≤ 4000000) ∧ i < hs.length ∧ ∀ H', Same H H' → Q (oI ((smF hs ws i).map nearF)) H'
theorem sc_smoothed : FnScope ["heights", "weights", "place", "top", "bottom", "shift", "weight", "other"] ["heights", "weights", "place"] (defScope s_smoothed) := ⟨rfl, rfl, rfl, by decide +kernel, rfl, by decide +kernel, by decide +kernel⟩
theorem wh_bound {x y : Int} (h1 : 0 ≤ x ∧ x ≤ 65536) (h2 : -4000000 ≤ y ∧ y ≤ 4000000) : (x * y).natAbs ≤ 1099511627776 := by
  rw [Int.natAbs_mul]
  exact Nat.le_trans (Nat.mul_le_mul (show x.natAbs ≤ 65536 by omega) (show y.natAbs ≤ 4000000 by omega)) (by decide)
theorem acc_bound {t y : Int} {j : Nat} (h : t.natAbs ≤ j * 1099511627776) (k : y.natAbs ≤ 1099511627776) : (t + y).natAbs ≤ (j + 1) * 1099511627776 := by
  rw [Nat.add_mul, Nat.one_mul]
  exact Nat.le_trans (Int.natAbs_add_le t y) (Nat.add_le_add h k)
theorem bt_w {x : Int} (h : 0 ≤ x ∧ x ≤ 65536) : Bt 20 x ∧ x.natAbs ≤ 1099511627776 := by
  unfold Bt
  omega
theorem bt_h {x : Int} (h : -4000000 ≤ x ∧ x ≤ 4000000) : Bt 30 x := by
  unfold Bt
  omega
theorem ok_smoothed {f f1 : Addr} {fd fd1 : FuncData} (F : Fun K "smoothed" "smoothed" s_smoothed f fd) (M : Mg K mg)
    (G1 : FnOk P w K mg base CX0 1 f1 fd1 ["fraction"] (sp_nearest K)) (m1 : mg "nearest" = some (.ref f1)) (k1 : PySem.W.keepIn K (.ref f1) = true) (b1 : Binds K fd1 ["fraction"] []) :
    FnOk P w K mg base CX0 2 f fd ["heights", "weights", "place"] (sp_smoothed K) := by
  have nd := sc_smoothed.nd
  refine F.ok sc_smoothed (fun vs H Q E h => ?_) (fun cdv A outer s H vs Q E hr h => ?_)
  · obtain ⟨hl, wl, hs, ws, i, rfl, _⟩ := h
    rfl
  · obtain ⟨hl, wl, hs, ws, pl, rfl, hh, hw, wb, wn, lw, lh, hb, hpl, k⟩ := h
    obtain ⟨xs, hx, hlen, hat⟩ := hh.get
    refine ⟨_, pss_cons (ps_set (i := 3) nd rfl (Or.inl rfl) pe_int)
      (pss_cons (ps_set (i := 4) nd rfl (Or.inl rfl) pe_int)
      (pss_cons (ps_for PassesOwn.never rfl (pi_range2 rfl M.range (pa_cons (pe_op op_sub pe_int (pe_callB call_len_seq (by rfl) M.len PySem.boot_len (pa_cons (pv 1) pa_nil))) (pa_cons (pe_callB call_len_seq (by rfl) M.len PySem.boot_len (pa_cons (pv 1) pa_nil)) pa_nil))) (pg_name (i := 5) nd rfl (Or.inl rfl))
        (pss_cons (ps_set (i := 6) nd rfl (Or.inl rfl) (pe_ix ix_list (pv 1) (pe_callB call_abs (by rfl) M.abs boot_abs' (pa_cons (pv 5) pa_nil)) (fun _ _ => rfl)))
        (pss_one (ps_if (pt_cmpR op_ne (pv 6) pe_int (nomark _))
          (pss_cons (ps_set (i := 7) nd rfl (Or.inl rfl) (pe_op op_add (pv 2) (pv 5)))
          (pss_cons (ps_if (PW.pt (pw_or (pt_cmpR op_lt (pv 7) pe_int (nomark _)) (pw_or (pt_cmpR op_ge (pv 7) (pe_callB call_len_seq (by rfl) M.len PySem.boot_len (pa_cons (pv 0) pa_nil)) (nomark _))
            (pw_or1 (pt_cmpR op_eq (pe_ix ix_tup (pe_ix ix_list (pv 0) (pv 7) (fun _ _ => rfl)) pe_int (fun _ _ => rfl)) pe_int (nomark _)))))) (pss_one (ps_ret pe_non)) pss_nil)
          (pss_cons (ps_aug (i := 3) nd rfl (Or.inl rfl) (pe_op op_mulZ (pv 6) (pe_ix ix_tup (pe_ix ix_list (pv 0) (pv 7) (fun _ _ => rfl)) pe_int (fun _ _ => rfl))) ip_add)
          (pss_one (ps_aug (i := 4) nd rfl (Or.inl rfl) (pv 6) ip_add))))) pss_nil))))
      (pss_one (ps_ret (pe_call G1 hr rfl m1 k1 b1 .nil pass0 (pa_cons (pe_tup (pa_cons (pv 3) (pa_cons (pv 4) pa_nil))) pa_nil)))))), ?_⟩
    have wl0 : 0 < ws.length := by
      obtain ⟨x, hx', _⟩ := wn
      exact List.length_pos_of_mem hx'
    have el : (ws.map V.int).length = ws.length := List.length_map _
    refine ⟨_, rfl, wl, _, rfl, .inl hw, _, _, rfl, rfl, _, rfl, wl, _, rfl, .inl hw, _, _, rfl, ⟨by rw [el]; omega, by rw [el]; omega, by rw [el]; omega, by rw [el]; omega⟩, ?_⟩
    refine for_range (fun j σ H' => H' = H ∧ ∃ (t b : Int) (u5 u6 u7 : Option V), σ = [some (.ref hl), some (.ref wl), some (.int pl), some (.int t), some (.int b), u5, u6, u7] ∧ fsum (fun (j : Nat) => termF hs ws pl ((j : Int) - ((ws.length - 1 : Nat) : Int))) j = some (t, b) ∧
        t.natAbs ≤ j * 1099511627776 ∧ b.natAbs ≤ j * 1099511627776 ∧ 0 ≤ b ∧ ∀ j' < j, ws.getD ((j' : Int) - ((ws.length - 1 : Nat) : Int)).natAbs 0 ≤ b)
      ⟨rfl, 0, 0, _, _, _, rfl, rfl, Nat.zero_le _, Nat.zero_le _, Int.le_refl _, fun j hj => absurd hj (Nat.not_lt_zero _)⟩ ?_ ?_
    · rintro j σ H' hj ⟨rfl, t, b, u5, u6, u7, rfl, hf, ht, hb', hb0, hall⟩
      rw [el] at hj
      have hj2 : j < 2 * (ws.length - 1) + 1 := by omega
      have esh : (1 : Int) - ((ws.map V.int).length : Int) + (j : Int) = (j : Int) - ((ws.length - 1 : Nat) : Int) := by rw [el]; omega
      have hlt : ((j : Int) - ((ws.length - 1 : Nat) : Int)).natAbs < ws.length := by omega
      obtain ⟨x, hxw⟩ : ∃ x, ws[((j : Int) - ((ws.length - 1 : Nat) : Int)).natAbs]? = some x := ⟨_, List.getElem?_eq_getElem hlt⟩
      have egd := getD_of hxw
      have bx := wb x (List.mem_of_getElem? hxw)
      have hnext : fsum (fun (j : Nat) => termF hs ws pl ((j : Int) - ((ws.length - 1 : Nat) : Int))) (j + 1) = oadd (some (t, b)) (termF hs ws pl ((j : Int) - ((ws.length - 1 : Nat) : Int))) := by
        rw [← hf]
        rfl
      have eterm : termF hs ws pl ((j : Int) - ((ws.length - 1 : Nat) : Int)) = if x = 0 then oz else (hadP hs ((pl : Int) + ((j : Int) - ((ws.length - 1 : Nat) : Int)))).map fun h => (x * h, x) := by
        unfold termF
        rw [egd]
      rw [eterm] at hnext
      refine ⟨_, rfl, _, rfl, _, rfl, wl, _, _, _, rfl, rfl, hw, at_of (j := ((j : Int) - ((ws.length - 1 : Nat) : Int)).natAbs) ?_ (by rw [List.getElem?_map, hxw]; rfl), ?_⟩
      · rw [esh]
        split <;> omega
      refine ⟨_, rfl, rfl, _, rfl, ?_⟩
      by_cases x0 : x = 0
      · rw [dec_vt x0]
        rw [if_pos x0, oadd_zr] at hnext
        refine iteF ⟨rfl, t, b, _, _, _, rfl, hnext, Nat.le_trans ht (Nat.mul_le_mul_right _ (Nat.le_succ j)), Nat.le_trans hb' (Nat.mul_le_mul_right _ (Nat.le_succ j)), hb0, fun j' hj' => ?_⟩
        rcases Nat.lt_succ_iff_lt_or_eq.mp hj' with h | h
        · exact hall j' h
        · subst h
          rw [egd]
          omega
      · rw [dec_vi x0]
        rw [if_neg x0] at hnext
        refine iteT ⟨_, rfl, _, rfl, _, _, rfl, rfl, ?_⟩
        have gone : hadP hs ((pl : Int) + ((j : Int) - ((ws.length - 1 : Nat) : Int))) = none → Q .non H' := fun hn => by
          rw [hn] at hnext
          have e : smF hs ws pl = none := fsum_none (n := 2 * (ws.length - 1) + 1) (j := j + 1) (by omega) (by rw [hnext]; rfl)
          rw [e] at k
          exact k _ (Same.refl _)
        have eo : (pl : Int) + ((1 : Int) - ((ws.map V.int).length : Int) + (j : Int)) = (pl : Int) + ((j : Int) - ((ws.length - 1 : Nat) : Int)) := by rw [esh]
        generalize ez : (pl : Int) + ((j : Int) - ((ws.length - 1 : Nat) : Int)) = z at *
        refine ⟨_, rfl, _, _, rfl, rfl, _, rfl, ?_⟩
        by_cases z0 : z < 0
        · rw [decide_eq_true (by rw [eo]; exact z0)]
          exact iteT (iteT (gone (by unfold hadP; rw [if_pos z0])))
        rw [decide_eq_false (by rw [eo]; exact z0)]
        refine iteF ⟨_, rfl, _, rfl, hl, xs, rfl, .inl hx, _, _, rfl, rfl, _, rfl, ?_⟩
        by_cases z1 : (hs.length : Int) ≤ z
        · rw [decide_eq_true (by rw [eo, hlen]; exact z1)]
          exact iteT (iteT (gone (by unfold hadP; rw [if_neg z0, List.getElem?_eq_none (by omega)])))
        rw [decide_eq_false (by rw [eo, hlen]; exact z1)]
        obtain ⟨p, hp⟩ : ∃ p, hs[z.toNat]? = some p := ⟨_, List.getElem?_eq_getElem (by omega)⟩
        obtain ⟨a, ha, ta⟩ := hat _ _ hp
        have bp := hb p (List.mem_of_getElem? hp)
        have ati := at_of (xs := xs) (z := (pl : Int) + ((1 : Int) - ((ws.map V.int).length : Int) + (j : Int))) (j := z.toNat) (by rw [eo]; omega) ha
        refine iteF ⟨_, rfl, _, rfl, hl, _, _, _, rfl, rfl, hx, ati, a, _, _, _, rfl, rfl, ta, at0, rfl, _, rfl, ?_⟩
        have eh : hadP hs z = if p.1 = 0 then none else some p.2 := by
          unfold hadP
          rw [if_neg z0, hp]
        by_cases p0 : p.1 = 0
        · rw [dec_vt p0]
          rw [if_pos p0] at eh
          exact iteT (gone eh)
        rw [dec_vi p0]
        rw [if_neg p0] at eh
        rw [eh] at hnext
        have hnext : fsum (fun (j : Nat) => termF hs ws pl ((j : Int) - ((ws.length - 1 : Nat) : Int))) (j + 1) = some (t + x * p.2, b + x) := hnext
        have wh := wh_bound bx bp
        refine iteF ⟨_, rfl, _, rfl, _, rfl, _, rfl, hl, _, _, _, rfl, rfl, hx, ati, a, _, _, _, rfl, rfl, ta, at1, _, _, rfl, rfl, (bt_w bx).1.cm (bt_h bp), _, _, rfl, rfl, ?_⟩
        refine ⟨_, rfl, _, rfl, _, _, rfl, rfl, rfl, t + x * p.2, b + x, _, _, _, rfl, hnext, acc_bound ht wh, acc_bound hb' (bt_w bx).2, Int.add_nonneg hb0 bx.1, fun j' hj' => ?_⟩
        rcases Nat.lt_succ_iff_lt_or_eq.mp hj' with h | h
        · have := hall j' h
          omega
        · subst h
          rw [egd]
          omega
    · rintro σ H' ⟨rfl, t, b, u5, u6, u7, rfl, hf, ht, hb', hb0, hall⟩
      have en : (((ws.map V.int).length : Int) - (1 - ((ws.map V.int).length : Int))).toNat = 2 * (ws.length - 1) + 1 := by rw [el]; omega
      rw [en] at hf ht hb' hall
      have ef : smF hs ws pl = some (t, b) := hf
      rw [ef] at k
      have bpos : 0 < b := by
        obtain ⟨x, hx', x0⟩ := wn
        obtain ⟨i, hi⟩ := List.getElem?_of_mem hx'
        have hi2 := (List.getElem?_eq_some_iff.mp hi).1
        have z := hall (ws.length - 1 + i) (by omega)
        have e : (((ws.length - 1 + i : Nat) : Int) - ((ws.length - 1 : Nat) : Int)).natAbs = i := by omega
        rw [e, getD_of hi] at z
        have := wb x hx'
        omega
      have bt1 : Bt 100 t := by
        unfold Bt
        refine Nat.lt_of_le_of_lt ht (Nat.lt_of_le_of_lt (Nat.mul_le_mul_right _ (show 2 * (ws.length - 1) + 1 ≤ 63 by omega)) (by decide))
      have bt2 : Bt 100 b := by
        unfold Bt
        refine Nat.lt_of_le_of_lt hb' (Nat.lt_of_le_of_lt (Nat.mul_le_mul_right _ (show 2 * (ws.length - 1) + 1 ≤ 63 by omega)) (by decide))
      refine ⟨_, rfl, _, rfl, (by show 2 ≤ sizeLine; decide), fun q hq => ?_⟩
      exact ⟨q, (t, b), rfl, SqT.of upd_same, bt1.mono (by decide), bt2.mono (by decide), bpos, k _ (same_new hq)⟩
end
end Gc
end
section
set_option Elab.async false
set_option linter.all false
set_option bootstrap.genMatcherCode false
set_option genSizeOf false
set_option maxRecDepth 100000
set_option maxHeartbeats 2000000
namespace Gc
open PySem PySem.Spec PyProof.Rows L2
noncomputable def smBad (hs : List (Int × Int)) (ws : List Int) : Prop := 256 < hs.length ∨ ws.length = 0 ∨ 32 < ws.length ∨ (∃ x ∈ ws, 65536 < x) ∨ (∀ x ∈ ws, x = 0)
noncomputable instance (hs : List (Int × Int)) (ws : List Int) : Decidable (smBad hs ws) := inferInstanceAs (Decidable (_ ∨ _))
noncomputable def smHs (hs : List (Int × Int)) (ws : List Int) (n : Nat) : List (Option Int) := (List.range n).map fun (i : Nat) => (smF hs ws i).map nearF
theorem smHs_succ (hs : List (Int × Int)) (ws : List Int) (n : Nat) : smHs hs ws (n + 1) = smHs hs ws n ++ [(smF hs ws n).map nearF] := by
  unfold smHs
  rw [List.range_succ, List.map_append]
  rfl
theorem smHs_len (hs : List (Int × Int)) (ws : List Int) (n : Nat) : (smHs hs ws n).length = n := by simp [smHs]
noncomputable def smoothF (hs : List (Int × Int)) (ws : List Int) : List Int := if smBad hs ws then [-1] else if hs.all formB = true then rowsF (smHs hs ws hs.length) else [-6]
section
variable {P : Program} {w : World} {K : PySem.W.Frag} {mg : Str → Option Value} {base : Heap}
noncomputable def sp_answer_smooth (K : PySem.W.Frag) : Sp := fun vs H Q _ => ∃ (rl wl : Addr) (r ws : List Int) (hs : List (Int × Int)), vs = [.ref rl, .ref wl] ∧ SqL K H rl (r.map V.int) ∧ SqL K H wl (ws.map V.int) ∧ Tide.couples? r = some hs ∧ r.length ≤ 100000 ∧ (∀ x ∈ ws, 0 ≤ x) ∧ RetL H Q (smoothF hs ws)
theorem sc_answer_smooth : FnScope ["row", "weights", "heights", "height", "place"] ["row", "weights"] (defScope s_answer_smooth) := ⟨rfl, rfl, rfl, by decide +kernel, rfl, by decide +kernel, by decide +kernel⟩
theorem blk_answer_smooth : BlkOk ["row", "weights", "heights", "height", "place"] (defScope s_answer_smooth) (compArg (bodyAt s_answer_smooth 4)) [("place", 4)] := ⟨rfl, by decide +kernel, by decide +kernel, by decide +kernel, by decide +kernel⟩
theorem formB_bound {p : Int × Int} (h : formB p = true) : -4000000 ≤ p.2 ∧ p.2 ≤ 4000000 := by
  unfold formB at h
  by_cases e : p.1 = 1
  · rw [if_pos e] at h
    exact of_decide_eq_true h
  · rw [if_neg e, Bool.and_eq_true] at h
    have := of_decide_eq_true h.2
    omega
theorem ok_answer_smooth {f f1 f2 f3 f4 : Addr} {fd fd1 fd2 fd3 fd4 : FuncData} (F : Fun K "answer_smooth" "answer_smooth" s_answer_smooth f fd) (M : Mg K mg)
    (G1 : FnOk P w K mg base CX0 1 f1 fd1 ["numbers", "width"] (sp_in_groups K)) (m1 : mg "in_groups" = some (.ref f1)) (k1 : PySem.W.keepIn K (.ref f1) = true) (b1 : Binds K fd1 ["numbers", "width"] [])
    (G2 : FnOk P w K mg base CX0 1 f2 fd2 ["height"] (sp_is_height_in_form K)) (m2 : mg "is_height_in_form" = some (.ref f2)) (k2 : PySem.W.keepIn K (.ref f2) = true) (b2 : Binds K fd2 ["height"] [])
    (G3 : FnOk P w K mg base CX0 1 f3 fd3 ["heights"] (sp_rows_answer K)) (m3 : mg "rows_answer" = some (.ref f3)) (k3 : PySem.W.keepIn K (.ref f3) = true) (b3 : Binds K fd3 ["heights"] [])
    (G4 : FnOk P w K mg base CX0 2 f4 fd4 ["heights", "weights", "place"] (sp_smoothed K)) (m4 : mg "smoothed" = some (.ref f4)) (k4 : PySem.W.keepIn K (.ref f4) = true) (b4 : Binds K fd4 ["heights", "weights", "place"] []) :
    FnOk P w K mg base CX0 3 f fd ["row", "weights"] (sp_answer_smooth K) := by
  have nd := sc_answer_smooth.nd
  obtain ⟨u1, mh⟩ := M.mh
  obtain ⟨u2, mw⟩ := M.mw
  obtain ⟨u3, wb⟩ := M.wb
  refine F.ok sc_answer_smooth (fun vs H Q E h => ?_) (fun cdv A outer s H vs Q E hr h => ?_)
  · obtain ⟨rl, wl, r, ws, hs, rfl, _⟩ := h
    rfl
  · obtain ⟨rl, wl, r, ws, hs, rfl, hrl, hwl, hc, lr, wp, k⟩ := h
    have hr1 : Room 1 _ := hr.mono (by decide)
    refine ⟨_, pss_cons (ps_set (i := 2) nd rfl (Or.inr rfl) (pe_call G1 hr1 rfl m1 k1 b1 .nil pass0 (pa_cons (pv 0) (pa_cons pe_int pa_nil))))
      (pss_cons (ps_if (PW.pt (pw_or (pt_cmpR op_gt (pe_callB call_len_seq (by rfl) M.len PySem.boot_len (pa_cons (pv 2) pa_nil)) (pe_gi rfl mh) (nomark _))
          (pw_or (pt_cmpR op_eq (pe_callB call_len_seq (by rfl) M.len PySem.boot_len (pa_cons (pv 1) pa_nil)) pe_int (nomark _))
          (pw_or1 (pt_cmpR op_gt (pe_callB call_len_seq (by rfl) M.len PySem.boot_len (pa_cons (pv 1) pa_nil)) (pe_gi rfl mw) (nomark _)))))) (pss_one (ps_ret (pe_lst (pa_cons (pe_un un_neg pe_int) pa_nil)))) pss_nil)
      (pss_cons (ps_if (PW.pt (pw_or (pt_cmpR op_gt (pe_callB (cr_max rfl) (by rfl) M.max boot_max' (pa_cons (pv 1) pa_nil)) (pe_gi rfl wb) (nomark _))
          (pw_or1 (pt_cmpR op_eq (pe_callB (cr_max rfl) (by rfl) M.max boot_max' (pa_cons (pv 1) pa_nil)) pe_int (nomark _))))) (pss_one (ps_ret (pe_lst (pa_cons (pe_un un_neg pe_int) pa_nil)))) pss_nil)
      (pss_cons (ps_for PassesOwn.never rfl (pi_list (pv 2)) (pg_name (i := 3) nd rfl (Or.inl rfl))
        (pss_one (ps_if (pt_not (pt_val (pe_call G2 hr1 rfl m2 k2 b2 .nil pass0 (pa_cons (pv 3) pa_nil)))) (pss_one (ps_ret (pe_lst (pa_cons (pe_un un_neg pe_int) pa_nil)))) pss_nil)))
      (pss_one (ps_ret (pe_call G3 hr1 rfl m3 k3 b3 .nil pass0 (pa_cons (pe_lc (own := [("place", 4)]) rfl nd (pi_range1 rfl M.range (pa_cons (pe_callB call_len_seq (by rfl) M.len PySem.boot_len (pa_cons (pv 2) pa_nil)) pa_nil)) blk_answer_smooth
        (fun s H C cl fp => pg_name (i := 4) nd rfl (Or.inl rfl)) (fun s H C cl fp => pts_nil)
        (fun s H C cl fp => pe_call G4 hr rfl m4 k4 b4 .nil pass0 (pa_cons (pv 2) (pa_cons (pv 1) (pa_cons (pv 4) pa_nil))))) pa_nil))))))), ?_⟩
    obtain ⟨n1, g1⟩ := couples_groups hc
    refine ⟨_, rfl, rl, r, 2, hs.length, rfl, hrl, by decide, by decide, n1, lr, fun H1 hl sm1 t1 => ?_⟩
    rw [g1] at t1
    have hp1 : PairsAt K H1 hl hs := TupsAt.same t1 (diff_le H H1)
    obtain ⟨xs, hx, hlen, hat⟩ := hp1.get
    have hw1 := sm1.seq hwl
    have el : (ws.map V.int).length = ws.length := List.length_map _
    have bad : smBad hs ws → tRet (tLst (tCons (tUn (rU fun i => .int (-i)) (tC (.int 1))) tNil)) { nx := fun _ H' => Q .non H', rt := Q } [some (.ref rl), some (.ref wl), some (.ref hl), none, none] H1 := fun hb => by
      unfold smoothF at k
      rw [if_pos hb] at k
      exact ⟨_, rfl, (by show 1 ≤ sizeLine; decide), fun p hp => RetL.here (k.after sm1) hp⟩
    refine ⟨_, rfl, hl, _, rfl, .inl hx, _, _, rfl, rfl, _, rfl, ?_⟩
    refine ite2 (fun c1 => ?_) (fun c1 => ?_)
    · have c1 : (256 : Int) < xs.length := of_decide_eq_true c1
      exact iteT (bad (.inl (by omega)))
    have c1 : ¬ (256 : Int) < xs.length := fun z => c1 (decide_eq_true z)
    refine ⟨_, rfl, wl, _, rfl, .inl hw1, rfl, _, rfl, ?_⟩
    by_cases c2 : ws.length = 0
    · rw [dec_vt (by rw [el, c2]; rfl)]
      exact iteT (iteT (bad (.inr (.inl c2))))
    rw [dec_vi (by rw [el]; omega)]
    refine iteF ⟨_, rfl, wl, _, rfl, .inl hw1, _, _, rfl, rfl, _, rfl, ?_⟩
    refine ite2 (fun c3 => ?_) (fun c3 => ?_)
    · have c3 : (32 : Int) < (ws.map V.int).length := of_decide_eq_true c3
      exact bad (.inr (.inr (.inl (by omega))))
    have c3 : ¬ (32 : Int) < (ws.map V.int).length := fun z => c3 (decide_eq_true z)
    rw [el] at c3
    refine ⟨_, rfl, wl, ws, rfl, hw1, by omega, fun m hm1 hm2 => ?_⟩
    refine ⟨_, _, rfl, rfl, _, rfl, ?_⟩
    refine ite2 (fun c4 => ?_) (fun c4 => ?_)
    · have c4 : (65536 : Int) < m := of_decide_eq_true c4
      exact iteT (bad (.inr (.inr (.inr (.inl ⟨m, hm1, c4⟩)))))
    have c4 : ¬ (65536 : Int) < m := fun z => c4 (decide_eq_true z)
    refine ⟨_, rfl, wl, ws, rfl, hw1, by omega, fun m' hm1' hm2' => ?_⟩
    have em : m' = m := Int.le_antisymm (hm2 _ hm1') (hm2' _ hm1)
    subst em
    refine ⟨rfl, _, rfl, ?_⟩
    by_cases c5 : m' = 0
    · rw [dec_vt c5]
      refine iteT (bad (.inr (.inr (.inr (.inr fun x hx' => ?_)))))
      have h1 := hm2 x hx'
      have h2 := wp x hx'
      omega
    rw [dec_vi c5]
    have good : ¬ smBad hs ws := by
      rintro (z | z | z | ⟨x, hx', z⟩ | z)
      · omega
      · exact c2 z
      · omega
      · have := hm2 x hx'
        omega
      · exact c5 (z m' hm1)
    unfold smoothF at k
    rw [if_neg good] at k
    refine iteF ⟨_, rfl, hl, rfl, ⟨_, hx⟩, for_list (xs := xs) (fun i σ H' => Same H1 H' ∧ (∃ u, σ = [some (.ref rl), some (.ref wl), some (.ref hl), u, none]) ∧ ∀ (j : Nat) (p : Int × Int), j < i → hs[j]? = some p → formB p = true) ⟨Same.refl _, ⟨_, rfl⟩, fun j p hj => absurd hj (Nat.not_lt_zero _)⟩ (fun i σ H' _ h => h.1.seq hx) ?_ ?_⟩
    · rintro i x σ H' hxi ⟨sm, ⟨u, rfl⟩, hall⟩
      have hi : i < hs.length := by rw [← hlen]; exact (List.getElem?_eq_some_iff.mp hxi).1
      obtain ⟨p, hp⟩ : ∃ p, hs[i]? = some p := ⟨_, List.getElem?_eq_getElem hi⟩
      obtain ⟨a, ha, ta⟩ := hat i p hp
      rw [hxi] at ha
      obtain rfl := Option.some.inj ha
      refine ⟨_, rfl, a, p, rfl, same_tup sm ta, fun H2 sm2 => ?_⟩
      refine ⟨_, rfl, ?_⟩
      cases e : formB p with
      | false =>
        have ef : ¬ hs.all formB = true := fun z => by
          rw [List.all_eq_true] at z
          rw [z p (List.mem_of_getElem? hp)] at e
          cases e
        rw [if_neg ef] at k
        exact iteT ⟨_, rfl, (by show 1 ≤ sizeLine; decide), fun q hq => RetL.here (k.after (sm1.trans (sm.trans sm2))) hq⟩
      | true =>
        refine iteF ⟨sm.trans sm2, ⟨_, rfl⟩, fun j q hj hq => ?_⟩
        rcases Nat.lt_succ_iff_lt_or_eq.mp hj with h | h
        · exact hall j q h hq
        · subst h
          rw [hp] at hq
          obtain rfl := Option.some.inj hq
          exact e
    · rintro σ H2 ⟨sm, ⟨u, rfl⟩, hall⟩
      rw [hlen] at hall
      have hbs : ∀ p ∈ hs, formB p = true := fun p hp => by
        obtain ⟨j, hj⟩ := List.getElem?_of_mem hp
        exact hall j p (List.getElem?_eq_some_iff.mp hj).1 hj
      rw [if_pos (List.all_eq_true.mpr hbs)] at k
      have k2 := k.after (sm1.trans sm)
      have hp2 := hp1.same sm
      have hw2 := sm.seq hw1
      refine ⟨_, rfl, hl, xs, rfl, .inl (sm.seq hx), (xs.length : Int), rfl, by omega, by omega, fun D hD => ?_⟩
      refine lc_rng (fun i H' => Same H2 H' ∧ H' D = some (.lst ((smHs hs ws i).map oI))) ⟨same_new hD, upd_same⟩ ?_ ?_
      · rintro i H' hi ⟨sm', hL⟩
        have hi' : i < hs.length := by omega
        refine ⟨rfl, _, rfl, _, rfl, _, rfl, hl, wl, hs, ws, i, by simp, hp2.same sm', sm'.seq hw2, fun x hx' => ⟨wp x hx', ?_⟩, ⟨m', hm1, c5⟩, by omega, by omega, fun p hp => formB_bound (hbs p hp), hi', fun H3 s3 => ?_⟩
        · have := hm2 x hx'
          omega
        refine ⟨_, s3 _ _ hL, ?_, same_upd hD (sm'.trans s3), ?_⟩
        · rw [List.length_map, smHs_len, sizeLine_eq]
          omega
        · rw [upd_same, smHs_succ, List.map_append]
          rfl
      · rintro H' ⟨sm', hL⟩
        have e0 : (xs.length : Int).toNat = hs.length := by omega
        rw [e0] at hL
        refine ⟨D, _, rfl, SqL.of hL, ?_, k2.after sm'⟩
        rw [smHs_len]
        omega
end
end Gc
end
section
set_option Elab.async false
set_option linter.all false
set_option bootstrap.genMatcherCode false
set_option genSizeOf false
set_option maxRecDepth 100000
set_option maxHeartbeats 2000000
namespace Gc
open Gm
open Tide (Q)
/-! ## fractions that are the same, in sums and on lines -/
theorem below_congr {p q r s : Q} (hp : 0 < p.den) (hq : 0 < q.den) (hr : 0 < r.den) (hs : 0 < s.den) (h : Eqv p q) (k : Eqv r s) : p.below r = q.below s := by
  unfold Eqv at h k
  unfold Q.below
  refine decide_eq_decide.mpr ?_
  have c1 : (0 : Int) < (q.den : Int) * (s.den : Int) := Int.mul_pos (by omega) (by omega)
  have c2 : (0 : Int) < (p.den : Int) * (r.den : Int) := Int.mul_pos (by omega) (by omega)
  have e1 : p.num * (r.den : Int) * ((q.den : Int) * (s.den : Int)) = q.num * (s.den : Int) * ((p.den : Int) * (r.den : Int)) := by grind
  have e2 : r.num * (p.den : Int) * ((q.den : Int) * (s.den : Int)) = s.num * (q.den : Int) * ((p.den : Int) * (r.den : Int)) := by grind
  constructor
  · intro z
    have z2 := Int.mul_lt_mul_of_pos_right z c1
    rw [e1, e2] at z2
    exact Int.lt_of_mul_lt_mul_right z2 (Int.le_of_lt c2)
  · intro z
    have z2 := Int.mul_lt_mul_of_pos_right z c2
    rw [← e1, ← e2] at z2
    exact Int.lt_of_mul_lt_mul_right z2 (Int.le_of_lt c1)
theorem less_congr {a b c d : Q} (h : Eqv a c) (k : Eqv b d) : Eqv (a.less b) (c.less d) := by
  unfold Eqv Q.less at *
  dsimp only
  rw [Int.natCast_mul, Int.natCast_mul]
  grind
theorem plus_congr {a b c d : Q} (h : Eqv a c) (k : Eqv b d) : Eqv (a.plus b) (c.plus d) := by
  unfold Eqv Q.plus at *
  dsimp only
  rw [Int.natCast_mul, Int.natCast_mul]
  grind
theorem times_congr {a b c d : Q} (h : Eqv a c) (k : Eqv b d) : Eqv (a.times b) (c.times d) := by
  unfold Eqv Q.times at *
  dsimp only
  rw [Int.natCast_mul, Int.natCast_mul]
  grind
theorem by_congr {a b c d : Q} (pb : 0 < b.num) (pd : 0 < d.num) (h : Eqv a c) (k : Eqv b d) : Eqv (a.by_ b) (c.by_ d) := by
  unfold Eqv Q.by_ at *
  dsimp only
  rw [Int.natCast_mul, Int.natCast_mul, Int.toNat_of_nonneg (Int.le_of_lt pb), Int.toNat_of_nonneg (Int.le_of_lt pd)]
  grind
theorem line_congr {a b c d x a' b' c' d' x' : Q} (h1 : Eqv a a') (h2 : Eqv b b') (h3 : Eqv c c') (h4 : Eqv d d') (h5 : Eqv x x') (p : 0 < (c.less a).num) (p' : 0 < (c'.less a').num) : Eqv (Tide.line a b c d x) (Tide.line a' b' c' d' x') :=
  plus_congr h2 (by_congr p p' (times_congr (less_congr h5 h1) (less_congr h4 h2)) (less_congr h3 h1))
theorem less_pos {a b : Q} (h : a.below b = true) : 0 < (b.less a).num := by
  unfold Q.below at h
  have h := of_decide_eq_true h
  unfold Q.less
  dsimp only
  omega
theorem line_den {a b c d x : Q} (ha : 0 < a.den) (hb : 0 < b.den) (hd : 0 < d.den) (hx : 0 < x.den) (p : 0 < (c.less a).num) : 0 < (Tide.line a b c d x).den := by
  show 0 < b.den * (x.den * a.den * (d.den * b.den) * (c.less a).num.toNat)
  refine Nat.mul_pos hb (Nat.mul_pos (Nat.mul_pos (Nat.mul_pos hx ha) (Nat.mul_pos hd hb)) ?_)
  omega
/-! ## the program's line -/
theorem hb_line {x y : Kp} {t : Int} (ox : KpOk x) (oy : KpOk y) (hl : x.1.1 * y.1.2 < y.1.1 * x.1.2) : Eqv (qOf (hbF x y t)) (Tide.line (qOf x.1) (qOf x.2) (qOf y.1) (qOf y.2) (.of t)) := by
  obtain ⟨⟨n1, d1⟩, ⟨p1, q1⟩⟩ := x
  obtain ⟨⟨n2, d2⟩, ⟨p2, q2⟩⟩ := y
  have hd1 : 0 < d1 := ox.p1
  have hd2 : 0 < d2 := oy.p1
  have hq1 : 0 < q1 := ox.p2
  have hq2 : 0 < q2 := oy.p2
  have hl : n1 * d2 < n2 * d1 := hl
  have e1 : ((d1.toNat : Nat) : Int) = d1 := Int.toNat_of_nonneg (by omega)
  have e2 : ((d2.toNat : Nat) : Int) = d2 := Int.toNat_of_nonneg (by omega)
  have e3 : ((q1.toNat : Nat) : Int) = q1 := Int.toNat_of_nonneg (by omega)
  have e4 : ((q2.toNat : Nat) : Int) = q2 := Int.toNat_of_nonneg (by omega)
  have hw : bwF ((n1, d1), (p1, q1)) ((n2, d2), (p2, q2)) t + ewF ((n1, d1), (p1, q1)) ((n2, d2), (p2, q2)) t = n2 * d1 - n1 * d2 := by
    unfold bwF ewF spanF
    dsimp only
    grind
  have hS : 0 < n2 * d1 - n1 * d2 := by omega
  have hb2 : (hbF ((n1, d1), (p1, q1)) ((n2, d2), (p2, q2)) t).2 = q1 * q2 * (n2 * d1 - n1 * d2) := by
    unfold hbF
    dsimp only
    rw [hw]
  have e5 : (((hbF ((n1, d1), (p1, q1)) ((n2, d2), (p2, q2)) t).2.toNat : Nat) : Int) = q1 * q2 * (n2 * d1 - n1 * d2) := by
    rw [hb2]
    exact Int.toNat_of_nonneg (Int.le_of_lt (Int.mul_pos (Int.mul_pos hq1 hq2) hS))
  have e6 : (((n2 * d1 - n1 * d2).toNat : Nat) : Int) = n2 * d1 - n1 * d2 := Int.toNat_of_nonneg (by omega)
  unfold Eqv Tide.line Q.plus Q.by_ Q.times Q.less Q.of qOf
  dsimp only
  simp only [Int.natCast_mul, e1, e2, e3, e4, e5, e6, Int.natCast_one]
  have key : (hbF ((n1, d1), (p1, q1)) ((n2, d2), (p2, q2)) t).1 = p1 * q2 * (n2 * d1 - n1 * d2) + (t * d1 - n1) * (p2 * q1 - p1 * q2) * d2 := by
    unfold hbF bwF ewF spanF
    dsimp only
    grind
  rw [key]
  generalize n2 * d1 - n1 * d2 = S
  grind
theorem fnb_not' {ks : List Kp} {t : Int} {x : Kp} (h : ks[fnb ks t]? = some x) : ¬ befT t x := by
  unfold fnb at h
  obtain ⟨hi, e⟩ := List.getElem?_eq_some_iff.mp h
  have z := List.findIdx_getElem (w := hi)
  rw [e] at z
  unfold befT
  simpa using z
theorem near_q {p : Int × Int} (h : 0 < p.2) : nearF p = (qOf p).round := by
  unfold nearF Q.round qOf
  dsimp only
  rw [Int.toNat_of_nonneg (by omega)]
end Gc
end
section
set_option Elab.async false
set_option linter.all false
set_option bootstrap.genMatcherCode false
set_option genSizeOf false
set_option maxRecDepth 100000
set_option maxHeartbeats 2000000
namespace Gc
open Gm
open Tide (Q)
/-! ## the height at a time, over what is kept -/
noncomputable def heightOf (gap : Nat) (qs : List (Q × Q)) (t : Int) : Option Q := match qs.find? fun (x : Q × Q) => x.1.same (.of t) with
  | some x => some x.2
  | none => match (qs.filter fun (x : Q × Q) => x.1.below (.of t)).getLast?, qs.find? fun (x : Q × Q) => (Q.of t).below x.1 with
    | some a, some b => if (Q.of gap).below (b.1.less a.1) = true then none else some (Tide.line a.1 a.2 b.1 b.2 (.of t))
    | _, _ => none
theorem heightAt_eq (G : Tide.Gauge) (t : Int) : G.heightAt t = heightOf G.gap G.kept t := rfl
structure RelK (k : Kp) (q : Q × Q) : Prop where
  d1 : 0 < q.1.den
  d2 : 0 < q.2.den
  e1 : Eqv (qOf k.1) q.1
  e2 : Eqv (qOf k.2) q.2
theorem qden {p : Int × Int} (h : 0 < p.2) : 0 < (qOf p).den := by
  show 0 < p.2.toNat
  omega
theorem rel_below {k : Kp} {q : Q × Q} {t : Int} (o : KpOk k) (r : RelK k q) : q.1.below (.of t) = decide (k.1.1 < t * k.1.2) := by
  rw [← below_congr (qden o.p1) r.d1 (r := .of t) (s := .of t) Nat.one_pos Nat.one_pos r.e1 rfl]
  unfold Q.below qOf Q.of
  dsimp only
  rw [Int.toNat_of_nonneg (Int.le_of_lt o.p1), Int.natCast_one, Int.mul_one]
theorem rel_above {k : Kp} {q : Q × Q} {t : Int} (o : KpOk k) (r : RelK k q) : (Q.of t).below q.1 = decide (t * k.1.2 < k.1.1) := by
  rw [← below_congr (p := .of t) (q := .of t) Nat.one_pos Nat.one_pos (qden o.p1) r.d1 rfl r.e1]
  unfold Q.below qOf Q.of
  dsimp only
  rw [Int.toNat_of_nonneg (Int.le_of_lt o.p1), Int.natCast_one, Int.mul_one]
theorem same_iff (a b : Q) : a.same b = (!a.below b && !b.below a) := by
  unfold Q.same Q.below
  by_cases h : a.num * (b.den : Int) = b.num * (a.den : Int)
  · rw [decide_eq_true h, decide_eq_false (by omega), decide_eq_false (by omega)]
    rfl
  · rw [decide_eq_false h]
    by_cases h2 : a.num * (b.den : Int) < b.num * (a.den : Int)
    · rw [decide_eq_true h2]
      rfl
    · rw [decide_eq_true (show b.num * (a.den : Int) < a.num * (b.den : Int) by omega)]
      simp
theorem rel_same {k : Kp} {q : Q × Q} {t : Int} (o : KpOk k) (r : RelK k q) : q.1.same (.of t) = decide (k.1.1 = t * k.1.2) := by
  rw [same_iff, rel_below o r, rel_above o r]
  by_cases h : k.1.1 = t * k.1.2
  · rw [decide_eq_true h, decide_eq_false (by omega), decide_eq_false (by omega)]
    rfl
  · rw [decide_eq_false h]
    by_cases h2 : k.1.1 < t * k.1.2
    · rw [decide_eq_true h2]
      rfl
    · rw [decide_eq_true (show t * k.1.2 < k.1.1 by omega)]
      simp
theorem rel_round {k : Int × Int} {q : Q} (p : 0 < k.2) (d : 0 < q.den) (e : Eqv (qOf k) q) : q.round = nearF k := by
  rw [near_q p]
  exact (round_congr (qden p) d e).symm
theorem hgen {gap : Nat} {qs : List (Q × Q)} {ks : List Kp} {t : Int} (hlen : qs.length = ks.length) (hrel : ∀ (i : Nat) (q : Q × Q) (k : Kp), qs[i]? = some q → ks[i]? = some k → RelK k q) (good : KGood ks) :
    (heightOf gap qs t).map Q.round = (hF gap ks t).map nearF := by
  have hfl : fnb ks t ≤ ks.length := List.findIdx_le_length
  have hbe : ∀ (i : Nat) (x : Kp), i < fnb ks t → ks[i]? = some x → befT t x := fun i x hi hx' => by
    have z := List.not_of_lt_findIdx hi
    obtain ⟨hi2, e⟩ := List.getElem?_eq_some_iff.mp hx'
    rw [e] at z
    unfold befT
    simpa using z
  have hnb := fun x => fnb_not' (ks := ks) (t := t) (x := x)
  have partner : ∀ (i : Nat) (q : Q × Q), qs[i]? = some q → ∃ k, ks[i]? = some k ∧ KpOk k ∧ RelK k q := fun i q h => by
    have hi : i < ks.length := by rw [← hlen]; exact (List.getElem?_eq_some_iff.mp h).1
    have hk := List.getElem?_eq_getElem hi
    exact ⟨_, hk, good.ok _ (List.mem_of_getElem? hk), hrel i q _ h hk⟩
  unfold hF
  generalize fnb ks t = n at *
  have F1 : ∀ q ∈ qs.take n, q.1.below (.of t) = true ∧ q.1.same (.of t) = false ∧ (Q.of t).below q.1 = false := fun q hq => by
    obtain ⟨i, hi⟩ := List.getElem?_of_mem hq
    have hin : i < n := by
      have := (List.getElem?_eq_some_iff.mp hi).1
      rw [List.length_take] at this
      omega
    rw [List.getElem?_take_of_lt hin] at hi
    obtain ⟨k, hk, ok, rk⟩ := partner i q hi
    have b : k.1.1 < t * k.1.2 := hbe i k hin hk
    rw [rel_below ok rk, rel_same ok rk, rel_above ok rk]
    exact ⟨decide_eq_true b, decide_eq_false (by omega), decide_eq_false (by omega)⟩
  have F2 : ∀ q ∈ qs.drop n, q.1.below (.of t) = false := fun q hq => by
    obtain ⟨i, hi⟩ := List.getElem?_of_mem hq
    rw [List.getElem?_drop] at hi
    obtain ⟨k, hk, ok, rk⟩ := partner _ q hi
    rw [rel_below ok rk]
    refine decide_eq_false fun b => ?_
    have hn : n < ks.length := by
      have := (List.getElem?_eq_some_iff.mp hk).1
      omega
    exact hnb _ (List.getElem?_eq_getElem hn) (good.bef (show n ≤ n + i by omega) (List.getElem?_eq_getElem hn) hk b)
  have hs : qs.find? (fun (x : Q × Q) => x.1.same (.of t)) = (qs.drop n).find? fun (x : Q × Q) => x.1.same (.of t) := by
    conv => lhs; rw [← List.take_append_drop n qs]
    rw [List.find?_append, List.find?_eq_none.mpr fun q hq => by rw [(F1 q hq).2.1]; decide]
    rfl
  have hb : qs.find? (fun (x : Q × Q) => (Q.of t).below x.1) = (qs.drop n).find? fun (x : Q × Q) => (Q.of t).below x.1 := by
    conv => lhs; rw [← List.take_append_drop n qs]
    rw [List.find?_append, List.find?_eq_none.mpr fun q hq => by rw [(F1 q hq).2.2]; decide]
    rfl
  have hf : (qs.filter fun (x : Q × Q) => x.1.below (.of t)) = qs.take n := by
    conv => lhs; rw [← List.take_append_drop n qs]
    rw [List.filter_append, List.filter_eq_self.mpr fun q hq => (F1 q hq).1, List.filter_eq_nil_iff.mpr fun q hq => by rw [F2 q hq]; decide, List.append_nil]
  unfold heightOf
  rw [hs, hb, hf]
  cases ed : qs.drop n with
  | nil =>
    have hn : ks.length ≤ n := by
      rw [← hlen]
      exact List.drop_eq_nil_iff.mp ed
    rw [List.getElem?_eq_none hn]
    cases (qs.take n).getLast? <;> rfl
  | cons b rest =>
    have hqn : qs[n]? = some b := by
      have z : (qs.drop n)[0]? = some b := by rw [ed]; rfl
      rw [List.getElem?_drop] at z
      exact z
    obtain ⟨y, hy, oy, ry⟩ := partner n b hqn
    have ny : ¬ y.1.1 < t * y.1.2 := hnb y hy
    rw [hy]
    dsimp only
    by_cases e : y.1.1 = t * y.1.2
    · rw [if_pos e, List.find?_cons_of_pos (by rw [rel_same oy ry]; exact decide_eq_true e)]
      show some b.2.round = some (nearF y.2)
      rw [rel_round oy.p2 ry.d2 ry.e2]
    · rw [if_neg e]
      have ya : t * y.1.2 < y.1.1 := by omega
      have none_same : (b :: rest).find? (fun (x : Q × Q) => x.1.same (.of t)) = none := by
        rw [← ed]
        refine List.find?_eq_none.mpr fun q hq => ?_
        obtain ⟨i, hi⟩ := List.getElem?_of_mem hq
        rw [List.getElem?_drop] at hi
        obtain ⟨k, hk, ok, rk⟩ := partner _ q hi
        rw [rel_same ok rk]
        have s1 := good.so n (n + i) y k (by omega) hy hk
        have s2 := Int.mul_lt_mul_of_pos_right ya ok.p1
        have s3 : t * k.1.2 * y.1.2 < k.1.1 * y.1.2 := by
          have e : t * y.1.2 * k.1.2 = t * k.1.2 * y.1.2 := by rw [Int.mul_assoc, Int.mul_comm y.1.2, ← Int.mul_assoc]
          omega
        have s4 := Int.lt_of_mul_lt_mul_right s3 (Int.le_of_lt oy.p1)
        rw [decide_eq_false (by omega)]
        decide
      rw [none_same, List.find?_cons_of_pos (by rw [rel_above oy ry]; exact decide_eq_true ya)]
      by_cases n0 : n = 0
      · subst n0
        rfl
      · rw [if_neg n0]
        have hl : (qs.take n).getLast? = qs[n - 1]? := by
          have hn : n < qs.length := (List.getElem?_eq_some_iff.mp hqn).1
          rw [List.getLast?_eq_getElem?, List.length_take, Nat.min_eq_left (by omega), List.getElem?_take_of_lt (by omega)]
        obtain ⟨a, ha⟩ : ∃ a, qs[n - 1]? = some a := ⟨_, List.getElem?_eq_getElem (by have := (List.getElem?_eq_some_iff.mp hqn).1; omega)⟩
        obtain ⟨x, hx, ox, rx⟩ := partner (n - 1) a ha
        have bx : x.1.1 < t * x.1.2 := hbe (n - 1) x (by omega) hx
        rw [hl, ha, hx]
        dsimp only
        have hxy : x.1.1 * y.1.2 < y.1.1 * x.1.2 := by
          have z1 := Int.mul_lt_mul_of_pos_right bx oy.p1
          have z2 := Int.mul_lt_mul_of_pos_right ya ox.p1
          have e : t * y.1.2 * x.1.2 = t * x.1.2 * y.1.2 := by rw [Int.mul_assoc, Int.mul_comm y.1.2, ← Int.mul_assoc]
          omega
        have eg : (Q.of gap).below (b.1.less a.1) = decide ((gap : Int) * (spanF x.1 y.1).2 < (spanF x.1 y.1).1) := by
          rw [← below_congr (p := .of gap) (q := .of gap) Nat.one_pos Nat.one_pos (r := (qOf y.1).less (qOf x.1)) (s := b.1.less a.1) (Nat.mul_pos (qden oy.p1) (qden ox.p1)) (Nat.mul_pos ry.d1 rx.d1) rfl (less_congr ry.e1 rx.e1)]
          unfold Q.below Q.less qOf Q.of spanF
          dsimp only
          rw [Int.natCast_mul, Int.toNat_of_nonneg (Int.le_of_lt oy.p1), Int.toNat_of_nonneg (Int.le_of_lt ox.p1), Int.natCast_one, Int.mul_one, Int.mul_comm y.1.2 x.1.2]
        rw [eg]
        by_cases c : (gap : Int) * (spanF x.1 y.1).2 < (spanF x.1 y.1).1
        · rw [if_pos c, decide_eq_true c, if_pos rfl]
          rfl
        · rw [if_neg c, decide_eq_false c, if_neg (by decide)]
          show some (Tide.line a.1 a.2 b.1 b.2 (.of t)).round = some (nearF (hbF x y t))
          have pq : 0 < ((qOf y.1).less (qOf x.1)).num := by
            unfold Q.less qOf
            dsimp only
            rw [Int.toNat_of_nonneg (Int.le_of_lt oy.p1), Int.toNat_of_nonneg (Int.le_of_lt ox.p1)]
            omega
          have ab : a.1.below b.1 = true := by
            rw [← below_congr (qden ox.p1) rx.d1 (qden oy.p1) ry.d1 rx.e1 ry.e1]
            unfold Q.below qOf
            dsimp only
            rw [Int.toNat_of_nonneg (Int.le_of_lt oy.p1), Int.toNat_of_nonneg (Int.le_of_lt ox.p1)]
            exact decide_eq_true hxy
          have pp := less_pos ab
          have hpos := hb_pos (t := t) ox oy bx ya
          have E := hb_line (t := t) ox oy hxy
          have L := line_congr rx.e1 rx.e2 ry.e1 ry.e2 (x := .of t) (x' := .of t) rfl pq pp
          have r1 := round_congr (qden hpos) (line_den (qden ox.p1) (qden ox.p2) (qden oy.p2) (x := .of t) Nat.one_pos pq) E
          have r2 := round_congr (line_den (qden ox.p1) (qden ox.p2) (qden oy.p2) (x := .of t) Nat.one_pos pq) (line_den rx.d1 rx.d2 ry.d2 (x := .of t) Nat.one_pos pp) L
          rw [near_q hpos, r1, r2]
end Gc
end
section
set_option Elab.async false
set_option linter.all false
set_option bootstrap.genMatcherCode false
set_option genSizeOf false
set_option maxRecDepth 100000
set_option maxHeartbeats 2000000
namespace Gc
open Gm
open Tide (Q)
/-! ## sizes -/
theorem line_num {a b : Int × Int} {c : Int} (ha : a.1.natAbs < 2 ^ 40 ∧ a.2.natAbs < 2 ^ 40) (hb : b.1.natAbs < 2 ^ 40 ∧ b.2.natAbs < 2 ^ 40) (hc : c.natAbs < 2 ^ 40) : Bt 100 (lineF a b c).1 :=
  (((bt40 ha.2).mul ((bt40 hb.1).sub (bt40 ha.1))).mono (show 40 + (40 + 1) ≤ 82 by decide)).add (((bt40 hc).sub (bt40 ha.1)).mul ((bt40 hb.2).sub (bt40 ha.2))) |>.mono (by decide)
theorem betw_num : ∀ (a : Int × Int) (l : List (Int × Int)) (c : Int), Small (a :: l) → c.natAbs < 2 ^ 40 → Bt 100 (betw a l c).1
  | a, [], c, _, _ => by
    show (0 : Int).natAbs < 2 ^ 100
    decide
  | a, b :: l, c, hs, hc => by
    show Bt 100 (if c ≤ b.1 then lineF a b c else betw b l c).1
    split
    · exact line_num (hs a List.mem_cons_self) (hs b (List.mem_cons_of_mem _ List.mem_cons_self)) hc
    · exact betw_num b l c (fun p hp => hs p (List.mem_cons_of_mem _ hp)) hc
theorem ttF_num {ps : List (Int × Int)} {c : Int} (hs : Small ps) (hc : c.natAbs < 2 ^ 40) : Bt 100 (ttF ps c).1 := by
  cases ps with
  | nil => exact (bt40 hc).mono (by decide)
  | cons a l =>
    unfold ttF
    dsimp only
    have ha := hs a List.mem_cons_self
    have hl := hs _ (last_mem a l)
    split
    · exact (((bt40 hc).add (bt40 ha.2)).sub ((bt40 ha.1).mono (by decide))).mono (by decide)
    · split
      · exact (((bt40 hc).add (bt40 hl.2)).sub ((bt40 hl.1).mono (by decide))).mono (by decide)
      · exact betw_num a l c hs hc
theorem zzF_num {ps : List (Int × Int)} {c : Int} (hs : Small ps) (hc : c.natAbs < 2 ^ 40) : Bt 100 (zzF ps c).1 := by
  cases ps with
  | nil =>
    show (0 : Int).natAbs < 2 ^ 100
    decide
  | cons a l =>
    unfold zzF
    dsimp only
    have ha := hs a List.mem_cons_self
    have hl := hs _ (last_mem a l)
    split
    · exact (bt40 ha.2).mono (by decide)
    · split
      · exact (bt40 hl.2).mono (by decide)
      · exact betw_num a l c hs hc
theorem kept_ok {ws zs : List (Int × Int)} {p : Int × Int} (sw : Small ws) (sz : Small zs) (rw_ : Rise ws) (rz : Rise zs) (hp : p.1.natAbs < 2 ^ 40 ∧ p.2.natAbs < 2 ^ 40) : KpOk (keptOf ws zs p) := by
  have t1 := ttF_num (c := p.1) sw hp.1
  have t2 := ttF_den (c := p.1) sw rw_
  have z1 := zzF_num (c := p.1) sz hp.1
  have z2 := zzF_den (c := p.1) sz rz
  refine ⟨t1.mono (by decide), (bt64 t2).mono (by decide), ?_, (bt64 z2).mono (by decide), t2.1, z2.1⟩
  exact ((((bt40 hp.2).mul (bt64 z2)).mono (show 40 + 64 ≤ 110 by decide)).add (z1.mono (by decide))).mono (by decide)
/-! ## times rise with clocks -/
noncomputable def Qle (a b : Q) : Prop := a.num * (b.den : Int) ≤ b.num * (a.den : Int)
theorem Qle.via {a b : Q} {m : Int} (h1 : a.num ≤ m * (a.den : Int)) (h2 : m * (b.den : Int) ≤ b.num) : Qle a b := by
  unfold Qle
  have z1 := Int.mul_le_mul_of_nonneg_right h1 (show (0 : Int) ≤ (b.den : Int) by omega)
  have z2 := Int.mul_le_mul_of_nonneg_right h2 (show (0 : Int) ≤ (a.den : Int) by omega)
  have e : m * (a.den : Int) * (b.den : Int) = m * (b.den : Int) * (a.den : Int) := by rw [Int.mul_assoc, Int.mul_comm (a.den : Int), ← Int.mul_assoc]
  omega
/-- both clocks and times rise -/
noncomputable def Rise2 (ps : List (Int × Int)) : Prop := ∀ (i : Nat) (x y : Int × Int), ps[i]? = some x → ps[i + 1]? = some y → x.1 < y.1 ∧ x.2 < y.2
theorem rise2_tail {a : Int × Int} {l : List (Int × Int)} (h : Rise2 (a :: l)) : Rise2 l := fun i x y h1 h2 => h (i + 1) x y h1 h2
theorem line_ge {a b c d x : Int} (h1 : a < c) (h2 : b < d) (hx : a ≤ x) : b * (c - a) ≤ b * (c - a) + (x - a) * (d - b) := by
  have := Int.mul_nonneg (show 0 ≤ x - a by omega) (show 0 ≤ d - b by omega)
  omega
theorem line_le {a b c d x : Int} (h1 : a < c) (h2 : b < d) (hx : x ≤ c) : b * (c - a) + (x - a) * (d - b) ≤ d * (c - a) := by
  have := Int.mul_nonneg (show 0 ≤ c - x by omega) (show 0 ≤ d - b by omega)
  have e : d * (c - a) - (b * (c - a) + (x - a) * (d - b)) = (c - x) * (d - b) := by grind
  omega
theorem line_up {a b c d x y : Int} (h2 : b < d) (hx : x ≤ y) : b * (c - a) + (x - a) * (d - b) ≤ b * (c - a) + (y - a) * (d - b) := by
  have := Int.mul_le_mul_of_nonneg_right (show x - a ≤ y - a by omega) (show 0 ≤ d - b by omega)
  omega
theorem timeFrom_ge : ∀ (a : Tide.Watch) (l : List Tide.Watch) (c : Int), Rise2 (wPr a :: l.map wPr) → a.clock ≤ c → a.time * ((Tide.timeFrom a l c).den : Int) ≤ (Tide.timeFrom a l c).num
  | a, [], c, _, hc => by
    show a.time * 1 ≤ c + (a.time - a.clock)
    omega
  | a, b :: l, c, hR, hc => by
    have hab := hR 0 (wPr a) (wPr b) rfl rfl
    have h1 : a.clock < b.clock := hab.1
    have h2 : a.time < b.time := hab.2
    unfold Tide.timeFrom
    by_cases hb : c ≤ b.clock
    · rw [if_pos hb, line_of h1]
      show a.time * (((b.clock - a.clock).toNat : Nat) : Int) ≤ _
      rw [Int.toNat_of_nonneg (by omega)]
      exact line_ge h1 h2 hc
    · rw [if_neg hb]
      have ih := timeFrom_ge b l c (rise2_tail hR) (by omega)
      have z := Int.mul_le_mul_of_nonneg_right (show a.time ≤ b.time by omega) (show (0 : Int) ≤ ((Tide.timeFrom b l c).den : Int) by omega)
      omega
theorem timeFrom_mono : ∀ (a : Tide.Watch) (l : List Tide.Watch) (c d : Int), Rise2 (wPr a :: l.map wPr) → a.clock ≤ c → c ≤ d → Qle (Tide.timeFrom a l c) (Tide.timeFrom a l d)
  | a, [], c, d, _, hc, hd => by
    show (c + (a.time - a.clock)) * 1 ≤ (d + (a.time - a.clock)) * 1
    omega
  | a, b :: l, c, d, hR, hc, hd => by
    have hab := hR 0 (wPr a) (wPr b) rfl rfl
    have h1 : a.clock < b.clock := hab.1
    have h2 : a.time < b.time := hab.2
    unfold Tide.timeFrom
    by_cases hdb : d ≤ b.clock
    · rw [if_pos hdb, if_pos (show c ≤ b.clock by omega), line_of h1, line_of h1]
      exact Int.mul_le_mul_of_nonneg_right (line_up h2 hd) (by omega)
    · rw [if_neg hdb]
      by_cases hcb : c ≤ b.clock
      · rw [if_pos hcb, line_of h1]
        refine Qle.via (m := b.time) ?_ (timeFrom_ge b l d (rise2_tail hR) (by omega))
        show _ ≤ b.time * (((b.clock - a.clock).toNat : Nat) : Int)
        rw [Int.toNat_of_nonneg (by omega)]
        exact line_le h1 h2 hcb
      · rw [if_neg hcb]
        exact timeFrom_mono b l c d (rise2_tail hR) (by omega) hd
theorem time_mono {G : Tide.Gauge} (hR : Rise2 (G.watches.map wPr)) {c d : Int} (h : c ≤ d) : Qle (G.time c) (G.time d) := by
  unfold Tide.Gauge.time
  cases e : G.watches with
  | nil =>
    show c * 1 ≤ d * 1
    omega
  | cons a l =>
    rw [e] at hR
    dsimp only
    by_cases hd : d ≤ a.clock
    · rw [if_pos hd, if_pos (show c ≤ a.clock by omega)]
      show (c + (a.time - a.clock)) * 1 ≤ (d + (a.time - a.clock)) * 1
      omega
    · rw [if_neg hd]
      by_cases hc : c ≤ a.clock
      · rw [if_pos hc]
        refine Qle.via (m := a.time) ?_ (timeFrom_ge a l d hR (by omega))
        show c + (a.time - a.clock) ≤ a.time * 1
        omega
      · rw [if_neg hc]
        exact timeFrom_mono a l c d hR (by omega) h
theorem Qle.congr {p q a b : Q} (hp : 0 < p.den) (hq : 0 < q.den) (ha : 0 < a.den) (hb : 0 < b.den) (h : Eqv p a) (k : Eqv q b) (z : Qle a b) : Qle p q := by
  unfold Qle at *
  have e := below_congr hq hb hp ha k h
  unfold Q.below at e
  have z2 : ¬ b.num * (a.den : Int) < a.num * (b.den : Int) := by omega
  rw [decide_eq_false z2] at e
  have := of_decide_eq_false e
  omega
/-! ## what is kept of a gauge that was taken -/
theorem Valid.rise2 {G : Tide.Gauge} (V : Valid G) : Rise2 (G.watches.map wPr) := fun i x y h1 h2 => ⟨V.form.wr i x y h1 h2, V.form.wt i x y h1 h2⟩
theorem Valid.smallZ {G : Tide.Gauge} (V : Valid G) : Small (G.staffs.map sPr) := by
  have h := V.form.small.2.2
  unfold zsOf at h
  rw [List.map_map] at h
  exact h
theorem rise_lt {ps : List (Int × Int)} (hR : Rise ps) : ∀ (d i : Nat) (x y : Int × Int), ps[i]? = some x → ps[i + d + 1]? = some y → x.1 < y.1
  | 0, i, x, y, h1, h2 => hR i x y h1 h2
  | d + 1, i, x, y, h1, h2 => by
    have hl := (List.getElem?_eq_some_iff.mp h2).1
    obtain ⟨z, hz⟩ : ∃ z, ps[i + d + 1]? = some z := ⟨_, List.getElem?_eq_getElem (by omega)⟩
    have a := rise_lt hR d i x z h1 hz
    have b := hR (i + d + 1) z y hz (by rw [show i + d + 1 + 1 = i + (d + 1) + 1 by omega]; exact h2)
    omega
theorem Valid.good {G : Tide.Gauge} (V : Valid G) : KGood (gd G).kept := by
  have sP := V.form.small.1
  have sW := V.form.small.2.1
  have sZ := V.smallZ
  have rW := V.riseW
  have rZ := V.riseZ
  have ek : (gd G).kept = keptF G.spike (G.points.map pPr) (G.watches.map wPr) (G.staffs.map sPr) (G.points.map pPr).length := rfl
  refine ⟨fun k hk => ?_, ?_, ?_⟩
  · rw [ek] at hk
    unfold keptF at hk
    obtain ⟨i, _, hi⟩ := List.mem_filterMap.mp hk
    cases e : (G.points.map pPr)[i]? with
    | none => rw [e] at hi; cases hi
    | some p =>
      rw [e] at hi
      obtain rfl := Option.some.inj hi
      exact kept_ok sW sZ rW rZ (sP p (List.mem_of_getElem? e))
  · have pw : (gd G).kept.Pairwise fun x y => x.1.1 * y.1.2 ≤ y.1.1 * x.1.2 := by
      rw [ek]
      unfold keptF
      refine List.pairwise_filterMap.mpr ?_
      refine List.Pairwise.filter _ ?_
      refine List.pairwise_lt_range.imp fun {i j} hij => ?_
      intro x hx y hy
      cases e1 : (G.points.map pPr)[i]? with
      | none => rw [e1] at hx; cases hx
      | some p =>
        cases e2 : (G.points.map pPr)[j]? with
        | none => rw [e2] at hy; cases hy
        | some q =>
          rw [e1] at hx
          rw [e2] at hy
          obtain rfl := Option.some.inj hx
          obtain rfl := Option.some.inj hy
          have hpq : p.1 < q.1 := rise_lt V.form.pr (j - i - 1) i p q e1 (by rw [show i + (j - i - 1) + 1 = j by omega]; exact e2)
          have m := time_mono V.rise2 (show p.1 ≤ q.1 by omega)
          obtain ⟨d1, q1⟩ := time_eq (c := p.1) rW
          obtain ⟨d2, q2⟩ := time_eq (c := q.1) rW
          have t1 := (ttF_den (c := p.1) sW rW).1
          have t2 := (ttF_den (c := q.1) sW rW).1
          have z := Qle.congr (qden t1) (qden t2) d1 d2 q1 q2 m
          unfold Qle qOf at z
          dsimp only at z
          rw [Int.toNat_of_nonneg (Int.le_of_lt t1), Int.toNat_of_nonneg (Int.le_of_lt t2)] at z
          exact z
    intro i j x y hij hx hy
    obtain ⟨hi, ex⟩ := List.getElem?_eq_some_iff.mp hx
    obtain ⟨hj, ey⟩ := List.getElem?_eq_some_iff.mp hy
    by_cases e : i = j
    · subst e
      rw [hx] at hy
      obtain rfl := Option.some.inj hy
      exact Int.le_refl _
    · have z := List.pairwise_iff_getElem.mp pw i j hi hj (by omega)
      rw [ex, ey] at z
      exact z
  · rw [ek]
    refine Nat.le_trans (keptF_len _ _ _ _ _) ?_
    rw [List.length_map]
    have := V.np
    omega
/-- the height told at a time is the document's -/
theorem height_eq {G : Tide.Gauge} (V : Valid G) (t : Int) : (G.heightAt t).map Q.round = (hF (gd G).g (gd G).kept t).map nearF := by
  have sW := V.form.small.2.1
  have sZ := V.smallZ
  have rW := V.riseW
  have rZ := V.riseZ
  rw [heightAt_eq]
  let idx := (List.range G.points.length).filter fun (i : Nat) => !G.spiky i
  let pl := idx.filterMap fun (i : Nat) => G.points[i]?
  have eq1 : G.kept = pl.map fun (x : Tide.Point) => (G.time x.clock, (Q.of x.pen).plus (G.zeroAt x.clock)) := by
    show idx.filterMap _ = (idx.filterMap _).map _
    rw [List.map_filterMap]
  have eq2 : (gd G).kept = pl.map fun (x : Tide.Point) => keptOf (G.watches.map wPr) (G.staffs.map sPr) (pPr x) := by
    show keptF G.spike (G.points.map pPr) (G.watches.map wPr) (G.staffs.map sPr) (G.points.map pPr).length = _
    unfold keptF
    have ef : (fun (i : Nat) => !spikeB G.spike (G.points.map pPr) i) = fun (i : Nat) => !G.spiky i := funext fun i => by rw [spiky_eq]
    rw [List.length_map, ef]
    show idx.filterMap _ = (idx.filterMap _).map _
    rw [List.map_filterMap]
    congr 1
    funext i
    rw [List.getElem?_map, Option.map_map]
    rfl
  refine hgen (gap := G.gap) (qs := G.kept) (ks := (gd G).kept) ?_ ?_ V.good
  · rw [eq1, eq2, List.length_map, List.length_map]
  · intro i q k hq hk
    rw [eq1, List.getElem?_map] at hq
    rw [eq2, List.getElem?_map] at hk
    cases e : pl[i]? with
    | none => rw [e] at hq; cases hq
    | some x =>
      rw [e] at hq hk
      obtain rfl := Option.some.inj hq
      obtain rfl := Option.some.inj hk
      obtain ⟨d1, q1⟩ := time_eq (c := x.clock) rW
      obtain ⟨d2, q2⟩ := zero_eq (c := x.clock) rZ
      have t2 := (zzF_den (c := x.clock) sZ rZ).1
      refine ⟨d1, Nat.mul_pos Nat.one_pos d2, q1, ?_⟩
      show Eqv (qOf (x.pen * (zzF (G.staffs.map sPr) x.clock).2 + (zzF (G.staffs.map sPr) x.clock).1, (zzF (G.staffs.map sPr) x.clock).2)) _
      have e3 : qOf (x.pen * (zzF (G.staffs.map sPr) x.clock).2 + (zzF (G.staffs.map sPr) x.clock).1, (zzF (G.staffs.map sPr) x.clock).2) = (Q.of x.pen).plus (qOf (zzF (G.staffs.map sPr) x.clock)) := by
        unfold qOf Q.plus Q.of
        dsimp only
        rw [Int.toNat_of_nonneg (Int.le_of_lt t2), Int.natCast_one, Int.mul_one, Nat.one_mul]
      rw [e3]
      exact plus_congr rfl q2
end Gc
end
section
set_option Elab.async false
set_option linter.all false
set_option bootstrap.genMatcherCode false
set_option genSizeOf false
set_option maxRecDepth 100000
set_option maxHeartbeats 2000000
namespace Gc
open Gm
open Tide (Q)
/-! ## a sum over shifts either way is one over pairs -/
theorem fsum_head (f : Nat → Om) : ∀ n : Nat, fsum f (n + 1) = oadd (f 0) (fsum (fun j => f (j + 1)) n)
  | 0 => by
    show oadd oz (f 0) = oadd (f 0) oz
    rw [oadd_comm]
  | n + 1 => by
    show oadd (fsum f (n + 1)) (f (n + 1)) = oadd (f 0) (oadd (fsum (fun j => f (j + 1)) n) (f (n + 1)))
    rw [fsum_head f n, oadd_assoc]
theorem fsum_congr {f g : Nat → Om} : ∀ n : Nat, (∀ j < n, f j = g j) → fsum f n = fsum g n
  | 0, _ => rfl
  | n + 1, h => by
    show oadd (fsum f n) (f n) = oadd (fsum g n) (g n)
    rw [fsum_congr n fun j hj => h j (by omega), h n (by omega)]
noncomputable def pairF (g : Int → Om) (k : Nat) : Om := if k = 0 then g 0 else oadd (g (-(k : Int))) (g (k : Int))
theorem fsum_sym (g : Int → Om) : ∀ n : Nat, fsum (fun (j : Nat) => g ((j : Int) - (n : Int))) (2 * n + 1) = fsum (pairF g) (n + 1)
  | 0 => by
    show oadd oz (g (0 - 0)) = oadd oz (pairF g 0)
    rfl
  | n + 1 => by
    have e1 : fsum (fun (j : Nat) => g ((j : Int) - ((n + 1 : Nat) : Int))) (2 * (n + 1) + 1) = oadd (fsum (fun (j : Nat) => g ((j : Int) - ((n + 1 : Nat) : Int))) (2 * n + 1 + 1)) (g (((2 * n + 1 + 1 : Nat) : Int) - ((n + 1 : Nat) : Int))) := rfl
    rw [e1, fsum_head]
    have e2 : fsum (fun (j : Nat) => g (((j + 1 : Nat) : Int) - ((n + 1 : Nat) : Int))) (2 * n + 1) = fsum (pairF g) (n + 1) := by
      rw [← fsum_sym g n]
      refine fsum_congr _ fun j _ => ?_
      show g _ = g _
      congr 1
      omega
    rw [e2]
    have e3 : (((2 * n + 1 + 1 : Nat) : Int) - ((n + 1 : Nat) : Int)) = ((n + 1 : Nat) : Int) := by omega
    have e4 : (((0 : Nat) : Int) - ((n + 1 : Nat) : Int)) = -((n + 1 : Nat) : Int) := by omega
    rw [e3, e4]
    show _ = oadd (fsum (pairF g) (n + 1)) (pairF g (n + 1))
    have e5 : pairF g (n + 1) = oadd (g (-((n + 1 : Nat) : Int))) (g ((n + 1 : Nat) : Int)) := if_neg (by omega)
    rw [e5, oadd_comm (g (-((n + 1 : Nat) : Int))) (fsum (pairF g) (n + 1)), oadd_assoc]
/-- from the k-th on, so many -/
noncomputable def tsum (f : Nat → Om) : Nat → Nat → Om
  | _, 0 => oz
  | k, m + 1 => oadd (f k) (tsum f (k + 1) m)
theorem tsum_fsum (f : Nat → Om) : ∀ (m k : Nat), tsum f k m = fsum (fun j => f (k + j)) m
  | 0, _ => rfl
  | m + 1, k => by
    rw [fsum_head]
    show oadd (f k) (tsum f (k + 1) m) = oadd (f (k + 0)) _
    rw [tsum_fsum f m (k + 1)]
    congr 1
    refine fsum_congr _ fun j _ => ?_
    show f _ = f _
    congr 1
    omega
/-! ## heights that may be there -/
noncomputable def optH (x : Int × Int) : Option Int := if x.1 = 1 then some x.2 else none
theorem had_eq {hs : List (Int × Int)} (hf : ∀ p ∈ hs, formB p = true) (z : Int) : hadP hs z = Tide.had (hs.map optH) z := by
  unfold hadP Tide.had
  by_cases h : z < 0
  · rw [if_pos h, if_pos h]
  · rw [if_neg h, if_neg h, List.getElem?_map]
    cases e : hs[z.toNat]? with
    | none => rfl
    | some p =>
      have fp := hf p (List.mem_of_getElem? e)
      show (if p.1 = 0 then none else some p.2) = optH p
      unfold optH
      unfold formB at fp
      by_cases e1 : p.1 = 1
      · rw [if_pos e1, if_neg (by omega)]
      · rw [if_neg e1, Bool.and_eq_true] at fp
        rw [if_neg e1, if_pos (of_decide_eq_true fp.1)]
noncomputable def sumN (l : List Nat) : Nat := l.foldr (fun (a b : Nat) => a + b) 0
noncomputable def wFrom (k : Nat) (l : List Nat) : Nat := if k = 0 then Tide.allWeights l else 2 * sumN l
theorem weighed_cons (h : List (Option Int)) (i k w : Nat) (l : List Nat) : Tide.weighed h i k (w :: l) = match Tide.weighed h i (k + 1) l with
    | none => none
    | some s => if w = 0 then some s else if k = 0 then (Tide.had h i).map fun (x : Int) => w * x + s else match Tide.had h ((i : Int) - k), Tide.had h ((i : Int) + k) with
      | some x, some y => some (w * (x + y) + s)
      | _, _ => none := rfl
theorem weigh {hs : List (Int × Int)} {w : List Nat} {i : Nat} (hf : ∀ p ∈ hs, formB p = true) : ∀ (l : List Nat) (k : Nat), w.drop k = l →
    tsum (pairF (termF hs (w.map fun (n : Nat) => (n : Int)) i)) k l.length = (Tide.weighed (hs.map optH) i k l).map fun s => (s, ((wFrom k l : Nat) : Int))
  | [], k, _ => by
    show oz = some ((0 : Int), ((wFrom k [] : Nat) : Int))
    have : wFrom k [] = 0 := by
      unfold wFrom
      split <;> rfl
    rw [this]
    rfl
  | x :: l, k, h => by
    have h1 : w[k]? = some x := by
      have z : (w.drop k)[0]? = some x := by rw [h]; rfl
      rw [List.getElem?_drop] at z
      exact z
    have h2 : w.drop (k + 1) = l := by
      rw [← List.drop_drop, h]
      rfl
    have ih := weigh (i := i) hf l (k + 1) h2
    have gd : (w.map fun (n : Nat) => (n : Int)).getD k 0 = (x : Int) := getD_of (by rw [List.getElem?_map, h1]; rfl)
    have e0 : wFrom (k + 1) l = 2 * sumN l := if_neg (by omega)
    rw [e0] at ih
    show oadd (pairF _ k) (tsum _ (k + 1) l.length) = _
    rw [ih, weighed_cons]
    cases ew : Tide.weighed (hs.map optH) i (k + 1) l with
    | none =>
      show oadd _ none = none
      exact oadd_none _
    | some s =>
      dsimp only
      show oadd (pairF _ k) (some (s, ((2 * sumN l : Nat) : Int))) = _
      by_cases k0 : k = 0
      · subst k0
        have ep : pairF (termF hs (w.map fun (n : Nat) => (n : Int)) i) 0 = termF hs (w.map fun (n : Nat) => (n : Int)) i 0 := if_pos rfl
        have et : termF hs (w.map fun (n : Nat) => (n : Int)) i 0 = if (x : Int) = 0 then oz else (hadP hs ((i : Int) + 0)).map fun h => ((x : Int) * h, (x : Int)) := by
          unfold termF
          rw [show (0 : Int).natAbs = 0 from rfl, gd]
        rw [ep, et, Int.add_zero, had_eq hf]
        have e1 : wFrom 0 (x :: l) = x + 2 * sumN l := if_pos rfl
        rw [e1]
        by_cases x0 : x = 0
        · rw [if_pos (by omega), if_pos x0, oadd_zl, x0]
          show some (s, _) = some (s, _)
          rw [Nat.zero_add]
        · rw [if_neg (by omega), if_neg x0, if_pos rfl]
          cases Tide.had (hs.map optH) (i : Int) with
          | none => rfl
          | some y =>
            show some ((x : Int) * y + s, (x : Int) + ((2 * sumN l : Nat) : Int)) = some ((x : Int) * y + s, ((x + 2 * sumN l : Nat) : Int))
            rw [Int.natCast_add]
      · have ep : pairF (termF hs (w.map fun (n : Nat) => (n : Int)) i) k = oadd (termF hs (w.map fun (n : Nat) => (n : Int)) i (-(k : Int))) (termF hs (w.map fun (n : Nat) => (n : Int)) i (k : Int)) := if_neg k0
        have et : ∀ sh : Int, sh.natAbs = k → termF hs (w.map fun (n : Nat) => (n : Int)) i sh = if (x : Int) = 0 then oz else (hadP hs ((i : Int) + sh)).map fun h => ((x : Int) * h, (x : Int)) := fun sh e => by
          unfold termF
          rw [e, gd]
        rw [ep, et (-(k : Int)) (by omega), et (k : Int) (by omega), had_eq hf, had_eq hf, ← Int.sub_eq_add_neg]
        have e1 : wFrom k (x :: l) = 2 * (x + sumN l) := if_neg k0
        rw [e1]
        by_cases x0 : x = 0
        · rw [if_pos (by omega), if_pos (by omega), if_pos x0, oadd_zl, oadd_zl, x0]
          show some (s, _) = some (s, _)
          rw [Nat.zero_add]
        · rw [if_neg (by omega), if_neg (by omega), if_neg x0, if_neg k0]
          cases Tide.had (hs.map optH) ((i : Int) - (k : Int)) with
          | none =>
            cases Tide.had (hs.map optH) ((i : Int) + (k : Int)) <;> rfl
          | some y =>
            cases Tide.had (hs.map optH) ((i : Int) + (k : Int)) with
            | none => rfl
            | some z =>
              show some (((x : Int) * y + (x : Int) * z) + s, ((x : Int) + (x : Int)) + ((2 * sumN l : Nat) : Int)) = some ((x : Int) * (y + z) + s, ((2 * (x + sumN l) : Nat) : Int))
              rw [Int.mul_add]
              congr 2
              omega
theorem sm_eq {hs : List (Int × Int)} {w : List Nat} {i : Nat} (hf : ∀ p ∈ hs, formB p = true) (w0 : w.length ≠ 0) :
    smF hs (w.map fun (n : Nat) => (n : Int)) i = (Tide.weighed (hs.map optH) i 0 w).map fun s => (s, ((Tide.allWeights w : Nat) : Int)) := by
  unfold smF
  rw [List.length_map, fsum_sym (termF hs (w.map fun (n : Nat) => (n : Int)) i) (w.length - 1), Nat.sub_add_cancel (by omega)]
  have z := weigh (i := i) hf w 0 rfl
  rw [tsum_fsum] at z
  have e : (fun j => pairF (termF hs (w.map fun (n : Nat) => (n : Int)) i) (0 + j)) = pairF (termF hs (w.map fun (n : Nat) => (n : Int)) i) := funext fun j => by rw [Nat.zero_add]
  rw [e] at z
  exact z
theorem allW_pos {w : List Nat} (h : ∃ x ∈ w, x ≠ 0) : 0 < Tide.allWeights w := by
  have sm : ∀ (l : List Nat) (x : Nat), x ∈ l → x ≤ sumN l := fun l => by
    induction l with
    | nil => intro x hx; cases hx
    | cons a l ih =>
      intro x hx
      show x ≤ a + sumN l
      rcases List.mem_cons.mp hx with e | e
      · omega
      · have := ih x e
        omega
  obtain ⟨x, hx, x0⟩ := h
  cases w with
  | nil => cases hx
  | cons a l =>
    show 0 < a + 2 * sumN l
    rcases List.mem_cons.mp hx with e | e
    · omega
    · have := sm l x e
      omega
/-- smoothed rows are the document's -/
theorem smooth_eq {hs : List (Int × Int)} {w : List Nat} (hf : ∀ p ∈ hs, formB p = true) (hw : ∃ x ∈ w, x ≠ 0) : smHs hs (w.map fun (n : Nat) => (n : Int)) hs.length = Tide.smoothed (hs.map optH) w := by
  have w0 : w.length ≠ 0 := by
    obtain ⟨x, hx, _⟩ := hw
    have := List.length_pos_of_mem hx
    omega
  unfold smHs Tide.smoothed
  rw [List.length_map]
  refine List.map_congr_left fun i _ => ?_
  rw [sm_eq hf w0, Option.map_map]
  cases Tide.weighed (hs.map optH) i 0 w with
  | none => rfl
  | some s =>
    show some (nearF (s, ((Tide.allWeights w : Nat) : Int))) = some (Q.round ⟨s, Tide.allWeights w⟩)
    rw [near_q (show (0 : Int) < ((Tide.allWeights w : Nat) : Int) by have := allW_pos hw; omega)]
    rfl
end Gc
end
section
set_option Elab.async false
set_option linter.all false
set_option bootstrap.genMatcherCode false
set_option genSizeOf false
set_option maxRecDepth 100000
set_option maxHeartbeats 2000000
namespace Gc
open Gm
open Tide (Q)
/-! ## a call by itself -/
inductive Shape : Int → List Int → List (List Int) → Prop
  | gauge (a b : Nat) (p w t : List Int) (ps ws : List (Int × Int)) (ts : List (Int × Int × Int)) : Tide.couples? p = some ps → Tide.couples? w = some ws → Tide.triples? t = some ts → Shape 0 [(a : Int), (b : Int)] [p, w, t]
  | spikes : Shape 1 [] []
  | time (c : Int) : Shape 2 [c] []
  | zero (c : Int) : Shape 3 [c] []
  | at_ (c : Int) : Shape 4 [c] []
  | row (t : Int) (p k : Nat) : Shape 5 [t, (p : Int), (k : Int)] []
  | smooth (h : List Int) (hs : List (Int × Int)) (w : List Nat) : Tide.couples? h = some hs → Shape 6 [] [h, w.map fun (n : Nat) => (n : Int)]
theorem couples_some : ∀ l : List Int, l.length % 2 = 0 → ∃ ps, Tide.couples? l = some ps
  | [], _ => ⟨[], rfl⟩
  | [_], h => by simp at h
  | a :: b :: r, h => by
    obtain ⟨ps, e⟩ := couples_some r (by simp at h; omega)
    refine ⟨(a, b) :: ps, ?_⟩
    show (Tide.couples? r).map _ = _
    rw [e]
    rfl
theorem triples_some : ∀ l : List Int, l.length % 3 = 0 → ∃ ps, Tide.triples? l = some ps
  | [], _ => ⟨[], rfl⟩
  | [_], h => by simp at h
  | [_, _], h => by simp at h
  | a :: b :: c :: r, h => by
    obtain ⟨ps, e⟩ := triples_some r (by simp at h; omega)
    refine ⟨(a, b, c) :: ps, ?_⟩
    show (Tide.triples? r).map _ = _
    rw [e]
    rfl
theorem nats_of : ∀ l : List Int, (∀ z ∈ l, 0 ≤ z) → ∃ w : List Nat, l = w.map fun (n : Nat) => (n : Int)
  | [], _ => ⟨[], rfl⟩
  | z :: l, h => by
    obtain ⟨w, e⟩ := nats_of l fun y hy => h y (List.mem_cons_of_mem _ hy)
    refine ⟨z.toNat :: w, ?_⟩
    rw [List.map_cons, ← e, Int.toNat_of_nonneg (h z List.mem_cons_self)]
theorem shape_of {c : Int} {nums : List Int} {rows : List (List Int)} (hs : PyWqaccr.shape c = some (nums.length, rows.length)) (h : TideGaugesNeutral.asked1 ((c :: nums) :: rows) = true) : Shape c nums rows := by
  rcases shape_cases hs with ⟨rfl, h1, h2⟩ | ⟨rfl, h1, h2⟩ | ⟨rfl, h1, h2⟩ | ⟨rfl, h1, h2⟩ | ⟨rfl, h1, h2⟩ | ⟨rfl, h1, h2⟩ | ⟨rfl, h1, h2⟩
  · obtain ⟨a, b, rfl⟩ := len_2 h1
    obtain ⟨p, w, t, rfl⟩ := len_3 h2
    have h : (decide (0 ≤ a) && (decide (0 ≤ b) && (decide (p.length % 2 = 0) && (decide (w.length % 2 = 0) && decide (t.length % 3 = 0))))) = true := h
    simp only [Bool.and_eq_true, decide_eq_true_eq] at h
    obtain ⟨h1, h2, h3, h4, h5⟩ := h
    obtain ⟨ps, e1⟩ := couples_some p h3
    obtain ⟨ws, e2⟩ := couples_some w h4
    obtain ⟨ts, e3⟩ := triples_some t h5
    have z := Shape.gauge a.toNat b.toNat p w t ps ws ts e1 e2 e3
    rw [Int.toNat_of_nonneg h1, Int.toNat_of_nonneg h2] at z
    exact z
  · obtain rfl := len_0 h1
    obtain rfl := len_0 h2
    exact .spikes
  · obtain ⟨a, rfl⟩ := len_1 h1
    obtain rfl := len_0 h2
    exact .time _
  · obtain ⟨a, rfl⟩ := len_1 h1
    obtain rfl := len_0 h2
    exact .zero _
  · obtain ⟨a, rfl⟩ := len_1 h1
    obtain rfl := len_0 h2
    exact .at_ _
  · obtain ⟨t, p, k, rfl⟩ := len_3 h1
    obtain rfl := len_0 h2
    have h : (decide (0 ≤ p) && decide (0 ≤ k)) = true := h
    simp only [Bool.and_eq_true, decide_eq_true_eq] at h
    have z := Shape.row t p.toNat k.toNat
    rw [Int.toNat_of_nonneg h.1, Int.toNat_of_nonneg h.2] at z
    exact z
  · obtain rfl := len_0 h1
    obtain ⟨hh, w, rfl⟩ := len_2 h2
    have h : (decide (hh.length % 2 = 0) && w.all (fun (z : Int) => decide (0 ≤ z))) = true := h
    simp only [Bool.and_eq_true, decide_eq_true_eq] at h
    obtain ⟨hs', e1⟩ := couples_some hh h.1
    obtain ⟨w', e2⟩ := nats_of w fun z hz => by
      have := List.all_eq_true.mp h.2 z hz
      exact of_decide_eq_true this
    subst e2
    exact .smooth hh hs' w' e1
/-! ## what each call does, in the program's words -/
theorem nums_num (l : List Int) : (l.map Tide.Item.num).flatMap Tide.Item.nums = l := by
  induction l with
  | nil => rfl
  | cons a l ih =>
    rw [List.map_cons, List.flatMap_cons, ih]
    rfl
theorem nat_some (n : Nat) : Tide.nat? (n : Int) = some n := by
  unfold Tide.nat?
  rw [if_pos (by omega)]
  rfl
theorem row_some (w : List Nat) : Tide.row? (w.map fun (n : Nat) => (n : Int)) = some w := by
  unfold Tide.row?
  induction w with
  | nil => rfl
  | cons a w ih =>
    rw [List.map_cons, List.mapM_cons, nat_some, ih]
    rfl
theorem stp_gauge (s : TideGauges.State) (a b : Nat) (p w t : List Int) {ps ws : List (Int × Int)} {ts : List (Int × Int × Int)} (h1 : Tide.couples? p = some ps) (h2 : Tide.couples? w = some ws) (h3 : Tide.triples? t = some ts) :
    TideGaugesNeutral.step s [[0, (a : Int), (b : Int)], p, w, t] = ((TideGauges.step s (.gauge a b ps ws ts)).1, (TideGauges.step s (.gauge a b ps ws ts)).2.nums) := by
  have e : TideGaugesNeutral.callOf [[0, (a : Int), (b : Int)], p, w, t] = some (.gauge a b ps ws ts) := by
    show ((Tide.nat? (a : Int)).bind fun x1 => (Tide.nat? (b : Int)).bind fun x2 => (Tide.couples? p).bind fun x3 => (Tide.couples? w).bind fun x4 => (Tide.triples? t).bind fun x5 => some (TideGauges.Call.gauge x1 x2 x3 x4 x5)) = _
    rw [nat_some, nat_some, h1, h2, h3]
    rfl
  unfold TideGaugesNeutral.step
  rw [e]
theorem stp_row (s : TideGauges.State) (t : Int) (p k : Nat) : TideGaugesNeutral.step s [[5, t, (p : Int), (k : Int)]] = ((TideGauges.step s (.row t p k)).1, (TideGauges.step s (.row t p k)).2.nums) := by
  have e : TideGaugesNeutral.callOf [[5, t, (p : Int), (k : Int)]] = some (.row t p k) := by
    show ((Tide.nat? (p : Int)).bind fun x1 => (Tide.nat? (k : Int)).bind fun x2 => some (TideGauges.Call.row t x1 x2)) = _
    rw [nat_some, nat_some]
    rfl
  unfold TideGaugesNeutral.step
  rw [e]
theorem stp_smooth (s : TideGauges.State) (h : List Int) (w : List Nat) {hs : List (Int × Int)} (h1 : Tide.couples? h = some hs) :
    TideGaugesNeutral.step s [[6], h, w.map fun (n : Nat) => (n : Int)] = ((TideGauges.step s (.smooth hs w)).1, (TideGauges.step s (.smooth hs w)).2.nums) := by
  have e : TideGaugesNeutral.callOf [[6], h, w.map fun (n : Nat) => (n : Int)] = some (.smooth hs w) := by
    show ((Tide.couples? h).bind fun x1 => (Tide.row? (w.map fun (n : Nat) => (n : Int))).bind fun x2 => some (TideGauges.Call.smooth x1 x2)) = _
    rw [h1, row_some]
    rfl
  unfold TideGaugesNeutral.step
  rw [e]
theorem stp_gauge_bad {s : TideGauges.State} {a b : Nat} {ps ws : List (Int × Int)} {ts : List (Int × Int × Int)} (h : tooMany a b ps ws ts) : TideGauges.step s (.gauge a b ps ws ts) = (s, Tide.says (-1)) := if_pos h
theorem stp_gauge_few {s : TideGauges.State} {a b : Nat} {ps ws : List (Int × Int)} {ts : List (Int × Int × Int)} (h : ¬ tooMany a b ps ws ts) : TideGauges.step s (.gauge a b ps ws ts) = match faultF (ps.map pr) (ws.map pr) (ts.map tr) with
    | some (k, i) => (s, Tide.fault (-6) k i)
    | none => (some (TideGauges.gaugeOf a b ps ws ts), Tide.says 0) := by
  rw [← bad_eq a b]
  exact if_neg h
theorem says_nums (z : Int) : (Tide.says z).nums = [z] := rfl
theorem shows_nums (l : List (Option Int)) : (TideGauges.shows l).nums = rowsF l := by
  unfold TideGauges.shows Tide.tells Tide.Answer.nums rowsF thereOf rowsOf
  dsimp only
  rw [List.flatMap_cons, List.flatMap_nil, List.append_nil]
  show _ :: ((l.map _).length : Int) :: (l.map _).flatMap _ = _
  rw [List.length_map, List.flatMap_map]
/-! ## on a gauge -/
section
variable {G : Tide.Gauge} (V : Valid G)
include V
theorem ans_spikes : ((TideGauges.step (some G) .spikes).2).nums = 0 :: ((spikesF (gd G).s (gd G).pts (gd G).pts.length).length : Int) :: nInts (spikesF (gd G).s (gd G).pts (gd G).pts.length) := by
  have e : spikesF (gd G).s (gd G).pts (gd G).pts.length = G.spikes := spikes_eq G
  rw [e]
  show 0 :: ([Tide.Item.list G.spikes].flatMap Tide.Item.nums) = _
  rw [List.flatMap_cons, List.flatMap_nil, List.append_nil]
  rfl
theorem timely_P (c : Int) : (Tide.timely c = true) ↔ timelyP c := by
  rw [timely_iff, decide_eq_true_eq]
  rfl
theorem ans_time (c : Int) : ((TideGauges.step (some G) (.time c)).2).nums = if timelyP c then toldF (ttF (gd G).ws c).1 (ttF (gd G).ws c).2 else [-1] := by
  show (if Tide.timely c = true then Tide.tells 0 ((G.time c).told.map Tide.Item.num) else Tide.says (-1)).nums = _
  by_cases h : timelyP c
  · rw [if_pos h, if_pos ((timely_P V c).mpr h)]
    obtain ⟨d, e⟩ := time_eq (c := c) V.riseW
    have z := told_eq (p := ttF (gd G).ws c) (q := G.time c) (ttF_den V.form.small.2.1 V.riseW).1 d e
    rw [z]
    show 0 :: ((G.time c).told.map Tide.Item.num).flatMap Tide.Item.nums = _
    rw [nums_num]
  · rw [if_neg h, if_neg fun q => h ((timely_P V c).mp q)]
    rfl
theorem ans_zero (c : Int) : ((TideGauges.step (some G) (.zero c)).2).nums = if timelyP c then toldF (zzF (gd G).zs c).1 (zzF (gd G).zs c).2 else [-1] := by
  show (if Tide.timely c = true then Tide.tells 0 ((G.zeroAt c).told.map Tide.Item.num) else Tide.says (-1)).nums = _
  by_cases h : timelyP c
  · rw [if_pos h, if_pos ((timely_P V c).mpr h)]
    obtain ⟨d, e⟩ := zero_eq (c := c) V.riseZ
    have z := told_eq (p := zzF (gd G).zs c) (q := G.zeroAt c) (zzF_den V.smallZ V.riseZ).1 d e
    rw [z]
    show 0 :: ((G.zeroAt c).told.map Tide.Item.num).flatMap Tide.Item.nums = _
    rw [nums_num]
  · rw [if_neg h, if_neg fun q => h ((timely_P V c).mp q)]
    rfl
theorem ans_at (t : Int) : ((TideGauges.step (some G) (.at_ t)).2).nums = if timelyP t then atF ((hF (gd G).g (gd G).kept t).map nearF) else [-1] := by
  show (if Tide.timely t = true then (match G.heightAt t with
    | some h => Tide.tells 1 [.num h.round]
    | none => Tide.says 0) else Tide.says (-1)).nums = _
  by_cases h : timelyP t
  · rw [if_pos h, if_pos ((timely_P V t).mpr h), ← height_eq V t]
    cases G.heightAt t <;> rfl
  · rw [if_neg h, if_neg fun q => h ((timely_P V t).mp q)]
    rfl
theorem ans_row (t : Int) (p k : Nat) : ((TideGauges.step (some G) (.row t p k)).2).nums = if rowBad t p k then [-1] else rowsF (rowHs (gd G) t p k) := by
  show (if TideGauges.ROW < k ∨ p = 0 ∨ Tide.timely t = false ∨ (0 < k ∧ Tide.timely (t + p * (k - 1)) = false) then Tide.says (-1) else TideGauges.shows ((List.range k).map fun (i : Nat) => (G.heightAt (t + p * i)).map Q.round)).nums = _
  have tf : ∀ c : Int, Tide.timely c = false ↔ ¬ timelyP c := fun c => by
    rw [← timely_P V c]
    simp
  have iff : (TideGauges.ROW < k ∨ p = 0 ∨ Tide.timely t = false ∨ (0 < k ∧ Tide.timely (t + p * (k - 1)) = false)) ↔ rowBad t p k := by
    unfold rowBad
    rw [tf, tf, Int.mul_comm (p : Int)]
    exact Iff.rfl
  by_cases h : rowBad t p k
  · rw [if_pos h, if_pos (iff.mpr h)]
    rfl
  · rw [if_neg h, if_neg fun q => h (iff.mp q), shows_nums]
    congr 1
    unfold rowHs
    refine List.map_congr_left fun i _ => ?_
    rw [height_eq V, Int.mul_comm (p : Int)]
end
theorem mayBe_eq (x : Int × Int) : TideGauges.mayBe x = formB x := by
  unfold TideGauges.mayBe formB TideGauges.ANY
  by_cases h : x.1 = 1
  · rw [if_pos h, h]
    have e : decide (x.2.natAbs ≤ 4000000) = decide (-4000000 ≤ x.2 ∧ x.2 ≤ 4000000) := decide_eq_decide.mpr ⟨fun _ => by omega, fun _ => by omega⟩
    rw [e]
    simp
  · rw [if_neg h]
    have e : (x.1 == 1) = false := beq_eq_false_iff_ne.mpr h
    rw [e]
    simp only [Bool.false_and, Bool.false_or]
    rfl
theorem ans_smooth (s : TideGauges.State) (hs : List (Int × Int)) (w : List Nat) : (TideGauges.step s (.smooth hs w)).1 = s ∧ ((TideGauges.step s (.smooth hs w)).2).nums = smoothF hs (w.map fun (n : Nat) => (n : Int)) := by
  refine ⟨rfl, ?_⟩
  show (if TideGauges.ROW < hs.length ∨ w.length = 0 ∨ TideGauges.WEIGHTS < w.length ∨ (w.any fun (x : Nat) => decide (TideGauges.WEIGHT < x)) = true ∨ (w.all fun (x : Nat) => x == 0) = true then Tide.says (-1) else if hs.all TideGauges.mayBe = false then Tide.says (-6) else TideGauges.shows (Tide.smoothed (hs.map fun (x : Int × Int) => if x.1 = 1 then some x.2 else none) w)).nums = _
  have iff : (TideGauges.ROW < hs.length ∨ w.length = 0 ∨ TideGauges.WEIGHTS < w.length ∨ (w.any fun (x : Nat) => decide (TideGauges.WEIGHT < x)) = true ∨ (w.all fun (x : Nat) => x == 0) = true) ↔ smBad hs (w.map fun (n : Nat) => (n : Int)) := by
    unfold smBad
    rw [List.length_map]
    have e1 : ((w.any fun (x : Nat) => decide (TideGauges.WEIGHT < x)) = true) ↔ (∃ x ∈ (w.map fun (n : Nat) => (n : Int)), 65536 < x) := by
      rw [List.any_eq_true]
      constructor
      · rintro ⟨x, hx, h⟩
        have h : 65536 < x := of_decide_eq_true h
        exact ⟨(x : Int), List.mem_map.mpr ⟨x, hx, rfl⟩, by omega⟩
      · rintro ⟨z, hz, h⟩
        obtain ⟨x, hx, rfl⟩ := List.mem_map.mp hz
        exact ⟨x, hx, decide_eq_true (show 65536 < x by omega)⟩
    have e2 : ((w.all fun (x : Nat) => x == 0) = true) ↔ (∀ x ∈ (w.map fun (n : Nat) => (n : Int)), x = 0) := by
      rw [List.all_eq_true]
      constructor
      · intro h z hz
        obtain ⟨x, hx, rfl⟩ := List.mem_map.mp hz
        have := h x hx
        have : x = 0 := by simpa using this
        omega
      · intro h x hx
        have := h (x : Int) (List.mem_map.mpr ⟨x, hx, rfl⟩)
        have : x = 0 := by omega
        simpa using this
    rw [e1, e2]
    exact Iff.rfl
  unfold smoothF
  by_cases h : smBad hs (w.map fun (n : Nat) => (n : Int))
  · rw [if_pos h, if_pos (iff.mpr h)]
    rfl
  · rw [if_neg h, if_neg fun q => h (iff.mp q)]
    have ea : hs.all TideGauges.mayBe = hs.all formB := by
      congr 1
      exact funext mayBe_eq
    rw [ea]
    cases e : hs.all formB with
    | false =>
      rw [if_pos rfl, if_neg (by decide)]
      rfl
    | true =>
      rw [if_neg (by decide), if_pos rfl, shows_nums]
      have hw : ∃ x ∈ w, x ≠ 0 := by
        have z : ¬ ∀ x ∈ (w.map fun (n : Nat) => (n : Int)), x = 0 := fun q => h (.inr (.inr (.inr (.inr q))))
        apply Classical.byContradiction
        intro c
        refine z fun y hy => ?_
        obtain ⟨x, hx, rfl⟩ := List.mem_map.mp hy
        by_cases x0 : x = 0
        · omega
        · exact absurd ⟨x, hx, x0⟩ c
      rw [smooth_eq (List.all_eq_true.mp e) hw]
      rfl
end Gc
end
section
set_option Elab.async false
set_option linter.all false
set_option bootstrap.genMatcherCode false
set_option genSizeOf false
set_option maxRecDepth 100000
set_option maxHeartbeats 4000000
namespace Gc
open PySem PySem.Spec PyProof.Rows L2
section
variable {P : Program} {w : World} {K : PySem.W.Frag} {mg : Str → Option Value} {base : Heap}
theorem ListsAt.three {H : Hp} {l : Addr} {p q r : List Int} (h : ListsAt K H l [p, q, r]) : ∃ a1 a2 a3, SqL K H l [.ref a1, .ref a2, .ref a3] ∧ SqL K H a1 (p.map V.int) ∧ SqL K H a2 (q.map V.int) ∧ SqL K H a3 (r.map V.int) := by
  obtain ⟨xs, h1, h2, h3⟩ := h
  obtain ⟨a1, e1, s1⟩ := h3 0 p rfl
  obtain ⟨a2, e2, s2⟩ := h3 1 q rfl
  obtain ⟨a3, e3, s3⟩ := h3 2 r rfl
  obtain ⟨x, y, z, rfl⟩ := len_3 h2
  cases e1
  cases e2
  cases e3
  exact ⟨a1, a2, a3, h1, s1, s2, s3⟩
theorem ListsAt.two {H : Hp} {l : Addr} {p q : List Int} (h : ListsAt K H l [p, q]) : ∃ a1 a2, SqL K H l [.ref a1, .ref a2] ∧ SqL K H a1 (p.map V.int) ∧ SqL K H a2 (q.map V.int) := by
  obtain ⟨xs, h1, h2, h3⟩ := h
  obtain ⟨a1, e1, s1⟩ := h3 0 p rfl
  obtain ⟨a2, e2, s2⟩ := h3 1 q rfl
  obtain ⟨x, y, rfl⟩ := len_2 h2
  cases e1
  cases e2
  exact ⟨a1, a2, h1, s1, s2⟩
theorem quiet {CC CG rec : Addr} {H Hg : Hp} {Q : VK} {s : TideGauges.State} {call : List (List Int)} {xs : List Int} (R : RecAt K CC CG H rec s Hg)
    (k : ∀ (H' : Hp) (p : Addr) (Hg' : Hp), RecAt K CC CG H' rec (stp s call).1 Hg' → (∀ x o, H x = some o → Hg x = none → Hg' x = none) → Save rec H H' → H p = none → (stp s call).2.length ≤ 1000 → H' p = some (.lst ((stp s call).2.map V.int)) → Q (.ref p) H')
    (e1 : (stp s call).1 = s) (e2 : (stp s call).2 = xs) (hl : xs.length ≤ 1000) : RetL H Q xs := fun H' p sm h0 h1 => by
  refine k H' p Hg ?_ (fun x o _ z => z) (Save.same sm) h0 (by rw [e2]; exact hl) (by rw [e2]; exact h1)
  rw [e1]
  exact R.keep (fun o e => sm _ _ e) fun b o _ e => sm _ _ e
theorem bt_gap {G : Tide.Gauge} (V : Valid G) : Bt 200 ((gd G).g : Int) := by
  have := V.ng
  show ((G.gap : Nat) : Int).natAbs < 2 ^ 200
  omega
theorem toldF_len (n d : Int) : (toldF n d).length = 4 := rfl
theorem sc_answer_call : FnScope ["recorder", "call", "numbers", "rows"] ["recorder", "call", "numbers", "rows"] (defScope s_answer_call) := ⟨rfl, rfl, rfl, by decide +kernel, rfl, by decide +kernel, by decide +kernel⟩
theorem ok_answer_call {CC CG f f1 f2 f3 f4 f5 f6 f7 : Addr} {fd fd1 fd2 fd3 fd4 fd5 fd6 fd7 : FuncData} (F : Fun K "answer_call" "answer_call" s_answer_call f fd) (TC : ClsC K CC)
    (G1 : FnOk P w K mg base CX0 7 f1 fd1 ["recorder", "numbers", "rows"] (sp_answer_gauge K CC CG)) (m1 : mg "answer_gauge" = some (.ref f1)) (k1 : PySem.W.keepIn K (.ref f1) = true) (b1 : Binds K fd1 ["recorder", "numbers", "rows"] [])
    (G2 : FnOk P w K mg base CX0 3 f2 fd2 ["row", "weights"] (sp_answer_smooth K)) (m2 : mg "answer_smooth" = some (.ref f2)) (k2 : PySem.W.keepIn K (.ref f2) = true) (b2 : Binds K fd2 ["row", "weights"] [])
    (G3 : FnOk P w K mg base CX0 2 f3 fd3 ["gauge"] (sp_answer_spikes K CG)) (m3 : mg "answer_spikes" = some (.ref f3)) (k3 : PySem.W.keepIn K (.ref f3) = true) (b3 : Binds K fd3 ["gauge"] [])
    (G4 : FnOk P w K mg base CX0 4 f4 fd4 ["gauge", "clock"] (sp_answer_time K CG)) (m4 : mg "answer_time" = some (.ref f4)) (k4 : PySem.W.keepIn K (.ref f4) = true) (b4 : Binds K fd4 ["gauge", "clock"] [])
    (G5 : FnOk P w K mg base CX0 4 f5 fd5 ["gauge", "clock"] (sp_answer_zero K CG)) (m5 : mg "answer_zero" = some (.ref f5)) (k5 : PySem.W.keepIn K (.ref f5) = true) (b5 : Binds K fd5 ["gauge", "clock"] [])
    (G6 : FnOk P w K mg base CX0 4 f6 fd6 ["gauge", "moment"] (sp_answer_at K CG)) (m6 : mg "answer_at" = some (.ref f6)) (k6 : PySem.W.keepIn K (.ref f6) = true) (b6 : Binds K fd6 ["gauge", "moment"] [])
    (G7 : FnOk P w K mg base CX0 4 f7 fd7 ["gauge", "start", "step", "count"] (sp_answer_row K CG)) (m7 : mg "answer_row" = some (.ref f7)) (k7 : PySem.W.keepIn K (.ref f7) = true) (b7 : Binds K fd7 ["gauge", "start", "step", "count"] []) :
    FnOk P w K mg base CX0 8 f fd ["recorder", "call", "numbers", "rows"] (sp_answer_call K CC CG) := by
  refine F.ok sc_answer_call (fun vs H Q E h => ?_) (fun cdv A outer s H vs Q E hr h => ?_)
  · obtain ⟨rec, nl, rl, s, Hg, c, nums, rows, rfl, _⟩ := h
    rfl
  · obtain ⟨rec, nl, rl, st, Hg, c, nums, rows, rfl, R, hn, hR, hshp, hask, hlen, hbz, k⟩ := h
    have hr4 : Room 4 _ := hr.mono (by decide)
    obtain ⟨⟨dr, v, hrec, hm⟩, sub, no⟩ := id R
    refine ⟨_, pss_cons (ps_if (pt_cmpR op_eq (pv 1) pe_int (nomark _)) (pss_one (ps_ret (pe_call G1 hr rfl m1 k1 b1 .nil pass0 (pa_cons (pv 0) (pa_cons (pv 2) (pa_cons (pv 3) pa_nil)))))) pss_nil)
      (pss_cons (ps_if (pt_cmpR op_eq (pv 1) pe_int (nomark _)) (pss_one (ps_ret (pe_call G2 (hr.mono (by decide)) rfl m2 k2 b2 .nil pass0 (pa_cons (pe_ix ix_list (pv 3) pe_int (fun _ _ => rfl)) (pa_cons (pe_ix ix_list (pv 3) pe_int (fun _ _ => rfl)) pa_nil))))) pss_nil)
      (pss_cons (ps_if (pt_cmpR op_isN (pe_fld (pv 0) rfl) pe_non (nomark _)) (pss_one (ps_ret (pe_lst (pa_cons (pe_un un_neg pe_int) pa_nil)))) pss_nil)
      (pss_cons (ps_if (pt_cmpR op_eq (pv 1) pe_int (nomark _)) (pss_one (ps_ret (pe_call G3 (hr.mono (by decide)) rfl m3 k3 b3 .nil pass0 (pa_cons (pe_fld (pv 0) rfl) pa_nil)))) pss_nil)
      (pss_cons (ps_if (pt_cmpR op_eq (pv 1) pe_int (nomark _)) (pss_one (ps_ret (pe_call G4 hr4 rfl m4 k4 b4 .nil pass0 (pa_cons (pe_fld (pv 0) rfl) (pa_cons (pe_ix ix_list (pv 2) pe_int (fun _ _ => rfl)) pa_nil))))) pss_nil)
      (pss_cons (ps_if (pt_cmpR op_eq (pv 1) pe_int (nomark _)) (pss_one (ps_ret (pe_call G5 hr4 rfl m5 k5 b5 .nil pass0 (pa_cons (pe_fld (pv 0) rfl) (pa_cons (pe_ix ix_list (pv 2) pe_int (fun _ _ => rfl)) pa_nil))))) pss_nil)
      (pss_cons (ps_if (pt_cmpR op_eq (pv 1) pe_int (nomark _)) (pss_one (ps_ret (pe_call G6 hr4 rfl m6 k6 b6 .nil pass0 (pa_cons (pe_fld (pv 0) rfl) (pa_cons (pe_ix ix_list (pv 2) pe_int (fun _ _ => rfl)) pa_nil))))) pss_nil)
      (pss_one (ps_ret (pe_call G7 hr4 rfl m7 k7 b7 .nil pass0 (pa_cons (pe_fld (pv 0) rfl) (pa_cons (pe_ix ix_list (pv 2) pe_int (fun _ _ => rfl)) (pa_cons (pe_ix ix_list (pv 2) pe_int (fun _ _ => rfl)) (pa_cons (pe_ix ix_list (pv 2) pe_int (fun _ _ => rfl)) pa_nil)))))))))))))  , ?_⟩
    have sh := shape_of hshp hask
    cases sh with
    | gauge a b p q t ps ws ts c1 c2 c3 =>
      obtain ⟨a1, a2, a3, hl, h1, h2, h3⟩ := hR.three
      have l1 := hlen p (by simp)
      have l2 := hlen q (by simp)
      have l3 := hlen t (by simp)
      have es : stp st [[0, (a : Int), (b : Int)], p, q, t] = _ := stp_gauge st a b p q t c1 c2 c3
      refine ⟨_, rfl, rfl, _, rfl, ?_⟩
      rw [dec_vt rfl]
      refine iteT ⟨_, rfl, _, rfl, _, rfl, rec, nl, rl, a1, a2, a3, dr, v, a, b, p, q, t, ps, ws, ts, rfl, hrec, hn, hl, h1, h2, h3, c1, c2, c3, by omega, by omega, by omega, ?_⟩
      by_cases tm : tooMany a b ps ws ts
      · rw [if_pos tm]
        rw [stp_gauge_bad tm] at es
        exact quiet R k (by rw [es]) (by rw [es]; rfl) (by decide)
      · rw [if_neg tm]
        rw [stp_gauge_few tm] at es
        cases ef : faultF (ps.map pr) (ws.map pr) (ts.map tr) with
        | some ki =>
          obtain ⟨kk, ii⟩ := ki
          rw [ef] at es
          exact quiet R k (by rw [es]) (by rw [es]; rfl) (by show 3 ≤ 1000; decide)
        | none =>
          rw [ef] at es
          intro H' pp ga sv h0 hr' hg hp
          refine k H' pp (diff H H') ?_ (fun x o hx _ => diff_old hx) sv h0 (by rw [es]; show 1 ≤ 1000; decide) (by rw [es]; exact hp)
          rw [es]
          refine ⟨⟨dr, .ref ga, hr', ga, rfl, ?_, valid_of tm ef⟩, diff_le _ _, diff_old hrec⟩
          rw [gd_of]
          exact hg
    | smooth h hs w' c1 =>
      obtain ⟨a1, a2, hl, h1, h2⟩ := hR.two
      have l1 := hlen h (by simp)
      have es : stp st [[6], h, w'.map fun (n : Nat) => (n : Int)] = _ := stp_smooth st h w' c1
      obtain ⟨z1, z2⟩ := ans_smooth st hs w'
      refine ⟨_, rfl, rfl, _, rfl, ?_⟩
      rw [dec_vi (by decide)]
      refine iteF ⟨_, rfl, rfl, _, rfl, ?_⟩
      rw [dec_vt rfl]
      refine iteT ⟨_, rfl, rl, _, _, _, rfl, rfl, hl, at0, _, rfl, rl, _, _, _, rfl, rfl, hl, at1, a1, a2, h, _, hs, rfl, h1, h2, c1, by omega, fun x hx => ?_, ?_⟩
      · obtain ⟨n, _, rfl⟩ := List.mem_map.mp hx
        omega
      · refine quiet R k (by rw [es]; exact z1) (by rw [es]; exact z2) ?_
        unfold smoothF
        by_cases hb : smBad hs (w'.map fun (n : Nat) => (n : Int))
        · rw [if_pos hb]
          decide
        · rw [if_neg hb]
          split
          · have e := rowsOf_len (smHs hs (w'.map fun (n : Nat) => (n : Int)) hs.length)
            rw [smHs_len] at e
            have e2 : hs.length ≤ 256 := Nat.le_of_not_lt fun q => hb (.inl q)
            show (rowsOf _).length + 1 + 1 ≤ 1000
            omega
          · decide
    | spikes =>
      refine ⟨_, rfl, rfl, _, rfl, ?_⟩
      rw [dec_vi (by decide)]
      refine iteF ⟨_, rfl, rfl, _, rfl, ?_⟩
      rw [dec_vi (by decide)]
      refine iteF ⟨_, rfl, rec, CC, dr, _, _, rfl, hrec, TC.cl, TC.n1, rfl, rfl, _, rfl, ?_⟩
      cases st with
      | none =>
        have hm : v = .non := hm
        subst hm
        refine iteT ⟨_, rfl, (by show 1 ≤ sizeLine; decide), fun p hp => ?_⟩
        exact RetL.here (quiet (xs := [-3]) R k rfl rfl (by decide)) hp
      | some G =>
        obtain ⟨ga, rfl, hG, V⟩ := hm
        have hG := hG.same sub
        have good := V.good
        refine iteF ?_
        refine ⟨_, rfl, rfl, _, rfl, ?_⟩
        rw [dec_vt rfl]
        refine iteT ?_
        have np1 : (gd G).pts.length ≤ 1000 := by
          show (G.points.map _).length ≤ 1000
          rw [List.length_map]
          exact Nat.le_trans V.np (by decide)
        refine ⟨_, rfl, rec, CC, dr, _, _, rfl, hrec, TC.cl, TC.n1, rfl, ga, gd G, rfl, hG, np1, ?_⟩
        refine quiet R k rfl (ans_spikes V) ?_
        have e := spikesF_len (gd G).s (gd G).pts (gd G).pts.length
        show (nInts _).length + 1 + 1 ≤ 1000
        unfold nInts
        rw [List.length_map]
        have np2 : (gd G).pts.length ≤ 256 := by
          show (G.points.map _).length ≤ 256
          rw [List.length_map]
          exact V.np
        omega
    | time c =>
      refine ⟨_, rfl, rfl, _, rfl, ?_⟩
      rw [dec_vi (by decide)]
      refine iteF ⟨_, rfl, rfl, _, rfl, ?_⟩
      rw [dec_vi (by decide)]
      refine iteF ⟨_, rfl, rec, CC, dr, _, _, rfl, hrec, TC.cl, TC.n1, rfl, rfl, _, rfl, ?_⟩
      cases st with
      | none =>
        have hm : v = .non := hm
        subst hm
        refine iteT ⟨_, rfl, (by show 1 ≤ sizeLine; decide), fun p hp => ?_⟩
        exact RetL.here (quiet (xs := [-3]) R k rfl rfl (by decide)) hp
      | some G =>
        obtain ⟨ga, rfl, hG, V⟩ := hm
        have hG := hG.same sub
        have good := V.good
        refine iteF ?_
        refine ⟨_, rfl, rfl, _, rfl, ?_⟩
        rw [dec_vi (by decide)]
        refine iteF ?_
        refine ⟨_, rfl, rfl, _, rfl, ?_⟩
        rw [dec_vt rfl]
        refine iteT ?_
        refine ⟨_, rfl, rec, CC, dr, _, _, rfl, hrec, TC.cl, TC.n1, rfl, _, rfl, nl, _, _, _, rfl, rfl, hn, at0, ga, gd G, c, rfl, hG, V.riseW, ?_⟩
        refine quiet R k rfl (ans_time V c) ?_
        split
        · exact Nat.le_trans (Nat.le_of_eq (toldF_len _ _)) (by decide)
        · decide
    | zero c =>
      refine ⟨_, rfl, rfl, _, rfl, ?_⟩
      rw [dec_vi (by decide)]
      refine iteF ⟨_, rfl, rfl, _, rfl, ?_⟩
      rw [dec_vi (by decide)]
      refine iteF ⟨_, rfl, rec, CC, dr, _, _, rfl, hrec, TC.cl, TC.n1, rfl, rfl, _, rfl, ?_⟩
      cases st with
      | none =>
        have hm : v = .non := hm
        subst hm
        refine iteT ⟨_, rfl, (by show 1 ≤ sizeLine; decide), fun p hp => ?_⟩
        exact RetL.here (quiet (xs := [-3]) R k rfl rfl (by decide)) hp
      | some G =>
        obtain ⟨ga, rfl, hG, V⟩ := hm
        have hG := hG.same sub
        have good := V.good
        refine iteF ?_
        refine ⟨_, rfl, rfl, _, rfl, ?_⟩
        rw [dec_vi (by decide)]
        refine iteF ?_
        refine ⟨_, rfl, rfl, _, rfl, ?_⟩
        rw [dec_vi (by decide)]
        refine iteF ?_
        refine ⟨_, rfl, rfl, _, rfl, ?_⟩
        rw [dec_vt rfl]
        refine iteT ?_
        refine ⟨_, rfl, rec, CC, dr, _, _, rfl, hrec, TC.cl, TC.n1, rfl, _, rfl, nl, _, _, _, rfl, rfl, hn, at0, ga, gd G, c, rfl, hG, V.riseZ, ?_⟩
        refine quiet R k rfl (ans_zero V c) ?_
        split
        · exact Nat.le_trans (Nat.le_of_eq (toldF_len _ _)) (by decide)
        · decide
    | at_ c =>
      refine ⟨_, rfl, rfl, _, rfl, ?_⟩
      rw [dec_vi (by decide)]
      refine iteF ⟨_, rfl, rfl, _, rfl, ?_⟩
      rw [dec_vi (by decide)]
      refine iteF ⟨_, rfl, rec, CC, dr, _, _, rfl, hrec, TC.cl, TC.n1, rfl, rfl, _, rfl, ?_⟩
      cases st with
      | none =>
        have hm : v = .non := hm
        subst hm
        refine iteT ⟨_, rfl, (by show 1 ≤ sizeLine; decide), fun p hp => ?_⟩
        exact RetL.here (quiet (xs := [-3]) R k rfl rfl (by decide)) hp
      | some G =>
        obtain ⟨ga, rfl, hG, V⟩ := hm
        have hG := hG.same sub
        have good := V.good
        refine iteF ?_
        refine ⟨_, rfl, rfl, _, rfl, ?_⟩
        rw [dec_vi (by decide)]
        refine iteF ?_
        refine ⟨_, rfl, rfl, _, rfl, ?_⟩
        rw [dec_vi (by decide)]
        refine iteF ?_
        refine ⟨_, rfl, rfl, _, rfl, ?_⟩
        rw [dec_vi (by decide)]
        refine iteF ?_
        refine ⟨_, rfl, rfl, _, rfl, ?_⟩
        rw [dec_vt rfl]
        refine iteT ?_
        have bg : Bt 200 ((gd G).g : Int) := bt_gap V
        refine ⟨_, rfl, rec, CC, dr, _, _, rfl, hrec, TC.cl, TC.n1, rfl, _, rfl, nl, _, _, _, rfl, rfl, hn, at0, ga, gd G, c, rfl, hG, good, bg, ?_⟩
        refine quiet R k rfl (ans_at V c) ?_
        split
        · cases (hF (gd G).g (gd G).kept c).map nearF
          · decide
          · show 2 ≤ 1000
            decide
        · decide
    | row t p n =>
      refine ⟨_, rfl, rfl, _, rfl, ?_⟩
      rw [dec_vi (by decide)]
      refine iteF ⟨_, rfl, rfl, _, rfl, ?_⟩
      rw [dec_vi (by decide)]
      refine iteF ⟨_, rfl, rec, CC, dr, _, _, rfl, hrec, TC.cl, TC.n1, rfl, rfl, _, rfl, ?_⟩
      cases st with
      | none =>
        have hm : v = .non := hm
        subst hm
        refine iteT ⟨_, rfl, (by show 1 ≤ sizeLine; decide), fun p hp => ?_⟩
        exact RetL.here (quiet (xs := [-3]) R k ((congrArg Prod.fst (stp_row none t p n)).trans rfl) ((congrArg Prod.snd (stp_row none t p n)).trans rfl) (by decide)) hp
      | some G =>
        obtain ⟨ga, rfl, hG, V⟩ := hm
        have hG := hG.same sub
        have good := V.good
        refine iteF ?_
        refine ⟨_, rfl, rfl, _, rfl, ?_⟩
        rw [dec_vi (by decide)]
        refine iteF ?_
        refine ⟨_, rfl, rfl, _, rfl, ?_⟩
        rw [dec_vi (by decide)]
        refine iteF ?_
        refine ⟨_, rfl, rfl, _, rfl, ?_⟩
        rw [dec_vi (by decide)]
        refine iteF ?_
        refine ⟨_, rfl, rfl, _, rfl, ?_⟩
        rw [dec_vi (by decide)]
        refine iteF ?_
        have b9 : ∀ z : Int, z ∈ [t, (p : Int), (n : Int)] → Bt 90 z := fun z hz => by
          have := hbz z hz
          unfold Bt
          omega
        refine ⟨_, rfl, rec, CC, dr, _, _, rfl, hrec, TC.cl, TC.n1, rfl, _, rfl, nl, _, _, _, rfl, rfl, hn, at0, _, rfl, nl, _, _, _, rfl, rfl, hn, at1, _, rfl, nl, _, _, _, rfl, rfl, hn, at2, ga, gd G, t, p, n, rfl, hG, good, bt_gap V, b9 t (by simp), b9 p (by simp), b9 n (by simp), ?_⟩
        refine quiet R k ((congrArg Prod.fst (stp_row (some G) t p n)).trans rfl) ((congrArg Prod.snd (stp_row (some G) t p n)).trans (ans_row V t p n)) ?_
        split
        · decide
        · rename_i hb
          have e := rowsOf_len (rowHs (gd G) t p n)
          rw [rowHs_len] at e
          have e2 : n ≤ 256 := Nat.le_of_not_lt fun q => hb (.inl q)
          show (rowsOf _).length + 1 + 1 ≤ 1000
          omega
end
end Gc
end
section
set_option Elab.async false
set_option linter.all false
set_option bootstrap.genMatcherCode false
set_option genSizeOf false
set_option maxRecDepth 100000
set_option maxHeartbeats 4000000
namespace Gc
open PySem PySem.Spec PyProof.Rows L2
theorem inb {l : List Int} (h : l.all (PySem.W.Codec.inInt (-274877906944) 274877906944) = true) : ∀ z ∈ l, z.natAbs ≤ 274877906944 := fun z hz => by
  have := PySem.W.Codec.inInt_iff.mp (List.all_eq_true.mp h z hz)
  omega
theorem all_mk {P : Program} {w : World} {K : PySem.W.Frag} {h : Heap} {mg : Str → Option Value} {fa : Addr} (X : K.In h) (G : h.Ns mainGlobals mg) (hfa : mg "answers" = some (.ref fa))
    {f1 : Addr} {od1 an1 : Option Addr} {sl1 : Array (Option Value)} {oc1 kV1 dc1 pm1 cd1 ct1 : Value}
    {f2 : Addr} {od2 an2 : Option Addr} {sl2 : Array (Option Value)} {oc2 kV2 dc2 pm2 cd2 ct2 : Value}
    {f3 : Addr} {od3 an3 : Option Addr} {sl3 : Array (Option Value)} {oc3 kV3 dc3 pm3 cd3 ct3 : Value}
    {f4 : Addr} {od4 an4 : Option Addr} {sl4 : Array (Option Value)} {oc4 kV4 dc4 pm4 cd4 ct4 : Value}
    {f5 : Addr} {od5 an5 : Option Addr} {sl5 : Array (Option Value)} {oc5 kV5 dc5 pm5 cd5 ct5 : Value}
    {f6 : Addr} {od6 an6 : Option Addr} {sl6 : Array (Option Value)} {oc6 kV6 dc6 pm6 cd6 ct6 : Value}
    {f7 : Addr} {od7 an7 : Option Addr} {sl7 : Array (Option Value)} {oc7 kV7 dc7 pm7 cd7 ct7 : Value}
    {f8 : Addr} {od8 an8 : Option Addr} {sl8 : Array (Option Value)} {oc8 kV8 dc8 pm8 cd8 ct8 : Value}
    {f9 : Addr} {od9 an9 : Option Addr} {sl9 : Array (Option Value)} {oc9 kV9 dc9 pm9 cd9 ct9 : Value}
    {f10 : Addr} {od10 an10 : Option Addr} {sl10 : Array (Option Value)} {oc10 kV10 dc10 pm10 cd10 ct10 : Value}
    {f11 : Addr} {od11 an11 : Option Addr} {sl11 : Array (Option Value)} {oc11 kV11 dc11 pm11 cd11 ct11 : Value}
    {f12 : Addr} {od12 an12 : Option Addr} {sl12 : Array (Option Value)} {oc12 kV12 dc12 pm12 cd12 ct12 : Value}
    {f13 : Addr} {od13 an13 : Option Addr} {sl13 : Array (Option Value)} {oc13 kV13 dc13 pm13 cd13 ct13 : Value}
    {f14 : Addr} {od14 an14 : Option Addr} {sl14 : Array (Option Value)} {oc14 kV14 dc14 pm14 cd14 ct14 : Value}
    {f15 : Addr} {od15 an15 : Option Addr} {sl15 : Array (Option Value)} {oc15 kV15 dc15 pm15 cd15 ct15 : Value}
    {f16 : Addr} {od16 an16 : Option Addr} {sl16 : Array (Option Value)} {oc16 kV16 dc16 pm16 cd16 ct16 : Value}
    {f17 : Addr} {od17 an17 : Option Addr} {sl17 : Array (Option Value)} {oc17 kV17 dc17 pm17 cd17 ct17 : Value}
    {f18 : Addr} {od18 an18 : Option Addr} {sl18 : Array (Option Value)} {oc18 kV18 dc18 pm18 cd18 ct18 : Value}
    {f19 : Addr} {od19 an19 : Option Addr} {sl19 : Array (Option Value)} {oc19 kV19 dc19 pm19 cd19 ct19 : Value}
    {f20 : Addr} {od20 an20 : Option Addr} {sl20 : Array (Option Value)} {oc20 kV20 dc20 pm20 cd20 ct20 : Value}
    {f21 : Addr} {od21 an21 : Option Addr} {sl21 : Array (Option Value)} {oc21 kV21 dc21 pm21 cd21 ct21 : Value}
    {f22 : Addr} {od22 an22 : Option Addr} {sl22 : Array (Option Value)} {oc22 kV22 dc22 pm22 cd22 ct22 : Value}
    {f23 : Addr} {od23 an23 : Option Addr} {sl23 : Array (Option Value)} {oc23 kV23 dc23 pm23 cd23 ct23 : Value}
    {f24 : Addr} {od24 an24 : Option Addr} {sl24 : Array (Option Value)} {oc24 kV24 dc24 pm24 cd24 ct24 : Value}
    {f25 : Addr} {od25 an25 : Option Addr} {sl25 : Array (Option Value)} {oc25 kV25 dc25 pm25 cd25 ct25 : Value}
    {f26 : Addr} {od26 an26 : Option Addr} {sl26 : Array (Option Value)} {oc26 kV26 dc26 pm26 cd26 ct26 : Value}
    {f27 : Addr} {od27 an27 : Option Addr} {sl27 : Array (Option Value)} {oc27 kV27 dc27 pm27 cd27 ct27 : Value}
    {f28 : Addr} {od28 an28 : Option Addr} {sl28 : Array (Option Value)} {oc28 kV28 dc28 pm28 cd28 ct28 : Value}
    {f29 : Addr} {od29 an29 : Option Addr} {sl29 : Array (Option Value)} {oc29 kV29 dc29 pm29 cd29 ct29 : Value}
    {f30 : Addr} {od30 an30 : Option Addr} {sl30 : Array (Option Value)} {oc30 kV30 dc30 pm30 cd30 ct30 : Value}
    {f31 : Addr} {od31 an31 : Option Addr} {sl31 : Array (Option Value)} {oc31 kV31 dc31 pm31 cd31 ct31 : Value}
    {CReader : Addr}
    {f32 : Addr} {od32 an32 : Option Addr} {sl32 : Array (Option Value)} {oc32 kV32 dc32 pm32 cd32 ct32 : Value}
    {f33 : Addr} {od33 an33 : Option Addr} {sl33 : Array (Option Value)} {oc33 kV33 dc33 pm33 cd33 ct33 : Value}
    {f34 : Addr} {od34 an34 : Option Addr} {sl34 : Array (Option Value)} {oc34 kV34 dc34 pm34 cd34 ct34 : Value}
    {f35 : Addr} {od35 an35 : Option Addr} {sl35 : Array (Option Value)} {oc35 kV35 dc35 pm35 cd35 ct35 : Value}
    {CGauge : Addr}
    {f36 : Addr} {od36 an36 : Option Addr} {sl36 : Array (Option Value)} {oc36 kV36 dc36 pm36 cd36 ct36 : Value}
    {CRecorder : Addr}
    {f37 : Addr} {od37 an37 : Option Addr} {sl37 : Array (Option Value)} {oc37 kV37 dc37 pm37 cd37 ct37 : Value}
    {tTIME_BOUND : Tok}
    {tHEIGHT_BOUND : Tok}
    {tSETTING_END : Tok}
    {tMOST_POINTS : Tok}
    {tMOST_CHECKS : Tok}
    {tMOST_HEIGHTS : Tok}
    {tMOST_WEIGHTS : Tok}
    {tWEIGHT_BOUND : Tok}
    {tSMOOTH_BOUND : Tok}
    {pNUMBERS_OF_CALL : Addr} {odNUMBERS_OF_CALL : Option Addr} {nnNUMBERS_OF_CALL : Nat} {slNUMBERS_OF_CALL : Array (Option Value)} {tNUMBERS_OF_CALL_0 tNUMBERS_OF_CALL_1 tNUMBERS_OF_CALL_2 tNUMBERS_OF_CALL_3 tNUMBERS_OF_CALL_4 tNUMBERS_OF_CALL_5 tNUMBERS_OF_CALL_6 : Tok}
    {pROWS_OF_CALL : Addr} {odROWS_OF_CALL : Option Addr} {nnROWS_OF_CALL : Nat} {slROWS_OF_CALL : Array (Option Value)} {tROWS_OF_CALL_0 tROWS_OF_CALL_1 tROWS_OF_CALL_2 tROWS_OF_CALL_3 tROWS_OF_CALL_4 tROWS_OF_CALL_5 tROWS_OF_CALL_6 : Tok}
    (a1 : PySem.W.nsIn K mainGlobals "answers" = some (some (.ref f1)))
    (l1 : K.lookup f1 = some ⟨oc1, od1, .func (PySem.W.fnOf "answers" "answers" (defArgs s_answers) (defBody s_answers) (defScope s_answers) .none kV1 dc1 pm1 an1 cd1 ct1), sl1⟩)
    (c1 : PySem.W.codeIn K cd1 "answers" = true) (k1 : PySem.W.keepIn K (.ref f1) = true)
    (a2 : PySem.W.nsIn K mainGlobals "answer_call" = some (some (.ref f2)))
    (l2 : K.lookup f2 = some ⟨oc2, od2, .func (PySem.W.fnOf "answer_call" "answer_call" (defArgs s_answer_call) (defBody s_answer_call) (defScope s_answer_call) .none kV2 dc2 pm2 an2 cd2 ct2), sl2⟩)
    (c2 : PySem.W.codeIn K cd2 "answer_call" = true) (k2 : PySem.W.keepIn K (.ref f2) = true)
    (a3 : PySem.W.nsIn K mainGlobals "answer_gauge" = some (some (.ref f3)))
    (l3 : K.lookup f3 = some ⟨oc3, od3, .func (PySem.W.fnOf "answer_gauge" "answer_gauge" (defArgs s_answer_gauge) (defBody s_answer_gauge) (defScope s_answer_gauge) .none kV3 dc3 pm3 an3 cd3 ct3), sl3⟩)
    (c3 : PySem.W.codeIn K cd3 "answer_gauge" = true) (k3 : PySem.W.keepIn K (.ref f3) = true)
    (a4 : PySem.W.nsIn K mainGlobals "in_groups" = some (some (.ref f4)))
    (l4 : K.lookup f4 = some ⟨oc4, od4, .func (PySem.W.fnOf "in_groups" "in_groups" (defArgs s_in_groups) (defBody s_in_groups) (defScope s_in_groups) .none kV4 dc4 pm4 an4 cd4 ct4), sl4⟩)
    (c4 : PySem.W.codeIn K cd4 "in_groups" = true) (k4 : PySem.W.keepIn K (.ref f4) = true)
    (a5 : PySem.W.nsIn K mainGlobals "form_fault" = some (some (.ref f5)))
    (l5 : K.lookup f5 = some ⟨oc5, od5, .func (PySem.W.fnOf "form_fault" "form_fault" (defArgs s_form_fault) (defBody s_form_fault) (defScope s_form_fault) .none kV5 dc5 pm5 an5 cd5 ct5), sl5⟩)
    (c5 : PySem.W.codeIn K cd5 "form_fault" = true) (k5 : PySem.W.keepIn K (.ref f5) = true)
    (a6 : PySem.W.nsIn K mainGlobals "first_fault" = some (some (.ref f6)))
    (l6 : K.lookup f6 = some ⟨oc6, od6, .func (PySem.W.fnOf "first_fault" "first_fault" (defArgs s_first_fault) (defBody s_first_fault) (defScope s_first_fault) .none kV6 dc6 pm6 an6 cd6 ct6), sl6⟩)
    (c6 : PySem.W.codeIn K cd6 "first_fault" = true) (k6 : PySem.W.keepIn K (.ref f6) = true)
    (a7 : PySem.W.nsIn K mainGlobals "in_bounds" = some (some (.ref f7)))
    (l7 : K.lookup f7 = some ⟨oc7, od7, .func (PySem.W.fnOf "in_bounds" "in_bounds" (defArgs s_in_bounds) (defBody s_in_bounds) (defScope s_in_bounds) .none kV7 dc7 pm7 an7 cd7 ct7), sl7⟩)
    (c7 : PySem.W.codeIn K cd7 "in_bounds" = true) (k7 : PySem.W.keepIn K (.ref f7) = true)
    (a8 : PySem.W.nsIn K mainGlobals "rises" = some (some (.ref f8)))
    (l8 : K.lookup f8 = some ⟨oc8, od8, .func (PySem.W.fnOf "rises" "rises" (defArgs s_rises) (defBody s_rises) (defScope s_rises) .none kV8 dc8 pm8 an8 cd8 ct8), sl8⟩)
    (c8 : PySem.W.codeIn K cd8 "rises" = true) (k8 : PySem.W.keepIn K (.ref f8) = true)
    (a9 : PySem.W.nsIn K mainGlobals "answer_spikes" = some (some (.ref f9)))
    (l9 : K.lookup f9 = some ⟨oc9, od9, .func (PySem.W.fnOf "answer_spikes" "answer_spikes" (defArgs s_answer_spikes) (defBody s_answer_spikes) (defScope s_answer_spikes) .none kV9 dc9 pm9 an9 cd9 ct9), sl9⟩)
    (c9 : PySem.W.codeIn K cd9 "answer_spikes" = true) (k9 : PySem.W.keepIn K (.ref f9) = true)
    (a10 : PySem.W.nsIn K mainGlobals "is_spike" = some (some (.ref f10)))
    (l10 : K.lookup f10 = some ⟨oc10, od10, .func (PySem.W.fnOf "is_spike" "is_spike" (defArgs s_is_spike) (defBody s_is_spike) (defScope s_is_spike) .none kV10 dc10 pm10 an10 cd10 ct10), sl10⟩)
    (c10 : PySem.W.codeIn K cd10 "is_spike" = true) (k10 : PySem.W.keepIn K (.ref f10) = true)
    (a11 : PySem.W.nsIn K mainGlobals "answer_time" = some (some (.ref f11)))
    (l11 : K.lookup f11 = some ⟨oc11, od11, .func (PySem.W.fnOf "answer_time" "answer_time" (defArgs s_answer_time) (defBody s_answer_time) (defScope s_answer_time) .none kV11 dc11 pm11 an11 cd11 ct11), sl11⟩)
    (c11 : PySem.W.codeIn K cd11 "answer_time" = true) (k11 : PySem.W.keepIn K (.ref f11) = true)
    (a12 : PySem.W.nsIn K mainGlobals "answer_zero" = some (some (.ref f12)))
    (l12 : K.lookup f12 = some ⟨oc12, od12, .func (PySem.W.fnOf "answer_zero" "answer_zero" (defArgs s_answer_zero) (defBody s_answer_zero) (defScope s_answer_zero) .none kV12 dc12 pm12 an12 cd12 ct12), sl12⟩)
    (c12 : PySem.W.codeIn K cd12 "answer_zero" = true) (k12 : PySem.W.keepIn K (.ref f12) = true)
    (a13 : PySem.W.nsIn K mainGlobals "is_time" = some (some (.ref f13)))
    (l13 : K.lookup f13 = some ⟨oc13, od13, .func (PySem.W.fnOf "is_time" "is_time" (defArgs s_is_time) (defBody s_is_time) (defScope s_is_time) .none kV13 dc13 pm13 an13 cd13 ct13), sl13⟩)
    (c13 : PySem.W.codeIn K cd13 "is_time" = true) (k13 : PySem.W.keepIn K (.ref f13) = true)
    (a14 : PySem.W.nsIn K mainGlobals "true_time" = some (some (.ref f14)))
    (l14 : K.lookup f14 = some ⟨oc14, od14, .func (PySem.W.fnOf "true_time" "true_time" (defArgs s_true_time) (defBody s_true_time) (defScope s_true_time) .none kV14 dc14 pm14 an14 cd14 ct14), sl14⟩)
    (c14 : PySem.W.codeIn K cd14 "true_time" = true) (k14 : PySem.W.keepIn K (.ref f14) = true)
    (a15 : PySem.W.nsIn K mainGlobals "zero_at" = some (some (.ref f15)))
    (l15 : K.lookup f15 = some ⟨oc15, od15, .func (PySem.W.fnOf "zero_at" "zero_at" (defArgs s_zero_at) (defBody s_zero_at) (defScope s_zero_at) .none kV15 dc15 pm15 an15 cd15 ct15), sl15⟩)
    (c15 : PySem.W.codeIn K cd15 "zero_at" = true) (k15 : PySem.W.keepIn K (.ref f15) = true)
    (a16 : PySem.W.nsIn K mainGlobals "between_checks" = some (some (.ref f16)))
    (l16 : K.lookup f16 = some ⟨oc16, od16, .func (PySem.W.fnOf "between_checks" "between_checks" (defArgs s_between_checks) (defBody s_between_checks) (defScope s_between_checks) .none kV16 dc16 pm16 an16 cd16 ct16), sl16⟩)
    (c16 : PySem.W.codeIn K cd16 "between_checks" = true) (k16 : PySem.W.keepIn K (.ref f16) = true)
    (a17 : PySem.W.nsIn K mainGlobals "on_line" = some (some (.ref f17)))
    (l17 : K.lookup f17 = some ⟨oc17, od17, .func (PySem.W.fnOf "on_line" "on_line" (defArgs s_on_line) (defBody s_on_line) (defScope s_on_line) .none kV17 dc17 pm17 an17 cd17 ct17), sl17⟩)
    (c17 : PySem.W.codeIn K cd17 "on_line" = true) (k17 : PySem.W.keepIn K (.ref f17) = true)
    (a18 : PySem.W.nsIn K mainGlobals "fraction_answer" = some (some (.ref f18)))
    (l18 : K.lookup f18 = some ⟨oc18, od18, .func (PySem.W.fnOf "fraction_answer" "fraction_answer" (defArgs s_fraction_answer) (defBody s_fraction_answer) (defScope s_fraction_answer) .none kV18 dc18 pm18 an18 cd18 ct18), sl18⟩)
    (c18 : PySem.W.codeIn K cd18 "fraction_answer" = true) (k18 : PySem.W.keepIn K (.ref f18) = true)
    (a19 : PySem.W.nsIn K mainGlobals "common_divisor" = some (some (.ref f19)))
    (l19 : K.lookup f19 = some ⟨oc19, od19, .func (PySem.W.fnOf "common_divisor" "common_divisor" (defArgs s_common_divisor) (defBody s_common_divisor) (defScope s_common_divisor) .none kV19 dc19 pm19 an19 cd19 ct19), sl19⟩)
    (c19 : PySem.W.codeIn K cd19 "common_divisor" = true) (k19 : PySem.W.keepIn K (.ref f19) = true)
    (a20 : PySem.W.nsIn K mainGlobals "kept_points" = some (some (.ref f20)))
    (l20 : K.lookup f20 = some ⟨oc20, od20, .func (PySem.W.fnOf "kept_points" "kept_points" (defArgs s_kept_points) (defBody s_kept_points) (defScope s_kept_points) .none kV20 dc20 pm20 an20 cd20 ct20), sl20⟩)
    (c20 : PySem.W.codeIn K cd20 "kept_points" = true) (k20 : PySem.W.keepIn K (.ref f20) = true)
    (a21 : PySem.W.nsIn K mainGlobals "answer_at" = some (some (.ref f21)))
    (l21 : K.lookup f21 = some ⟨oc21, od21, .func (PySem.W.fnOf "answer_at" "answer_at" (defArgs s_answer_at) (defBody s_answer_at) (defScope s_answer_at) .none kV21 dc21 pm21 an21 cd21 ct21), sl21⟩)
    (c21 : PySem.W.codeIn K cd21 "answer_at" = true) (k21 : PySem.W.keepIn K (.ref f21) = true)
    (a22 : PySem.W.nsIn K mainGlobals "answer_row" = some (some (.ref f22)))
    (l22 : K.lookup f22 = some ⟨oc22, od22, .func (PySem.W.fnOf "answer_row" "answer_row" (defArgs s_answer_row) (defBody s_answer_row) (defScope s_answer_row) .none kV22 dc22 pm22 an22 cd22 ct22), sl22⟩)
    (c22 : PySem.W.codeIn K cd22 "answer_row" = true) (k22 : PySem.W.keepIn K (.ref f22) = true)
    (a23 : PySem.W.nsIn K mainGlobals "rows_answer" = some (some (.ref f23)))
    (l23 : K.lookup f23 = some ⟨oc23, od23, .func (PySem.W.fnOf "rows_answer" "rows_answer" (defArgs s_rows_answer) (defBody s_rows_answer) (defScope s_rows_answer) .none kV23 dc23 pm23 an23 cd23 ct23), sl23⟩)
    (c23 : PySem.W.codeIn K cd23 "rows_answer" = true) (k23 : PySem.W.keepIn K (.ref f23) = true)
    (a24 : PySem.W.nsIn K mainGlobals "height_at" = some (some (.ref f24)))
    (l24 : K.lookup f24 = some ⟨oc24, od24, .func (PySem.W.fnOf "height_at" "height_at" (defArgs s_height_at) (defBody s_height_at) (defScope s_height_at) .none kV24 dc24 pm24 an24 cd24 ct24), sl24⟩)
    (c24 : PySem.W.codeIn K cd24 "height_at" = true) (k24 : PySem.W.keepIn K (.ref f24) = true)
    (a25 : PySem.W.nsIn K mainGlobals "first_not_before" = some (some (.ref f25)))
    (l25 : K.lookup f25 = some ⟨oc25, od25, .func (PySem.W.fnOf "first_not_before" "first_not_before" (defArgs s_first_not_before) (defBody s_first_not_before) (defScope s_first_not_before) .none kV25 dc25 pm25 an25 cd25 ct25), sl25⟩)
    (c25 : PySem.W.codeIn K cd25 "first_not_before" = true) (k25 : PySem.W.keepIn K (.ref f25) = true)
    (a26 : PySem.W.nsIn K mainGlobals "time_span" = some (some (.ref f26)))
    (l26 : K.lookup f26 = some ⟨oc26, od26, .func (PySem.W.fnOf "time_span" "time_span" (defArgs s_time_span) (defBody s_time_span) (defScope s_time_span) .none kV26 dc26 pm26 an26 cd26 ct26), sl26⟩)
    (c26 : PySem.W.codeIn K cd26 "time_span" = true) (k26 : PySem.W.keepIn K (.ref f26) = true)
    (a27 : PySem.W.nsIn K mainGlobals "height_between" = some (some (.ref f27)))
    (l27 : K.lookup f27 = some ⟨oc27, od27, .func (PySem.W.fnOf "height_between" "height_between" (defArgs s_height_between) (defBody s_height_between) (defScope s_height_between) .none kV27 dc27 pm27 an27 cd27 ct27), sl27⟩)
    (c27 : PySem.W.codeIn K cd27 "height_between" = true) (k27 : PySem.W.keepIn K (.ref f27) = true)
    (a28 : PySem.W.nsIn K mainGlobals "nearest" = some (some (.ref f28)))
    (l28 : K.lookup f28 = some ⟨oc28, od28, .func (PySem.W.fnOf "nearest" "nearest" (defArgs s_nearest) (defBody s_nearest) (defScope s_nearest) .none kV28 dc28 pm28 an28 cd28 ct28), sl28⟩)
    (c28 : PySem.W.codeIn K cd28 "nearest" = true) (k28 : PySem.W.keepIn K (.ref f28) = true)
    (a29 : PySem.W.nsIn K mainGlobals "answer_smooth" = some (some (.ref f29)))
    (l29 : K.lookup f29 = some ⟨oc29, od29, .func (PySem.W.fnOf "answer_smooth" "answer_smooth" (defArgs s_answer_smooth) (defBody s_answer_smooth) (defScope s_answer_smooth) .none kV29 dc29 pm29 an29 cd29 ct29), sl29⟩)
    (c29 : PySem.W.codeIn K cd29 "answer_smooth" = true) (k29 : PySem.W.keepIn K (.ref f29) = true)
    (a30 : PySem.W.nsIn K mainGlobals "is_height_in_form" = some (some (.ref f30)))
    (l30 : K.lookup f30 = some ⟨oc30, od30, .func (PySem.W.fnOf "is_height_in_form" "is_height_in_form" (defArgs s_is_height_in_form) (defBody s_is_height_in_form) (defScope s_is_height_in_form) .none kV30 dc30 pm30 an30 cd30 ct30), sl30⟩)
    (c30 : PySem.W.codeIn K cd30 "is_height_in_form" = true) (k30 : PySem.W.keepIn K (.ref f30) = true)
    (a31 : PySem.W.nsIn K mainGlobals "smoothed" = some (some (.ref f31)))
    (l31 : K.lookup f31 = some ⟨oc31, od31, .func (PySem.W.fnOf "smoothed" "smoothed" (defArgs s_smoothed) (defBody s_smoothed) (defScope s_smoothed) .none kV31 dc31 pm31 an31 cd31 ct31), sl31⟩)
    (c31 : PySem.W.codeIn K cd31 "smoothed" = true) (k31 : PySem.W.keepIn K (.ref f31) = true)
    (nReader : PySem.W.nsIn K mainGlobals "Reader" = some (some (.ref CReader)))
    (a32 : PySem.W.findIn K (.ref CReader) "__init__" = some (some (.ref f32)))
    (i32 : PySem.W.isFn K (.ref f32) = true)
    (l32 : K.lookup f32 = some ⟨oc32, od32, .func (PySem.W.fnOf "__init__" "Reader.__init__" (defArgs s_Reader_init) (defBody s_Reader_init) (defScope s_Reader_init) .none kV32 dc32 pm32 an32 cd32 ct32), sl32⟩)
    (c32 : PySem.W.codeIn K cd32 "Reader.__init__" = true) (k32 : PySem.W.keepIn K (.ref f32) = true)
    (a33 : PySem.W.findIn K (.ref CReader) "is_done" = some (some (.ref f33)))
    (i33 : PySem.W.isFn K (.ref f33) = true)
    (l33 : K.lookup f33 = some ⟨oc33, od33, .func (PySem.W.fnOf "is_done" "Reader.is_done" (defArgs s_Reader_is_done) (defBody s_Reader_is_done) (defScope s_Reader_is_done) .none kV33 dc33 pm33 an33 cd33 ct33), sl33⟩)
    (c33 : PySem.W.codeIn K cd33 "Reader.is_done" = true) (k33 : PySem.W.keepIn K (.ref f33) = true)
    (a34 : PySem.W.findIn K (.ref CReader) "take_number" = some (some (.ref f34)))
    (i34 : PySem.W.isFn K (.ref f34) = true)
    (l34 : K.lookup f34 = some ⟨oc34, od34, .func (PySem.W.fnOf "take_number" "Reader.take_number" (defArgs s_Reader_take_number) (defBody s_Reader_take_number) (defScope s_Reader_take_number) .none kV34 dc34 pm34 an34 cd34 ct34), sl34⟩)
    (c34 : PySem.W.codeIn K cd34 "Reader.take_number" = true) (k34 : PySem.W.keepIn K (.ref f34) = true)
    (a35 : PySem.W.findIn K (.ref CReader) "take_row" = some (some (.ref f35)))
    (i35 : PySem.W.isFn K (.ref f35) = true)
    (l35 : K.lookup f35 = some ⟨oc35, od35, .func (PySem.W.fnOf "take_row" "Reader.take_row" (defArgs s_Reader_take_row) (defBody s_Reader_take_row) (defScope s_Reader_take_row) .none kV35 dc35 pm35 an35 cd35 ct35), sl35⟩)
    (c35 : PySem.W.codeIn K cd35 "Reader.take_row" = true) (k35 : PySem.W.keepIn K (.ref f35) = true)
    (pgReader : PySem.W.plainGet K CReader Str.empty = true)
    (hdReader : PySem.W.hasDictIn K CReader = true)
    (poReader : PySem.W.plainOver K CReader = true)
    (saReader : PySem.W.findIn K (.ref CReader) "__setattr__" = some (some (.builtin "object.__setattr__")))
    (mkReader : PySem.W.makesIn K CReader = true)
    (kcReader : PySem.W.keepIn K (.ref CReader) = true)
    (zReader_numbers : PySem.W.findIn K (.ref CReader) "numbers" = some none)
    (zReader_place : PySem.W.findIn K (.ref CReader) "place" = some none)
    (nGauge : PySem.W.nsIn K mainGlobals "Gauge" = some (some (.ref CGauge)))
    (a36 : PySem.W.findIn K (.ref CGauge) "__init__" = some (some (.ref f36)))
    (i36 : PySem.W.isFn K (.ref f36) = true)
    (l36 : K.lookup f36 = some ⟨oc36, od36, .func (PySem.W.fnOf "__init__" "Gauge.__init__" (defArgs s_Gauge_init) (defBody s_Gauge_init) (defScope s_Gauge_init) .none kV36 dc36 pm36 an36 cd36 ct36), sl36⟩)
    (c36 : PySem.W.codeIn K cd36 "Gauge.__init__" = true) (k36 : PySem.W.keepIn K (.ref f36) = true)
    (pgGauge : PySem.W.plainGet K CGauge Str.empty = true)
    (hdGauge : PySem.W.hasDictIn K CGauge = true)
    (poGauge : PySem.W.plainOver K CGauge = true)
    (saGauge : PySem.W.findIn K (.ref CGauge) "__setattr__" = some (some (.builtin "object.__setattr__")))
    (mkGauge : PySem.W.makesIn K CGauge = true)
    (kcGauge : PySem.W.keepIn K (.ref CGauge) = true)
    (zGauge_spike_size : PySem.W.findIn K (.ref CGauge) "spike_size" = some none)
    (zGauge_widest_gap : PySem.W.findIn K (.ref CGauge) "widest_gap" = some none)
    (zGauge_points : PySem.W.findIn K (.ref CGauge) "points" = some none)
    (zGauge_watch_checks : PySem.W.findIn K (.ref CGauge) "watch_checks" = some none)
    (zGauge_zero_checks : PySem.W.findIn K (.ref CGauge) "zero_checks" = some none)
    (zGauge_kept : PySem.W.findIn K (.ref CGauge) "kept" = some none)
    (nRecorder : PySem.W.nsIn K mainGlobals "Recorder" = some (some (.ref CRecorder)))
    (a37 : PySem.W.findIn K (.ref CRecorder) "__init__" = some (some (.ref f37)))
    (i37 : PySem.W.isFn K (.ref f37) = true)
    (l37 : K.lookup f37 = some ⟨oc37, od37, .func (PySem.W.fnOf "__init__" "Recorder.__init__" (defArgs s_Recorder_init) (defBody s_Recorder_init) (defScope s_Recorder_init) .none kV37 dc37 pm37 an37 cd37 ct37), sl37⟩)
    (c37 : PySem.W.codeIn K cd37 "Recorder.__init__" = true) (k37 : PySem.W.keepIn K (.ref f37) = true)
    (pgRecorder : PySem.W.plainGet K CRecorder Str.empty = true)
    (hdRecorder : PySem.W.hasDictIn K CRecorder = true)
    (poRecorder : PySem.W.plainOver K CRecorder = true)
    (saRecorder : PySem.W.findIn K (.ref CRecorder) "__setattr__" = some (some (.builtin "object.__setattr__")))
    (mkRecorder : PySem.W.makesIn K CRecorder = true)
    (kcRecorder : PySem.W.keepIn K (.ref CRecorder) = true)
    (zRecorder_gauge : PySem.W.findIn K (.ref CRecorder) "gauge" = some none)
    (vTIME_BOUND : PySem.W.nsIn K mainGlobals "TIME_BOUND" = some (some (.int 68719476736 tTIME_BOUND)))
    (vHEIGHT_BOUND : PySem.W.nsIn K mainGlobals "HEIGHT_BOUND" = some (some (.int 1000000 tHEIGHT_BOUND)))
    (vSETTING_END : PySem.W.nsIn K mainGlobals "SETTING_END" = some (some (.int 4294967296 tSETTING_END)))
    (vMOST_POINTS : PySem.W.nsIn K mainGlobals "MOST_POINTS" = some (some (.int 256 tMOST_POINTS)))
    (vMOST_CHECKS : PySem.W.nsIn K mainGlobals "MOST_CHECKS" = some (some (.int 32 tMOST_CHECKS)))
    (vMOST_HEIGHTS : PySem.W.nsIn K mainGlobals "MOST_HEIGHTS" = some (some (.int 256 tMOST_HEIGHTS)))
    (vMOST_WEIGHTS : PySem.W.nsIn K mainGlobals "MOST_WEIGHTS" = some (some (.int 32 tMOST_WEIGHTS)))
    (vWEIGHT_BOUND : PySem.W.nsIn K mainGlobals "WEIGHT_BOUND" = some (some (.int 65536 tWEIGHT_BOUND)))
    (vSMOOTH_BOUND : PySem.W.nsIn K mainGlobals "SMOOTH_BOUND" = some (some (.int 4000000 tSMOOTH_BOUND)))
    (vNUMBERS_OF_CALL : PySem.W.nsIn K mainGlobals "NUMBERS_OF_CALL" = some (some (.ref pNUMBERS_OF_CALL)))
    (wNUMBERS_OF_CALL : K.lookup pNUMBERS_OF_CALL = some ⟨.type "tuple", odNUMBERS_OF_CALL, .seq #[.int 2 tNUMBERS_OF_CALL_0, .int 0 tNUMBERS_OF_CALL_1, .int 1 tNUMBERS_OF_CALL_2, .int 1 tNUMBERS_OF_CALL_3, .int 1 tNUMBERS_OF_CALL_4, .int 3 tNUMBERS_OF_CALL_5, .int 0 tNUMBERS_OF_CALL_6] nnNUMBERS_OF_CALL, slNUMBERS_OF_CALL⟩)
    (vROWS_OF_CALL : PySem.W.nsIn K mainGlobals "ROWS_OF_CALL" = some (some (.ref pROWS_OF_CALL)))
    (wROWS_OF_CALL : K.lookup pROWS_OF_CALL = some ⟨.type "tuple", odROWS_OF_CALL, .seq #[.int 3 tROWS_OF_CALL_0, .int 0 tROWS_OF_CALL_1, .int 0 tROWS_OF_CALL_2, .int 0 tROWS_OF_CALL_3, .int 0 tROWS_OF_CALL_4, .int 0 tROWS_OF_CALL_5, .int 2 tROWS_OF_CALL_6] nnROWS_OF_CALL, slROWS_OF_CALL⟩)
    (ylen : PySem.W.nsIn K mainGlobals "len" = some none)
    (yrange : PySem.W.nsIn K mainGlobals "range" = some none)
    (ytuple : PySem.W.nsIn K mainGlobals "tuple" = some none)
    (yenumerate : PySem.W.nsIn K mainGlobals "enumerate" = some none)
    (yzip : PySem.W.nsIn K mainGlobals "zip" = some none)
    (ymax : PySem.W.nsIn K mainGlobals "max" = some none)
    (yabs : PySem.W.nsIn K mainGlobals "abs" = some none) :
    ∃ fd : FuncData, (∀ (s : Shared) (us : List Value), us.length = (["calls"] : List Str).length → BindsTo s fd ⟨us, []⟩ ((["calls"] : List Str).zip us)) ∧ ∀ base : Heap, K.In base → base.Ns mainGlobals mg → FnOk P w K mg base CX0 9 fa fd ["calls"] (sp_answers K) := by
  have e := hfa.symm.trans (PySem.W.mg_of X G a1)
  cases e
  have F_answers := fun_mk (st := s_answers) l1 c1 k1
  have b_answers := F_answers.binds (ps := ["calls"]) fun _ _ _ _ _ _ us hl => by obtain ⟨_, rfl⟩ := len_1 (hl : us.length = 1); rfl
  have m_answers := PySem.W.mg_of X G a1
  have F_answer_call := fun_mk (st := s_answer_call) l2 c2 k2
  have b_answer_call := F_answer_call.binds (ps := ["recorder", "call", "numbers", "rows"]) fun _ _ _ _ _ _ us hl => by obtain ⟨_, _, _, _, rfl⟩ := len_4 (hl : us.length = 4); rfl
  have m_answer_call := PySem.W.mg_of X G a2
  have F_answer_gauge := fun_mk (st := s_answer_gauge) l3 c3 k3
  have b_answer_gauge := F_answer_gauge.binds (ps := ["recorder", "numbers", "rows"]) fun _ _ _ _ _ _ us hl => by obtain ⟨_, _, _, rfl⟩ := len_3 (hl : us.length = 3); rfl
  have m_answer_gauge := PySem.W.mg_of X G a3
  have F_in_groups := fun_mk (st := s_in_groups) l4 c4 k4
  have b_in_groups := F_in_groups.binds (ps := ["numbers", "width"]) fun _ _ _ _ _ _ us hl => by obtain ⟨_, _, rfl⟩ := len_2 (hl : us.length = 2); rfl
  have m_in_groups := PySem.W.mg_of X G a4
  have F_form_fault := fun_mk (st := s_form_fault) l5 c5 k5
  have b_form_fault := F_form_fault.binds (ps := ["points", "watch_checks", "staff_checks"]) fun _ _ _ _ _ _ us hl => by obtain ⟨_, _, _, rfl⟩ := len_3 (hl : us.length = 3); rfl
  have m_form_fault := PySem.W.mg_of X G a5
  have F_first_fault := fun_mk (st := s_first_fault) l6 c6 k6
  have b_first_fault := F_first_fault.binds (ps := ["groups", "bounds", "rising"]) fun _ _ _ _ _ _ us hl => by obtain ⟨_, _, _, rfl⟩ := len_3 (hl : us.length = 3); rfl
  have m_first_fault := PySem.W.mg_of X G a6
  have F_in_bounds := fun_mk (st := s_in_bounds) l7 c7 k7
  have b_in_bounds := F_in_bounds.binds (ps := ["group", "bounds"]) fun _ _ _ _ _ _ us hl => by obtain ⟨_, _, rfl⟩ := len_2 (hl : us.length = 2); rfl
  have m_in_bounds := PySem.W.mg_of X G a7
  have F_rises := fun_mk (st := s_rises) l8 c8 k8
  have b_rises := F_rises.binds (ps := ["before", "behind", "rising"]) fun _ _ _ _ _ _ us hl => by obtain ⟨_, _, _, rfl⟩ := len_3 (hl : us.length = 3); rfl
  have m_rises := PySem.W.mg_of X G a8
  have F_answer_spikes := fun_mk (st := s_answer_spikes) l9 c9 k9
  have b_answer_spikes := F_answer_spikes.binds (ps := ["gauge"]) fun _ _ _ _ _ _ us hl => by obtain ⟨_, rfl⟩ := len_1 (hl : us.length = 1); rfl
  have m_answer_spikes := PySem.W.mg_of X G a9
  have F_is_spike := fun_mk (st := s_is_spike) l10 c10 k10
  have b_is_spike := F_is_spike.binds (ps := ["points", "k", "size"]) fun _ _ _ _ _ _ us hl => by obtain ⟨_, _, _, rfl⟩ := len_3 (hl : us.length = 3); rfl
  have m_is_spike := PySem.W.mg_of X G a10
  have F_answer_time := fun_mk (st := s_answer_time) l11 c11 k11
  have b_answer_time := F_answer_time.binds (ps := ["gauge", "clock"]) fun _ _ _ _ _ _ us hl => by obtain ⟨_, _, rfl⟩ := len_2 (hl : us.length = 2); rfl
  have m_answer_time := PySem.W.mg_of X G a11
  have F_answer_zero := fun_mk (st := s_answer_zero) l12 c12 k12
  have b_answer_zero := F_answer_zero.binds (ps := ["gauge", "clock"]) fun _ _ _ _ _ _ us hl => by obtain ⟨_, _, rfl⟩ := len_2 (hl : us.length = 2); rfl
  have m_answer_zero := PySem.W.mg_of X G a12
  have F_is_time := fun_mk (st := s_is_time) l13 c13 k13
  have b_is_time := F_is_time.binds (ps := ["number"]) fun _ _ _ _ _ _ us hl => by obtain ⟨_, rfl⟩ := len_1 (hl : us.length = 1); rfl
  have m_is_time := PySem.W.mg_of X G a13
  have F_true_time := fun_mk (st := s_true_time) l14 c14 k14
  have b_true_time := F_true_time.binds (ps := ["checks", "clock"]) fun _ _ _ _ _ _ us hl => by obtain ⟨_, _, rfl⟩ := len_2 (hl : us.length = 2); rfl
  have m_true_time := PySem.W.mg_of X G a14
  have F_zero_at := fun_mk (st := s_zero_at) l15 c15 k15
  have b_zero_at := F_zero_at.binds (ps := ["checks", "clock"]) fun _ _ _ _ _ _ us hl => by obtain ⟨_, _, rfl⟩ := len_2 (hl : us.length = 2); rfl
  have m_zero_at := PySem.W.mg_of X G a15
  have F_between_checks := fun_mk (st := s_between_checks) l16 c16 k16
  have b_between_checks := F_between_checks.binds (ps := ["checks", "clock"]) fun _ _ _ _ _ _ us hl => by obtain ⟨_, _, rfl⟩ := len_2 (hl : us.length = 2); rfl
  have m_between_checks := PySem.W.mg_of X G a16
  have F_on_line := fun_mk (st := s_on_line) l17 c17 k17
  have b_on_line := F_on_line.binds (ps := ["before", "behind", "clock"]) fun _ _ _ _ _ _ us hl => by obtain ⟨_, _, _, rfl⟩ := len_3 (hl : us.length = 3); rfl
  have m_on_line := PySem.W.mg_of X G a17
  have F_fraction_answer := fun_mk (st := s_fraction_answer) l18 c18 k18
  have b_fraction_answer := F_fraction_answer.binds (ps := ["fraction"]) fun _ _ _ _ _ _ us hl => by obtain ⟨_, rfl⟩ := len_1 (hl : us.length = 1); rfl
  have m_fraction_answer := PySem.W.mg_of X G a18
  have F_common_divisor := fun_mk (st := s_common_divisor) l19 c19 k19
  have b_common_divisor := F_common_divisor.binds (ps := ["first", "second"]) fun _ _ _ _ _ _ us hl => by obtain ⟨_, _, rfl⟩ := len_2 (hl : us.length = 2); rfl
  have m_common_divisor := PySem.W.mg_of X G a19
  have F_kept_points := fun_mk (st := s_kept_points) l20 c20 k20
  have b_kept_points := F_kept_points.binds (ps := ["spike_size", "points", "watch_checks", "zero_checks"]) fun _ _ _ _ _ _ us hl => by obtain ⟨_, _, _, _, rfl⟩ := len_4 (hl : us.length = 4); rfl
  have m_kept_points := PySem.W.mg_of X G a20
  have F_answer_at := fun_mk (st := s_answer_at) l21 c21 k21
  have b_answer_at := F_answer_at.binds (ps := ["gauge", "moment"]) fun _ _ _ _ _ _ us hl => by obtain ⟨_, _, rfl⟩ := len_2 (hl : us.length = 2); rfl
  have m_answer_at := PySem.W.mg_of X G a21
  have F_answer_row := fun_mk (st := s_answer_row) l22 c22 k22
  have b_answer_row := F_answer_row.binds (ps := ["gauge", "start", "step", "count"]) fun _ _ _ _ _ _ us hl => by obtain ⟨_, _, _, _, rfl⟩ := len_4 (hl : us.length = 4); rfl
  have m_answer_row := PySem.W.mg_of X G a22
  have F_rows_answer := fun_mk (st := s_rows_answer) l23 c23 k23
  have b_rows_answer := F_rows_answer.binds (ps := ["heights"]) fun _ _ _ _ _ _ us hl => by obtain ⟨_, rfl⟩ := len_1 (hl : us.length = 1); rfl
  have m_rows_answer := PySem.W.mg_of X G a23
  have F_height_at := fun_mk (st := s_height_at) l24 c24 k24
  have b_height_at := F_height_at.binds (ps := ["gauge", "moment"]) fun _ _ _ _ _ _ us hl => by obtain ⟨_, _, rfl⟩ := len_2 (hl : us.length = 2); rfl
  have m_height_at := PySem.W.mg_of X G a24
  have F_first_not_before := fun_mk (st := s_first_not_before) l25 c25 k25
  have b_first_not_before := F_first_not_before.binds (ps := ["kept", "moment"]) fun _ _ _ _ _ _ us hl => by obtain ⟨_, _, rfl⟩ := len_2 (hl : us.length = 2); rfl
  have m_first_not_before := PySem.W.mg_of X G a25
  have F_time_span := fun_mk (st := s_time_span) l26 c26 k26
  have b_time_span := F_time_span.binds (ps := ["before", "behind"]) fun _ _ _ _ _ _ us hl => by obtain ⟨_, _, rfl⟩ := len_2 (hl : us.length = 2); rfl
  have m_time_span := PySem.W.mg_of X G a26
  have F_height_between := fun_mk (st := s_height_between) l27 c27 k27
  have b_height_between := F_height_between.binds (ps := ["before", "behind", "moment"]) fun _ _ _ _ _ _ us hl => by obtain ⟨_, _, _, rfl⟩ := len_3 (hl : us.length = 3); rfl
  have m_height_between := PySem.W.mg_of X G a27
  have F_nearest := fun_mk (st := s_nearest) l28 c28 k28
  have b_nearest := F_nearest.binds (ps := ["fraction"]) fun _ _ _ _ _ _ us hl => by obtain ⟨_, rfl⟩ := len_1 (hl : us.length = 1); rfl
  have m_nearest := PySem.W.mg_of X G a28
  have F_answer_smooth := fun_mk (st := s_answer_smooth) l29 c29 k29
  have b_answer_smooth := F_answer_smooth.binds (ps := ["row", "weights"]) fun _ _ _ _ _ _ us hl => by obtain ⟨_, _, rfl⟩ := len_2 (hl : us.length = 2); rfl
  have m_answer_smooth := PySem.W.mg_of X G a29
  have F_is_height_in_form := fun_mk (st := s_is_height_in_form) l30 c30 k30
  have b_is_height_in_form := F_is_height_in_form.binds (ps := ["height"]) fun _ _ _ _ _ _ us hl => by obtain ⟨_, rfl⟩ := len_1 (hl : us.length = 1); rfl
  have m_is_height_in_form := PySem.W.mg_of X G a30
  have F_smoothed := fun_mk (st := s_smoothed) l31 c31 k31
  have b_smoothed := F_smoothed.binds (ps := ["heights", "weights", "place"]) fun _ _ _ _ _ _ us hl => by obtain ⟨_, _, _, rfl⟩ := len_3 (hl : us.length = 3); rfl
  have m_smoothed := PySem.W.mg_of X G a31
  have F_Reader_init := fun_mk (st := s_Reader_init) l32 c32 k32
  have b_Reader_init := F_Reader_init.binds (ps := ["self", "numbers"]) fun _ _ _ _ _ _ us hl => by obtain ⟨_, _, rfl⟩ := len_2 (hl : us.length = 2); rfl
  have F_Reader_is_done := fun_mk (st := s_Reader_is_done) l33 c33 k33
  have b_Reader_is_done := F_Reader_is_done.binds (ps := ["self"]) fun _ _ _ _ _ _ us hl => by obtain ⟨_, rfl⟩ := len_1 (hl : us.length = 1); rfl
  have m_Reader_is_done : Meth K CReader "is_done" f33 := ⟨a33, i33, k33⟩
  have F_Reader_take_number := fun_mk (st := s_Reader_take_number) l34 c34 k34
  have b_Reader_take_number := F_Reader_take_number.binds (ps := ["self"]) fun _ _ _ _ _ _ us hl => by obtain ⟨_, rfl⟩ := len_1 (hl : us.length = 1); rfl
  have m_Reader_take_number : Meth K CReader "take_number" f34 := ⟨a34, i34, k34⟩
  have F_Reader_take_row := fun_mk (st := s_Reader_take_row) l35 c35 k35
  have b_Reader_take_row := F_Reader_take_row.binds (ps := ["self"]) fun _ _ _ _ _ _ us hl => by obtain ⟨_, rfl⟩ := len_1 (hl : us.length = 1); rfl
  have m_Reader_take_row : Meth K CReader "take_row" f35 := ⟨a35, i35, k35⟩
  have cl_Reader : Cls K CReader := ⟨pgReader, hdReader, poReader, saReader⟩
  have mk_Reader : Mk K CReader f32 := ⟨mkReader, a32, i32, kcReader⟩
  have m_Reader := PySem.W.mg_of X G nReader
  have F_Gauge_init := fun_mk (st := s_Gauge_init) l36 c36 k36
  have b_Gauge_init := F_Gauge_init.binds (ps := ["self", "spike_size", "widest_gap", "points", "watch_checks", "zero_checks"]) fun _ _ _ _ _ _ us hl => by obtain ⟨_, _, _, _, _, _, rfl⟩ := len_6 (hl : us.length = 6); rfl
  have cl_Gauge : Cls K CGauge := ⟨pgGauge, hdGauge, poGauge, saGauge⟩
  have mk_Gauge : Mk K CGauge f36 := ⟨mkGauge, a36, i36, kcGauge⟩
  have m_Gauge := PySem.W.mg_of X G nGauge
  have F_Recorder_init := fun_mk (st := s_Recorder_init) l37 c37 k37
  have b_Recorder_init := F_Recorder_init.binds (ps := ["self"]) fun _ _ _ _ _ _ us hl => by obtain ⟨_, rfl⟩ := len_1 (hl : us.length = 1); rfl
  have cl_Recorder : Cls K CRecorder := ⟨pgRecorder, hdRecorder, poRecorder, saRecorder⟩
  have mk_Recorder : Mk K CRecorder f37 := ⟨mkRecorder, a37, i37, kcRecorder⟩
  have m_Recorder := PySem.W.mg_of X G nRecorder
  have m_TIME_BOUND := PySem.W.mg_of X G vTIME_BOUND
  have m_HEIGHT_BOUND := PySem.W.mg_of X G vHEIGHT_BOUND
  have m_SETTING_END := PySem.W.mg_of X G vSETTING_END
  have m_MOST_POINTS := PySem.W.mg_of X G vMOST_POINTS
  have m_MOST_CHECKS := PySem.W.mg_of X G vMOST_CHECKS
  have m_MOST_HEIGHTS := PySem.W.mg_of X G vMOST_HEIGHTS
  have m_MOST_WEIGHTS := PySem.W.mg_of X G vMOST_WEIGHTS
  have m_WEIGHT_BOUND := PySem.W.mg_of X G vWEIGHT_BOUND
  have m_SMOOTH_BOUND := PySem.W.mg_of X G vSMOOTH_BOUND
  have m_NUMBERS_OF_CALL := PySem.W.mg_of X G vNUMBERS_OF_CALL
  have q_NUMBERS_OF_CALL : ∀ H : Hp, SqT K H pNUMBERS_OF_CALL [.int 2, .int 0, .int 1, .int 1, .int 1, .int 3, .int 0] := fun H => .inr ⟨_, _, _, wNUMBERS_OF_CALL, rfl, rfl, (by show 7 ≤ sizeLine; decide), .cons ⟨_, rfl⟩ (.cons ⟨_, rfl⟩ (.cons ⟨_, rfl⟩ (.cons ⟨_, rfl⟩ (.cons ⟨_, rfl⟩ (.cons ⟨_, rfl⟩ (.cons ⟨_, rfl⟩ (.nil)))))))⟩
  have m_ROWS_OF_CALL := PySem.W.mg_of X G vROWS_OF_CALL
  have q_ROWS_OF_CALL : ∀ H : Hp, SqT K H pROWS_OF_CALL [.int 3, .int 0, .int 0, .int 0, .int 0, .int 0, .int 2] := fun H => .inr ⟨_, _, _, wROWS_OF_CALL, rfl, rfl, (by show 7 ≤ sizeLine; decide), .cons ⟨_, rfl⟩ (.cons ⟨_, rfl⟩ (.cons ⟨_, rfl⟩ (.cons ⟨_, rfl⟩ (.cons ⟨_, rfl⟩ (.cons ⟨_, rfl⟩ (.cons ⟨_, rfl⟩ (.nil)))))))⟩
  have m_len := PySem.W.mg_none_of X G ylen
  have m_range := PySem.W.mg_none_of X G yrange
  have m_tuple := PySem.W.mg_none_of X G ytuple
  have m_enumerate := PySem.W.mg_none_of X G yenumerate
  have m_zip := PySem.W.mg_none_of X G yzip
  have m_max := PySem.W.mg_none_of X G ymax
  have m_abs := PySem.W.mg_none_of X G yabs
  refine ⟨PySem.W.fnOf "answers" "answers" (defArgs s_answers) (defBody s_answers) (defScope s_answers) .none kV1 dc1 pm1 an1 cd1 ct1, fun s us hu => match us, hu with | [_], _ => .of_eq rfl, fun base _ _ => ?_⟩
  have M : Mg K mg := ⟨m_len, m_range, m_tuple, m_enumerate, m_zip, m_max, m_abs, ⟨_, m_TIME_BOUND⟩, ⟨_, m_HEIGHT_BOUND⟩, ⟨_, m_SETTING_END⟩, ⟨_, m_MOST_POINTS⟩, ⟨_, m_MOST_CHECKS⟩, ⟨_, m_MOST_HEIGHTS⟩, ⟨_, m_MOST_WEIGHTS⟩, ⟨_, m_WEIGHT_BOUND⟩, ⟨_, m_SMOOTH_BOUND⟩, ⟨_, m_NUMBERS_OF_CALL, q_NUMBERS_OF_CALL⟩, ⟨_, m_ROWS_OF_CALL, q_ROWS_OF_CALL⟩⟩
  have TR : ClsR K CReader := ⟨cl_Reader, zReader_numbers, zReader_place⟩
  have TG : ClsG K CGauge := ⟨cl_Gauge, zGauge_spike_size, zGauge_widest_gap, zGauge_points, zGauge_watch_checks, zGauge_zero_checks, zGauge_kept⟩
  have TC : ClsC K CRecorder := ⟨cl_Recorder, zRecorder_gauge⟩
  have o_cd := ok_common_divisor (P := P) (w := w) (mg := mg) (base := base) F_common_divisor
  have o_fa := ok_fraction_answer F_fraction_answer o_cd m_common_divisor F_common_divisor.kp b_common_divisor
  have o_it := ok_is_time (P := P) (w := w) (base := base) F_is_time M
  have o_ol := ok_on_line (P := P) (w := w) (mg := mg) (base := base) F_on_line
  have o_bc := ok_between_checks F_between_checks o_ol m_on_line F_on_line.kp b_on_line
  have o_tt := ok_true_time F_true_time M o_bc m_between_checks F_between_checks.kp b_between_checks
  have o_za := ok_zero_at F_zero_at M o_bc m_between_checks F_between_checks.kp b_between_checks
  have o_at := ok_answer_time F_answer_time TG o_it m_is_time F_is_time.kp b_is_time o_fa m_fraction_answer F_fraction_answer.kp b_fraction_answer o_tt m_true_time F_true_time.kp b_true_time
  have o_az := ok_answer_zero F_answer_zero TG o_it m_is_time F_is_time.kp b_is_time o_fa m_fraction_answer F_fraction_answer.kp b_fraction_answer o_za m_zero_at F_zero_at.kp b_zero_at
  have o_is := ok_is_spike (P := P) (w := w) (base := base) F_is_spike M
  have o_as := ok_answer_spikes F_answer_spikes TG M o_is m_is_spike F_is_spike.kp b_is_spike
  have o_ri := ok_rises (P := P) (w := w) (base := base) F_rises M
  have o_ib := ok_in_bounds (P := P) (w := w) (base := base) F_in_bounds M
  have o_ff := ok_first_fault F_first_fault M o_ib m_in_bounds F_in_bounds.kp b_in_bounds o_ri m_rises F_rises.kp b_rises
  have o_fo := ok_form_fault F_form_fault M o_ff m_first_fault F_first_fault.kp b_first_fault
  have o_ig := ok_in_groups (P := P) (w := w) (base := base) F_in_groups M
  have o_kp := ok_kept_points F_kept_points M o_is m_is_spike F_is_spike.kp b_is_spike o_za m_zero_at F_zero_at.kp b_zero_at o_tt m_true_time F_true_time.kp b_true_time
  have o_gi := ok_Gauge_init F_Gauge_init TG o_kp m_kept_points F_kept_points.kp b_kept_points
  have o_ag := ok_answer_gauge F_answer_gauge M TC TG o_ig m_in_groups F_in_groups.kp b_in_groups o_fo m_form_fault F_form_fault.kp b_form_fault mk_Gauge o_gi m_Gauge b_Gauge_init
  have o_ri' := ok_Reader_init (P := P) (w := w) (mg := mg) (base := base) F_Reader_init TR
  have o_ci := ok_Recorder_init (P := P) (w := w) (mg := mg) (base := base) F_Recorder_init TC
  have o_dn := ok_is_done (P := P) (w := w) (base := base) F_Reader_is_done TR M
  have o_tn := ok_take_number (P := P) (w := w) (mg := mg) (base := base) F_Reader_take_number TR
  have o_tr := ok_take_row F_Reader_take_row TR o_tn m_Reader_take_number b_Reader_take_number
  have o_nr := ok_nearest (P := P) (w := w) (mg := mg) (base := base) F_nearest
  have o_ts := ok_time_span (P := P) (w := w) (mg := mg) (base := base) F_time_span
  have o_hb := ok_height_between F_height_between o_ts m_time_span F_time_span.kp b_time_span
  have o_fn := ok_first_not_before (P := P) (w := w) (base := base) F_first_not_before M
  have o_ha := ok_height_at F_height_at TG M o_fn m_first_not_before F_first_not_before.kp b_first_not_before o_nr m_nearest F_nearest.kp b_nearest o_ts m_time_span F_time_span.kp b_time_span o_hb m_height_between F_height_between.kp b_height_between
  have o_aa := ok_answer_at F_answer_at o_it m_is_time F_is_time.kp b_is_time o_ha m_height_at F_height_at.kp b_height_at
  have o_ra := ok_rows_answer (P := P) (w := w) (base := base) F_rows_answer M
  have o_ar := ok_answer_row F_answer_row M o_it m_is_time F_is_time.kp b_is_time o_ha m_height_at F_height_at.kp b_height_at o_ra m_rows_answer F_rows_answer.kp b_rows_answer
  have o_hf := ok_is_height_in_form (P := P) (w := w) (base := base) F_is_height_in_form M
  have o_sm := ok_smoothed F_smoothed M o_nr m_nearest F_nearest.kp b_nearest
  have o_am := ok_answer_smooth F_answer_smooth M o_ig m_in_groups F_in_groups.kp b_in_groups o_hf m_is_height_in_form F_is_height_in_form.kp b_is_height_in_form o_ra m_rows_answer F_rows_answer.kp b_rows_answer o_sm m_smoothed F_smoothed.kp b_smoothed
  have o_ac := ok_answer_call F_answer_call TC o_ag m_answer_gauge F_answer_gauge.kp b_answer_gauge o_am m_answer_smooth F_answer_smooth.kp b_answer_smooth o_as m_answer_spikes F_answer_spikes.kp b_answer_spikes o_at m_answer_time F_answer_time.kp b_answer_time o_az m_answer_zero F_answer_zero.kp b_answer_zero o_aa m_answer_at F_answer_at.kp b_answer_at o_ar m_answer_row F_answer_row.kp b_answer_row
  exact ok_answers F_answers M TR TC mk_Reader o_ri' m_Reader b_Reader_init mk_Recorder o_ci m_Recorder b_Recorder_init o_dn m_Reader_is_done b_Reader_is_done o_tn m_Reader_take_number b_Reader_take_number o_tr m_Reader_take_row b_Reader_take_row (by decide) o_ac m_answer_call F_answer_call.kp b_answer_call

end Gc
open PySem PySem.W PyProof.Rows
set_option maxRecDepth 100000 in
set_option maxHeartbeats 0 in
theorem PySem.Challenge.cw_gaugeclock_s01_answers_holds : PySem.Challenge.rw_gaugeclock_s01_answers.Holds := by
  w_on; k_headS; (case hw => exact ⟨[.list [.int 1]], by decide +kernel, by decide +kernel⟩)
  k_fillS
  refine L2.walk_specK (r := PySem.Challenge.rw_gaugeclock_s01_answers) (k := 9) (CX := L2.CX0) (ps := ["calls"]) (sp := Gc.sp_answers) (by decide +kernel) rfl rfl ⟨rfl, by decide, by decide⟩ (fun w h Y => PySem.W.kIn_of Y) ?F ?S (fun _ _ _ _ z => z)
  case F =>
    intro w mg fa h Y KX G hmg
    refine' Gc.all_mk KX G hmg ?a1 ?l1 ?c1 ?k1 ?a2 ?l2 ?c2 ?k2 ?a3 ?l3 ?c3 ?k3 ?a4 ?l4 ?c4 ?k4 ?a5 ?l5 ?c5 ?k5 ?a6 ?l6 ?c6 ?k6 ?a7 ?l7 ?c7 ?k7 ?a8 ?l8 ?c8 ?k8 ?a9 ?l9 ?c9 ?k9 ?a10 ?l10 ?c10 ?k10 ?a11 ?l11 ?c11 ?k11 ?a12 ?l12 ?c12 ?k12 ?a13 ?l13 ?c13 ?k13 ?a14 ?l14 ?c14 ?k14 ?a15 ?l15 ?c15 ?k15 ?a16 ?l16 ?c16 ?k16 ?a17 ?l17 ?c17 ?k17 ?a18 ?l18 ?c18 ?k18 ?a19 ?l19 ?c19 ?k19 ?a20 ?l20 ?c20 ?k20 ?a21 ?l21 ?c21 ?k21 ?a22 ?l22 ?c22 ?k22 ?a23 ?l23 ?c23 ?k23 ?a24 ?l24 ?c24 ?k24 ?a25 ?l25 ?c25 ?k25 ?a26 ?l26 ?c26 ?k26 ?a27 ?l27 ?c27 ?k27 ?a28 ?l28 ?c28 ?k28 ?a29 ?l29 ?c29 ?k29 ?a30 ?l30 ?c30 ?k30 ?a31 ?l31 ?c31 ?k31 ?nReader ?a32 ?i32 ?l32 ?c32 ?k32 ?a33 ?i33 ?l33 ?c33 ?k33 ?a34 ?i34 ?l34 ?c34 ?k34 ?a35 ?i35 ?l35 ?c35 ?k35 ?pgReader ?hdReader ?poReader ?saReader ?mkReader ?kcReader ?zReader_numbers ?zReader_place ?nGauge ?a36 ?i36 ?l36 ?c36 ?k36 ?pgGauge ?hdGauge ?poGauge ?saGauge ?mkGauge ?kcGauge ?zGauge_spike_size ?zGauge_widest_gap ?zGauge_points ?zGauge_watch_checks ?zGauge_zero_checks ?zGauge_kept ?nRecorder ?a37 ?i37 ?l37 ?c37 ?k37 ?pgRecorder ?hdRecorder ?poRecorder ?saRecorder ?mkRecorder ?kcRecorder ?zRecorder_gauge ?vTIME_BOUND ?vHEIGHT_BOUND ?vSETTING_END ?vMOST_POINTS ?vMOST_CHECKS ?vMOST_HEIGHTS ?vMOST_WEIGHTS ?vWEIGHT_BOUND ?vSMOOTH_BOUND ?vNUMBERS_OF_CALL ?wNUMBERS_OF_CALL ?vROWS_OF_CALL ?wROWS_OF_CALL ?ylen ?yrange ?ytuple ?yenumerate ?yzip ?ymax ?yabs
    (case a1 => k_is); (case l1 => k_is); (case c1 => k_is); (case k1 => k_is); (case a2 => k_is); (case l2 => k_is); (case c2 => k_is); (case k2 => k_is); (case a3 => k_is); (case l3 => k_is); (case c3 => k_is); (case k3 => k_is); (case a4 => k_is); (case l4 => k_is); (case c4 => k_is); (case k4 => k_is); (case a5 => k_is); (case l5 => k_is); (case c5 => k_is); (case k5 => k_is); (case a6 => k_is); (case l6 => k_is); (case c6 => k_is); (case k6 => k_is); (case a7 => k_is); (case l7 => k_is); (case c7 => k_is); (case k7 => k_is); (case a8 => k_is); (case l8 => k_is); (case c8 => k_is); (case k8 => k_is); (case a9 => k_is); (case l9 => k_is); (case c9 => k_is); (case k9 => k_is); (case a10 => k_is); (case l10 => k_is); (case c10 => k_is); (case k10 => k_is); (case a11 => k_is); (case l11 => k_is); (case c11 => k_is); (case k11 => k_is); (case a12 => k_is); (case l12 => k_is); (case c12 => k_is); (case k12 => k_is); (case a13 => k_is); (case l13 => k_is); (case c13 => k_is); (case k13 => k_is); (case a14 => k_is); (case l14 => k_is); (case c14 => k_is); (case k14 => k_is); (case a15 => k_is); (case l15 => k_is); (case c15 => k_is); (case k15 => k_is); (case a16 => k_is); (case l16 => k_is); (case c16 => k_is); (case k16 => k_is); (case a17 => k_is); (case l17 => k_is); (case c17 => k_is); (case k17 => k_is); (case a18 => k_is); (case l18 => k_is); (case c18 => k_is); (case k18 => k_is); (case a19 => k_is); (case l19 => k_is); (case c19 => k_is); (case k19 => k_is); (case a20 => k_is); (case l20 => k_is); (case c20 => k_is); (case k20 => k_is); (case a21 => k_is); (case l21 => k_is); (case c21 => k_is); (case k21 => k_is); (case a22 => k_is); (case l22 => k_is); (case c22 => k_is); (case k22 => k_is); (case a23 => k_is); (case l23 => k_is); (case c23 => k_is); (case k23 => k_is); (case a24 => k_is); (case l24 => k_is); (case c24 => k_is); (case k24 => k_is); (case a25 => k_is); (case l25 => k_is); (case c25 => k_is); (case k25 => k_is); (case a26 => k_is); (case l26 => k_is); (case c26 => k_is); (case k26 => k_is); (case a27 => k_is); (case l27 => k_is); (case c27 => k_is); (case k27 => k_is); (case a28 => k_is); (case l28 => k_is); (case c28 => k_is); (case k28 => k_is); (case a29 => k_is); (case l29 => k_is); (case c29 => k_is); (case k29 => k_is); (case a30 => k_is); (case l30 => k_is); (case c30 => k_is); (case k30 => k_is); (case a31 => k_is); (case l31 => k_is); (case c31 => k_is); (case k31 => k_is); (case nReader => k_is); (case a32 => k_is); (case i32 => k_is); (case l32 => k_is); (case c32 => k_is); (case k32 => k_is); (case a33 => k_is); (case i33 => k_is); (case l33 => k_is); (case c33 => k_is); (case k33 => k_is); (case a34 => k_is); (case i34 => k_is); (case l34 => k_is); (case c34 => k_is); (case k34 => k_is); (case a35 => k_is); (case i35 => k_is); (case l35 => k_is); (case c35 => k_is); (case k35 => k_is); (case pgReader => k_is); (case hdReader => k_is); (case poReader => k_is); (case saReader => k_is); (case mkReader => k_is); (case kcReader => k_is); (case zReader_numbers => k_is); (case zReader_place => k_is); (case nGauge => k_is); (case a36 => k_is); (case i36 => k_is); (case l36 => k_is); (case c36 => k_is); (case k36 => k_is); (case pgGauge => k_is); (case hdGauge => k_is); (case poGauge => k_is); (case saGauge => k_is); (case mkGauge => k_is); (case kcGauge => k_is); (case zGauge_spike_size => k_is); (case zGauge_widest_gap => k_is); (case zGauge_points => k_is); (case zGauge_watch_checks => k_is); (case zGauge_zero_checks => k_is); (case zGauge_kept => k_is); (case nRecorder => k_is); (case a37 => k_is); (case i37 => k_is); (case l37 => k_is); (case c37 => k_is); (case k37 => k_is); (case pgRecorder => k_is); (case hdRecorder => k_is); (case poRecorder => k_is); (case saRecorder => k_is); (case mkRecorder => k_is); (case kcRecorder => k_is); (case zRecorder_gauge => k_is); (case vTIME_BOUND => k_is); (case vHEIGHT_BOUND => k_is); (case vSETTING_END => k_is); (case vMOST_POINTS => k_is); (case vMOST_CHECKS => k_is); (case vMOST_HEIGHTS => k_is); (case vMOST_WEIGHTS => k_is); (case vWEIGHT_BOUND => k_is); (case vSMOOTH_BOUND => k_is); (case vNUMBERS_OF_CALL => k_is); (case wNUMBERS_OF_CALL => k_is); (case vROWS_OF_CALL => k_is); (case wROWS_OF_CALL => k_is); (case ylen => k_is); (case yrange => k_is); (case ytuple => k_is); (case yenumerate => k_is); (case yzip => k_is); (case ymax => k_is); (case yabs => k_is)
  case S =>
    intro K H xs a hO hwi hask hx
    cases hx with
    | cons h1 h2 =>
      cases h2
      cases h1 with
      | lst hs ha =>
        have e := L2.ints_dw a.1 _ ha
        subst e
        have q : ((PySem.W.Codec.inLen 0 26000 a.1 && a.1.all (PySem.W.Codec.inInt (-274877906944) 274877906944)) && true) = true := hwi
        rw [Bool.and_eq_true, Bool.and_eq_true] at q
        exact Gc.request hs (PySem.W.Codec.inNat_iff.mp q.1.1).2 (Gc.inb q.1.2) hask
end
