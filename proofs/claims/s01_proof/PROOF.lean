import PyProof.Rows.All
import Wide.All
import OpenK.AllK
import Wide.FinOn
import PyProof.EqAt
import PyProof.EqKinds
import PyProof.TupleCall
import KE.BitLaws
import KE.OsGo
import Open.SpecLaws
import PyFlatLaws
import PySem.Challenge.RW_onelane_s01_answers
set_option Elab.async false
set_option linter.all false
set_option maxRecDepth 100000
/-! THE HAND LAYER, for ints, bools, texts, own classes, lists, tuples, dicts, comprehensions, walks over dicts, enumerate, zip, reversed, texts, calls, loops. Paste it whole ahead of your own text; what your proof does not reach may be deleted. -/
namespace L2
open PySem PySem.Spec PyProof.Rows

/-- a key: an int or a str -/
noncomputable abbrev Key := Sum Int Str
noncomputable def keyIs : Key → Value → Bool
  | .inl k, v => Value.isInt k v
  | .inr x, v => Value.isStrOf x v
noncomputable def keyH (w : World) : Key → Int
  | .inl k => hashInt k
  | .inr x => hashStr w x
theorem keyIs_shape : ∀ {k : Key} {v : Value}, keyIs k v = true → (∃ i t, k = Sum.inl i ∧ v = Value.int i t) ∨ (∃ x t, k = Sum.inr x ∧ v = Value.str x t)
  | .inl i, v, h => by
    obtain ⟨t, e⟩ := Value.isInt_shape (k := i) (v := v) h
    exact .inl ⟨i, t, rfl, e⟩
  | .inr x, v, h => by
    obtain ⟨t, e⟩ := Value.isStrOf_shape (x := x) (v := v) h
    exact .inr ⟨x, t, rfl, e⟩
theorem key_ll (a b : Int) : decide ((Sum.inl a : Key) = Sum.inl b) = (a == b) := by
  by_cases e : a = b
  · subst e; simp
  · have h : ¬ (Sum.inl a : Key) = Sum.inl b := fun q => e (Sum.inl.inj q)
    rw [decide_eq_false h]
    exact (beq_eq_false_iff_ne.mpr e).symm
theorem key_rr (a b : Str) : decide ((Sum.inr a : Key) = Sum.inr b) = decide (a = b) := by
  by_cases e : a = b
  · subst e; simp
  · have h : ¬ (Sum.inr a : Key) = Sum.inr b := fun q => e (Sum.inr.inj q)
    rw [decide_eq_false h, decide_eq_false e]
theorem key_lr (a : Int) (b : Str) : decide ((Sum.inl a : Key) = Sum.inr b) = false := decide_eq_false (fun q => nomatch q)
theorem key_rl (a : Str) (b : Int) : decide ((Sum.inr a : Key) = Sum.inl b) = false := decide_eq_false (fun q => nomatch q)

noncomputable def mixKind (prog : Program) (w : World) : PySem.KeyKind prog w Key where
  is := keyIs
  hash := keyH w
  inj := fun v a b ha hb => by
    rcases keyIs_shape ha with ⟨i, t, rfl, rfl⟩ | ⟨x, t, rfl, rfl⟩
    · rcases keyIs_shape hb with ⟨j, u, rfl, e⟩ | ⟨y, u, rfl, e⟩
      · injection e with e1 _; rw [e1]
      · exact nomatch e
    · rcases keyIs_shape hb with ⟨j, u, rfl, e⟩ | ⟨y, u, rfl, e⟩
      · exact nomatch e
      · injection e with e1 _; rw [e1]
  byValue := fun k v h => by
    rcases keyIs_shape h with ⟨i, t, rfl, rfl⟩ | ⟨x, t, rfl, rfl⟩ <;> rfl
  pyHash := fun hv h => by
    rcases keyIs_shape hv with ⟨i, t, rfl, rfl⟩ | ⟨x, t, rfl, rfl⟩
    · exact wpAny_pyHash_int h
    · exact wpAny_pyHash_str h
  eqBool := fun hu hv h => by
    rcases keyIs_shape hu with ⟨i, t, rfl, rfl⟩ | ⟨x, t, rfl, rfl⟩
    · rcases keyIs_shape hv with ⟨j, u, rfl, rfl⟩ | ⟨y, u, rfl, rfl⟩
      · rw [key_ll] at h; exact wpAny_eqBool_int h
      · rw [key_lr] at h; exact SeqAt.EqAt.int_str i t y u _ _ _ _ h
    · rcases keyIs_shape hv with ⟨j, u, rfl, rfl⟩ | ⟨y, u, rfl, rfl⟩
      · rw [key_rl] at h; exact SeqAt.EqAt.str_int x t j u _ _ _ _ h
      · rw [key_rr] at h; exact wpAny_eqBool_str h
  «strs» := fun k x t v h => by
    rcases keyIs_shape h with ⟨i, u, rfl, e⟩ | ⟨y, u, rfl, e⟩
    · exact nomatch e
    · injection e with e1 _
      subst e1
      cases v <;> rfl

end L2

namespace L2
open PySem PySem.Spec PyProof.Rows

/-- a value, without the heap -/
inductive V where
  | non | bl (b : Bool) | int (i : Int) | str (x : Str) | byt (b : Array UInt8) | flt (b : UInt64) | ref (a : Addr) | ty (n : String)
  deriving DecidableEq

noncomputable def RelV : V → Value → Prop
  | .non, u => u = Value.none
  | .bl b, u => u = Value.bool b
  | .int i, u => ∃ t, u = Value.int i t
  | .str x, u => ∃ t, u = Value.str x t
  | .byt b, u => ∃ t, u = Value.bytes b t
  | .flt b, u => ∃ t, u = Value.float b t
  | .ref a, u => u = Value.ref a
  | .ty n, u => u = Value.type n

noncomputable abbrev Vals : List V → List Value → Prop := Paired RelV
theorem Vals.length {xs : List V} {us : List Value} (r : Vals xs us) : xs.length = us.length := Paired.length r
theorem Vals.get : ∀ {xs : List V} {us : List Value} {i : Nat} {x : V}, Vals xs us → xs[i]? = some x → ∃ u, us[i]? = some u ∧ RelV x u
  | _, _, _, _, .nil, e => by simp at e
  | _, _, 0, _, .cons r _, e => by simp at e; subst e; exact ⟨_, rfl, r⟩
  | _, _, i + 1, x, .cons _ t, e => by
    obtain ⟨u, h1, h2⟩ := Vals.get (i := i) (x := x) t (by simpa using e)
    exact ⟨u, by simpa using h1, h2⟩
theorem Vals.append : ∀ {xs ys : List V} {us ws : List Value}, Vals xs us → Vals ys ws → Vals (xs ++ ys) (us ++ ws)
  | _, _, _, _, .nil, s => s
  | _, _, _, _, .cons r t, s => .cons r (Vals.append t s)
theorem Vals.take : ∀ {xs : List V} {us : List Value} (n : Nat), Vals xs us → Vals (xs.take n) (us.take n)
  | _, _, 0, _ => .nil
  | _, _, _ + 1, .nil => .nil
  | _, _, n + 1, .cons r t => .cons r (Vals.take n t)
theorem Vals.drop : ∀ {xs : List V} {us : List Value} (n : Nat), Vals xs us → Vals (xs.drop n) (us.drop n)
  | _, _, 0, r => r
  | _, _, _ + 1, .nil => .nil
  | _, _, n + 1, .cons _ t => Vals.drop n t
noncomputable def RelO : Option V → Option Value → Prop
  | some v, some u => RelV v u
  | none, none => True
  | _, _ => False
noncomputable def KV {κ : Type} : List (κ × V) → List (κ × Value) → Prop := Paired fun (p : κ × V) (q : κ × Value) => p.1 = q.1 ∧ RelV p.2 q.2

/-- a key of a dict (00_mix): an int or a text -/
noncomputable def kV : Key → V
  | .inl i => .int i
  | .inr x => .str x

/-- what stands at a tracked address -/
inductive HO where
  /-- a list -/
  | lst (xs : List V)
  /-- a tuple (never changes) -/
  | tup (xs : List V)
  /-- a dict whose keys are ints and texts; one whose keys are tuples of ints and texts (the empty one is both) -/
  | dK (kvs : List (Key × V)) | dT (kvs : List (List Key × V))
  /-- a set of ints: its members, its size -/
  | set (S : Int → Bool) (n : Nat)
  /-- an instance of the class at C, its dict at dx, its attributes -/
  | ins (C dx : Addr) (fs : List (Str × V))
  /-- the dict of the instance at x -/
  | own (x : Addr)
  /-- the dict of an exception -/
  | xd (fs : List (Str × V))
  /-- a bound method, f of x -/
  | met (f x : Addr)
  /-- a range object lo, lo + 1, .. below hi -/
  | rng (lo hi : Int)
  /-- a thing that is known to the object (the script; a dict while a loop walks it): read, never written while it is so -/
  | frz (o : Obj) (u : HO)
  /-- a code object's table -/
  | tbl (ps : Array Value)
  /-- any other thing, by what is true of its one object (a def of one's own: SetO a S n := HO.ext fun h => ..) -/
  | ext (φ : Heap → Prop)

noncomputable abbrev Hp := Addr → Option HO
noncomputable def upd (H : Hp) (a : Addr) (o : HO) : Hp := fun b => if b = a then some o else H b
theorem upd_same {H : Hp} {a : Addr} {o : HO} : upd H a o a = some o := by unfold upd; rw [if_pos rfl]
theorem upd_ne {H : Hp} {a b : Addr} {o : HO} (h : b ≠ a) : upd H a o b = H b := by unfold upd; rw [if_neg h]
theorem upd_upd {H : Hp} {a : Addr} {o u : HO} : upd (upd H a o) a u = upd H a u := by
  funext b; unfold upd; split <;> rfl
/-- two objects of different content stand apart -/
theorem ne_of {H : Hp} {a b : Addr} {o u : HO} (h : H a = some o) (h' : H b = some u) (d : o ≠ u) : a ≠ b := by
  intro e; subst e; rw [h] at h'; exact d (Option.some.inj h')
theorem ne_of_none {H : Hp} {a b : Addr} {o : HO} (h : H a = some o) (h' : H b = none) : a ≠ b := by
  intro e; subst e; rw [h] at h'; cases h'

section
variable (P : Program) (w : World)
noncomputable def ObjOk (H : Hp) (h : Heap) (a : Addr) : HO → Prop
  | .lst xs => xs.length ≤ sizeLine ∧ ∃ (its : List Value) (n : Nat), Vals xs its ∧ h.get? a = some { cls := .type "list", data := .seq its.toArray n }
  | .tup xs => xs.length ≤ sizeLine ∧ ∃ its : List Value, Vals xs its ∧ IsTup h a its.toArray
  | .dK kvs => kvs.length ≤ sizeLine ∧ (a == sysModules) = false ∧ ∃ vs, KV kvs vs ∧ h.DictOf (mixKind P w) a vs
  | .dT kvs => kvs.length ≤ sizeLine ∧ (a == sysModules) = false ∧ ∃ xs : List (List Key × Addr × Value),
      Paired (fun (p : List Key × V) (q : List Key × Addr × Value) => p.1 = q.1 ∧ H q.2.1 = some (.tup (p.1.map kV)) ∧ RelV p.2 q.2.2) kvs xs ∧
      ∃ o es ep, h.get? a = some o ∧ o.ExactDict ∧ o.data = .dict es ep ∧ es.toList = xs.map (entryOfKey (tupleKind (mixKind P w))) ∧ (xs.map (·.1)).Nodup
  | .set S n => h.SetOf (intKind P w) a S n
  | .ins C dx fs => H dx = some (.own a) ∧ fs.length ≤ 1000 ∧ dx ≠ a ∧ h.get? a = some (PySem.W.instObj C dx) ∧
      ∃ mA, h.Ns1 dx mA ∧ (∀ f, RelO (fs.lookup f) (mA f)) ∧ PySem.Within mA (fs.map (·.1))
  | .own _ => ∃ o, h.get? a = some o
  | .xd fs => ∃ mA, h.Ns1 a mA ∧ ∀ f, RelO (fs.lookup f) (mA f)
  | .rng lo hi => ∃ t u v, h.get? a = some { cls := .type "range", data := .fields #[.int lo t, .int hi u, .int 1 v] }
  | .frz o u => h.get? a = some o ∧ ObjOk H h a u
  | .tbl ps => h.get? a = some { cls := .none, data := .fields ps }
  | .met f x => h.get? a = some (PySem.W.methodObj (.ref f) (.ref x))
  | .ext φ => φ h ∧ (∃ o, h.get? a = some o) ∧ ∀ h1 h2 : Heap, φ h1 → (∀ o, h1.get? a = some o → h2.get? a = some o) → φ h2
/-- the abstract heap is held -/
noncomputable def HOk (H : Hp) (h : Heap) : Prop := ∀ a o, H a = some o → ObjOk P w H h a o
end

section
variable {P : Program} {w : World} {H H' : Hp} {h h' : Heap} {a : Addr} {o : HO}
theorem ObjOk.lt (x : ObjOk P w H h a o) : a < h.objs.size := by
  cases o with
  | lst xs => obtain ⟨_, _, _, _, e⟩ := x; exact Heap.lt_size e
  | tup xs => obtain ⟨_, _, _, p⟩ := x; exact p.lt
  | dK kvs => obtain ⟨_, _, _, _, o, _, _, e, _⟩ := x; exact Heap.lt_size e
  | dT kvs => obtain ⟨_, _, _, _, o, _, _, e, _⟩ := x; exact Heap.lt_size e
  | set S n => obtain ⟨o, _, _, _, e, _⟩ := x; exact Heap.lt_size e
  | ins C dx fs => obtain ⟨_, _, _, e, _⟩ := x; exact Heap.lt_size e
  | own y => obtain ⟨_, e⟩ := x; exact Heap.lt_size e
  | xd fs => obtain ⟨_, ⟨_, _, _, e, _⟩, _⟩ := x; exact Heap.lt_size e
  | rng lo hi => obtain ⟨_, _, _, e⟩ := x; exact Heap.lt_size e
  | frz ob u => obtain ⟨e, _⟩ := x; exact Heap.lt_size e
  | tbl ps => exact Heap.lt_size (show h.get? a = some _ from x)
  | met f y => exact Heap.lt_size (show h.get? a = some _ from x)
  | ext φ => obtain ⟨_, ⟨_, e⟩, _⟩ := x; exact Heap.lt_size e
theorem Paired.mapP {α β : Type} {F G : α → β → Prop} : ∀ {l₁ : List α} {l₂ : List β}, Paired F l₁ l₂ → (∀ a b, F a b → G a b) → Paired G l₁ l₂
  | _, _, .nil, _ => .nil
  | _, _, .cons r t, f => .cons (f _ _ r) (Paired.mapP t f)
/-- what an object's description leans on: its own object, its own dict, the tuples -/
theorem ObjOk.stay (x : ObjOk P w H h a o) (k : ∀ b u, (b = a ∨ H b = some (.own a)) → h.get? b = some u → h'.get? b = some u)
    (ho : ∀ b, H b = some (.own a) → H' b = some (.own a)) (ht : ∀ b xs, H b = some (.tup xs) → H' b = some (.tup xs)) : ObjOk P w H' h' a o := by
  induction o with
  | lst xs => obtain ⟨z, its, n, r, e⟩ := x; exact ⟨z, its, n, r, k _ _ (.inl rfl) e⟩
  | tup xs => obtain ⟨z, its, r, ob, e, c⟩ := x; exact ⟨z, its, r, ob, k _ _ (.inl rfl) e, c⟩
  | dK kvs => obtain ⟨z, y, vs, r, ob, es, ep, e, c⟩ := x; exact ⟨z, y, vs, r, ob, es, ep, k _ _ (.inl rfl) e, c⟩
  | dT kvs =>
    obtain ⟨z, y, xs, r, ob, es, ep, e, c⟩ := x
    exact ⟨z, y, xs, Paired.mapP r fun p q z => ⟨z.1, ht _ _ z.2.1, z.2.2⟩, ob, es, ep, k _ _ (.inl rfl) e, c⟩
  | set S n => obtain ⟨ob, es, ep, t, e, c⟩ := x; exact ⟨ob, es, ep, t, k _ _ (.inl rfl) e, c⟩
  | ins C dx fs =>
    obtain ⟨d, z, ne, e, mA, ⟨od, es, ep, e2, c⟩, r⟩ := x
    exact ⟨ho _ d, z, ne, k _ _ (.inl rfl) e, mA, ⟨od, es, ep, k _ _ (.inr d) e2, c⟩, r⟩
  | own y => obtain ⟨ob, e⟩ := x; exact ⟨ob, k _ _ (.inl rfl) e⟩
  | xd fs => obtain ⟨mA, ⟨od, es, ep, e, c⟩, r⟩ := x; exact ⟨mA, ⟨od, es, ep, k _ _ (.inl rfl) e, c⟩, r⟩
  | rng lo hi => obtain ⟨t, u, v, e⟩ := x; exact ⟨t, u, v, k _ _ (.inl rfl) e⟩
  | frz ob u ih => obtain ⟨e, q⟩ := x; exact ⟨k _ _ (.inl rfl) e, ih q⟩
  | tbl ps =>
    have e : h.get? a = some { cls := .none, data := .fields ps } := x
    show h'.get? a = some { cls := .none, data := .fields ps }
    exact k a _ (.inl rfl) e
  | met f y =>
    have e : h.get? a = some (PySem.W.methodObj (.ref f) (.ref y)) := x
    show h'.get? a = some (PySem.W.methodObj (.ref f) (.ref y))
    exact k a _ (.inl rfl) e
  | ext φ => obtain ⟨p, ⟨o, e⟩, st⟩ := x; exact ⟨st _ _ p fun o q => k _ _ (.inl rfl) q, ⟨o, k _ _ (.inl rfl) e⟩, st⟩
theorem HOk.lt (x : HOk P w H h) (e : H a = some o) : a < h.objs.size := (x a o e).lt
theorem HOk.fresh (x : HOk P w H h) (e : h.objs.size ≤ a) : H a = none := by
  cases q : H a with
  | none => rfl
  | some u => exact absurd (Nat.lt_of_lt_of_le (x.lt q) e) (Nat.lt_irrefl _)
/-- every object of the heap is kept -/
theorem HOk.kept (x : HOk P w H h) (k : ∀ b u, h.get? b = some u → h'.get? b = some u) : HOk P w H h' := fun a o e =>
  (x a o e).stay (fun b u _ q => k b u q) (fun _ q => q) fun _ _ q => q
/-- a new object is laid and tracked -/
theorem HOk.laid (x : HOk P w H h) (k : ∀ b u, h.get? b = some u → h'.get? b = some u) (hp : h.objs.size ≤ a) (new : ObjOk P w (upd H a o) h' a o) : HOk P w (upd H a o) h' := fun b u e => by
  have hn := x.fresh hp
  by_cases hb : b = a
  · subst hb; rw [upd_same] at e; cases e; exact new
  · rw [upd_ne hb] at e
    exact (x b u e).stay (fun c v _ q => k c v q) (fun c q => by rw [upd_ne (ne_of_none q hn)]; exact q) fun c xs q => by rw [upd_ne (ne_of_none q hn)]; exact q
end

/-- what may be read as u: it is u, or a known u -/
noncomputable def Rd (H : Hp) (a : Addr) (u : HO) : Prop := H a = some u ∨ ∃ o, H a = some (.frz o u)
theorem Rd.ok {P : Program} {w : World} {H : Hp} {h : Heap} {a : Addr} {u : HO} (r : Rd H a u) (x : HOk P w H h) : ObjOk P w H h a u := by
  rcases r with r | ⟨o, r⟩
  · exact x a u r
  · obtain ⟨_, q⟩ := x a _ r
    exact q
/-- what may be written -/
noncomputable def Mut : Option HO → Prop
  | some (.lst _) => True
  | some (.dK _) => True
  | some (.dT _) => True
  | some (.set _ _) => True
  | some (.ins _ _ _) => True
  | some (.ext _) => True
  | _ => False
section
variable {P : Program} {w : World} {H : Hp} {h h' : Heap} {x e : Addr} {o' : HO}
/-- the object at e is changed: x itself, or the dict of the instance x -/
theorem HOk.write (ok : HOk P w H h) (mu : Mut (H x)) (he : e = x ∨ H e = some (.own x)) (k : ∀ b u, b ≠ e → h.get? b = some u → h'.get? b = some u) (heo : ∃ u, h'.get? e = some u)
    (new : ObjOk P w (upd H x o') h' x o') : HOk P w (upd H x o') h' := fun b u q => by
  have nown : ∀ c y, H c = some (.own y) → c ≠ x := fun c y r z => by subst z; rw [r] at mu; exact mu
  have ntup : ∀ c xs, H c = some (.tup xs) → c ≠ x := fun c xs r z => by subst z; rw [r] at mu; exact mu
  by_cases hb : b = x
  · subst hb; rw [upd_same] at q; cases q; exact new
  · rw [upd_ne hb] at q
    by_cases hbe : b = e
    · have q' : H b = some (.own x) := by
        rcases he with z | z
        · exact absurd (hbe.trans z) hb
        · rw [hbe]; exact z
      rw [q] at q'; cases q'
      obtain ⟨v, hv⟩ := heo
      exact ⟨v, by rw [hbe]; exact hv⟩
    · refine (ok b u q).stay (fun c v hc r => k c v ?_ r) (fun c r => by rw [upd_ne (nown c b r)]; exact r) fun c xs r => by rw [upd_ne (ntup c xs r)]; exact r
      rcases hc with rfl | hc
      · exact hbe
      · rintro rfl
        rcases he with z | z
        · exact nown c b hc z
        · rw [hc] at z; cases z; exact hb rfl
end

/-! ### kept unless tracked; of the frames at fs (the callers') the slots may change (an exception that passes writes there); of the records at ex (iterators) nothing is said -/
structure Un (fs ex : List Addr) (H H' : Hp) (h h' : Heap) : Prop where
  keep : ∀ b o, h.get? b = some o → H b = none → b ∉ fs → b ∉ ex → h'.get? b = some o
  slot : ∀ b o, h.get? b = some o → H b = none → b ∈ fs → b ∉ ex → ∃ sl, h'.get? b = some { o with slots := sl }
  free : ∀ b o, h.get? b = some o → H b = none → b ∉ ex → H' b = none
  there : ∀ b o, h.get? b = some o → b ∉ ex → ∃ o', h'.get? b = some o'
  tups : ∀ b xs, H b = some (.tup xs) → H' b = some (.tup xs)
  frzs : ∀ b o u, H b = some (.frz o u) → H' b = some (.frz o u)
  tbls : ∀ b ps, H b = some (.tbl ps) → ∃ more, H' b = some (.tbl (ps ++ more))
section
variable {fs fs' ex ex' : List Addr} {H H1 H2 : Hp} {h h1 h2 h' : Heap} {a x e : Addr} {o : HO}
theorem Un.any (u : Un fs ex H H1 h h1) {b : Addr} {ob : Obj} (q : h.get? b = some ob) (n : H b = none) (hx : b ∉ ex) : ∃ sl, h1.get? b = some { ob with slots := sl } := by
  by_cases hb : b ∈ fs
  · exact u.slot b ob q n hb hx
  · exact ⟨ob.slots, u.keep b ob q n hb hx⟩
theorem Un.kept (k : ∀ b u, h.get? b = some u → h'.get? b = some u) : Un fs ex H H h h' :=
  ⟨fun b ob q _ _ _ => k b ob q, fun b ob q _ _ _ => ⟨ob.slots, k b ob q⟩, fun _ _ _ n _ => n, fun b ob q _ => ⟨ob, k b ob q⟩, fun _ _ q => q, fun _ _ _ q => q, fun _ ps q => ⟨#[], by rw [q]; simp⟩⟩
theorem Un.refl : Un fs ex H H h h := Un.kept fun _ _ q => q
theorem Un.laid (k : ∀ b u, h.get? b = some u → h'.get? b = some u) (hp : h.objs.size ≤ a) (hn : H a = none) : Un fs ex H (upd H a o) h h' where
  keep := fun b u q _ _ _ => k b u q
  slot := fun b u q _ _ _ => ⟨u.slots, k b u q⟩
  free := fun b u q n _ => by rw [upd_ne (Nat.ne_of_lt (Nat.lt_of_lt_of_le (Heap.lt_size q) hp))]; exact n
  there := fun b u q _ => ⟨u, k b u q⟩
  tups := fun b xs q => by rw [upd_ne (ne_of_none q hn)]; exact q
  frzs := fun b u xs q => by rw [upd_ne (ne_of_none q hn)]; exact q
  tbls := fun b ps q => ⟨#[], by rw [upd_ne (ne_of_none q hn), q]; simp⟩
theorem Un.write (mu : Mut (H x)) (he : e = x ∨ H e = some (.own x)) (k : ∀ b u, b ≠ e → h.get? b = some u → h'.get? b = some u) (heo : ∃ u, h'.get? e = some u) : Un fs ex H (upd H x o) h h' := by
  have hx : ∀ b, H b = none → b ≠ x := fun b n z => by subst z; rw [n] at mu; exact mu
  have hb : ∀ b, H b = none → b ≠ e := fun b n z => by
    subst z
    rcases he with r | r
    · exact hx b n r
    · rw [n] at r; cases r
  have hm : ∀ b u, H b = some u → ¬ Mut (some u) → b ≠ x := fun b u q nm z => by subst z; rw [q] at mu; exact nm mu
  refine ⟨fun b u q n _ _ => k b u (hb b n) q, fun b u q n _ _ => ⟨u.slots, k b u (hb b n) q⟩, fun b u q n _ => by rw [upd_ne (hx b n)]; exact n, fun b u q _ => ?_,
    fun b xs q => by rw [upd_ne (hm b _ q fun z => z)]; exact q, fun b u xs q => by rw [upd_ne (hm b _ q fun z => z)]; exact q, fun b ps q => ⟨#[], by rw [upd_ne (hm b _ q fun z => z), q]; simp⟩⟩
  by_cases hbe : b = e
  · subst hbe; exact heo
  · exact ⟨u, k b u hbe q⟩
end

/-! ### the heap without what is tracked -/
noncomputable def trk (h : Heap) (H : Hp) : List Addr := (List.range h.objs.size).filter fun a => (H a).isSome
noncomputable def hidT (h : Heap) (H : Hp) : Heap := PySem.W.hideAll h (trk h H)
theorem hidT_size (h : Heap) (H : Hp) : (hidT h H).objs.size = h.objs.size := PySem.W.hideAll_size _ _
theorem hidT_get {h : Heap} {H : Hp} {b : Addr} {o : Obj} (e : h.get? b = some o) (n : H b = none) : (hidT h H).get? b = some o :=
  PySem.W.hideAll_get _ e fun hm => by
    have q : (H b).isSome = true := (List.mem_filter.mp hm).2
    rw [n] at q; simp at q
theorem of_hidT {h : Heap} {H : Hp} {b : Addr} {o : Obj} (e : (hidT h H).get? b = some o) : h.get? b = some o ∧ H b = none := by
  have e' : h.get? b = some o := PySem.W.of_hideAll (trk h H) e
  refine ⟨e', ?_⟩
  cases q : H b with
  | none => rfl
  | some x =>
    have hm : b ∈ trk h H := List.mem_filter.mpr ⟨List.mem_range.mpr (Heap.lt_size e'), by simp [q]⟩
    have z : (hidT h H).get? b = none := PySem.W.hideAll_none (trk h H) hm
    rw [z] at e; cases e

/-! ### OpenK's ledger, filled with every new object but one -/
end L2

namespace L2
open PySem PySem.Spec PyProof.Rows

/-- the module's facts, over the base: the heap at the law's entry without what is tracked there -/
structure Mod (K : PySem.W.Frag) (mg : Str → Option Value) (base : Heap) : Prop where
  kin : K.In base
  glob : base.Ns mainGlobals mg
  blt : ∃ mb, base.Ns builtinsNs mb ∧ ∀ x : Str, x ≠ "__name__" → mb x = bootBuiltins x
  nolimit : base.NoLimit

/-- the context: a def's body (or a comprehension's block) running. base: fixed through the whole law; s₀, H₀: the entry; outer: the frames whose slots others may change (a def's callers); stack: all frames that run;
   ex: iterators that were made ahead of the entry and are walked here (a comprehension's); fn: the names whose cells were made at the entry (a def: all; a comprehension's block: its own); calm: not within an except suite; pn: pins that every state bears; xe: what is wanted of an exception that leaves the code -/
structure Cx where
  prog : Program
  w : World
  K : PySem.W.Frag
  mg : Str → Option Value
  base : Heap
  A : Around
  N : List Str
  s₀ : Shared
  H₀ : Hp
  env : Env
  outer : List Env
  stack : List Env
  ex : List Addr
  fn : Str → Bool
  calm : Bool
  pn : List (Addr × Obj)
  xe : Value → Shared → Prop
/-- the callers' frames -/
noncomputable def frs (l : List Env) : List Addr := l.filterMap (·.frame)
noncomputable abbrev Cx.fs (X : Cx) : List Addr := frs X.outer

noncomputable def Vis (sc : Scope) (x : Str) : Prop := sc.names.lookup x = some .local ∨ sc.names.lookup x = some .cell ∨ sc.names.lookup x = some .free
noncomputable def Loc (sc : Scope) (x : Str) : Prop := sc.names.lookup x = some .local ∨ sc.names.lookup x = some .cell
noncomputable def Look (env : Env) (h : Heap) (m : Str → Option Value) (x : Str) (u : Value) : Prop :=
  (env.kindOf x = some .local ∧ m x = some u) ∨ ((env.kindOf x = some .cell ∨ env.kindOf x = some .free) ∧ ∃ c, env.cells.lookup x = some c ∧ h.IsCell c (some u))

structure Cx.Ok (X : Cx) : Prop where
  mod : Mod X.K X.mg X.base
  kind : X.env.scope.kind = .function
  glob : X.env.globals = mainGlobals
  blt : X.env.builtins = builtinsNs
  above : X.s₀.heap.objs.size ≤ X.env.locals
  inj : ∀ x y c, X.env.cells.lookup x = some c → X.env.cells.lookup y = some c → x = y
  has : ∀ x, (X.env.kindOf x = some .cell ∨ X.env.kindOf x = some .free) → ∃ c, X.env.cells.lookup x = some c
  cab : ∀ x c, X.fn x = true → X.env.cells.lookup x = some c → X.s₀.heap.objs.size ≤ c
  hd : X.calm = true → X.A.handled = none
  frames : X.A.frames = some X.stack
  stk : X.stack = X.outer ∨ (X.stack = X.env :: X.outer ∧ X.env.frame = some X.env.locals)
  exf : ∀ b ∈ X.ex, b ≠ X.env.locals ∧ ∀ x c, X.env.cells.lookup x = some c → c ≠ b
  bs : ∀ b o, X.base.get? b = some o → X.s₀.heap.get? b = some o ∧ X.H₀ b = none
  bsz : X.base.objs.size ≤ X.s₀.heap.objs.size
  noex : ∀ b o, X.base.get? b = some o → b ∉ X.ex
  exfs : ∀ b ∈ X.ex, b ∉ X.fs
  funs : X.s₀.heap.FunFrames X.base X.outer
  frf : ∀ b ∈ X.fs, X.H₀ b = none

structure Inv (X : Cx) (pins : List (Addr × Obj)) (σ : List (Option V)) (H : Hp) (s : Shared) : Prop where
  ok : X.Ok
  os : s.os = X.s₀.os
  bare : AllBare s.gens
  base : Un X.fs X.ex X.H₀ H X.s₀.heap s.heap
  loc : ∃ m, s.heap.Ns X.env.locals m ∧ ∀ (i : Nat) (x : Str) (v : V), X.N[i]? = some x → σ[i]? = some (some v) → Vis X.env.scope x → ∃ u, RelV v u ∧ Look X.env s.heap m x u
  cell : ∀ x c, X.env.cells.lookup x = some c → ∃ v, s.heap.IsCell c v
  free : H X.env.locals = none
  freeC : ∀ x c, X.env.cells.lookup x = some c → H c = none
  pin : ∀ p ∈ X.pn ++ pins, s.heap.get? p.1 = some p.2 ∧ H p.1 = none ∧ p.1 ≠ X.env.locals ∧ p.1 ∉ X.fs ∧ ∀ v, p.2.data ≠ .cell v
  hok : HOk X.prog X.w H s.heap
  len : σ.length = X.N.length

section
variable {X : Cx} {pins : List (Addr × Obj)} {σ : List (Option V)} {H H' : Hp} {s : Shared} {h' : Heap}

theorem Cx.Ok.nofr (ok : X.Ok) {b : Addr} {o : Obj} (e : X.base.get? b = some o) : b ∉ X.fs := fun hb => by
  have := (ok.funs.mem hb).1
  rw [e] at this; cases this
theorem Inv.bs (I : Inv X pins σ H s) : ∀ b o, X.base.get? b = some o → s.heap.get? b = some o ∧ H b = none := fun b o e =>
  ⟨I.base.keep b o (I.ok.bs b o e).1 (I.ok.bs b o e).2 (I.ok.nofr e) (I.ok.noex b o e), I.base.free b o (I.ok.bs b o e).1 (I.ok.bs b o e).2 (I.ok.noex b o e)⟩
theorem Inv.bk (I : Inv X pins σ H s) : ∀ b o, X.base.get? b = some o → s.heap.get? b = some o := fun b o e => (I.bs b o e).1
theorem Inv.mod (I : Inv X pins σ H s) : Mod X.K X.mg X.base := I.ok.mod
theorem Inv.kIn (I : Inv X pins σ H s) : X.K.In s.heap := I.ok.mod.kin.keeps I.bk
theorem Inv.lt (I : Inv X pins σ H s) : X.env.locals < s.heap.objs.size := let ⟨_, hn, _⟩ := I.loc; hn.lt
theorem Inv.sz (I : Inv X pins σ H s) : X.s₀.heap.objs.size ≤ s.heap.objs.size := Nat.le_trans I.ok.above (Nat.le_of_lt I.lt)
theorem Inv.nofs (I : Inv X pins σ H s) {a : Addr} (h : s.heap.objs.size ≤ a) : a ∉ X.fs := fun hb => by
  obtain ⟨_, o, ho, _⟩ := I.ok.funs.mem hb
  exact absurd (Nat.lt_of_lt_of_le (Heap.lt_size ho) (Nat.le_trans I.sz h)) (Nat.lt_irrefl _)
theorem Inv.cne (I : Inv X pins σ H s) : ∀ x c, X.env.cells.lookup x = some c → c ≠ X.env.locals := fun x c e z => by
  obtain ⟨v, o, ho, hd⟩ := I.cell x c e
  obtain ⟨m, ⟨o', es, ep, ho', hd', _⟩, _⟩ := I.loc
  rw [z, ho'] at ho; cases ho; rw [hd'] at hd; cases hd
theorem Inv.funs (I : Inv X pins σ H s) : s.heap.FunFrames X.base X.outer := by
  have all : ∀ (l : List Env), (∀ b ∈ frs l, b ∈ X.fs) → X.s₀.heap.FunFrames X.base l → s.heap.FunFrames X.base l := by
    intro l
    induction l with
    | nil => intro _ _; trivial
    | cons env r ih =>
      intro hs hl
      obtain ⟨hk, ⟨L, o, hf, hn, ho, hd⟩, hr⟩ := hl
      have hL : L ∈ X.fs := hs L (by unfold frs; rw [List.filterMap_cons, hf]; exact List.mem_cons_self)
      obtain ⟨sl, e⟩ := I.base.slot L o ho (I.ok.frf L hL) hL fun z => I.ok.exfs L z hL
      exact ⟨hk, ⟨L, _, hf, hn, e, hd⟩, ih (fun b hb => hs b (by unfold frs; rw [List.filterMap_cons, hf]; exact List.mem_cons_of_mem _ hb)) hr⟩
  exact all X.outer (fun _ hb => hb) I.ok.funs

/-- the frames that run, for a call -/
theorem Inv.stack (I : Inv X pins σ H s) : s.heap.FunFrames X.base X.stack := by
  rcases I.ok.stk with e | ⟨e, hf⟩
  · rw [e]; exact I.funs
  · rw [e]
    obtain ⟨m, hn, _⟩ := I.loc
    refine .cons (by rw [I.ok.kind]; decide) hf hn ?_ I.funs
    exact Heap.get?_none_of_le (Nat.le_trans I.ok.bsz I.ok.above)
theorem Inv.stkSub (I : Inv X pins σ H s) : ∀ b ∈ frs X.stack, b ∈ X.env.locals :: X.fs := fun b hb => by
  rcases I.ok.stk with e | ⟨e, hf⟩
  · rw [e] at hb; exact List.mem_cons_of_mem _ hb
  · rw [e] at hb
    unfold frs at hb
    rw [List.filterMap_cons, hf] at hb
    exact hb
theorem Inv.stkFree (I : Inv X pins σ H s) : ∀ b ∈ frs X.stack, H b = none := fun b hb => by
  rcases List.mem_cons.mp (I.stkSub b hb) with e | hb
  · rw [e]; exact I.free
  · obtain ⟨_, o, ho, _⟩ := I.ok.funs.mem hb
    exact I.base.free b o ho (I.ok.frf b hb) fun z => I.ok.exfs b z hb

/-- THE STEP: the untracked objects but the frame and the records at ch are kept (the callers' frames up to slots), the frame's map is kept, the new abstract heap is held -/
theorem Inv.step {g' : Array GenState} {t' : Nat} {d' : Drawn} {ch : List Addr} (I : Inv X pins σ H s)
    (hch : ∀ b ∈ ch, (b ∈ X.ex ∨ X.s₀.heap.objs.size ≤ b) ∧ b ≠ X.env.locals ∧ (∀ x c, X.env.cells.lookup x = some c → c ≠ b) ∧ ∀ p ∈ X.pn ++ pins, p.1 ≠ b)
    (keep : ∀ b o, b ≠ X.env.locals → b ∉ X.fs → b ∉ ch → s.heap.get? b = some o → H b = none → h'.get? b = some o)
    (slot : ∀ b o, b ≠ X.env.locals → b ∈ X.fs → b ∉ ch → s.heap.get? b = some o → H b = none → ∃ sl, h'.get? b = some { o with slots := sl }) (free : ∀ b o, b ∉ ch → s.heap.get? b = some o → H b = none → H' b = none)
    (there : ∀ b o, b ∉ ch → s.heap.get? b = some o → ∃ o', h'.get? b = some o')
    (tups : ∀ b xs, H b = some (.tup xs) → H' b = some (.tup xs)) (frzs : ∀ b o u, H b = some (.frz o u) → H' b = some (.frz o u)) (tbls : ∀ b ps, H b = some (.tbl ps) → ∃ more, H' b = some (.tbl (ps ++ more)))
    (ns : ∀ m, s.heap.Ns X.env.locals m → h'.Ns X.env.locals m) (hok : HOk X.prog X.w H' h') (hg : AllBare g') :
    Inv X pins σ H' { s with heap := h', gens := g', drawn := d', toks := t' } := by
  have neL : ∀ b o, X.s₀.heap.get? b = some o → b ≠ X.env.locals := fun b o e => Nat.ne_of_lt (Nat.lt_of_lt_of_le (Heap.lt_size e) I.ok.above)
  have neC : ∀ b o, X.s₀.heap.get? b = some o → b ∉ X.ex → b ∉ ch := fun b o e hx hb => by
    rcases (hch b hb).1 with z | z
    · exact hx z
    · exact absurd (Nat.lt_of_lt_of_le (Heap.lt_size e) z) (Nat.lt_irrefl _)
  have cellK : ∀ x c, X.env.cells.lookup x = some c → ∀ v, s.heap.IsCell c v → h'.IsCell c v := fun x c e v ⟨o, ho, hd⟩ => by
    have nch : c ∉ ch := fun z => (hch c z).2.2.1 x c e rfl
    by_cases hc : c ∈ X.fs
    · obtain ⟨sl, q⟩ := slot c o (I.cne x c e) hc nch ho (I.freeC x c e)
      exact ⟨_, q, hd⟩
    · exact ⟨o, keep c o (I.cne x c e) hc nch ho (I.freeC x c e), hd⟩
  refine ⟨I.ok, I.os, hg, ⟨fun b o e n hb hx => ?_, fun b o e n hb hx => ?_, fun b o e n hx => ?_, fun b o e hx => ?_, fun b xs e => tups b xs (I.base.tups b xs e), fun b o xs e => frzs b o xs (I.base.frzs b o xs e), fun b ps e => ?_⟩, ?_, fun x c e => ?_, ?_, fun x c e => ?_, fun p hp => ?_, hok, I.len⟩
  · exact keep b o (neL b o e) hb (neC b o e hx) (I.base.keep b o e n hb hx) (I.base.free b o e n hx)
  · obtain ⟨sl, e1⟩ := I.base.slot b o e n hb hx
    obtain ⟨sl', e2⟩ := slot b _ (neL b o e) hb (neC b o e hx) e1 (I.base.free b o e n hx)
    exact ⟨sl', e2⟩
  · obtain ⟨o', e1⟩ := I.base.there b o e hx
    exact free b o' (neC b o e hx) e1 (I.base.free b o e n hx)
  · obtain ⟨o', e1⟩ := I.base.there b o e hx
    exact there b o' (neC b o e hx) e1
  · obtain ⟨m1, e1⟩ := I.base.tbls b ps e
    obtain ⟨m2, e2⟩ := tbls b _ e1
    exact ⟨m1 ++ m2, by rw [e2, Array.append_assoc]⟩
  · obtain ⟨m, hn, hl⟩ := I.loc
    refine ⟨m, ns m hn, fun i x v e1 e2 e3 => ?_⟩
    obtain ⟨u, r, l⟩ := hl i x v e1 e2 e3
    refine ⟨u, r, ?_⟩
    rcases l with l | ⟨k, c, e, z⟩
    · exact .inl l
    · exact .inr ⟨k, c, e, cellK x c e _ z⟩
  · obtain ⟨v, z⟩ := I.cell x c e
    exact ⟨v, cellK x c e v z⟩
  · obtain ⟨m, ⟨o, _, _, ho, _⟩, _⟩ := I.loc
    exact free _ o (fun z => (hch _ z).2.1 rfl) ho I.free
  · obtain ⟨v, o, ho, hd⟩ := I.cell x c e
    exact free c o (fun z => (hch c z).2.2.1 x c e rfl) ho (I.freeC x c e)
  · obtain ⟨e, n, ne, nf, d⟩ := I.pin p hp
    have nch : p.1 ∉ ch := fun z => (hch p.1 z).2.2.2 p hp rfl
    exact ⟨keep p.1 p.2 ne nf nch e n, free p.1 p.2 nch e n, ne, nf, d⟩
/-- .. where the frame's own object is kept too -/
theorem Inv.un {t' : Nat} (I : Inv X pins σ H s) (u : Un X.fs [] H H' s.heap h') (hok : HOk X.prog X.w H' h') : Inv X pins σ H' { s with heap := h', toks := t' } := by
  obtain ⟨m, ⟨o, es, ep, ho, r⟩, _⟩ := id I.loc
  obtain ⟨sl, hL⟩ := u.any ho I.free (by simp)
  exact I.step (g' := s.gens) (d' := s.drawn) (ch := []) (fun _ z => nomatch z) (fun b o _ hb _ e n => u.keep b o e n hb (by simp)) (fun b o _ hb _ e n => u.slot b o e n hb (by simp)) (fun b o _ e n => u.free b o e n (by simp)) (fun b o _ e => u.there b o e (by simp)) u.tups u.frzs u.tbls (fun m' hm => by
    obtain ⟨o', es', ep', ho', r'⟩ := hm
    rw [ho] at ho'; cases ho'
    exact ⟨_, es', ep', hL, r'⟩) hok I.bare
/-- behind a call (or a comprehension's block): the slots of this frame may have changed too, the records at ch may have turned -/
theorem Inv.call {g' : Array GenState} {t' : Nat} {d' : Drawn} {ch : List Addr} (I : Inv X pins σ H s) (u : Un (frs X.stack) ch H H' s.heap h') (hok : HOk X.prog X.w H' h') (hg : AllBare g')
    (hch : ∀ b ∈ ch, (b ∈ X.ex ∨ X.s₀.heap.objs.size ≤ b) ∧ b ≠ X.env.locals ∧ (∀ x c, X.env.cells.lookup x = some c → c ≠ b) ∧ ∀ p ∈ X.pn ++ pins, p.1 ≠ b) :
    Inv X pins σ H' { s with heap := h', gens := g', drawn := d', toks := t' } := by
  obtain ⟨m, ⟨o, es, ep, ho, r⟩, _⟩ := id I.loc
  obtain ⟨sl, hL⟩ := u.any ho I.free fun z => (hch _ z).2.1 rfl
  exact I.step (ch := ch) hch (fun b o hL hb hc e n => u.keep b o e n (fun z => (List.mem_cons.mp (I.stkSub b z)).elim hL hb) hc) (fun b o _ _ hc e n => u.any e n hc) (fun b o hc e n => u.free b o e n hc) (fun b o hc e => u.there b o e hc) u.tups u.frzs u.tbls (fun m' hm => by
    obtain ⟨o', es', ep', ho', r'⟩ := hm
    rw [ho] at ho'; cases ho'
    exact ⟨_, es', ep', hL, r'⟩) hok hg
/-- an untracked record of ours (an iterator) has turned -/
theorem Inv.turned {t' : Nat} {it : Addr} (I : Inv X pins σ H s) (k : ∀ b o, b ≠ it → s.heap.get? b = some o → h'.get? b = some o) (hn : H it = none) (hL : it ≠ X.env.locals)
    (h1 : it ∈ X.ex ∨ X.s₀.heap.objs.size ≤ it) (h2 : ∀ x c, X.env.cells.lookup x = some c → c ≠ it) (h3 : ∀ p ∈ X.pn ++ pins, p.1 ≠ it) : Inv X pins σ H { s with heap := h', toks := t' } := by
  have nit : ∀ b u, H b = some u → b ≠ it := fun b u e z => by rw [z, hn] at e; cases e
  refine I.step (g' := s.gens) (d' := s.drawn) (ch := [it]) (fun b hb => ?_) (fun b o _ _ hc e _ => k b o (fun z => hc (by simp [z])) e) (fun b o _ _ hc e _ => ⟨o.slots, k b o (fun z => hc (by simp [z])) e⟩) (fun _ _ _ _ n => n)
    (fun b o hc e => ⟨o, k b o (fun z => hc (by simp [z])) e⟩) (fun _ _ e => e) (fun _ _ _ e => e) (fun b ps e => ⟨#[], by rw [e]; simp⟩) (fun m hm => ?_) (fun b u e => ?_) I.bare
  · have e : b = it := by simpa using hb
    subst e
    exact ⟨h1, hL, h2, h3⟩
  · obtain ⟨o, es, ep, ho, r⟩ := hm
    exact ⟨o, es, ep, k _ o (Ne.symm hL) ho, r⟩
  · refine (I.hok b u e).stay (fun c v hc q => k c v ?_ q) (fun _ q => q) fun _ _ q => q
    rcases hc with z | z
    · rw [z]; exact nit b u e
    · exact nit c _ z
theorem Inv.tok (I : Inv X pins σ H s) (t : Nat) : Inv X pins σ H { s with toks := t } := I.un (h' := s.heap) (t' := t) Un.refl I.hok
/-- all objects kept -/
theorem Inv.kept {t' : Nat} (I : Inv X pins σ H s) (k : ∀ b u, s.heap.get? b = some u → h'.get? b = some u) : Inv X pins σ H { s with heap := h', toks := t' } := I.un (Un.kept k) (I.hok.kept k)
/-- a new object laid and tracked -/
theorem Inv.laid {a : Addr} {o : HO} {t' : Nat} (I : Inv X pins σ H s) (k : ∀ b u, s.heap.get? b = some u → h'.get? b = some u) (hp : s.heap.objs.size ≤ a) (new : ObjOk X.prog X.w (upd H a o) h' a o) :
    Inv X pins σ (upd H a o) { s with heap := h', toks := t' } := I.un (Un.laid k hp (I.hok.fresh hp)) (I.hok.laid k hp new)
/-- an object written -/
theorem Inv.write {x e : Addr} {o : HO} {t' : Nat} (I : Inv X pins σ H s) (mu : Mut (H x)) (he : e = x ∨ H e = some (.own x)) (k : ∀ b u, b ≠ e → s.heap.get? b = some u → h'.get? b = some u) (heo : ∃ u, h'.get? e = some u)
    (new : ObjOk X.prog X.w (upd H x o) h' x o) : Inv X pins σ (upd H x o) { s with heap := h', toks := t' } := I.un (Un.write mu he k heo) (I.hok.write mu he k heo new)
/-- forgetting slots, pins -/
theorem Inv.weak {σ' : List (Option V)} (I : Inv X pins σ H s) (hl : σ'.length = σ.length) (w : ∀ (i : Nat) v, σ'[i]? = some (some v) → σ[i]? = some (some v)) : Inv X pins σ' H s :=
  ⟨I.ok, I.os, I.bare, I.base, let ⟨m, hn, hl'⟩ := I.loc; ⟨m, hn, fun i x v e1 e2 e3 => hl' i x v e1 (w i v e2) e3⟩, I.cell, I.free, I.freeC, I.pin, I.hok, hl.trans I.len⟩
theorem Inv.pins_of {pins' : List (Addr × Obj)} (I : Inv X pins σ H s) (h : ∀ p ∈ pins', s.heap.get? p.1 = some p.2 ∧ H p.1 = none ∧ p.1 ≠ X.env.locals ∧ p.1 ∉ X.fs ∧ ∀ v, p.2.data ≠ .cell v) : Inv X pins' σ H s :=
  ⟨I.ok, I.os, I.bare, I.base, I.loc, I.cell, I.free, I.freeC, fun p hp => (List.mem_append.mp hp).elim (fun z => I.pin p (List.mem_append_left _ z)) (h p), I.hok, I.len⟩

theorem nodup_ix {N : List Str} (hN : N.Nodup) {i j : Nat} {x : Str} (a : N[i]? = some x) (b : N[j]? = some x) : i = j := by
  obtain ⟨h1, e1⟩ := List.getElem?_eq_some_iff.mp a
  obtain ⟨h2, e2⟩ := List.getElem?_eq_some_iff.mp b
  exact (List.getElem_inj hN).mp (e1.trans e2.symm)

/-- a name is stored; what changed -/
theorem store_ok2 {M : Model} {A : Around} {E : Value → Shared → Prop} {i : Nat} {x : Str} {v : V} {u : Value} {Q : Unit → Shared → Prop} (I : Inv X pins σ H s) (hN : X.N.Nodup) (hi : X.N[i]? = some x) (hx : Loc X.env.scope x) (r : RelV v u)
    (h : ∀ s', Inv X pins (σ.set i (some v)) H s' → (∃ a, Heap.SameBut a s.heap s'.heap ∧ (a = X.env.locals ∨ X.env.cells.lookup x = some a)) → Q () s') (hf : X.fn x = true ∨ X.env.scope.names.lookup x = some .local := by first | exact .inl rfl | exact .inr rfl | assumption) : wpAny M A (storeName X.env x u) Q E s := by
  obtain ⟨m, hn, hl⟩ := id I.loc
  have hcls : (X.env.scope.kind == .class || (X.env.scope.kind == .module && X.env.locals != X.env.globals)) = false := by rw [I.ok.kind]; rfl
  have hiσ : i < σ.length := by rw [I.len]; exact (List.getElem?_eq_some_iff.mp hi).1
  have cne := I.cne
  have tracked : ∀ {a : Addr} {h' : Heap}, (∃ o, s.heap.get? a = some o ∧ H a = none) → Heap.SameBut a s.heap h' → HOk X.prog X.w H h' := fun {a h'} ha hs b ob e => by
    obtain ⟨_, _, hfree⟩ := ha
    refine (I.hok b ob e).stay (fun c w' hc q => (hs.2 c ?_).trans q) (fun _ q => q) fun _ _ q => q
    rintro rfl
    rcases hc with rfl | hc
    · rw [hfree] at e; cases e
    · rw [hfree] at hc; cases hc
  rcases hx with hk | hk
  · refine wpAny_storeName_local hk hn (fun h' hn' hs => ?_) hcls
    obtain ⟨oL, _, _, hoL, _⟩ := id hn
    refine h _ ⟨I.ok, I.os, I.bare, ⟨fun b o e n hb hx => ?_, fun b o e n hb hx => ?_, I.base.free, fun b o e hx => ?_, I.base.tups, I.base.frzs, I.base.tbls⟩, ⟨_, hn', fun j y v' e1 e2 e3 => ?_⟩, fun y c e => ?_, I.free, I.freeC, fun p hp => ?_, tracked ⟨oL, hoL, I.free⟩ hs, by simpa using I.len⟩ ⟨_, hs, .inl rfl⟩
    · exact (hs.2 b (Nat.ne_of_lt (Nat.lt_of_lt_of_le (Heap.lt_size e) I.ok.above))).trans (I.base.keep b o e n hb hx)
    · obtain ⟨sl, e1⟩ := I.base.slot b o e n hb hx
      exact ⟨sl, (hs.2 b (Nat.ne_of_lt (Nat.lt_of_lt_of_le (Heap.lt_size e) I.ok.above))).trans e1⟩
    · obtain ⟨o', e1⟩ := I.base.there b o e hx
      exact ⟨o', (hs.2 b (Nat.ne_of_lt (Nat.lt_of_lt_of_le (Heap.lt_size e) I.ok.above))).trans e1⟩
    · by_cases hj : j = i
      · subst hj
        rw [hi] at e1; cases e1
        rw [List.getElem?_set_self hiσ] at e2
        cases e2
        exact ⟨u, r, .inl ⟨hk, by simp⟩⟩
      · rw [List.getElem?_set_ne (Ne.symm hj)] at e2
        obtain ⟨u', r', q⟩ := hl j y v' e1 e2 e3
        refine ⟨u', r', ?_⟩
        rcases q with ⟨k, e⟩ | ⟨k, c, e, z⟩
        · refine .inl ⟨k, ?_⟩
          have : y ≠ x := fun e => hj (nodup_ix hN e1 (e ▸ hi))
          simp [this, e]
        · exact .inr ⟨k, c, e, z.sameBut hs (cne y c e)⟩
    · obtain ⟨w', z⟩ := I.cell y c e
      exact ⟨w', z.sameBut hs (cne y c e)⟩
    · obtain ⟨e, n, ne, nf, d⟩ := I.pin p hp
      exact ⟨(hs.2 p.1 ne).trans e, n, ne, nf, d⟩
  · have hfn : X.fn x = true := by
      rcases hf with z | z
      · exact z
      · rw [z] at hk; cases hk
    obtain ⟨c, hc⟩ := I.ok.has x (.inl hk)
    obtain ⟨w', z⟩ := I.cell x c hc
    refine wpAny_storeName_cell I.ok.kind hk hc z (fun h' hc' hs => ?_)
    obtain ⟨oc, hoc, hocd⟩ := id z
    refine h { s with heap := h' } ⟨I.ok, I.os, I.bare, ⟨fun b o e n hb hx => ?_, fun b o e n hb hx => ?_, I.base.free, fun b o e hx => ?_, I.base.tups, I.base.frzs, I.base.tbls⟩, ⟨m, hn.sameBut hs (Ne.symm (cne x c hc)), fun j y v' e1 e2 e3 => ?_⟩, fun y c' e => ?_, I.free, I.freeC, fun p hp => ?_, tracked ⟨oc, hoc, I.freeC x c hc⟩ hs, by simpa using I.len⟩ ⟨c, hs, .inr hc⟩
    · exact (hs.2 b (Nat.ne_of_lt (Nat.lt_of_lt_of_le (Heap.lt_size e) (I.ok.cab x c hfn hc)))).trans (I.base.keep b o e n hb hx)
    · obtain ⟨sl, e1⟩ := I.base.slot b o e n hb hx
      exact ⟨sl, (hs.2 b (Nat.ne_of_lt (Nat.lt_of_lt_of_le (Heap.lt_size e) (I.ok.cab x c hfn hc)))).trans e1⟩
    · obtain ⟨o', e1⟩ := I.base.there b o e hx
      exact ⟨o', (hs.2 b (Nat.ne_of_lt (Nat.lt_of_lt_of_le (Heap.lt_size e) (I.ok.cab x c hfn hc)))).trans e1⟩
    · by_cases hj : j = i
      · subst hj
        rw [hi] at e1; cases e1
        rw [List.getElem?_set_self hiσ] at e2
        cases e2
        exact ⟨u, r, .inr ⟨.inl hk, c, hc, hc'⟩⟩
      · rw [List.getElem?_set_ne (Ne.symm hj)] at e2
        obtain ⟨u', r', q⟩ := hl j y v' e1 e2 e3
        refine ⟨u', r', ?_⟩
        rcases q with q | ⟨k, c', e, z'⟩
        · exact .inl q
        · refine .inr ⟨k, c', e, z'.sameBut hs ?_⟩
          rintro rfl
          exact hj (nodup_ix hN e1 (I.ok.inj _ _ _ e hc ▸ hi))
    · by_cases hcc : c' = c
      · subst hcc; exact ⟨_, hc'⟩
      · obtain ⟨w2, z2⟩ := I.cell y c' e
        exact ⟨w2, z2.sameBut hs hcc⟩
    · obtain ⟨e, n, ne, nf, d⟩ := I.pin p hp
      refine ⟨(hs.2 p.1 ?_).trans e, n, ne, nf, d⟩
      intro q
      rw [q, hoc] at e
      have q' : oc = p.2 := Option.some.inj e
      exact d w' (by rw [← q']; exact hocd)
theorem store_ok {M : Model} {A : Around} {E : Value → Shared → Prop} {i : Nat} {x : Str} {v : V} {u : Value} {Q : Unit → Shared → Prop} (I : Inv X pins σ H s) (hN : X.N.Nodup) (hi : X.N[i]? = some x) (hx : Loc X.env.scope x) (r : RelV v u)
    (h : ∀ s', Inv X pins (σ.set i (some v)) H s' → Q () s') (hf : X.fn x = true ∨ X.env.scope.names.lookup x = some .local := by first | exact .inl rfl | exact .inr rfl | assumption) : wpAny M A (storeName X.env x u) Q E s :=
  store_ok2 I hN hi hx r (fun s' I' _ => h s' I') hf
/-- behind a call or a block, the state as it is -/
theorem Inv.call' {s' : Shared} {ch : List Addr} (I : Inv X pins σ H s) (ho : s'.os = s.os) (u : Un (frs X.stack) ch H H' s.heap s'.heap) (hok : HOk X.prog X.w H' s'.heap) (hg : AllBare s'.gens)
    (hch : ∀ b ∈ ch, (b ∈ X.ex ∨ X.s₀.heap.objs.size ≤ b) ∧ b ≠ X.env.locals ∧ (∀ x c, X.env.cells.lookup x = some c → c ≠ b) ∧ ∀ p ∈ X.pn ++ pins, p.1 ≠ b) : Inv X pins σ H' s' := by
  obtain ⟨h', g', d', t', o'⟩ := s'
  have e : o' = s.os := ho
  subst e
  exact I.call (g' := g') (t' := t') (d' := d') u hok hg hch
end

/-! ### the judgements -/
/-- an exception: its class, its own dict's address (where it has one), the abstract heap behind it -/
noncomputable abbrev XK := Value → Option Addr → Hp → Prop
noncomputable abbrev St := List (Option V)
noncomputable abbrev VK := V → Hp → Prop
/-- an expression's reading; a test's; an argument list's -/
noncomputable abbrev TE := St → Hp → VK → Prop
noncomputable abbrev TT := St → Hp → (Bool → Hp → Prop) → Prop
noncomputable abbrev TA := St → Hp → (List V → Hp → Prop) → Prop
/-- what is wanted behind a statement -/
structure Ends where
  nx : St → Hp → Prop
  rt : VK
  bk : St → Hp → Prop := fun _ _ => False
  ct : St → Hp → Prop := fun _ _ => False
noncomputable abbrev TS := Ends → St → Hp → Prop

noncomputable def EP (X : Cx) (pins : List (Addr × Obj)) (σ : St) (Q : VK) (u : Value) (s' : Shared) : Prop := ∃ v H', Inv X pins σ H' s' ∧ RelV v u ∧ Q v H'
noncomputable def TP (X : Cx) (pins : List (Addr × Obj)) (σ : St) (Q : Bool → Hp → Prop) (b : Bool) (s' : Shared) : Prop := ∃ H', Inv X pins σ H' s' ∧ Q b H'
noncomputable def AP (X : Cx) (pins : List (Addr × Obj)) (σ : St) (Q : List V → Hp → Prop) (us : List Value) (s' : Shared) : Prop := ∃ vs H', Inv X pins σ H' s' ∧ Vals vs us ∧ Q vs H'
noncomputable def SP (X : Cx) (pins : List (Addr × Obj)) (D : Ends) (f : Flow) (s' : Shared) : Prop :=
  match f with
  | .next => ∃ σ' H', Inv X pins σ' H' s' ∧ D.nx σ' H'
  | .brk => ∃ σ' H', Inv X pins σ' H' s' ∧ D.bk σ' H'
  | .cont => ∃ σ' H', Inv X pins σ' H' s' ∧ D.ct σ' H'
  | .ret u => ∃ v σ' H', Inv X pins σ' H' s' ∧ RelV v u ∧ D.rt v H'

noncomputable def PE (X : Cx) (e : Expr) (t : TE) : Prop :=
  ∀ (pins : List (Addr × Obj)) (s : Shared) (σ : St) (H : Hp) (Q : VK), Inv X pins σ H s → t σ H Q → wpAny (model X.prog X.w) X.A (eval e X.env) (EP X pins σ Q) X.xe s
noncomputable def PT (X : Cx) (e : Expr) (t : TT) : Prop :=
  ∀ (pins : List (Addr × Obj)) (s : Shared) (σ : St) (H : Hp) (Q : Bool → Hp → Prop), Inv X pins σ H s → t σ H Q → wpAny (model X.prog X.w) X.A (isTrue e X.env (eval e X.env)) (TP X pins σ Q) X.xe s
/-- a test whatever its 'whole' is (and, or) -/
noncomputable def PW (X : Cx) (e : Expr) (t : TT) : Prop :=
  ∀ (whole : Sem Value) (pins : List (Addr × Obj)) (s : Shared) (σ : St) (H : Hp) (Q : Bool → Hp → Prop), Inv X pins σ H s → t σ H Q → wpAny (model X.prog X.w) X.A (isTrue e X.env whole) (TP X pins σ Q) X.xe s
theorem PW.pt {X : Cx} {e : Expr} {t : TT} (h : PW X e t) : PT X e t := h _
/-- an argument list (no star), from the left -/
noncomputable def PA (X : Cx) (es : List Expr) (t : TA) : Prop :=
  ∀ (pos : Pos) (pins : List (Addr × Obj)) (s : Shared) (σ : St) (H : Hp) (Q : List V → Hp → Prop), Inv X pins σ H s → t σ H Q → wpAny (model X.prog X.w) X.A (spliced (backTo pos (starEach es X.env))) (AP X pins σ Q) X.xe s
noncomputable def PS (X : Cx) (st : Stmt) (t : TS) : Prop :=
  ∀ (pins : List (Addr × Obj)) (s : Shared) (σ : St) (H : Hp) (D : Ends), Inv X pins σ H s → t D σ H → wpAny (model X.prog X.w) X.A (exec st X.env) (SP X pins D) X.xe s
noncomputable def PSs (X : Cx) (st : List Stmt) (t : TS) : Prop :=
  ∀ (pins : List (Addr × Obj)) (s : Shared) (σ : St) (H : Hp) (D : Ends), Inv X pins σ H s → t D σ H → wpAny (model X.prog X.w) X.A (execs st X.env) (SP X pins D) X.xe s
/-- weaken the end -/
theorem thn {α : Type} {t : Sem α} {Q Q' : α → Shared → Prop} {M : Model} {A : Around} {E : Value → Shared → Prop} {s : Shared} (h : wpAny M A t Q E s) (hQ : ∀ a s, Q a s → Q' a s) : wpAny M A t Q' E s := wpAny_mono h hQ fun _ _ x => x
end L2

namespace L2
open PySem PySem.Spec PyProof.Rows
section
variable {X : Cx}

/-! ### names and constants -/
noncomputable def tVar (i : Nat) : TE := fun σ H Q => ∃ v, σ[i]? = some (some v) ∧ Q v H
noncomputable def tC (v : V) : TE := fun _ H Q => Q v H
theorem pe_var {i : Nat} {x : Str} {pos : Pos} (hN : X.N[i]? = some x) (hv : Vis X.env.scope x) (hd : (x == ("__debug__" : Str)) = false := by decide) (hcd : (x == ("__classdict__" : Str)) = false := by decide) : PE X (.Name x pos) (tVar i) := by
  intro pins s σ H Q I h
  obtain ⟨v, e, h⟩ := h
  obtain ⟨m, hn, hl⟩ := I.loc
  obtain ⟨u, r, l⟩ := hl i x v hN e hv
  have fin : EP X pins σ Q u s := ⟨v, H, I, r, h⟩
  rcases l with ⟨hk, hm⟩ | ⟨hk, c, hc, hcell⟩
  · exact wpAny_Name (wpAny_loadName_local I.ok.kind hk hn hm fin) hd
  · rcases hk with hk | hk
    · exact wpAny_Name (wpAny_loadName_cell I.ok.kind hk hc hcell fin) hd
    · exact wpAny_Name (wpAny_loadName_free I.ok.kind hk hc hcell fin hcd) hd
theorem pe_int {i j pos} : PE X (.Constant (.int i) j pos) (tC (.int i)) := fun _ _ _ H _ I h => wpAny_Constant_int ⟨.int i, H, I.tok _, ⟨_, rfl⟩, h⟩
theorem pe_bl {b j pos} : PE X (.Constant (.bool b) j pos) (tC (.bl b)) := fun _ _ _ H _ I h => Constant_bool ⟨.bl b, H, I, rfl, h⟩
/-- a global name of the def -/
noncomputable def Gl (X : Cx) (x : Str) : Prop := X.env.kindOf x = some .globalImplicit
theorem ld_glob {E : Value → Shared → Prop} {pins : List (Addr × Obj)} {s : Shared} {σ : St} {H : Hp} {x : Str} {u : Value} {pos : Pos} {Q : Value → Shared → Prop} (I : Inv X pins σ H s) (hg : Gl X x) (hm : X.mg x = some u) (h : Q u s)
    (hd : (x == ("__debug__" : Str)) = false := by decide) : wpAny (model X.prog X.w) X.A (eval (.Name x pos) X.env) Q E s :=
  Calls.Name_function_global I.ok.kind hg (Calls.loadGlobal_global (by rw [I.ok.glob]; exact I.mod.glob.keeps I.bk) hm h) hd
theorem ld_blt {E : Value → Shared → Prop} {pins : List (Addr × Obj)} {s : Shared} {σ : St} {H : Hp} {x : Str} {u : Value} {pos : Pos} {Q : Value → Shared → Prop} (I : Inv X pins σ H s) (hg : Gl X x) (hm : X.mg x = none) (hv : bootBuiltins x = some u) (h : Q u s)
    (hn : x ≠ "__name__" := by decide) (hd : (x == ("__debug__" : Str)) = false := by decide) : wpAny (model X.prog X.w) X.A (eval (.Name x pos) X.env) Q E s := by
  obtain ⟨mb, h1, h2⟩ := I.mod.blt
  exact Calls.Name_function_global I.ok.kind hg (Calls.loadGlobal_builtin (by rw [I.ok.glob]; exact I.mod.glob.keeps I.bk) hm (by rw [I.ok.blt]; exact h1.keeps I.bk) ((h2 x hn).trans hv) h) hd
/-- a module's constant, a class, a function, as a value -/
theorem pe_glob {x : Str} {v : V} {u : Value} {pos : Pos} (hg : Gl X x) (hm : X.mg x = some u) (r : RelV v u) (hd : (x == ("__debug__" : Str)) = false := by decide) : PE X (.Name x pos) (tC v) :=
  fun _ _ _ H _ I h => ld_glob I hg hm ⟨v, H, I, r, h⟩ hd
/-! ### arithmetic -/
variable {a b : Expr} {ta tb : TE} {pos : Pos}
/-! ### comparisons -/
/-- a comparison as a value, as a test -/
noncomputable def tB (t : TE) : TT := fun σ H Q => t σ H fun x H1 => ∃ c, x = .bl c ∧ Q c H1
/-- an expression whose value is a bool, as a test -/
theorem pt_val {e : Expr} {t : TE} (h : PE X e t) (he : ∀ whole, isTrue e X.env whole = (do let v ← whole; standAt e.pos; holding [v] (truthy v)) := by intro _; rfl) : PT X e (tB t) := by
  intro pins s σ H Q I hw
  refine isTrue_plain (thn (h pins s σ H _ I hw) fun v s1 hpat => ?_) (he _)
  obtain ⟨x, H1, I1, r1, q1⟩ := hpat
  obtain ⟨d, rfl, q⟩ := q1
  cases r1
  exact wpAny_truthy_bool ⟨H1, I1, q⟩

/-! ### and, or, not -/
variable {tA tB' : TT} {rest : List Expr}
noncomputable def tAnd (t u : TT) : TT := fun σ H Q => t σ H fun c H1 => if c = true then u σ H1 Q else Q false H1
noncomputable def tOr (t u : TT) : TT := fun σ H Q => t σ H fun c H1 => if c = true then Q true H1 else u σ H1 Q
noncomputable def tNot (t : TT) : TT := fun σ H Q => t σ H fun c H1 => Q (!c) H1
theorem pw_and1 (ha : PT X a tA) : PW X (.BoolOp .And [a] pos) tA := by
  intro wh pins s σ H Q I h
  refine isTrue_and (thn (ha pins s σ H Q I h) fun c s1 e => ?_)
  cases c with
  | true => exact isTrue_and_nil e
  | false => exact e
theorem pw_or1 (ha : PT X a tA) : PW X (.BoolOp .Or [a] pos) tA := by
  intro wh pins s σ H Q I h
  refine isTrue_or (thn (ha pins s σ H Q I h) fun c s1 e => ?_)
  cases c with
  | false => exact isTrue_or_nil e
  | true => exact e
theorem pw_and (ha : PT X a tA) (hb : PW X (.BoolOp .And (b :: rest) pos) tB') : PW X (.BoolOp .And (a :: b :: rest) pos) (tAnd tA tB') := by
  intro wh pins s σ H Q I h
  refine isTrue_and (thn (ha pins s σ H _ I h) fun c s1 hpat => ?_)
  obtain ⟨H1, I1, q1⟩ := hpat
  cases c with
  | true => exact hb wh pins s1 σ H1 Q I1 q1
  | false => exact ⟨H1, I1, q1⟩
theorem pw_or (ha : PT X a tA) (hb : PW X (.BoolOp .Or (b :: rest) pos) tB') : PW X (.BoolOp .Or (a :: b :: rest) pos) (tOr tA tB') := by
  intro wh pins s σ H Q I h
  refine isTrue_or (thn (ha pins s σ H _ I h) fun c s1 hpat => ?_)
  obtain ⟨H1, I1, q1⟩ := hpat
  cases c with
  | true => exact ⟨H1, I1, q1⟩
  | false => exact hb wh pins s1 σ H1 Q I1 q1
theorem pt_not (ha : PT X a tA) : PT X (.UnaryOp .Not a pos) (tNot tA) := by
  intro pins s σ H Q I h
  exact isTrue_not (ha pins s σ H (fun c H1 => Q (!c) H1) I h)
/-- .. as values (bools) -/
noncomputable def tAndV (ta tb : TE) : TE := fun σ H Q => ta σ H fun x H1 => ∃ c, x = .bl c ∧ if c = true then tb σ H1 Q else Q (.bl false) H1
noncomputable def tOrV (ta tb : TE) : TE := fun σ H Q => ta σ H fun x H1 => ∃ c, x = .bl c ∧ if c = true then Q (.bl true) H1 else tb σ H1 Q
theorem pe_one {op} {t : TE} (h : PE X a t) : PE X (.BoolOp op [a] pos) t := fun pins s σ H Q I hw => BoolOp_one (h pins s σ H Q I hw)
theorem pe_and (ha : PE X a ta) (hb : PE X (.BoolOp .And (b :: rest) pos) tb) : PE X (.BoolOp .And (a :: b :: rest) pos) (tAndV ta tb) := by
  intro pins s σ H Q I h
  refine BoolOp_and (thn (ha pins s σ H _ I h) fun v s1 hpat => ?_)
  obtain ⟨x, H1, I1, r1, q1⟩ := hpat
  obtain ⟨c, rfl, q1⟩ := q1
  cases r1
  refine wpAny_truthy_bool ?_
  cases c with
  | true => exact hb pins s1 σ H1 Q I1 q1
  | false => exact ⟨.bl false, H1, I1, rfl, q1⟩
theorem pe_or (ha : PE X a ta) (hb : PE X (.BoolOp .Or (b :: rest) pos) tb) : PE X (.BoolOp .Or (a :: b :: rest) pos) (tOrV ta tb) := by
  intro pins s σ H Q I h
  refine BoolOp_or (thn (ha pins s σ H _ I h) fun v s1 hpat => ?_)
  obtain ⟨x, H1, I1, r1, q1⟩ := hpat
  obtain ⟨c, rfl, q1⟩ := q1
  cases r1
  refine wpAny_truthy_bool ?_
  cases c with
  | false => exact hb pins s1 σ H1 Q I1 q1
  | true => exact ⟨.bl true, H1, I1, rfl, q1⟩
/-- a if t else b -/
noncomputable def tIf (t : TT) (ta tb : TE) : TE := fun σ H Q => t σ H fun c H1 => if c = true then ta σ H1 Q else tb σ H1 Q
theorem pe_ifExp {c : Expr} (hc : PT X c tA) (ha : PE X a ta) (hb : PE X b tb) : PE X (.IfExp c a b pos) (tIf tA ta tb) := by
  intro pins s σ H Q I h
  refine wpAny_IfExp (thn (hc pins s σ H _ I h) fun d s1 hpat => ?_)
  obtain ⟨H1, I1, q1⟩ := hpat
  cases d with
  | true => exact ha pins s1 σ H1 Q I1 q1
  | false => exact hb pins s1 σ H1 Q I1 q1
end
end L2

namespace L2
open PySem PySem.Spec PyProof.Rows

/-! ### a list, a tuple that is read: tracked, frozen, or an object of the module -/
noncomputable def SqL (K : PySem.W.Frag) (H : Hp) (a : Addr) (xs : List V) : Prop :=
  Rd H a (.lst xs) ∨
    ∃ (o : Obj) (its : Array Value) (n : Nat), K.lookup a = some o ∧ o.cls = .type "list" ∧ o.dict = none ∧ o.data = .seq its n ∧ its.size ≤ sizeLine ∧ Vals xs its.toList
noncomputable def SqT (K : PySem.W.Frag) (H : Hp) (a : Addr) (xs : List V) : Prop :=
  Rd H a (.tup xs) ∨
    ∃ (o : Obj) (its : Array Value) (n : Nat), K.lookup a = some o ∧ o.cls = .type "tuple" ∧ o.data = .seq its n ∧ its.size ≤ sizeLine ∧ Vals xs its.toList
noncomputable def absV : Value → Option V
  | .none => some .non
  | .bool b => some (.bl b)
  | .int i _ => some (.int i)
  | .str x _ => some (.str x)
  | .bytes b _ => some (.byt b)
  | .float b _ => some (.flt b)
  | .ref a => some (.ref a)
  | .type n => some (.ty n)
  | _ => none
theorem RelV.abs {x : V} {u : Value} (r : RelV x u) : absV u = some x := by
  cases x with
  | non => cases r; rfl
  | bl _ => cases r; rfl
  | int _ => obtain ⟨t, rfl⟩ := r; rfl
  | str _ => obtain ⟨t, rfl⟩ := r; rfl
  | byt _ => obtain ⟨t, rfl⟩ := r; rfl
  | flt _ => obtain ⟨t, rfl⟩ := r; rfl
  | ref _ => cases r; rfl
  | ty _ => cases r; rfl
theorem RelV.inj {x y : V} {u : Value} (r : RelV x u) (q : RelV y u) : x = y := Option.some.inj (r.abs.symm.trans q.abs)
theorem Vals.inj : ∀ {xs ys : List V} {us : List Value}, Vals xs us → Vals ys us → xs = ys
  | _, _, _, .nil, .nil => rfl
  | _, _, _, .cons r t, .cons r' t' => by rw [r.inj r', Vals.inj t t']
section
variable {X : Cx} {pins : List (Addr × Obj)} {σ : St} {H : Hp} {s : Shared} {a : Addr} {xs ys : List V}
theorem SqL.of {K : PySem.W.Frag} (h : H a = some (.lst xs)) : SqL K H a xs := .inl (.inl h)
theorem SqT.of {K : PySem.W.Frag} (h : H a = some (.tup xs)) : SqT K H a xs := .inl (.inl h)
theorem Inv.list (I : Inv X pins σ H s) (h : SqL X.K H a xs) : ∃ its : List Value, Vals xs its ∧ PlainL s.heap a its.toArray ∧ xs.length ≤ sizeLine := by
  rcases h with h | ⟨o, its, n, hk, hc, hd, hs, hz, r⟩
  · obtain ⟨z, its, n, r, e⟩ := h.ok I.hok
    exact ⟨its, r, ⟨_, n, e, rfl, rfl, rfl⟩, z⟩
  · refine ⟨its.toList, r, ⟨o, n, I.kIn a o hk, hc, hd, by simpa using hs⟩, ?_⟩
    have e := r.length
    simp only [Array.length_toList] at e
    omega
theorem Inv.tuple (I : Inv X pins σ H s) (h : SqT X.K H a xs) : ∃ its : List Value, Vals xs its ∧ IsTup s.heap a its.toArray ∧ xs.length ≤ sizeLine := by
  rcases h with h | ⟨o, its, n, hk, hc, hs, hz, r⟩
  · obtain ⟨z, its, r, p⟩ := h.ok I.hok
    exact ⟨its, r, p, z⟩
  · refine ⟨its.toList, r, ⟨o, I.kIn a o hk, hc, n, by simpa using hs⟩, ?_⟩
    have e := r.length
    simp only [Array.length_toList] at e
    omega
theorem Inv.list_inj (I : Inv X pins σ H s) (h : SqL X.K H a xs) (h' : SqL X.K H a ys) : xs = ys := by
  obtain ⟨its, r, ⟨o, n, e, _, _, d⟩, _⟩ := I.list h
  obtain ⟨its', r', ⟨o', n', e', _, _, d'⟩, _⟩ := I.list h'
  rw [e] at e'; cases e'
  rw [d] at d'
  injection d' with d1 _
  have : its = its' := by simpa using congrArg Array.toList d1
  subst this
  exact r.inj r'
theorem Inv.tuple_inj (I : Inv X pins σ H s) (h : SqT X.K H a xs) (h' : SqT X.K H a ys) : xs = ys := by
  obtain ⟨its, r, ⟨o, e, _, n, d⟩, _⟩ := I.tuple h
  obtain ⟨its', r', ⟨o', e', _, n', d'⟩, _⟩ := I.tuple h'
  rw [e] at e'; cases e'
  rw [d] at d'
  injection d' with d1 _
  have : its = its' := by simpa using congrArg Array.toList d1
  subst this
  exact r.inj r'
end

/-! ### another wish about exceptions -/
noncomputable abbrev Cx.wish (X : Cx) (E : Value → Shared → Prop) : Cx := { X with xe := E }
/-- no exception leaves -/
noncomputable abbrev Cx.nox (X : Cx) : Cx := X.wish fun _ _ => False
theorem Cx.Ok.wish {X : Cx} (ok : X.Ok) (E : Value → Shared → Prop) : (X.wish E).Ok :=
  ⟨ok.mod, ok.kind, ok.glob, ok.blt, ok.above, ok.inj, ok.has, ok.cab, ok.hd, ok.frames, ok.stk, ok.exf, ok.bs, ok.bsz, ok.noex, ok.exfs, ok.funs, ok.frf⟩
theorem Cx.Ok.unwish {X : Cx} {E : Value → Shared → Prop} (ok : (X.wish E).Ok) : X.Ok :=
  ⟨ok.mod, ok.kind, ok.glob, ok.blt, ok.above, ok.inj, ok.has, ok.cab, ok.hd, ok.frames, ok.stk, ok.exf, ok.bs, ok.bsz, ok.noex, ok.exfs, ok.funs, ok.frf⟩
section
variable {X : Cx} {pins : List (Addr × Obj)} {σ : St} {H : Hp} {s : Shared} {E : Value → Shared → Prop}
theorem Inv.wish (I : Inv X pins σ H s) (E : Value → Shared → Prop) : Inv (X.wish E) pins σ H s := ⟨I.ok.wish E, I.os, I.bare, I.base, I.loc, I.cell, I.free, I.freeC, I.pin, I.hok, I.len⟩
theorem Inv.unwish (I : Inv (X.wish E) pins σ H s) : Inv X pins σ H s := ⟨I.ok.unwish, I.os, I.bare, I.base, I.loc, I.cell, I.free, I.freeC, I.pin, I.hok, I.len⟩
theorem SP.unwish {D : Ends} {f : Flow} {s' : Shared} (h : SP (X.wish E) pins D f s') : SP X pins D f s' := by
  cases f with
  | next => obtain ⟨σ', H', I, q⟩ := h; exact ⟨σ', H', I.unwish, q⟩
  | brk => obtain ⟨σ', H', I, q⟩ := h; exact ⟨σ', H', I.unwish, q⟩
  | cont => obtain ⟨σ', H', I, q⟩ := h; exact ⟨σ', H', I.unwish, q⟩
  | ret u => obtain ⟨v, σ', H', I, r, q⟩ := h; exact ⟨v, σ', H', I.unwish, r, q⟩
theorem PSs.nox {st : List Stmt} {t : TS} (h : PSs X.nox st t) : PSs X st t := fun pins s σ H D I hw =>
  wpAny_mono (h pins s σ H D (I.wish _) hw) (fun _ _ q => q.unwish) fun _ _ z => False.elim z
end

/-! ### blocks and small statements -/
section
variable {X : Cx} {st : Stmt} {rest : List Stmt} {t u : TS} {e : Expr} {te : TE} {pos : Pos}
noncomputable def tNext : TS := fun D σ H => D.nx σ H
noncomputable def tSeq (t u : TS) : TS := fun D σ H => t { D with nx := u D } σ H
theorem pss_nil : PSs X [] tNext := fun _ _ σ H _ I h => wpAny_execs_nil ⟨σ, H, I, h⟩
theorem pss_cons (h1 : PS X st t) (h2 : PSs X rest u) : PSs X (st :: rest) (tSeq t u) := by
  intro pins s σ H D I h
  refine wpAny_execs_cons (thn (h1 pins s σ H { D with nx := u D } I h) fun f s1 q => ?_)
  cases f with
  | next =>
    obtain ⟨σ', H', I', q⟩ := q
    exact h2 pins s1 σ' H' D I' q
  | ret v => exact q
  | brk => exact q
  | cont => exact q
theorem pss_one (h1 : PS X st t) : PSs X [st] t := by
  intro pins s σ H D I h
  refine wpAny_execs_cons (thn (h1 pins s σ H D I h) fun f s1 q => ?_)
  cases f with
  | next => exact wpAny_execs_nil q
  | ret v => exact q
  | brk => exact q
  | cont => exact q
/-- in a def's body nothing is shown -/
theorem Inv.quiet {pins : List (Addr × Obj)} {σ : St} {H : Hp} {s : Shared} (I : Inv X pins σ H s) : interactive X.env = false := by simp [interactive, I.ok.kind]
/-- an expression whose value is dropped -/
noncomputable def tDrop (te : TE) : TS := fun D σ H => te σ H fun _ H1 => D.nx σ H1
theorem ps_expr (he : PE X e te) (hs : swapsWith e none pos.line X.env = pure false := by rfl) : PS X (.Expr e pos) (tDrop te) := by
  intro pins s σ H D I h
  exact wpAny_Expr_any (thn (he pins s σ H _ I h) fun v s1 ⟨x, H1, I1, r1, q1⟩ => ⟨σ, H1, I1, q1⟩) I.quiet hs
noncomputable def tRet (te : TE) : TS := fun D σ H => te σ H D.rt
theorem ps_ret (he : PE X e te) : PS X (.Return (some e) pos) (tRet te) := by
  intro pins s σ H D I h
  exact wpAny_Return_some (thn (he pins s σ H _ I h) fun v s1 ⟨x, H1, I1, r1, q1⟩ => ⟨x, σ, H1, I1, r1, q1⟩)
noncomputable def tRetN : TS := fun D _ H => D.rt .non H
theorem ps_retN : PS X (.Return none pos) tRetN := fun _ _ σ H _ I h => wpAny_Return_none ⟨.non, σ, H, I, rfl, h⟩
noncomputable def tIfS (c : TT) (t u : TS) : TS := fun D σ H => c σ H fun b H1 => if b = true then t D σ H1 else u D σ H1
theorem ps_if {c : Expr} {a b : List Stmt} {tc : TT} (hc : PT X c tc) (ha : PSs X a t) (hb : PSs X b u) : PS X (.If c a b pos) (tIfS tc t u) := by
  intro pins s σ H D I h
  refine wpAny_If (thn (hc pins s σ H _ I h) fun d s1 hpat => ?_)
  obtain ⟨H1, I1, q1⟩ := hpat
  cases d with
  | true => exact ha pins s1 σ H1 D I1 q1
  | false => exact hb pins s1 σ H1 D I1 q1
end

/-! ### targets -/
noncomputable abbrev TG := V → St → Hp → (St → Hp → Prop) → Prop
noncomputable def PG (X : Cx) (target : Expr) (t : TG) : Prop :=
  ∀ (pins : List (Addr × Obj)) (s : Shared) (σ : St) (H : Hp) (v : V) (u : Value) (Q : St → Hp → Prop), Inv X pins σ H s → RelV v u → t v σ H Q →
    wpAny (model X.prog X.w) X.A (assign target X.env u) (fun _ s' => ∃ σ' H', Inv X pins σ' H' s' ∧ Q σ' H') X.xe s
section
variable {X : Cx} {pos : Pos}
noncomputable def gName (i : Nat) : TG := fun v σ H Q => Q (σ.set i (some v)) H
theorem pg_name {i : Nat} {x : Str} (hN : X.N.Nodup) (hi : X.N[i]? = some x) (hx : Loc X.env.scope x) (hf : X.fn x = true ∨ X.env.scope.names.lookup x = some .local := by first | exact .inl rfl | exact .inr rfl | assumption) : PG X (.Name x pos) (gName i) := by
  intro pins s σ H v u Q I r h
  exact wpAny_assign_Name (store_ok I hN hi hx r (fun s' I' => ⟨_, H, I', h⟩) hf)
/-- target = value -/
noncomputable def tAsg (te : TE) (g : TG) : TS := fun D σ H => te σ H fun x H1 => g x σ H1 D.nx
/-- name = value -/
theorem ps_set {i : Nat} {x : Str} {e : Expr} {te : TE} {pos' : Pos} (hN : X.N.Nodup) (hi : X.N[i]? = some x) (hx : Loc X.env.scope x) (he : PE X e te) (hs : swapsWith e (some (.Name x pos')) pos.line X.env = pure false := by rfl) (hf : X.fn x = true ∨ X.env.scope.names.lookup x = some .local := by first | exact .inl rfl | exact .inr rfl | assumption) :
    PS X (.Assign [.Name x pos'] e pos) (tAsg te (gName i)) := by
  intro pins s σ H D I h
  refine wpAny_Assign_Name (thn (he pins s σ H _ I h) fun v s1 hpat => ?_) hs
  obtain ⟨y, H1, I1, r1, q1⟩ := hpat
  exact store_ok I1 hN hi hx r1 (fun s2 I2 => ⟨_, H1, I2, q1⟩) hf
end

/-! ### while -/
section
variable {X : Cx} {pos : Pos}
/-- the invariant W with its measure -/
noncomputable def tWhile (c : TT) (tb : TS) : TS := fun D σ H => ∃ W : Nat → St → Hp → Prop, (∃ m, W m σ H) ∧ ∀ m σ H, W m σ H →
  c σ H fun b H1 => if b = true then ∃ N : St → Hp → Prop, (∀ σ' H', N σ' H' → ∃ m', m' < m ∧ W m' σ' H') ∧ tb { D with nx := N, ct := N, bk := D.nx } σ H1 else D.nx σ H1
theorem ps_while {c : Expr} {body : List Stmt} {tc : TT} {tb : TS} (hp : PassesOwn (model X.prog X.w) X.A X.env X.xe) (hc : PT X c tc) (hb : PSs X body tb) : PS X (.While c body [] pos) (tWhile tc tb) := by
  intro pins s σ H D I h
  obtain ⟨W, ⟨m0, w0⟩, turn⟩ := h
  refine wpAny_While (codeAny_whileLoop (fun n s' => ∃ σ' H', Inv X pins σ' H' s' ∧ W n σ' H') ?_ m0 ⟨σ, H, I, w0⟩)
  rintro n s1 ⟨σ1, H1, I1, w1⟩
  refine wpAny_passesOwn hp (thn (hc pins s1 σ1 H1 _ I1 (turn n σ1 H1 w1)) fun b s2 hpat => ?_)
  obtain ⟨H2, I2, q2⟩ := hpat
  cases b with
  | true =>
    obtain ⟨N, hN, q2⟩ := q2
    rw [if_pos rfl]
    refine wpAny_passesOwn hp (thn (hb pins s2 σ1 H2 _ I2 q2) fun f s3 q3 => ?_)
    cases f with
    | next =>
      obtain ⟨σ3, H3, I3, n3⟩ := q3
      obtain ⟨m', hm, w3⟩ := hN σ3 H3 n3
      exact ⟨m', hm, σ3, H3, I3, w3⟩
    | cont =>
      obtain ⟨σ3, H3, I3, n3⟩ := q3
      obtain ⟨m', hm, w3⟩ := hN σ3 H3 n3
      exact ⟨m', hm, σ3, H3, I3, w3⟩
    | brk => exact q3
    | ret v => exact q3
  | false =>
    rw [if_neg Bool.false_ne_true]
    exact wpAny_execs_nil ⟨σ1, H2, I2, q2⟩
end

/-! ### what a loop or a comprehension walks -/
/-- at turn i: it yields x (the heap may grow), or it stops -/
structure It where
  go : Nat → Hp → Prop
  yld : Nat → Hp → V → Hp → Prop
  stop : Nat → Hp → Prop
/-- the iterator's own objects may turn: they are not the frame's, not pinned, younger than the entry (or a comprehension's own) -/
noncomputable def FpOk (X : Cx) (pins : List (Addr × Obj)) (H : Hp) (b : Addr) : Prop :=
  H b = none ∧ b ≠ X.env.locals ∧ b ∉ X.fs ∧ (b ∈ X.ex ∨ X.s₀.heap.objs.size ≤ b) ∧ (∀ x c, X.env.cells.lookup x = some c → c ≠ b) ∧ ∀ p ∈ X.pn ++ pins, p.1 ≠ b
theorem Inv.fpOk {X : Cx} {pins : List (Addr × Obj)} {σ : St} {H H' : Hp} {s : Shared} {b : Addr} (I : Inv X pins σ H s) (hb : s.heap.objs.size ≤ b) (hn : H' b = none) : FpOk X pins H' b := by
  refine ⟨hn, Nat.ne_of_gt (Nat.lt_of_lt_of_le I.lt hb), I.nofs hb, .inr (Nat.le_trans I.sz hb), fun x c e z => ?_, fun p hp z => ?_⟩
  · obtain ⟨v, q⟩ := I.cell x c e
    exact absurd (Nat.lt_of_lt_of_le q.lt (by rw [z]; exact hb)) (Nat.lt_irrefl _)
  · exact absurd (Nat.lt_of_lt_of_le (Heap.lt_size (I.pin p hp).1) (by rw [z]; exact hb)) (Nat.lt_irrefl _)
structure Turn (P : Program) (w : World) (K : PySem.W.Frag) (tg : Expr) (J : It) (fp : List Addr) (it : Addr) (tn : Nat → Heap → Prop) : Prop where
  mem : it ∈ fp
  obj : ∀ i h, tn i h → ∀ b ∈ fp, ∃ o, h.get? b = some o ∧ ∀ v, o.data ≠ .cell v
  keep : ∀ i h h', tn i h → (∀ b ∈ fp, ∀ o, h.get? b = some o → h'.get? b = some o) → tn i h'
  item : ∀ (X : Cx), X.prog = P → X.w = w → X.K = K → X.calm = true → ∀ (i : Nat) (pins : List (Addr × Obj)) (s : Shared) (σ : St) (H : Hp) (E : Value → Shared → Prop), Inv X pins σ H s → (∀ b ∈ fp, FpOk X pins H b) → tn i s.heap → J.go i H →
    wpAny (model P w) X.A (pyNext (.ref it)) (fun r s1 => ∃ u, r = some u ∧
      wpAny (model P w) X.A (letOwnedTupleGo tg (.ref it) u) (fun _ s2 => ∃ x H', Inv X pins σ H' s2 ∧ RelV x u ∧ J.yld i H x H' ∧ tn (i + 1) s2.heap ∧ ∀ b ∈ fp, H' b = none) E s1) E s
  done : ∀ (X : Cx), X.prog = P → X.w = w → X.K = K → X.calm = true → ∀ (i : Nat) (pins : List (Addr × Obj)) (s : Shared) (σ : St) (H : Hp) (E : Value → Shared → Prop), Inv X pins σ H s → (∀ b ∈ fp, FpOk X pins H b) → tn i s.heap → J.stop i H →
    wpAny (model P w) X.A (pyNext (.ref it)) (fun r s1 => r = none ∧ Inv X pins σ H s1) E s
  self : ∀ (A : Around) (i : Nat) (s : Shared) (Q : Value → Shared → Prop) (E : Value → Shared → Prop), tn i s.heap → Q (.ref it) s → wpAny (model P w) A (pyIter (.ref it)) Q E s
noncomputable abbrev TI := St → Hp → (It → Hp → Prop) → Prop
/-- an iterator has come -/
noncomputable def PIE (X : Cx) (pins : List (Addr × Obj)) (σ : St) (tg : Expr) (R : It → Hp → Prop) (itv : Value) (s2 : Shared) : Prop :=
  ∃ (it : Addr) (fp : List Addr) (tn : Nat → Heap → Prop) (J : It) (H' : Hp), itv = .ref it ∧ Inv X pins σ H' s2 ∧ Turn X.prog X.w X.K tg J fp it tn ∧ tn 0 s2.heap ∧ (∀ b ∈ fp, FpOk X pins H' b) ∧ R J H'
noncomputable def PI (X : Cx) (tg iter : Expr) (wi : TI) : Prop :=
  ∀ (pins : List (Addr × Obj)) (s : Shared) (σ : St) (H : Hp) (R : It → Hp → Prop), Inv X pins σ H s → wi σ H R →
    wpAny (model X.prog X.w) X.A (eval iter X.env) (fun v s1 => wpAny (model X.prog X.w) X.A (pyIter v) (PIE X pins σ tg R) X.xe s1) X.xe s

/-- the step ahead of the store is nothing for an iterator that keeps no tuple -/
theorem go_of {M : Model} {A : Around} {E : Value → Shared → Prop} {s : Shared} {tg : Expr} {it : Addr} {u : Value} {o : Obj} {n : String} {vs : Array Value} {Q : Unit → Shared → Prop} (ho : s.heap.get? it = some o) (hc : o.cls = .type n) (hd : o.data = .fields vs)
    (hn : ["enumerate", "zip", "dict_itemiterator", "dict_reverseitemiterator", "odict_iterator", "itertools.zip_longest", "itertools.pairwise"].contains n = false) (hQ : Q () s) : wpAny M A (letOwnedTupleGo tg (.ref it) u) Q E s := by
  unfold letOwnedTupleGo
  cases tg <;> first
    | exact wpAny_pure hQ
    | (cases u <;> first
        | exact wpAny_pure hQ
        | (refine wpAny_bind (wpAny_load ho ?_)
           rw [hc, hd]
           show wpAny M A (if (["enumerate", "zip", "dict_itemiterator", "dict_reverseitemiterator", "odict_iterator", "itertools.zip_longest", "itertools.pairwise"].contains n && vs[0]? == some (rawInt _)) = true then _ else _) Q E s
           rw [if_neg (by intro h; rw [hn, Bool.false_and] at h; cases h)]
           exact wpAny_pure hQ))

/-- the list at a, as it stands at each turn (a loop may append to it) -/
noncomputable def Itl (K : PySem.W.Frag) (a : Addr) : It :=
  ⟨fun i H => ∃ xs x, SqL K H a xs ∧ xs[i]? = some x, fun i H x H' => H' = H ∧ ∀ xs, SqL K H a xs → xs[i]? = some x, fun i H => ∃ xs, SqL K H a xs ∧ xs.length ≤ i⟩
noncomputable def Itt (K : PySem.W.Frag) (a : Addr) : It :=
  ⟨fun i H => ∃ xs x, SqT K H a xs ∧ xs[i]? = some x, fun i H x H' => H' = H ∧ ∀ xs, SqT K H a xs → xs[i]? = some x, fun i H => ∃ xs, SqT K H a xs ∧ xs.length ≤ i⟩
/-- lo, lo + 1, .. (n of them) -/
noncomputable def Itr (lo : Int) (n : Nat) : It := ⟨fun i _ => i < n, fun i H x H' => H' = H ∧ x = .int (lo + i), fun i _ => n ≤ i⟩
theorem turn_list {P : Program} {w : World} {K : PySem.W.Frag} {tg : Expr} (a it : Addr) : Turn P w K tg (Itl K a) [it] it (fun i h => h.IsListIter it a i) where
  mem := by simp
  obj := fun i h st b hb => by
    have e : b = it := by simpa using hb
    subst e
    obtain ⟨o, e, c, d⟩ := st
    exact ⟨o, e, fun v z => by rw [d] at z; cases z⟩
  keep := fun i h h' st k => st.at fun o e => k it (by simp) o e
  item := by
    intro X hP hw hK hc i pins s σ H E I hf st hg
    subst hP hw hK
    obtain ⟨xs, x, hq, hx⟩ := hg
    obtain ⟨its, rv, p, hz⟩ := I.list hq
    obtain ⟨u, hu, ru⟩ := rv.get hx
    obtain ⟨f0, f1, f2, f3, f4, f5⟩ := hf it (by simp)
    refine wpAny_pyNext_list_item st p.isList (x := u) (by simpa using hu) fun h' st' sb => ?_
    have I1 : Inv X pins σ H { s with heap := h' } := I.turned (t' := s.toks) (fun b o hb e => (sb.2 b hb).trans e) f0 f1 f3 f4 f5
    obtain ⟨o, e, c, d⟩ := id st'
    exact ⟨u, rfl, go_of (s := { s with heap := h' }) e c d (by decide) ⟨x, H, I1, ru, ⟨rfl, fun ys hy => by rw [I.list_inj hy hq]; exact hx⟩, st', fun b hb => (hf b hb).1⟩⟩
  done := by
    intro X hP hw hK hc i pins s σ H E I hf st hg
    subst hP hw hK
    obtain ⟨xs, hq, hx⟩ := hg
    obtain ⟨its, rv, p, hz⟩ := I.list hq
    obtain ⟨f0, f1, f2, f3, f4, f5⟩ := hf it (by simp)
    have hl := rv.length
    exact wpAny_pyNext_list_end (I.ok.hd hc) st p.isList (by simp; omega) fun h' eb => ⟨rfl, I.turned (t' := s.toks) (fun b o hb e => eb b o hb e) f0 f1 f3 f4 f5⟩
  self := fun _ _ _ _ _ st h => wpAny_pyIter_listiter st h
theorem turn_tuple {P : Program} {w : World} {K : PySem.W.Frag} {tg : Expr} (a it : Addr) : Turn P w K tg (Itt K a) [it] it (fun i h => h.IsTupleIter it a i) where
  mem := by simp
  obj := fun i h st b hb => by
    have e : b = it := by simpa using hb
    subst e
    obtain ⟨o, e, c, d⟩ := st
    exact ⟨o, e, fun v z => by rw [d] at z; cases z⟩
  keep := fun i h h' st k => st.at fun o e => k it (by simp) o e
  item := by
    intro X hP hw hK hc i pins s σ H E I hf st hg
    subst hP hw hK
    obtain ⟨xs, x, hq, hx⟩ := hg
    obtain ⟨its, rv, p, hz⟩ := I.tuple hq
    obtain ⟨u, hu, ru⟩ := rv.get hx
    obtain ⟨f0, f1, f2, f3, f4, f5⟩ := hf it (by simp)
    refine wpAny_pyNext_tuple_item st (show s.heap.IsTuple a its.toArray from p) (x := u) (by simpa using hu) fun h' st' sb => ?_
    have I1 : Inv X pins σ H { s with heap := h' } := I.turned (t' := s.toks) (fun b o hb e => (sb.2 b hb).trans e) f0 f1 f3 f4 f5
    obtain ⟨o, e, c, d⟩ := id st'
    exact ⟨u, rfl, go_of (s := { s with heap := h' }) e c d (by decide) ⟨x, H, I1, ru, ⟨rfl, fun ys hy => by rw [I.tuple_inj hy hq]; exact hx⟩, st', fun b hb => (hf b hb).1⟩⟩
  done := by
    intro X hP hw hK hc i pins s σ H E I hf st hg
    subst hP hw hK
    obtain ⟨xs, hq, hx⟩ := hg
    obtain ⟨its, rv, p, hz⟩ := I.tuple hq
    obtain ⟨f0, f1, f2, f3, f4, f5⟩ := hf it (by simp)
    have hl := rv.length
    exact wpAny_pyNext_tuple_end (I.ok.hd hc) st (show s.heap.IsTuple a its.toArray from p) (by simp; omega) fun h' eb => ⟨rfl, I.turned (t' := s.toks) (fun b o hb e => eb b o hb e) f0 f1 f3 f4 f5⟩
  self := fun _ _ _ _ _ st h => wpAny_pyIter_tupleiter st h
theorem turn_range {P : Program} {w : World} {K : PySem.W.Frag} {tg : Expr} (it : Addr) (lo : Int) (n : Nat) : Turn P w K tg (Itr lo n) [it] it (fun i h => IsRangeIter h it (lo + (i : Nat) * 1) ((n : Int) - (i : Nat)) 1) where
  mem := by simp
  obj := fun i h st b hb => by
    have e : b = it := by simpa using hb
    subst e
    exact ⟨_, st, fun v z => by
      have z' : Data.fields _ = Data.cell v := z
      cases z'⟩
  keep := fun i h h' st k => k it (by simp) _ st
  item := by
    intro X hP hw hK hc i pins s σ H E I hf st hg
    subst hP hw hK
    obtain ⟨f0, f1, f2, f3, f4, f5⟩ := hf it (by simp)
    have W := Walks.range (prog := X.prog) (w := X.w) (I.ok.hd hc) it lo 1 n
    refine W.item i s _ _ hg st fun v h' tk hv st' kk => ?_
    obtain ⟨t, rfl⟩ := hv
    have I1 : Inv X pins σ H { s with heap := h', toks := tk } := I.turned (fun b o hb e => kk b o (by simpa using hb) e) f0 f1 f3 f4 f5
    refine ⟨_, rfl, go_of (s := { s with heap := h', toks := tk }) (n := "range_iterator") st' rfl rfl (by decide) ⟨.int (lo + i), H, I1, ⟨t, ?_⟩, ⟨rfl, rfl⟩, st', fun b hb => (hf b hb).1⟩⟩
    rw [Int.mul_one]
  done := by
    intro X hP hw hK hc i pins s σ H E I hf st hg
    subst hP hw hK
    obtain ⟨f0, f1, f2, f3, f4, f5⟩ := hf it (by simp)
    exact wpAny_pyNext_range_end (I.ok.hd hc) st (by have : n ≤ i := hg; omega) fun h' eb => ⟨rfl, I.turned (t' := s.toks) (fun b o hb e => eb b o hb e) f0 f1 f3 f4 f5⟩
  self := fun _ _ _ _ _ st h => wpAny_pyIter_rangeiter st h
end L2

namespace L2
open PySem PySem.Spec PyProof.Rows
section
variable {X : Cx} {tg : Expr}
noncomputable def iList (K : PySem.W.Frag) (tl : TE) : TI := fun σ H R => tl σ H fun x H1 => ∃ a, x = .ref a ∧ (∃ xs, SqL K H1 a xs) ∧ R (Itl K a) H1
noncomputable def iTup (K : PySem.W.Frag) (tl : TE) : TI := fun σ H R => tl σ H fun x H1 => ∃ a, x = .ref a ∧ (∃ xs, SqT K H1 a xs) ∧ R (Itt K a) H1
theorem pi_list {l : Expr} {tl : TE} (hl : PE X l tl) : PI X tg l (iList X.K tl) := by
  intro pins s σ H R I h
  refine thn (hl pins s σ H _ I h) fun v s1 hpat => ?_
  obtain ⟨x, H1, I1, r1, q1⟩ := hpat
  obtain ⟨a, e, ⟨xs, hq⟩, q⟩ := q1
  subst e
  cases r1
  obtain ⟨its, rv, p, hz⟩ := I1.list hq
  refine wpAny_pyIter_list p.isList ?_
  refine ⟨s1.heap.objs.size, [s1.heap.objs.size], _, _, H1, rfl, I1.kept (t' := s1.toks) fun b o e => Heap.get?_push_of_some _ e, turn_list a _, ⟨_, Heap.get?_push_size _ rfl, rfl, rfl⟩, fun b hb => ?_, q⟩
  have e : b = s1.heap.objs.size := by simpa using hb
  subst e
  exact I1.fpOk (Nat.le_refl _) (I1.hok.fresh (Nat.le_refl _))
theorem pi_tup {l : Expr} {tl : TE} (hl : PE X l tl) : PI X tg l (iTup X.K tl) := by
  intro pins s σ H R I h
  refine thn (hl pins s σ H _ I h) fun v s1 hpat => ?_
  obtain ⟨x, H1, I1, r1, q1⟩ := hpat
  obtain ⟨a, e, ⟨xs, hq⟩, q⟩ := q1
  subst e
  cases r1
  obtain ⟨its, rv, p, hz⟩ := I1.tuple hq
  refine wpAny_pyIter_tuple (show s1.heap.IsTuple a its.toArray from p) ?_
  refine ⟨s1.heap.objs.size, [s1.heap.objs.size], _, _, H1, rfl, I1.kept (t' := s1.toks) fun b o e => Heap.get?_push_of_some _ e, turn_tuple a _, ⟨_, Heap.get?_push_size _ rfl, rfl, rfl⟩, fun b hb => ?_, q⟩
  have e : b = s1.heap.objs.size := by simpa using hb
  subst e
  exact I1.fpOk (Nat.le_refl _) (I1.hok.fresh (Nat.le_refl _))
/-- a range object just made, walked -/
theorem range_it {pins : List (Addr × Obj)} {σ : St} {H : Hp} {s : Shared} {R : It → Hp → Prop} {E : Value → Shared → Prop} {lo hi : Int} {t u v : Tok} {tk : Nat} (I : Inv X pins σ H s) (h1 : -(2 ^ 62) ≤ lo) (h2 : lo < 2 ^ 62) (h3 : -(2 ^ 62) ≤ hi) (h4 : hi < 2 ^ 62)
    (q : R (Itr lo (hi - lo).toNat) H) : wpAny (model X.prog X.w) X.A (pyIter (.ref s.heap.objs.size)) (PIE X pins σ tg R) E { s with heap := s.heap.push { cls := .type "range", data := .fields #[.int lo t, .int hi u, .int 1 v] }, toks := tk } := by
  refine wpAny_pyIter_range (IsRange.new ..) (small_one h1 h2 h3 h4) ?_
  have I1 : Inv X pins σ H { s with heap := s.heap.push { cls := .type "range", data := .fields #[.int lo t, .int hi u, .int 1 v] }, toks := tk } := I.kept fun b o e => Heap.get?_push_of_some _ e
  refine ⟨(s.heap.push { cls := .type "range", data := .fields #[.int lo t, .int hi u, .int 1 v] }).objs.size, [(s.heap.push { cls := .type "range", data := .fields #[.int lo t, .int hi u, .int 1 v] }).objs.size], _, _, H, rfl,
    I1.kept (t' := tk) fun b o e => Heap.get?_push_of_some _ e, turn_range _ lo (hi - lo).toNat, ?_, fun b hb => ?_, q⟩
  · have e1 : lo + ((0 : Nat) : Int) * 1 = lo := by simp
    have e2 : (((hi - lo).toNat : Nat) : Int) - ((0 : Nat) : Int) = Builtin.Range.rangeSize lo hi 1 := by rw [rangeSize_one]; split <;> omega
    show IsRangeIter _ _ (lo + ((0 : Nat) : Int) * 1) ((((hi - lo).toNat : Nat) : Int) - ((0 : Nat) : Int)) 1
    rw [e1, e2]
    exact Heap.get?_push_size _ rfl
  · have e : b = (s.heap.push { cls := .type "range", data := .fields #[.int lo t, .int hi u, .int 1 v] }).objs.size := by simpa using hb
    subst e
    exact I1.fpOk (Nat.le_refl _) (I1.hok.fresh (Nat.le_refl _))
noncomputable def iRng1 (ta : TA) : TI := fun σ H R => ta σ H fun vs H1 => ∃ j : Int, vs = [.int j] ∧ -(2 ^ 62) ≤ j ∧ j < 2 ^ 62 ∧ R (Itr 0 j.toNat) H1
theorem pi_range1 {a : Expr} {ta : TA} {p pos : Pos} (hg : Gl X "range") (hm : X.mg "range" = none) (ha : PA X [a] ta) (hs : starEach [a] X.env = [(false, eval a X.env)] := by rfl) : PI X tg (.Call (.Name "range" p) [a] [] pos) (iRng1 ta) := by
  intro pins s σ H R I h
  refine Call_ (ld_blt I hg hm boot_range (PyProof.Rows.callWith_type1 (thn (ha pos pins s σ H _ I h) fun us s1 hpat => ?_) hs rfl))
  obtain ⟨vs, H1, I1, r1, q1⟩ := hpat
  obtain ⟨j, e, q1, q2, q⟩ := q1
  subst e
  cases r1 with
  | cons r rr =>
    cases rr
    obtain ⟨t, rfl⟩ := r
    exact call_range_1 (range_it I1 (by omega) (by omega) q1 q2 (by simpa using q))
/-! ### for -/
/-- W: the invariant by the turn and a measure; N: what the body is to reach -/
noncomputable def tFor (wi : TI) (g : TG) (tb : TS) : TS := fun D σ H => wi σ H fun J H1 => ∃ W : Nat → Nat → St → Hp → Prop, (∃ m, W 0 m σ H1) ∧ ∀ i m σ H, W i m σ H →
  (J.stop i H ∧ D.nx σ H) ∨ (J.go i H ∧ ∃ N : St → Hp → Prop, (∀ σ' H', N σ' H' → ∃ m', m' < m ∧ W (i + 1) m' σ' H') ∧ ∀ x H', J.yld i H x H' → g x σ H' fun σ2 H2 => tb { D with nx := N, ct := N, bk := D.nx } σ2 H2)
/-- the records at fp as they stand -/
noncomputable def pinsAt (fp : List Addr) (h : Heap) : List (Addr × Obj) := fp.filterMap fun b => (h.get? b).map fun o => (b, o)
theorem mem_pinsAt {fp : List Addr} {h : Heap} {b : Addr} {o : Obj} (hb : b ∈ fp) (e : h.get? b = some o) : (b, o) ∈ pinsAt fp h := List.mem_filterMap.mpr ⟨b, hb, by rw [e]; rfl⟩
theorem of_pinsAt {fp : List Addr} {h : Heap} {p : Addr × Obj} (hp : p ∈ pinsAt fp h) : p.1 ∈ fp ∧ h.get? p.1 = some p.2 := by
  obtain ⟨b, hb, e⟩ := List.mem_filterMap.mp hp
  cases q : h.get? b with
  | none => rw [q] at e; cases e
  | some o =>
    rw [q] at e
    have e' : (b, o) = p := Option.some.inj e
    subst e'
    exact ⟨hb, q⟩
theorem Inv.pinned {pins : List (Addr × Obj)} {σ : St} {H : Hp} {s : Shared} {fp : List Addr} (I : Inv X pins σ H s) (hf : ∀ b ∈ fp, FpOk X pins H b) (ho : ∀ b ∈ fp, ∃ o, s.heap.get? b = some o ∧ ∀ v, o.data ≠ .cell v) : Inv X (pins ++ pinsAt fp s.heap) σ H s :=
  I.pins_of fun p hp => (List.mem_append.mp hp).elim (fun z => I.pin p (List.mem_append_right _ z)) fun z => by
    obtain ⟨hb, e⟩ := of_pinsAt z
    obtain ⟨f0, f1, f2, _⟩ := hf p.1 hb
    obtain ⟨o, e', d⟩ := ho p.1 hb
    rw [e] at e'; cases e'
    exact ⟨e, f0, f1, f2, d⟩
theorem Inv.unpinned {pins pl : List (Addr × Obj)} {σ : St} {H : Hp} {s : Shared} (I : Inv X (pins ++ pl) σ H s) : Inv X pins σ H s := I.pins_of fun p hp => I.pin p (List.mem_append_right _ (List.mem_append_left _ hp))
theorem ps_for {iter : Expr} {body : List Stmt} {wi : TI} {g : TG} {tb : TS} {pos : Pos} (hp : PassesOwn (model X.prog X.w) X.A X.env X.xe) (hc : X.calm = true) (hi : PI X tg iter wi) (hg : PG X tg g) (hb : PSs X body tb)
    (hs : ∀ x, foldedSetIterable iter X.env x = pure x := by intro _; rfl) : PS X (.For tg iter body [] pos) (tFor wi g tb) := by
  intro pins s σ H D I h
  refine wpAny_For (thn (hi pins s σ H _ I h) fun v s1 h1 => thn h1 fun itv s2 h2 => ?_) hs
  obtain ⟨it, fp, tn, J, H2, e, I2, T, st2, f2, W, ⟨m0, w0⟩, turn⟩ := h2
  subst e
  -- what stays true of the iterator's objects through the loop
  have stat : ∀ {H' : Hp}, (∀ b ∈ fp, H' b = none) → ∀ b ∈ fp, FpOk X pins H' b := fun hn b hb => ⟨hn b hb, (f2 b hb).2⟩
  refine codeAny_forLoop_any (fun n s' => ∃ i σ' H', Inv X pins σ' H' s' ∧ tn i s'.heap ∧ (∀ b ∈ fp, H' b = none) ∧ W i n σ' H') ?_ m0 ⟨0, σ, H2, I2, st2, fun b hb => (f2 b hb).1, w0⟩
  rintro n s3 ⟨i, σ3, H3, I3, st3, fr3, w3⟩
  rcases turn i n σ3 H3 w3 with ⟨stop, qn⟩ | ⟨go, N, hN, step⟩
  · refine wpAny_passesOwn hp (thn (T.done X rfl rfl rfl hc i pins s3 σ3 H3 X.xe I3 (stat fr3) st3 stop) fun r s4 hpat => ?_)
    obtain ⟨hr, I4⟩ := hpat
    subst hr
    exact wpAny_execs_nil ⟨σ3, H3, I4, qn⟩
  · refine wpAny_passesOwn hp (thn (T.item X rfl rfl rfl hc i pins s3 σ3 H3 X.xe I3 (stat fr3) st3 go) fun r s4 hpat => ?_)
    obtain ⟨u, hr, h4⟩ := hpat
    subst hr
    refine wpAny_passesOwn hp (thn h4 fun _ s5 hpat => ?_)
    obtain ⟨x, H5, I5, r5, y5, st5, fr5⟩ := hpat
    have I5' := I5.pinned (stat fr5) (T.obj _ _ st5)
    refine wpAny_passesOwn hp (thn (hg _ s5 σ3 H5 x u _ I5' r5 (step x H5 y5)) fun _ s6 hpat => ?_)
    obtain ⟨σ6, H6, I6, q6⟩ := hpat
    refine wpAny_passesOwn hp (thn (hb _ s6 σ6 H6 _ I6 q6) fun f s7 q7 => ?_)
    have again : ∀ {σ7 : St} {H7 : Hp}, Inv X (pins ++ pinsAt fp s5.heap) σ7 H7 s7 → N σ7 H7 → ∃ m, m < n ∧ ∃ i σ' H', Inv X pins σ' H' s7 ∧ tn i s7.heap ∧ (∀ b ∈ fp, H' b = none) ∧ W i m σ' H' := fun {σ7 H7} I7 n7 => by
      obtain ⟨m', hm, w7⟩ := hN σ7 H7 n7
      refine ⟨m', hm, i + 1, σ7, H7, I7.unpinned, T.keep _ _ _ st5 fun b hb o e => (I7.pin (b, o) (List.mem_append_right _ (List.mem_append_right _ (mem_pinsAt hb e)))).1, fun b hb => ?_, w7⟩
      obtain ⟨o, e, d⟩ := T.obj _ _ st5 b hb
      exact (I7.pin (b, o) (List.mem_append_right _ (List.mem_append_right _ (mem_pinsAt hb e)))).2.1
    cases f with
    | next => obtain ⟨σ7, H7, I7, n7⟩ := q7; exact again I7 n7
    | cont => obtain ⟨σ7, H7, I7, n7⟩ := q7; exact again I7 n7
    | brk => obtain ⟨σ7, H7, I7, q7⟩ := q7; exact ⟨σ7, H7, I7.unpinned, q7⟩
    | ret v => obtain ⟨x7, σ7, H7, I7, r7, q7⟩ := q7; exact ⟨x7, σ7, H7, I7.unpinned, r7, q7⟩
end

/-! ### the forms one uses -/
/-- over a list that the body leaves as it is -/
theorem for_list {K : PySem.W.Frag} {a : Addr} {xs : List V} {g : TG} {tb : TS} {D : Ends} {σ : St} {H : Hp} (Pv : Nat → St → Hp → Prop) (h0 : Pv 0 σ H) (hl : ∀ i σ H, i ≤ xs.length → Pv i σ H → SqL K H a xs)
    (hs : ∀ i x σ H, xs[i]? = some x → Pv i σ H → g x σ H fun σ2 H2 => tb { D with nx := Pv (i + 1), ct := Pv (i + 1), bk := D.nx } σ2 H2) (hd : ∀ σ H, Pv xs.length σ H → D.nx σ H) :
    ∃ W : Nat → Nat → St → Hp → Prop, (∃ m, W 0 m σ H) ∧ ∀ i m σ H, W i m σ H →
      ((Itl K a).stop i H ∧ D.nx σ H) ∨ ((Itl K a).go i H ∧ ∃ N : St → Hp → Prop, (∀ σ' H', N σ' H' → ∃ m', m' < m ∧ W (i + 1) m' σ' H') ∧ ∀ x H', (Itl K a).yld i H x H' → g x σ H' fun σ2 H2 => tb { D with nx := N, ct := N, bk := D.nx } σ2 H2) := by
  refine ⟨fun i m σ H => m = xs.length - i ∧ i ≤ xs.length ∧ Pv i σ H, ⟨xs.length, by simp, Nat.zero_le _, h0⟩, ?_⟩
  rintro i m σ H ⟨rfl, hi, p⟩
  have q := hl i σ H hi p
  by_cases hlt : i < xs.length
  · refine .inr ⟨⟨xs, xs[i], q, by simp [hlt]⟩, Pv (i + 1), fun σ' H' p' => ⟨xs.length - (i + 1), by omega, rfl, hlt, p'⟩, fun x H' y => ?_⟩
    obtain ⟨e, y⟩ := y
    subst e
    exact hs i x σ _ (y xs q) p
  · have e : i = xs.length := by omega
    subst e
    exact .inl ⟨⟨xs, q, Nat.le_refl _⟩, hd σ H p⟩
theorem for_range {lo : Int} {n : Nat} {g : TG} {tb : TS} {D : Ends} {σ : St} {H : Hp} (Pv : Nat → St → Hp → Prop) (h0 : Pv 0 σ H)
    (hs : ∀ i σ H, i < n → Pv i σ H → g (.int (lo + i)) σ H fun σ2 H2 => tb { D with nx := Pv (i + 1), ct := Pv (i + 1), bk := D.nx } σ2 H2) (hd : ∀ σ H, Pv n σ H → D.nx σ H) :
    ∃ W : Nat → Nat → St → Hp → Prop, (∃ m, W 0 m σ H) ∧ ∀ i m σ H, W i m σ H →
      ((Itr lo n).stop i H ∧ D.nx σ H) ∨ ((Itr lo n).go i H ∧ ∃ N : St → Hp → Prop, (∀ σ' H', N σ' H' → ∃ m', m' < m ∧ W (i + 1) m' σ' H') ∧ ∀ x H', (Itr lo n).yld i H x H' → g x σ H' fun σ2 H2 => tb { D with nx := N, ct := N, bk := D.nx } σ2 H2) := by
  refine ⟨fun i m σ H => m = n - i ∧ i ≤ n ∧ Pv i σ H, ⟨n, by simp, Nat.zero_le _, h0⟩, ?_⟩
  rintro i m σ H ⟨rfl, hi, p⟩
  by_cases hlt : i < n
  · refine .inr ⟨hlt, Pv (i + 1), fun σ' H' p' => ⟨n - (i + 1), by omega, rfl, hlt, p'⟩, fun x H' y => ?_⟩
    obtain ⟨e, y⟩ := y
    subst e y
    exact hs i σ _ hlt p
  · have e : i = n := by omega
    subst e
    exact .inl ⟨Nat.le_refl _, hd σ H p⟩
/-- while, by a word and a measure of the state -/
theorem while_by {c : TT} {tb : TS} {D : Ends} {σ : St} {H : Hp} (Pv : St → Hp → Prop) (μ : St → Hp → Nat) (h0 : Pv σ H)
    (hs : ∀ σ H, Pv σ H → c σ H fun b H1 => if b = true then tb { D with nx := fun σ' H' => Pv σ' H' ∧ μ σ' H' < μ σ H, ct := fun σ' H' => Pv σ' H' ∧ μ σ' H' < μ σ H, bk := D.nx } σ H1 else D.nx σ H1)
    (mono : ∀ σ H Q Q', (∀ b H1, Q b H1 → Q' b H1) → c σ H Q → c σ H Q') : tWhile c tb D σ H := by
  refine ⟨fun m σ H => m = μ σ H ∧ Pv σ H, ⟨_, rfl, h0⟩, ?_⟩
  rintro m σ H ⟨rfl, p⟩
  refine mono σ H _ _ (fun b H1 q => ?_) (hs σ H p)
  cases b with
  | true => exact ⟨_, fun σ' H' ⟨p', l⟩ => ⟨_, l, rfl, p'⟩, q⟩
  | false => exact q
end L2

namespace L2
open PySem PySem.Spec PyProof.Rows

noncomputable abbrev R2 := V → V → Hp → VK → Prop
/-- a two-place operation on values: f is binaryOp op, inplaceOp op or compareOp op -/
noncomputable def OpR (X : Cx) (f : Value → Value → Sem Value) (r : R2) : Prop :=
  ∀ (pins : List (Addr × Obj)) (s : Shared) (σ : St) (H : Hp) (x y : V) (v u : Value) (Q : VK), Inv X pins σ H s → RelV x v → RelV y u → r x y H Q →
    wpAny (model X.prog X.w) X.A (f v u) (EP X pins σ Q) X.xe s
/-- a call of a value that is known (a builtin, a type) with values -/
noncomputable def CallR (X : Cx) (f : Value) (r : List V → Hp → VK → Prop) : Prop :=
  ∀ (pins : List (Addr × Obj)) (s : Shared) (σ : St) (H : Hp) (xs : List V) (us : List Value) (Q : VK), Inv X pins σ H s → Vals xs us → r xs H Q →
    wpAny (model X.prog X.w) X.A (call f us) (EP X pins σ Q) X.xe s
noncomputable def tOp (r : R2) (ta tb : TE) : TE := fun σ H Q => ta σ H fun x H1 => tb σ H1 fun y H2 => r x y H2 Q
/-- ints in, under C, and a value out -/
noncomputable def rI (C : Int → Int → Prop) (g : Int → Int → V) : R2 := fun x y H Q => ∃ i j, x = .int i ∧ y = .int j ∧ C i j ∧ Q (g i j) H
noncomputable def rI0 (g : Int → Int → V) : R2 := fun x y H Q => ∃ i j, x = .int i ∧ y = .int j ∧ Q (g i j) H
section
variable {X : Cx} {a b c : Expr} {ta tb tc : TE} {pos : Pos}

theorem binT (ha : PE X a ta) (hb : PE X b tb) {pins : List (Addr × Obj)} {s : Shared} {σ : St} {H : Hp} {R : V → V → Hp → Prop} (I : Inv X pins σ H s)
    (h : ta σ H fun x H1 => tb σ H1 fun y H2 => R x y H2) {Q : Value → Shared → Prop} {f : Value → Value → Sem Value}
    (hf : ∀ v u s2 x y H2, Inv X pins σ H2 s2 → RelV x v → RelV y u → R x y H2 → wpAny (model X.prog X.w) X.A (f v u) Q X.xe s2) :
    wpAny (model X.prog X.w) X.A (eval a X.env) (fun v s₁ => wpAny (model X.prog X.w) X.A (eval b X.env) (fun u s₂ => wpAny (model X.prog X.w) X.A (f v u) Q X.xe s₂) X.xe s₁) X.xe s := by
  refine thn (ha pins s σ H _ I h) fun v s1 hpat => ?_
  obtain ⟨x, H1, I1, r1, q1⟩ := hpat
  refine thn (hb pins s1 σ H1 _ I1 q1) fun u s2 hpat => ?_
  obtain ⟨y, H2, I2, r2, q2⟩ := hpat
  exact hf v u s2 x y H2 I2 r1 r2 q2

theorem pe_op {op : Operator} {r : R2} (ho : OpR X (binaryOp op) r) (ha : PE X a ta) (hb : PE X b tb) : PE X (.BinOp a op b pos) (tOp r ta tb) := by
  intro pins s σ H Q I h
  exact wpAny_BinOp (binT ha hb I h fun v u s2 x y H2 I2 rx ry q => ho pins s2 σ H2 x y v u Q I2 rx ry q)
/-! ### ints -/
theorem opI {f : Value → Value → Sem Value} {C : Int → Int → Prop} {g : Int → Int → Int}
    (rule : ∀ (i j : Int) (t u : Tok) (s : Shared) (Q : Value → Shared → Prop) (E : Value → Shared → Prop), C i j → Q (.int (g i j) s.toks) { s with toks := s.toks + 1 } → wpAny (model X.prog X.w) X.A (f (.int i t) (.int j u)) Q E s) :
    OpR X f (rI C fun i j => .int (g i j)) := by
  intro pins s σ H x y v u Q I rx ry h
  obtain ⟨i, j, rfl, rfl, hc, q⟩ := h
  obtain ⟨t, rfl⟩ := rx
  obtain ⟨t', rfl⟩ := ry
  exact rule i j t t' s _ _ hc ⟨.int (g i j), H, I.tok _, ⟨_, rfl⟩, q⟩
theorem opI0 {f : Value → Value → Sem Value} {g : Int → Int → Int}
    (rule : ∀ (i j : Int) (t u : Tok) (s : Shared) (Q : Value → Shared → Prop) (E : Value → Shared → Prop), Q (.int (g i j) s.toks) { s with toks := s.toks + 1 } → wpAny (model X.prog X.w) X.A (f (.int i t) (.int j u)) Q E s) :
    OpR X f (rI0 fun i j => .int (g i j)) := by
  intro pins s σ H x y v u Q I rx ry h
  obtain ⟨i, j, rfl, rfl, q⟩ := h
  obtain ⟨t, rfl⟩ := rx
  obtain ⟨t', rfl⟩ := ry
  exact rule i j t t' s _ _ ⟨.int (g i j), H, I.tok _, ⟨_, rfl⟩, q⟩
theorem opB0 {f : Value → Value → Sem Value} {g : Int → Int → Bool}
    (rule : ∀ (i j : Int) (t u : Tok) (s : Shared) (Q : Value → Shared → Prop) (E : Value → Shared → Prop), Q (.bool (g i j)) s → wpAny (model X.prog X.w) X.A (f (.int i t) (.int j u)) Q E s) :
    OpR X f (rI0 fun i j => .bl (g i j)) := by
  intro pins s σ H x y v u Q I rx ry h
  obtain ⟨i, j, rfl, rfl, q⟩ := h
  obtain ⟨t, rfl⟩ := rx
  obtain ⟨t', rfl⟩ := ry
  exact rule i j t t' s _ _ ⟨.bl (g i j), H, I, rfl, q⟩

noncomputable def CPow (i j : Int) : Prop := 0 ≤ j ∧ j ≤ 1000000 ∧ i.natAbs < 2 ^ 64
noncomputable def CMul (i j : Int) : Prop := (-(2 ^ 64) < i ∧ i < 2 ^ 64) ∨ (-(2 ^ 64) < j ∧ j < 2 ^ 64)
theorem CMul.ok {i j : Int} (h : CMul i j) : IntMulOk i j := by
  rcases h with ⟨h1, h2⟩ | ⟨h1, h2⟩
  · exact .of_left (intBits_le_64 h1 h2)
  · exact .of_right (intBits_le_64 h1 h2)
theorem two_pow_nn (k : Nat) : (0 : Int) ≤ 2 ^ k := by
  rw [two_pow_cast]
  exact Int.natCast_nonneg _

theorem op_add : OpR X (binaryOp .Add) (rI0 fun i j => .int (i + j)) := opI0 fun _ _ _ _ _ _ _ q => add_int q
theorem op_sub : OpR X (binaryOp .Sub) (rI0 fun i j => .int (i - j)) := opI0 fun _ _ _ _ _ _ _ q => sub_int q
theorem op_mul : OpR X (binaryOp .Mult) (rI CMul fun i j => .int (i * j)) := opI fun _ _ _ _ _ _ _ hc q => mul_int q hc.ok
/-- % by a positive divisor of any size -/
theorem op_mod : OpR X (binaryOp .Mod) (rI (fun _ j => 0 < j) fun i j => .int (i % j)) := opI fun i j _ _ _ _ _ hc q => by
  have h1 : (0 : Int) < j := hc
  exact mod_int' (by omega) (by rw [Int.fmod_eq_emod_of_nonneg i (by omega)]; exact q)
theorem op_shl : OpR X (binaryOp .LShift) (rI CPow fun i j => .int (i * 2 ^ j.toNat)) := opI fun _ _ _ _ _ _ _ hc q => lshift_int_small hc.1 hc.2.1 hc.2.2 q
theorem op_shr : OpR X (binaryOp .RShift) (rI (fun _ j => 0 ≤ j) fun i j => .int (i / 2 ^ j.toNat)) := opI fun i j _ _ _ _ _ hc q =>
  rshift_int hc (by rw [Int.fdiv_eq_ediv_of_nonneg i (two_pow_nn _)]; exact q)
theorem op_and : OpR X (binaryOp .BitAnd) (rI0 fun i j => .int (Builtin.bitAnd i j)) := opI0 fun _ _ _ _ _ _ _ q => and_int q
theorem op_xor : OpR X (binaryOp .BitXor) (rI0 fun i j => .int (Builtin.bitXor i j)) := opI0 fun _ _ _ _ _ _ _ q => xor_int q

/-! ### bools among ints: n += (a < b) -/
end

/-! ### comparisons -/
/-- the scalars that == tells apart as data does -/
noncomputable def scal : V → V → Bool
  | .non, .non => true | .non, .int _ => true | .int _, .non => true | .non, .bl _ => true | .bl _, .non => true | .non, .str _ => true | .str _, .non => true
  | .int _, .int _ => true | .bl _, .bl _ => true | .str _, .str _ => true | .byt _, .byt _ => true
  | .int _, .str _ => true | .str _, .int _ => true | .bl _, .str _ => true | .str _, .bl _ => true
  | _, _ => false
noncomputable def rEq : R2 := fun x y H Q => scal x y = true ∧ Q (.bl (decide (x = y))) H
noncomputable def rNe : R2 := fun x y H Q => scal x y = true ∧ Q (.bl (!decide (x = y))) H

theorem dec_int {i j : Int} : decide (V.int i = V.int j) = (i == j) := by
  rw [Bool.eq_iff_iff]
  simp
theorem dec_bl {i j : Bool} : decide (V.bl i = V.bl j) = (i == j) := by
  rw [Bool.eq_iff_iff]
  simp
theorem dec_str {i j : Str} : decide (V.str i = V.str j) = (i == j) := by
  rw [Bool.eq_iff_iff]
  simp
theorem dec_byt {i j : Array UInt8} : decide (V.byt i = V.byt j) = (i.toList == j.toList) := by
  rw [Bool.eq_iff_iff]
  cases i
  cases j
  simp

section
variable {X : Cx} {a b c : Expr} {ta tb tc : TE} {pos : Pos}
theorem fin_bl {pins : List (Addr × Obj)} {σ : St} {H : Hp} {s : Shared} {Q : VK} {k k' : Bool} (I : Inv X pins σ H s) (q : Q (.bl k) H) (e : k = k') : EP X pins σ Q (.bool k') s := by
  subst e
  exact ⟨.bl k, H, I, rfl, q⟩
theorem op_eq : OpR X (compareOp .Eq) rEq := by
  intro pins s σ H x y v u Q I rx ry h
  obtain ⟨hs, q⟩ := h
  cases x with
  | non =>
    cases rx
    cases y with
    | non => cases ry; exact PySem.EqNone.eq_none_none (fin_bl I q (by simp))
    | bl j => cases ry; exact PySem.EqNone.eq_none_bool (fin_bl I q (by simp))
    | int j => obtain ⟨t', rfl⟩ := ry; exact PySem.EqNone.eq_none_int (fin_bl I q (by simp))
    | str j => obtain ⟨t', rfl⟩ := ry; exact PySem.EqNone.eq_none_str (fin_bl I q (by simp))
    | _ => exact absurd (show false = true from hs) Bool.false_ne_true
  | bl i =>
    cases rx
    cases y with
    | non => cases ry; exact PySem.EqNone.eq_bool_none (fin_bl I q (by simp))
    | bl j => cases ry; exact eq_bool (fin_bl I q dec_bl)
    | str j => obtain ⟨t', rfl⟩ := ry; exact PySem.EqMixed.eq_bool_str (fin_bl I q (by simp))
    | _ => exact absurd (show false = true from hs) Bool.false_ne_true
  | int i =>
    obtain ⟨t, rfl⟩ := rx
    cases y with
    | non => cases ry; exact PySem.EqNone.eq_int_none (fin_bl I q (by simp))
    | int j => obtain ⟨t', rfl⟩ := ry; exact eq_int (fin_bl I q dec_int)
    | str j => obtain ⟨t', rfl⟩ := ry; exact PySem.EqMixed.eq_int_str (fin_bl I q (by simp))
    | _ => exact absurd (show false = true from hs) Bool.false_ne_true
  | str i =>
    obtain ⟨t, rfl⟩ := rx
    cases y with
    | non => cases ry; exact PySem.EqNone.eq_str_none (fin_bl I q (by simp))
    | bl j => cases ry; exact PySem.EqMixed.eq_str_bool (fin_bl I q (by simp))
    | int j => obtain ⟨t', rfl⟩ := ry; exact PySem.EqMixed.eq_str_int (fin_bl I q (by simp))
    | str j => obtain ⟨t', rfl⟩ := ry; exact eq_str (fin_bl I q dec_str)
    | _ => exact absurd (show false = true from hs) Bool.false_ne_true
  | byt i =>
    obtain ⟨t, rfl⟩ := rx
    cases y with
    | byt j => obtain ⟨t', rfl⟩ := ry; exact PySem.W.eq_bytes (fin_bl I q dec_byt)
    | _ => exact absurd (show false = true from hs) Bool.false_ne_true
  | _ => cases y <;> exact absurd (show false = true from hs) Bool.false_ne_true
theorem op_ne : OpR X (compareOp .NotEq) rNe := by
  intro pins s σ H x y v u Q I rx ry h
  obtain ⟨hs, q⟩ := h
  cases x with
  | non =>
    cases rx
    cases y with
    | non => cases ry; exact PySem.EqNone.ne_none_none (fin_bl I q (by simp))
    | bl j => cases ry; exact PySem.EqNone.ne_none_bool (fin_bl I q (by simp))
    | int j => obtain ⟨t', rfl⟩ := ry; exact PySem.EqNone.ne_none_int (fin_bl I q (by simp))
    | str j => obtain ⟨t', rfl⟩ := ry; exact PySem.EqNone.ne_none_str (fin_bl I q (by simp))
    | _ => exact absurd (show false = true from hs) Bool.false_ne_true
  | bl i =>
    cases rx
    cases y with
    | non => cases ry; exact PySem.EqNone.ne_bool_none (fin_bl I q (by simp))
    | bl j => cases ry; exact ne_bool (fin_bl I q (congrArg not dec_bl))
    | str j => obtain ⟨t', rfl⟩ := ry; exact PySem.EqMixed.ne_bool_str (fin_bl I q (by simp))
    | _ => exact absurd (show false = true from hs) Bool.false_ne_true
  | int i =>
    obtain ⟨t, rfl⟩ := rx
    cases y with
    | non => cases ry; exact PySem.EqNone.ne_int_none (fin_bl I q (by simp))
    | int j => obtain ⟨t', rfl⟩ := ry; exact ne_int (fin_bl I q (congrArg not dec_int))
    | str j => obtain ⟨t', rfl⟩ := ry; exact PySem.EqMixed.ne_int_str (fin_bl I q (by simp))
    | _ => exact absurd (show false = true from hs) Bool.false_ne_true
  | str i =>
    obtain ⟨t, rfl⟩ := rx
    cases y with
    | non => cases ry; exact PySem.EqNone.ne_str_none (fin_bl I q (by simp))
    | bl j => cases ry; exact PySem.EqMixed.ne_str_bool (fin_bl I q (by simp))
    | int j => obtain ⟨t', rfl⟩ := ry; exact PySem.EqMixed.ne_str_int (fin_bl I q (by simp))
    | str j => obtain ⟨t', rfl⟩ := ry; exact ne_str (fin_bl I q (congrArg not dec_str))
    | _ => exact absurd (show false = true from hs) Bool.false_ne_true
  | byt i =>
    obtain ⟨t, rfl⟩ := rx
    cases y with
    | byt j => obtain ⟨t', rfl⟩ := ry; exact PySem.W.ne_bytes (fin_bl I q (congrArg not dec_byt))
    | _ => exact absurd (show false = true from hs) Bool.false_ne_true
  | _ => cases y <;> exact absurd (show false = true from hs) Bool.false_ne_true

theorem op_lt : OpR X (compareOp .Lt) (rI0 fun i j => .bl (decide (i < j))) := opB0 fun _ _ _ _ _ _ _ q => lt_int q
theorem op_gt : OpR X (compareOp .Gt) (rI0 fun i j => .bl (decide (j < i))) := opB0 fun _ _ _ _ _ _ _ q => gt_int q
theorem op_ge : OpR X (compareOp .GtE) (rI0 fun i j => .bl (decide (j ≤ i))) := opB0 fun _ _ _ _ _ _ _ q => ge_int q
theorem nomark (b : Expr) {op : CmpOp} (h : op ≠ .In := by decide) (h2 : op ≠ .NotIn := by decide) : behindInMarks op b = false := by
  have e1 : (op == CmpOp.In) = false := by cases op <;> first | rfl | exact absurd rfl h
  have e2 : (op == CmpOp.NotIn) = false := by cases op <;> first | rfl | exact absurd rfl h2
  cases b <;> simp [behindInMarks, e1, e2]
/-- a comparison as a value; hm: nomark b, or (for in, not in) by with_unfolding_all rfl -/
theorem pe_cmpR {op : CmpOp} {r : R2} (ho : OpR X (compareOp op) r) (ha : PE X a ta) (hb : PE X b tb) (hm : behindInMarks op b = false) : PE X (.Compare a [op] [b] pos) (tOp r ta tb) := by
  intro pins s σ H Q I h
  exact wpAny_Compare1 (binT ha hb I h fun v u s2 x y H2 I2 rx ry q => ho pins s2 σ H2 x y v u Q I2 rx ry q) hm
/-- a reading of a value as a test -/
noncomputable def tTest (t : TE) : TT := fun σ H Q => t σ H fun x H' => ∃ k, x = .bl k ∧ Q k H'
theorem pt_cmpR {op : CmpOp} {r : R2} (ho : OpR X (compareOp op) r) (ha : PE X a ta) (hb : PE X b tb) (hm : behindInMarks op b = false) : PT X (.Compare a [op] [b] pos) (tTest (tOp r ta tb)) := by
  intro pins s σ H Q I h
  refine wpAny_isTrue_Compare1 (thn (ha pins s σ H _ I h) fun v s1 ⟨x, H1, I1, r1, q1⟩ => thn (hb pins s1 σ H1 _ I1 q1) fun u s2 ⟨y, H2, I2, r2, q2⟩ =>
    thn (ho pins s2 σ H2 x y v u _ I2 r1 r2 q2) fun c s3 ⟨z, H3, I3, r3, k, e, q3⟩ => ?_) hm
  subst e
  cases r3
  exact wpAny_truthy_bool ⟨H3, I3, q3⟩
/-! ### truth -/
theorem line63 : (sizeLine : Nat) < 2 ^ 63 := by rw [sizeLine_eq]; decide
/-! ### strs and bytes -/
/-! ### scalar builtins, by CallR -/
theorem vals1 {x : V} {us : List Value} (r : Vals [x] us) : ∃ u, us = [u] ∧ RelV x u := by
  cases r with
  | cons r1 r2 => cases r2; exact ⟨_, rfl, r1⟩
theorem vals2 {x y : V} {us : List Value} (r : Vals [x, y] us) : ∃ u w', us = [u, w'] ∧ RelV x u ∧ RelV y w' := by
  cases r with
  | cons r1 r2 =>
    cases r2 with
    | cons r3 r4 => cases r4; exact ⟨_, _, rfl, r1, r3⟩
theorem call_max2 (hc : X.calm = true) : CallR X (.builtin "max") (fun xs H Q => ∃ i j, xs = [.int i, .int j] ∧ Q (.int (if j > i then j else i)) H) := by
  intro pins s σ H xs us Q I r h
  obtain ⟨i, j, rfl, q⟩ := h
  obtain ⟨u, w', rfl, ⟨t, rfl⟩, ⟨t', rfl⟩⟩ := vals2 r
  refine max_two_ints (I.ok.hd hc) fun h' tk k => ⟨_, H, I.kept k, ?_, q⟩
  by_cases hj : j > i
  · rw [if_pos hj, if_pos hj]; exact ⟨_, rfl⟩
  · rw [if_neg hj, if_neg hj]; exact ⟨_, rfl⟩
end
end L2

namespace L2
open PySem PySem.Spec PyProof.Rows

/-! ### an instance, its attributes a map -/
structure ObjM (h : Heap) (x dx C : Addr) (mA : Str → Option Value) : Prop where
  obj : h.get? x = some (PySem.W.instObj C dx)
  ns : h.Ns1 dx mA
  ne : dx ≠ x

theorem lookIn_ns {h : Heap} {dx : Addr} {mA : Str → Option Value} (n : h.Ns1 dx mA) : ∃ od, h.get? dx = some od ∧ ∀ name, PySem.W.lookIn name od = some (mA name) := by
  obtain ⟨o, es, ep, ho, hd, hk, _, hm⟩ := n
  refine ⟨o, ho, fun name => ?_⟩
  have e := hm name
  unfold nsFind findBy at e
  rw [← Array.find?_toList] at e
  unfold PySem.W.lookIn
  rw [hd]
  dsimp only
  split
  · rename_i y q
    rw [q] at e
    exact congrArg some e
  · rename_i q
    rw [q] at e
    have a : es.toList.any (·.refKey) = false := by
      rw [List.any_eq_false]
      intro y hy
      obtain ⟨z, t, hkey⟩ := hk y (Array.mem_toList_iff.mp hy)
      simp [DictEntry.refKey, hkey]
    have a' : ¬ es.toList.any (·.refKey) = true := by rw [a]; exact Bool.false_ne_true
    rw [if_neg a']
    exact congrArg some e

theorem ObjM.look {h : Heap} {x dx C : Addr} {mA : Str → Option Value} (I : ObjM h x dx C mA) : ∃ od, PySem.W.InstAt h x (PySem.W.instObj C dx) C (some od) ∧ ∀ name, PySem.W.lookIn name od = some (mA name) :=
  let ⟨od, ho, hl⟩ := lookIn_ns I.ns
  ⟨od, ⟨I.obj, rfl, rfl, ho⟩, hl⟩

section
variable {prog : Program} {w : World} {A : Around} {E : Value → Shared → Prop} {s : Shared} {K : PySem.W.Frag} {x dx C f : Addr} {mA : Str → Option Value} {name : Str} {v : Value}

theorem get_map {expr : Bool} {Q : Value → Shared → Prop} (X : K.In s.heap) (I : ObjM s.heap x dx C mA) (hg : PySem.W.plainGet K C name = true) (hh : PySem.W.hasDictIn K C = true)
    (ha : PySem.W.findIn K (.ref C) name = some none) (hv : mA name = some v) (hv' : PySem.W.handedIn v = true) (h : Q v { s with toks := s.toks + 1 }) :
    wpAny (model prog w) A (getAttr (.ref x) name expr) Q E s := by
  obtain ⟨od, J, hl⟩ := I.look
  exact PySem.W.get_value X J (PySem.W.plainGet_of hg).1 (PySem.W.findObj_own hh ha rfl (by rw [hl, hv])) hv' h

theorem get_meth {pl : Sem Bool} {Q : Value × List Value → Shared → Prop} (X : K.In s.heap) (I : ObjM s.heap x dx C mA) (hg : PySem.W.plainGet K C name = true)
    (hf : PySem.W.findIn K (.ref C) name = some (some (.ref f))) (ht : PySem.W.isFn K (.ref f) = true) (hv : mA name = none) (h : Q (.ref f, [.ref x]) s) :
    wpAny (model prog w) A (getMethod (.ref x) name pl) Q E s := by
  obtain ⟨od, J, hl⟩ := I.look
  exact PySem.W.method_fn X J (PySem.W.plainGet_of hg).1 (PySem.W.plainGet_of hg).2 hf (beq_iff_eq.mp ht) (by show (PySem.W.lookIn name od).map (·.isSome) = some false; rw [hl, hv]; rfl) h

theorem set_map {ns : List Str} {Q : Unit → Shared → Prop} (X : K.In s.heap) (I : ObjM s.heap x dx C mA)
    (hs : PySem.W.findIn K (.ref C) "__setattr__" = some (some (.builtin "object.__setattr__"))) (hp : PySem.W.plainOver K C = true) (ht : PySem.W.takerIn K C name = some none) (hh : PySem.W.hasDictIn K C = true)
    (hw : PySem.Within mA ns) (hsz : ns.length ≤ sizeLine)
    (h : ∀ h', ObjM h' x dx C (fun y => if y = name then some v else mA y) → Heap.SameBut dx s.heap h' → Q () { s with heap := h', toks := s.toks + 2 }) :
    wpAny (model prog w) A (setAttr (.ref x) name v) Q E s := by
  obtain ⟨od, J, hl⟩ := I.look
  refine PySem.W.set_plain X J hs (PySem.W.osa_open (s := { s with toks := s.toks + 1 }) (r := none) X J hp ht fun b => ?_)
  obtain ⟨cd, hc, hd'⟩ := PySem.W.any_some hh
  have hx : s.heap.get? x = some ⟨.ref C, some dx, .plain, #[]⟩ := I.obj
  refine wpAny_bind (wpAny_pure (wpAny_bind (wpAny_bind (wpAny_loadPart hx (wpAny_bind (PySem.W.Looks.here (s := { s with toks := s.toks + 1 }) (PySem.W.looks_clsIn X hc) ?_))))))
  rw [hd']
  refine wpAny_pure (a := some dx) (wpAny_bind (wpAny_pure (wpAny_bind ?_)))
  refine wpAny_nsSet1 (s := { s with toks := s.toks + 1 }) I.ns fun h' hn2 hs2 => ?_
  obtain ⟨oD, esD, epD, hoD, hdD, hcD⟩ := hn2.count (PySem.Within.cons name v hw)
  refine wpAny_bind (wpAny_lookBehind hoD (by rw [hdD]; exact pastItsLine_dict (Nat.le_trans hcD (by rw [List.length_cons]; omega))) ?_)
  exact wpAny_pure (h _ ⟨(hs2.2 _ (Ne.symm I.ne)).trans I.obj, hn2, I.ne⟩ hs2)

/-- C(..): the dict at the heap's end, the instance behind it; then its __init__ -/
theorem make_map {R : Result → Shared → Prop} {vs : List Value} {kw : List (Str × Value)} (X : K.In s.heap) (hm : PySem.W.makesIn K C = true)
    (hi : PySem.W.findIn K (.ref C) "__init__" = some (some (.ref f))) (hf : PySem.W.typeIn K (.ref f) = some (.type "function"))
    (h : codeAny (model prog w) (A.under (.builtin "type.__call__" ⟨.ref C :: vs, kw⟩)) (.call (.ref f) ⟨.ref (s.heap.objs.size + 1) :: vs, kw⟩) (PySem.W.InitBack (s.heap.objs.size + 1) R)
      { s with heap := (s.heap.push PySem.W.emptyDict).push (PySem.W.instObj C s.heap.objs.size) }) :
    codeAny (model prog w) A (.call (.ref C) ⟨vs, kw⟩) R s := by
  obtain ⟨hh, g, d, t, os⟩ := s
  exact PySem.W.make_core (PySem.W.makes_of X hm) (PySem.W.looks_findIn X hi) (fun self => PySem.W.bind_fn X self hf) (.inl rfl) h
end

/-! ### the attributes as a list of pairs -/
noncomputable def putF (f : Str) (v : V) : List (Str × V) → List (Str × V)
  | [] => [(f, v)]
  | (g, x) :: r => if g = f then (g, v) :: r else (g, x) :: putF f v r
theorem lookup_putF (f g : Str) (v : V) : ∀ fs : List (Str × V), (putF f v fs).lookup g = if g = f then some v else fs.lookup g
  | [] => by
    show List.lookup g [(f, v)] = _
    by_cases h : g = f
    · have hb : (g == f) = true := beq_iff_eq.mpr h
      simp only [List.lookup, hb, if_pos h]
    · have hb : (g == f) = false := beq_eq_false_iff_ne.mpr h
      simp only [List.lookup, hb, if_neg h]
  | (k, x) :: r => by
    have ih := lookup_putF f g v r
    rw [show putF f v ((k, x) :: r) = (if k = f then (k, v) :: r else (k, x) :: putF f v r) from rfl]
    by_cases hk : k = f
    · rw [if_pos hk]
      by_cases h : g = k
      · have hb : (g == k) = true := beq_iff_eq.mpr h
        simp only [List.lookup, hb, if_pos (h.trans hk)]
      · have hb : (g == k) = false := beq_eq_false_iff_ne.mpr h
        simp only [List.lookup, hb, if_neg (fun e : g = f => h (e.trans hk.symm))]
    · rw [if_neg hk]
      by_cases h : g = k
      · have hb : (g == k) = true := beq_iff_eq.mpr h
        simp only [List.lookup, hb, if_neg (fun e : g = f => hk (h.symm.trans e))]
      · have hb : (g == k) = false := beq_eq_false_iff_ne.mpr h
        simp only [List.lookup, hb]
        exact ih
theorem keys_putF (f : Str) (v : V) : ∀ fs : List (Str × V), f ∈ (putF f v fs).map (·.1) ∧ ∀ g, g ∈ fs.map (·.1) → g ∈ (putF f v fs).map (·.1)
  | [] => ⟨by simp [putF], fun g h => by simp at h⟩
  | (k, x) :: r => by
    obtain ⟨i1, i2⟩ := keys_putF f v r
    rw [show putF f v ((k, x) :: r) = (if k = f then (k, v) :: r else (k, x) :: putF f v r) from rfl]
    by_cases hk : k = f
    · rw [if_pos hk]
      subst hk
      exact ⟨by simp, fun g h => by simpa using h⟩
    · rw [if_neg hk]
      refine ⟨?_, fun g h => ?_⟩
      · rw [List.map_cons]
        exact List.mem_cons_of_mem _ i1
      · rw [List.map_cons] at h ⊢
        rcases List.mem_cons.mp h with e | e
        · exact List.mem_cons.mpr (.inl e)
        · exact List.mem_cons_of_mem _ (i2 g e)
theorem length_putF (f : Str) (v : V) : ∀ fs : List (Str × V), (putF f v fs).length ≤ fs.length + 1
  | [] => by simp [putF]
  | (k, x) :: r => by
    have ih := length_putF f v r
    rw [show putF f v ((k, x) :: r) = (if k = f then (k, v) :: r else (k, x) :: putF f v r) from rfl]
    by_cases hk : k = f
    · rw [if_pos hk, List.length_cons, List.length_cons]; omega
    · rw [if_neg hk, List.length_cons, List.length_cons]; omega

theorem RelO.some_of {v : V} {o : Option Value} (r : RelO (some v) o) : ∃ u, o = some u ∧ RelV v u := by
  cases o with
  | none => exact (show False from r).elim
  | some u => exact ⟨u, rfl, r⟩
theorem RelO.none_of {o : Option Value} (r : RelO none o) : o = none := by
  cases o with
  | none => rfl
  | some u => exact (show False from r).elim
theorem handed_of {v : V} {u : Value} (r : RelV v u) : PySem.W.handedIn u = true := by
  cases v with
  | non => cases (show u = Value.none from r); rfl
  | bl b => cases (show u = Value.bool b from r); rfl
  | int i => obtain ⟨t, e⟩ := (show ∃ t, u = Value.int i t from r); cases e; rfl
  | str x => obtain ⟨t, e⟩ := (show ∃ t, u = Value.str x t from r); cases e; rfl
  | byt b => obtain ⟨t, e⟩ := (show ∃ t, u = Value.bytes b t from r); cases e; rfl
  | flt b => obtain ⟨t, e⟩ := (show ∃ t, u = Value.float b t from r); cases e; rfl
  | ref a => cases (show u = Value.ref a from r); rfl
  | ty n => cases (show u = Value.type n from r); rfl

section
variable {P : Program} {w : World} {H H' : Hp} {h h' : Heap} {a C dx : Addr} {fs fs' : List (Str × V)}
theorem ins_get (hok : HOk P w H h) (e : H a = some (.ins C dx fs)) : ∃ mA, ObjM h a dx C mA ∧ (∀ f, RelO (fs.lookup f) (mA f)) ∧ PySem.Within mA (fs.map (·.1)) ∧ fs.length ≤ 1000 ∧ H dx = some (.own a) := by
  obtain ⟨d, z, ne, ob, mA, n, r, q⟩ := (show ObjOk P w H h a (.ins C dx fs) from hok a _ e)
  exact ⟨mA, ⟨ob, n, ne⟩, r, q, z, d⟩
end

/-! ### what of the text a class must have -/
structure Cls (K : PySem.W.Frag) (C : Addr) : Prop where
  pg : PySem.W.plainGet K C Str.empty = true
  hd : PySem.W.hasDictIn K C = true
  po : PySem.W.plainOver K C = true
  sa : PySem.W.findIn K (.ref C) "__setattr__" = some (some (.builtin "object.__setattr__"))
theorem Cls.get {K : PySem.W.Frag} {C : Addr} (c : Cls K C) (f : Str) : PySem.W.plainGet K C f = true := c.pg
/-- no class of it has the name -/
noncomputable def NoAttr (K : PySem.W.Frag) (C : Addr) (f : Str) : Prop := PySem.W.findIn K (.ref C) f = some none
theorem NoAttr.taker {K : PySem.W.Frag} {C : Addr} {f : Str} (n : NoAttr K C f) : PySem.W.takerIn K C f = some none := by
  unfold PySem.W.takerIn
  rw [show PySem.W.findIn K (.ref C) f = some none from n]
  rfl
/-- a method: a plain def of the class or of one above it -/
structure Meth (K : PySem.W.Frag) (C : Addr) (m : Str) (f : Addr) : Prop where
  at_ : PySem.W.findIn K (.ref C) m = some (some (.ref f))
  fn : PySem.W.isFn K (.ref f) = true
  kp : PySem.W.keepIn K (.ref f) = true

section
variable {X : Cx} {pins : List (Addr × Obj)} {σ : St} {H : Hp} {s : Shared} {a C dx : Addr} {fs : List (Str × V)} {f : Str} {v : V} {A : Around} {E : Value → Shared → Prop}

theorem getattr_ok {b : Bool} {Q : Value → Shared → Prop} (I : Inv X pins σ H s) (e : H a = some (.ins C dx fs)) (c : Cls X.K C) (n : NoAttr X.K C f) (l : fs.lookup f = some v)
    (h : ∀ u s', Inv X pins σ H s' → RelV v u → Q u s') : wpAny (model X.prog X.w) A (getAttr (.ref a) f b) Q E s := by
  obtain ⟨mA, O, r, _, _, _⟩ := ins_get I.hok e
  obtain ⟨u, hu, ru⟩ := RelO.some_of (v := v) (o := mA f) (by rw [← l]; exact r f)
  exact get_map I.kIn O (c.get f) c.hd n hu (handed_of ru) (h u _ (I.tok _) ru)

theorem getmeth_ok {m : Str} {g : Addr} {pl : Sem Bool} {Q : Value × List Value → Shared → Prop} (I : Inv X pins σ H s) (e : H a = some (.ins C dx fs)) (c : Cls X.K C) (k : Meth X.K C m g) (l : fs.lookup m = none)
    (h : Q (.ref g, [.ref a]) s) : wpAny (model X.prog X.w) A (getMethod (.ref a) m pl) Q E s := by
  obtain ⟨mA, O, r, _, _, _⟩ := ins_get I.hok e
  have hn : mA m = none := RelO.none_of (by rw [← l]; exact r m)
  exact get_meth I.kIn O (c.get m) k.at_ k.fn hn h

theorem setattr_ok {y : V} {u : Value} {Q : Unit → Shared → Prop} (I : Inv X pins σ H s) (e : H a = some (.ins C dx fs)) (c : Cls X.K C) (n : NoAttr X.K C f) (hl : fs.length < 1000) (ry : RelV y u)
    (h : ∀ s', Inv X pins σ (upd H a (.ins C dx (putF f y fs))) s' → Q () s') : wpAny (model X.prog X.w) A (setAttr (.ref a) f u) Q E s := by
  obtain ⟨mA, O, r, wi, _, ho⟩ := ins_get I.hok e
  have hz : (fs.map (·.1)).length ≤ sizeLine := by rw [List.length_map, sizeLine_eq]; omega
  refine set_map I.kIn O c.sa c.po n.taker c.hd wi hz fun h' O' sb => h _ ?_
  have hd : ∃ o, h'.get? dx = some o := let ⟨o, _, _, e', _⟩ := O'.ns; ⟨o, e'⟩
  refine I.write (x := a) (e := dx) (by rw [e]; exact True.intro) (.inr ho) (fun b q hb z => (sb.2 b hb).trans z) hd ?_
  refine ⟨by rw [upd_ne O.ne]; exact ho, ?_, O.ne, O'.obj, _, O'.ns, fun g => ?_, fun g hg => ?_⟩
  · have := length_putF f y fs; omega
  · show RelO ((putF f y fs).lookup g) (if g = f then some u else mA g)
    rw [lookup_putF]
    by_cases q : g = f
    · rw [if_pos q, if_pos q]; exact ry
    · rw [if_neg q, if_neg q]; exact r g
  · by_cases q : g = f
    · rw [q]; exact (keys_putF f y fs).1
    · refine (keys_putF f y fs).2 g (wi g fun z => hg ?_)
      show (if g = f then some u else mA g) = none
      rw [if_neg q]; exact z

/-- a new instance, tracked, without attributes -/
theorem Inv.made (I : Inv X pins σ H s) : Inv X pins σ (upd (upd H s.heap.objs.size (.own (s.heap.objs.size + 1))) (s.heap.objs.size + 1) (.ins C s.heap.objs.size []))
    { s with heap := (s.heap.push PySem.W.emptyDict).push (PySem.W.instObj C s.heap.objs.size) } := by
  have e1 : (s.heap.push PySem.W.emptyDict).get? s.heap.objs.size = some PySem.W.emptyDict := Heap.get?_push_size s.heap rfl
  have e2 : ((s.heap.push PySem.W.emptyDict).push (PySem.W.instObj C s.heap.objs.size)).get? (s.heap.objs.size + 1) = some (PySem.W.instObj C s.heap.objs.size) := by
    have := Heap.get?_push_size (s.heap.push PySem.W.emptyDict) (o := PySem.W.instObj C s.heap.objs.size) rfl
    rwa [Heap.size_push] at this
  have e3 : (s.heap.push PySem.W.emptyDict).Ns s.heap.objs.size (fun _ => none) := ⟨PySem.W.emptyDict, #[], _, e1, rfl, (fun e he => absurd he (by simp)), fun _ => rfl⟩
  have I1 := I.laid (a := s.heap.objs.size) (o := .own (s.heap.objs.size + 1)) (h' := s.heap.push PySem.W.emptyDict) (t' := s.toks) (fun b u q => Heap.get?_push_of_some _ q) (Nat.le_refl _) ⟨_, e1⟩
  refine I1.laid (a := s.heap.objs.size + 1) (o := .ins C s.heap.objs.size []) (t' := s.toks) (fun b u q => Heap.get?_push_of_some _ q) (Nat.le_of_eq (Heap.size_push _ _)) ?_
  have ne : s.heap.objs.size ≠ s.heap.objs.size + 1 := Nat.ne_of_lt (Nat.lt_succ_self _)
  refine ⟨by rw [upd_ne ne, upd_same], Nat.zero_le _, ne, e2, fun _ => none, (Heap.Ns1.of_empty e3).at fun o q => Heap.get?_push_of_some _ q, fun _ => True.intro, fun y hy => absurd rfl hy⟩

/-- e.f where nothing but the object is asked: through attributeBase (super) and the last hold -/
theorem attr_of {prog : Program} {w : World} {env : Env} {e : Expr} {f : Str} {pos : Pos} {s : Shared} {Q : Value → Shared → Prop} (hb : attributeBase e f env (eval e env) = eval e env)
    (h : wpAny (model prog w) A (eval e env) (fun o s₁ => wpAny (model prog w) A (getAttr o f true) Q E s₁) E s) : wpAny (model prog w) A (eval (.Attribute e f pos) env) Q E s :=
  Attribute_any_ h (by rw [arm_eval_Attribute, hb])
end

/-! ### readings and rules -/
/-- e.f, an attribute of the instance -/
noncomputable def tFld (K : PySem.W.Frag) (ta : TE) (f : Str) : TE := fun σ H Q => ta σ H fun x H1 => ∃ a C dx fs v, x = .ref a ∧ H1 a = some (.ins C dx fs) ∧ Cls K C ∧ NoAttr K C f ∧ fs.lookup f = some v ∧ Q v H1
/-- e.f = value -/
noncomputable def sFld (K : PySem.W.Frag) (ta tv : TE) (f : Str) : TS := fun D σ H => tv σ H fun y H1 => ta σ H1 fun x H2 => ∃ a C dx fs, x = .ref a ∧ H2 a = some (.ins C dx fs) ∧ Cls K C ∧ NoAttr K C f ∧ fs.length < 1000 ∧
  D.nx σ (upd H2 a (.ins C dx (putF f y fs)))
/-- an augmented operator on two values -/
noncomputable def InOp (X : Cx) (op : Operator) (rd : V → V → Hp → VK → Prop) : Prop :=
  ∀ (pins : List (Addr × Obj)) (s : Shared) (σ : St) (H : Hp) (x y : V) (u v : Value) (Q : VK), Inv X pins σ H s → RelV x u → RelV y v → rd x y H Q → wpAny (model X.prog X.w) X.A (inplaceOp op u v) (EP X pins σ Q) X.xe s
/-- e.f op= value -/
noncomputable def sFldAug (K : PySem.W.Frag) (ta tv : TE) (rd : V → V → Hp → VK → Prop) (f : Str) : TS := fun D σ H => ta σ H fun x H1 => ∃ a C dx fs v, x = .ref a ∧ H1 a = some (.ins C dx fs) ∧ Cls K C ∧ NoAttr K C f ∧ fs.lookup f = some v ∧
  tv σ H1 fun y H2 => rd v y H2 fun z H3 => ∃ dx' fs', H3 a = some (.ins C dx' fs') ∧ fs'.length < 1000 ∧ D.nx σ (upd H3 a (.ins C dx' (putF f z fs')))

section
variable {X : Cx} {o e value : Expr} {f : Str} {pos pos' tpos : Pos} {ta tv : TE}
theorem pe_fld (he : PE X e ta) (hb : attributeBase e f X.env (eval e X.env) = eval e X.env) : PE X (.Attribute e f pos) (tFld X.K ta f) := by
  intro pins s σ H Q I h
  refine attr_of hb (thn (he pins s σ H _ I h) fun u s1 hpat => ?_)
  obtain ⟨x, H1, I1, rx, a, C, dx, fs, v, ex, ea, c, n, l, q⟩ := hpat
  subst ex
  obtain rfl : u = Value.ref a := rx
  exact getattr_ok I1 ea c n l fun u' s2 I2 ru => ⟨v, H1, I2, ru, q⟩
theorem ps_fld (ha : PE X o ta) (hv : PE X value tv) (hs : swapsWith value (some (.Attribute o f pos')) pos.line X.env = pure false) : PS X (.Assign [.Attribute o f pos'] value pos) (sFld X.K ta tv f) := by
  intro pins s σ H D I h
  refine plainObj_wpAny_Assign_Attribute (thn (hv pins s σ H _ I h) fun u s1 ⟨y, H1, I1, ry, q⟩ => thn (ha pins s1 σ H1 _ I1 q) fun ov s2 hpat => ?_) hs
  obtain ⟨x, H2, I2, rx, a, C, dx, fs, ex, ea, c, n, l, q2⟩ := hpat
  subst ex
  obtain rfl : ov = Value.ref a := rx
  exact setattr_ok I2 ea c n l ry fun s3 I3 => ⟨σ, _, I3, q2⟩
theorem ps_fldaug {op : Operator} {rd : V → V → Hp → VK → Prop} (ha : PE X o ta) (hv : PE X value tv) (hop : InOp X op rd) : PS X (.AugAssign (.Attribute o f tpos) op value pos) (sFldAug X.K ta tv rd f) := by
  intro pins s σ H D I h
  refine wpAny_AugAssign_AttributeAny (thn (ha pins s σ H _ I h) fun ov s1 hpat => ?_)
  obtain ⟨x, H1, I1, rx, a, C, dx, fs, v, ex, ea, c, n, l, q⟩ := hpat
  subst ex
  obtain rfl : ov = Value.ref a := rx
  refine getattr_ok I1 ea c n l fun u s2 I2 ru => thn (hv pins s2 σ H1 _ I2 q) fun w3 s3 ⟨y, H2, I3, ry, q3⟩ => thn (hop pins s3 σ H2 v y u w3 _ I3 ru ry q3) fun w4 s4 hpat => ?_
  obtain ⟨z, H3, I4, rz, dx', fs', ea', l', q4⟩ := hpat
  exact setattr_ok I4 ea' c n l' rz fun s5 I5 => ⟨σ, _, I5, q4⟩
noncomputable def rAdd : V → V → Hp → VK → Prop := fun x y H Q => ∃ i j, x = .int i ∧ y = .int j ∧ Q (.int (i + j)) H
theorem in_add : InOp X .Add rAdd := by
  rintro pins s σ H x y u v Q I rx ry ⟨i, j, rfl, rfl, q⟩
  obtain ⟨t, rfl⟩ := (show ∃ t, u = Value.int i t from rx)
  obtain ⟨t', rfl⟩ := (show ∃ t', v = Value.int j t' from ry)
  exact PyProof.Rows.iadd_int ⟨.int (i + j), H, I.tok _, ⟨_, rfl⟩, q⟩
end

/-! ### isinstance -/
section
variable {X : Cx} {pins : List (Addr × Obj)} {σ : St} {H : Hp} {s : Shared} {A : Around} {E : Value → Shared → Prop} {Q : Value → Shared → Prop} {c : Value} {b : Bool}
end
end L2

namespace L2
open PySem PySem.Spec PyProof.Rows

/-! ### room -/
structure Room (k : Nat) (A : Around) : Prop where
  hd : A.handled = none
  dp : A.depth + 3 * k + 5 < recursionLimit
  un : A.units + 16 * k + 200 < cLine
theorem Room.mono {j k : Nat} {A : Around} (r : Room k A) (h : j ≤ k) : Room j A := ⟨r.hd, by have := r.dp; omega, by have := r.un; omega⟩
theorem Room.deeper {k : Nat} {A : Around} (r : Room (k + 1) A) (env : Env) : Room k (A.deeper env) :=
  ⟨r.hd, by have := r.dp; show A.depth + 1 + 3 * k + 5 < _; omega, by have := r.un; show A.units + 3 + 16 * k + 200 < _; omega⟩
theorem make_depth {A : Around} {C : Addr} {us : List Value} {kw : List (Str × Value)} : (A.under (.builtin "type.__call__" ⟨.ref C :: us, kw⟩)).depth = A.depth + 1 := by
  first | rfl | simp [Around.under, Code.weight, Code.isCreation, Code.isGuard, Code.isCaller, Code.frames, Code.isFrame, guardIds]
theorem make_units {A : Around} {C : Addr} {us : List Value} {kw : List (Str × Value)} : (A.under (.builtin "type.__call__" ⟨.ref C :: us, kw⟩)).units = A.units + 1 := by
  first | rfl | simp [Around.under, Code.cUnits, Code.frames, Code.isFrame]
theorem Room.make {k : Nat} {A : Around} (r : Room (k + 1) A) (C : Addr) (us : List Value) (kw : List (Str × Value)) : Room k (A.under (.builtin "type.__call__" ⟨.ref C :: us, kw⟩)) :=
  ⟨r.hd, by have := r.dp; rw [make_depth]; omega, by have := r.un; rw [make_units]; omega⟩
theorem Room.depth {k : Nat} {A : Around} (r : Room k A) : A.depth < recursionLimit := by have := r.dp; omega
/-! ### argument lists and displays -/
noncomputable def tNil : TA := fun _ H Q => Q [] H
noncomputable def tCons (ta : TE) (tr : TA) : TA := fun σ H Q => ta σ H fun x H1 => tr σ H1 fun xs H2 => Q (x :: xs) H2
section
variable {X : Cx} {e : Expr} {es : List Expr} {te : TE} {t : TA} {pos : Pos}
theorem pa_nil : PA X [] tNil := fun _ _ _ _ H Q I h => Calls.spliced_nil ⟨[], H, I, .nil, h⟩
theorem pa_cons (ha : PE X e te) (hr : PA X es t) (hs : starEach (e :: es) X.env = (false, eval e X.env) :: starEach es X.env := by rfl) : PA X (e :: es) (tCons te t) := by
  intro pos pins s σ H Q I h
  rw [hs]
  show wpAny _ _ (spliced ((false, eval e X.env) :: backTo pos (starEach es X.env))) _ _ s
  refine Calls.spliced_cons (thn (ha pins s σ H _ I h) fun u s1 hpat => ?_)
  obtain ⟨x, H1, I1, r1, q1⟩ := hpat
  exact thn (hr pos pins s1 σ H1 _ I1 q1) fun us s2 ⟨xs, H2, I2, r2, q2⟩ => ⟨x :: xs, H2, I2, .cons r1 r2, q2⟩

/-- a tuple, a list of written items -/
noncomputable def tTup (t : TA) : TE := fun σ H Q => t σ H fun xs H1 => xs.length ≤ sizeLine ∧ ∀ p, H1 p = none → Q (.ref p) (upd H1 p (.tup xs))
noncomputable def tLst (t : TA) : TE := fun σ H Q => t σ H fun xs H1 => xs.length ≤ sizeLine ∧ ∀ p, H1 p = none → Q (.ref p) (upd H1 p (.lst xs))
theorem pe_tup {x1} (h : PA X es t) : PE X (.Tuple es x1 pos) (tTup t) := by
  intro pins s σ H Q I hq
  refine wpAny_Tuple_spliced (thn (h pos pins s σ H _ I hq) fun us s1 ⟨xs, H1, I1, r, z, q⟩ => ⟨by rw [← r.length]; exact z, ?_⟩)
  have hf : H1 s1.heap.objs.size = none := I1.hok.fresh (Nat.le_refl _)
  refine ⟨.ref s1.heap.objs.size, upd H1 s1.heap.objs.size (.tup xs), I1.laid (t' := s1.toks) (fun b u e => Heap.get?_push_of_some _ e) (Nat.le_refl _) ?_, rfl, q _ hf⟩
  exact ⟨z, us, r, ⟨_, Heap.get?_push_size _ rfl, rfl, _, rfl⟩⟩
theorem pe_lst (h : PA X es t) : PE X (.List es pos) (tLst t) := by
  intro pins s σ H Q I hq
  refine wpAny_List_spliced (thn (h pos pins s σ H _ I hq) fun us s1 ⟨xs, H1, I1, r, z, q⟩ => ⟨by rw [← r.length]; exact z, ?_⟩)
  have hf : H1 s1.heap.objs.size = none := I1.hok.fresh (Nat.le_refl _)
  refine ⟨.ref s1.heap.objs.size, upd H1 s1.heap.objs.size (.lst xs), I1.laid (t' := s1.toks) (fun b u e => Heap.get?_push_of_some _ e) (Nat.le_refl _) ?_, rfl, q _ hf⟩
  exact ⟨z, us, 0, r, Heap.get?_push_size _ rfl⟩
end

/-! ### what a def promises -/
/-- a def's promise: the bound arguments in the parameters' order, the heap, the wanted end, the wanted exception -/
noncomputable abbrev Sp := List V → Hp → VK → XK → Prop
/-- how an exception lies behind a call (file 08 gives it): the callers' frames, abstract heap and state ahead of the call, the wish, the exception, the state -/
noncomputable abbrev CXT := List Env → Hp → Shared → XK → Value → Shared → Prop

/-- the state at a call -/
structure Env0 (P : Program) (w : World) (K : PySem.W.Frag) (mg : Str → Option Value) (base : Heap) (A : Around) (outer : List Env) (s : Shared) (H : Hp) : Prop where
  frames : A.frames = some outer
  mod : Mod K mg base
  bs : ∀ b o, base.get? b = some o → s.heap.get? b = some o ∧ H b = none
  bsz : base.objs.size ≤ s.heap.objs.size
  funs : s.heap.FunFrames base outer
  frf : ∀ b ∈ frs outer, H b = none
  hok : HOk P w H s.heap
  bare : AllBare s.gens
/-- a call's end -/
noncomputable def CE (outer : List Env) (P : Program) (w : World) (H : Hp) (s : Shared) (Q : VK) (u : Value) (s' : Shared) : Prop :=
  ∃ v H', s'.os = s.os ∧ AllBare s'.gens ∧ Un (frs outer) [] H H' s.heap s'.heap ∧ HOk P w H' s'.heap ∧ RelV v u ∧ Q v H'
noncomputable def CR (CX : CXT) (outer : List Env) (P : Program) (w : World) (H : Hp) (s : Shared) (Q : VK) (E : XK) (r : Result) (s' : Shared) : Prop :=
  match r with
  | .ok (.ret u) => CE outer P w H s Q u s'
  | .ok _ => False
  | .error e => CX outer H s E e s'
structure FnOk (P : Program) (w : World) (K : PySem.W.Frag) (mg : Str → Option Value) (base : Heap) (CX : CXT) (k : Nat) (f : Addr) (fd : FuncData) (ps : List Str) (sp : Sp) : Prop where
  len : ∀ vs H Q E, sp vs H Q E → vs.length = ps.length
  run : ∀ (A : Around) (outer : List Env) (s : Shared) (H : Hp) (args : Args) (us : List Value) (vs : List V) (Q : VK) (E : XK), Room k A → Env0 P w K mg base A outer s H → BindsTo s fd args (ps.zip us) → Vals vs us → sp vs H Q E →
    codeAny (model P w) A (.call (.ref f) args) (CR CX outer P w H s Q E) s
theorem FnOk.mono {P : Program} {w : World} {K : PySem.W.Frag} {mg : Str → Option Value} {base : Heap} {CX : CXT} {j k : Nat} {f : Addr} {fd : FuncData} {ps : List Str} {sp : Sp} (F : FnOk P w K mg base CX j f fd ps sp) (h : j ≤ k) :
    FnOk P w K mg base CX k f fd ps sp := ⟨F.len, fun A outer s H args us vs Q E hr => F.run A outer s H args us vs Q E (hr.mono h)⟩
theorem Env0.make {P : Program} {w : World} {K : PySem.W.Frag} {mg : Str → Option Value} {base : Heap} {A : Around} {outer : List Env} {s : Shared} {H : Hp} (e : Env0 P w K mg base A outer s H) (C : Addr) (us : List Value) (kw : List (Str × Value)) :
    Env0 P w K mg base (A.under (.builtin "type.__call__" ⟨.ref C :: us, kw⟩)) outer s H := ⟨by first | exact e.frames | (simpa [Around.under, Code.envs, Code.isFrame, pushEnvs] using e.frames), e.mod, e.bs, e.bsz, e.funs, e.frf, e.hok, e.bare⟩
section
variable {X : Cx} {pins : List (Addr × Obj)} {σ : St} {H : Hp} {s s' : Shared}
/-- from a body: what a callee wants -/
theorem Inv.env0 (I : Inv X pins σ H s) : Env0 X.prog X.w X.K X.mg X.base X.A X.stack s H :=
  ⟨I.ok.frames, I.ok.mod, I.bs, Nat.le_trans I.ok.bsz I.sz, I.stack, I.stkFree, I.hok, I.bare⟩
/-- behind a call -/
theorem Inv.after {Q : VK} {u : Value} (I : Inv X pins σ H s) (h : CE X.stack X.prog X.w H s Q u s') : EP X pins σ Q u s' := by
  obtain ⟨v, H', os, bare, un, hok, r, q⟩ := h
  obtain ⟨hh, g, d, t, os'⟩ := s'
  obtain rfl : os' = s.os := os
  exact ⟨v, H', I.call (h' := hh) (g' := g) (d' := d) (t' := t) (ch := []) un hok bare (fun b z => absurd z (by simp)), r, q⟩
end

/-! ### calls -/
/-- f(..): the written arguments, then the defaults dvs; E: what is wanted of an exception -/
noncomputable def tCall (sp : Sp) (dvs : List V) (E : XK) (t : TA) : TE := fun σ H Q => t σ H fun vs H1 => sp (vs ++ dvs) H1 Q E
/-- o.m(..) of an instance of the class at C -/
noncomputable def tMeth (C : Addr) (m : Str) (sp : Sp) (dvs : List V) (E : XK) (ta : TE) (t : TA) : TE := fun σ H Q => ta σ H fun x H1 => ∃ a dx fs, x = .ref a ∧ H1 a = some (.ins C dx fs) ∧ fs.lookup m = none ∧
  t σ H1 fun vs H2 => sp (x :: (vs ++ dvs)) H2 Q E
/-- C(..): a new instance and its dict, then __init__ -/
noncomputable def tMake (C : Addr) (sp : Sp) (dvs : List V) (E : XK) (t : TA) : TE := fun σ H Q => t σ H fun vs H1 => ∀ x dx, H1 x = none → H1 dx = none → dx ≠ x →
  sp (.ref x :: (vs ++ dvs)) (upd (upd H1 dx (.own x)) x (.ins C dx [])) (fun v H2 => v = .non ∧ Q (.ref x) H2) E

/-- how the parameters are bound: us the positional arguments, kw the keywords' values by name, ds the defaults that fill up -/
noncomputable def Binds (K : PySem.W.Frag) (fd : FuncData) (ps : List Str) (ds : List Value) : Prop :=
  ∀ (s : Shared) (us : List Value), K.In s.heap → (us ++ ds).length = ps.length → BindsTo s fd ⟨us, []⟩ (ps.zip (us ++ ds))
/-- every parameter is given -/
theorem Binds.all {K : PySem.W.Frag} {fd : FuncData} {ps : List Str} (h : ∀ us : List Value, us.length = ps.length → bindArgs fd ⟨us, []⟩ = pure (ps.zip us)) : Binds K fd ps [] := fun s us _ hl => by
  rw [List.append_nil] at hl ⊢
  exact .of_eq (h us hl)

/-- an exception of a callee reaches what this body wants of exceptions -/
noncomputable def Passes (CX : CXT) (X : Cx) (E : XK) : Prop := ∀ (pins : List (Addr × Obj)) (σ : St) (H : Hp) (s : Shared) (e : Value) (s' : Shared), Inv X pins σ H s → CX X.stack H s E e s' → X.xe e s'

section
variable {X : Cx} {CX : CXT} {k : Nat} {f C : Addr} {fd : FuncData} {ps : List Str} {sp : Sp} {dvs : List V} {ds : List Value} {E : XK} {x m : Str} {p pos apos : Pos} {e o : Expr} {es : List Expr} {ta : TE} {t : TA}

/-- the callee runs -/
theorem run_fn {pins : List (Addr × Obj)} {σ : St} {H : Hp} {s : Shared} {Q : VK} {us : List Value} {vs : List V} (F : FnOk X.prog X.w X.K X.mg X.base CX k f fd ps sp) (hr : Room k X.A) (hb : Binds X.K fd ps ds) (hd : Vals dvs ds) (hx : Passes CX X E)
    (I : Inv X pins σ H s) (r : Vals vs us) (h : sp (vs ++ dvs) H Q E) : wpAny (model X.prog X.w) X.A (call (.ref f) us) (EP X pins σ Q) X.xe s := by
  have r2 : Vals (vs ++ dvs) (us ++ ds) := r.append hd
  have hl : (us ++ ds).length = ps.length := by rw [← r2.length]; exact F.len _ _ _ _ h
  refine wpAny_call (codeAny_mono (F.run X.A X.stack s H ⟨us, []⟩ (us ++ ds) (vs ++ dvs) Q E hr I.env0 (hb s us I.kIn hl) r2 h) fun r s' hq => ?_)
  cases r with
  | error e => exact hx pins σ H s e s' I hq
  | ok fl =>
    cases fl with
    | ret u => exact I.after hq
    | next => exact False.elim hq
    | brk => exact False.elim hq
    | cont => exact False.elim hq

theorem pe_call (F : FnOk X.prog X.w X.K X.mg X.base CX k f fd ps sp) (hr : Room k X.A) (hg : Gl X x) (hm : X.mg x = some (.ref f)) (hk : PySem.W.keepIn X.K (.ref f) = true) (hb : Binds X.K fd ps ds) (hd : Vals dvs ds) (hx : Passes CX X E)
    (ha : PA X (e :: es) t) (hdb : (x == ("__debug__" : Str)) = false := by decide) (he : starEach (e :: es) X.env = (false, eval e X.env) :: starEach es X.env := by rfl) (hpl : (backTo pos (starEach es X.env)).any (·.1) = false := by rfl) :
    PE X (.Call (.Name x p) (e :: es) [] pos) (tCall sp dvs E t) := by
  intro pins s σ H Q I h
  refine wpAny_Call_Name_kw (ld_glob I hg hm ?_ hdb)
  refine PySem.W.callWith_K (h₀ := X.base) I.ok.mod.kin hk (thn (ha pos pins s σ H _ I h) fun us s1 ⟨vs, H1, I1, r, q⟩ => ⟨I1.kIn, ?_⟩) he hpl
  exact run_fn F hr hb hd hx I1 r q
/-- o.m(e, ..) -/
theorem pe_meth {pl : Sem Bool} (he : PE X o ta) (c : Cls X.K C) (hm : Meth X.K C m f) (F : FnOk X.prog X.w X.K X.mg X.base CX k f fd ps sp) (hr : Room k X.A) (hb : Binds X.K fd ps ds) (hd : Vals dvs ds) (hx : Passes CX X E) (ha : PA X (e :: es) t)
    (hst : starEach (e :: es) X.env = (false, eval e X.env) :: starEach es X.env := by rfl) (hpl : (backTo pos (starEach es X.env)).any (·.1) = false := by rfl)
    (ht : eval (.Call (.Attribute o m apos) (e :: es) [] pos) X.env = (do
      let ov ← eval o X.env
      standAt apos.atName
      let (f, first) ← holding [ov] (getMethod ov m pl)
      callWith pos f first (backTo pos (starEach (e :: es) X.env)) (backToKw pos (keywordEach [] X.env))) := by rfl) :
    PE X (.Call (.Attribute o m apos) (e :: es) [] pos) (tMeth C m sp dvs E ta t) := by
  intro pins s σ H Q I h
  refine PySem.W.methodCall_KW (pl := pl) (thn (he pins s σ H _ I h) fun u s1 hpat => ?_) ht
  obtain ⟨x, H1, I1, rx, a, dx, fs, ex, ea, l, q⟩ := hpat
  subst ex
  obtain rfl : u = Value.ref a := rx
  refine getmeth_ok I1 ea c hm l ?_
  refine PySem.W.callWith_K (first := [.ref a]) (h₀ := X.base) I.ok.mod.kin hm.kp (thn (ha pos pins s1 σ H1 _ I1 q) fun us s2 ⟨vs, H2, I2, r, q2⟩ => ⟨I2.kIn, ?_⟩) hst hpl
  exact run_fn (us := .ref a :: us) (vs := .ref a :: vs) F hr hb hd hx I2 (.cons rfl r) q2
/-- o.m() -/
theorem pe_meth0 {pl : Sem Bool} (he : PE X o ta) (c : Cls X.K C) (hm : Meth X.K C m f) (F : FnOk X.prog X.w X.K X.mg X.base CX k f fd ps sp) (hr : Room k X.A) (hb : Binds X.K fd ps ds) (hd : Vals dvs ds) (hx : Passes CX X E)
    (ht : eval (.Call (.Attribute o m apos) [] [] pos) X.env = (do
      let ov ← eval o X.env
      standAt apos.atName
      let (f, first) ← holding [ov] (getMethod ov m pl)
      callWith pos f first (backTo pos (starEach [] X.env)) (backToKw pos (keywordEach [] X.env))) := by rfl) :
    PE X (.Call (.Attribute o m apos) [] [] pos) (tMeth C m sp dvs E ta tNil) := by
  intro pins s σ H Q I h
  refine PySem.W.methodCall_KW (pl := pl) (thn (he pins s σ H _ I h) fun u s1 hpat => ?_) ht
  obtain ⟨x, H1, I1, rx, a, dx, fs, ex, ea, l, q⟩ := hpat
  subst ex
  obtain rfl : u = Value.ref a := rx
  refine getmeth_ok I1 ea c hm l ?_
  exact PySem.W.callWith_K0 (first := [.ref a]) I1.kIn hm.kp (run_fn (us := [.ref a]) (vs := [.ref a]) F hr hb hd hx I1 (.cons rfl .nil) q)

/-- what a class must have to be made -/
structure Mk (K : PySem.W.Frag) (C f : Addr) : Prop where
  makes : PySem.W.makesIn K C = true
  init : PySem.W.findIn K (.ref C) "__init__" = some (some (.ref f))
  fn : PySem.W.isFn K (.ref f) = true
  kp : PySem.W.keepIn K (.ref C) = true

theorem run_make {pins : List (Addr × Obj)} {σ : St} {H : Hp} {s : Shared} {Q : VK} {us : List Value} {vs : List V} (M : Mk X.K C f) (F : FnOk X.prog X.w X.K X.mg X.base CX k f fd ps sp) (hr : Room (k + 1) X.A) (hb : Binds X.K fd ps ds) (hd : Vals dvs ds)
    (hx : Passes CX X E) (I : Inv X pins σ H s) (r : Vals vs us)
    (h : ∀ x dx, H x = none → H dx = none → dx ≠ x → sp (.ref x :: (vs ++ dvs)) (upd (upd H dx (.own x)) x (.ins C dx [])) (fun v H2 => v = .non ∧ Q (.ref x) H2) E) :
    wpAny (model X.prog X.w) X.A (call (.ref C) us) (EP X pins σ Q) X.xe s := by
  have hq := h (s.heap.objs.size + 1) s.heap.objs.size (I.hok.fresh (Nat.le_succ _)) (I.hok.fresh (Nat.le_refl _)) (Nat.ne_of_lt (Nat.lt_succ_self _))
  have I2 := Inv.made (C := C) I
  have r2 : Vals (V.ref (s.heap.objs.size + 1) :: (vs ++ dvs)) (Value.ref (s.heap.objs.size + 1) :: (us ++ ds)) := .cons rfl (r.append hd)
  have hl : (Value.ref (s.heap.objs.size + 1) :: us ++ ds).length = ps.length := by
    have e := r2.length
    rw [F.len _ _ _ _ hq] at e
    exact e.symm
  refine wpAny_call (make_map (f := f) I.kIn M.makes M.init (beq_iff_eq.mp M.fn) (codeAny_mono (F.run _ X.stack _ _ ⟨Value.ref (s.heap.objs.size + 1) :: us, []⟩ (Value.ref (s.heap.objs.size + 1) :: (us ++ ds)) _ _ E (hr.make C us [])
    (I2.env0.make C us []) (hb _ (Value.ref (s.heap.objs.size + 1) :: us) I2.kIn hl) r2 hq) fun r s' hq' => ?_))
  cases r with
  | error e => exact hx pins σ _ _ e s' I2 hq'
  | ok fl =>
    cases fl with
    | ret u =>
      obtain ⟨v, H', I3, rv, ev, q3⟩ := I2.after hq'
      subst ev
      exact ⟨rv, ⟨V.ref (s.heap.objs.size + 1), H', I3, rfl, q3⟩⟩
    | next => exact False.elim hq'
    | brk => exact False.elim hq'
    | cont => exact False.elim hq'
theorem pe_make0 (M : Mk X.K C f) (F : FnOk X.prog X.w X.K X.mg X.base CX k f fd ps sp) (hr : Room (k + 1) X.A) (hg : Gl X x) (hm : X.mg x = some (.ref C)) (hb : Binds X.K fd ps ds) (hd : Vals dvs ds) (hx : Passes CX X E)
    (hdb : (x == ("__debug__" : Str)) = false := by decide) : PE X (.Call (.Name x p) [] [] pos) (tMake C sp dvs E tNil) := by
  intro pins s σ H Q I h
  refine wpAny_Call_Name_kw (ld_glob I hg hm ?_ hdb)
  exact PySem.W.callWith_K0 I.kIn M.kp (run_make (us := []) M F hr hb hd hx I .nil h)
end

/-! ### keywords -/
section
variable {X : Cx} {CX : CXT} {k : Nat} {f C : Addr} {fd : FuncData} {ps ks : List Str} {sp : Sp} {E : XK} {x m : Str} {p pos apos kpos : Pos} {e o : Expr} {es : List Expr} {kws : List Keyword} {te ta : TE} {t tk : TA} {nm : Option Str}
variable {g : List Value → List Value → List Value} {gV : List V → List V → List V}
end

/-! ### a def's body keeps its promise -/
/-- names: the parameters first -/
structure FnScope (N P : List Str) (sc : Scope) : Prop where
  kind : sc.kind = .function
  co : sc.isCoroutine = false
  gen : sc.isGenerator = false
  nd : N.Nodup
  pre : N.take P.length = P
  par : ∀ x ∈ P, sc.names.lookup x = some .local ∨ sc.names.lookup x = some .cell
  nofree : ∀ y ∈ sc.names, y.2 ≠ .free

theorem bindL_out {kindOf : Str → Option NameKind} {x : Str} : ∀ {binds : List (Str × Value)} {m : Str → Option Value}, (∀ v, (x, v) ∉ binds) → bindL kindOf binds m x = m x
  | [], _, _ => rfl
  | (n, v) :: r, m, h => by
    unfold bindL
    rw [bindL_out fun w hw => h w (List.mem_cons_of_mem _ hw)]
    split
    · have : x ≠ n := by rintro rfl; exact h v List.mem_cons_self
      simp [this]
    · rfl
theorem bindC_out {kindOf : Str → Option NameKind} {x : Str} : ∀ {binds : List (Str × Value)} {m : Str → Option Value}, (∀ v, (x, v) ∉ binds) → bindC kindOf binds m x = m x
  | [], _, _ => rfl
  | (n, v) :: r, m, h => by
    unfold bindC
    rw [bindC_out fun w hw => h w (List.mem_cons_of_mem _ hw)]
    split
    · rfl
    · have : x ≠ n := by rintro rfl; exact h v List.mem_cons_self
      simp [this]
theorem bindL_get {kindOf : Str → Option NameKind} {x : Str} {v : Value} : ∀ {P : List Str} {vs : List Value} {i : Nat} {m : Str → Option Value}, P.Nodup → P[i]? = some x → vs[i]? = some v → kindOf x = some .local →
    bindL kindOf (P.zip vs) m x = some v
  | [], _, _, _, _, h, _, _ => by simp at h
  | _ :: _, [], _, _, _, _, h, _ => by simp at h
  | p :: P, w :: vs, 0, m, nd, h1, h2, hk => by
    simp at h1 h2; subst h1; subst h2
    show bindL kindOf ((p, w) :: P.zip vs) m p = _
    unfold bindL
    rw [bindL_out fun v hv => (List.nodup_cons.mp nd).1 (List.of_mem_zip hv).1, if_pos hk]
    simp
  | p :: P, w :: vs, i + 1, m, nd, h1, h2, hk => by
    show bindL kindOf ((p, w) :: P.zip vs) m x = _
    unfold bindL
    exact bindL_get (i := i) (List.nodup_cons.mp nd).2 (by simpa using h1) (by simpa using h2) hk
theorem bindC_get {kindOf : Str → Option NameKind} {x : Str} {v : Value} : ∀ {P : List Str} {vs : List Value} {i : Nat} {m : Str → Option Value}, P.Nodup → P[i]? = some x → vs[i]? = some v → kindOf x ≠ some .local →
    bindC kindOf (P.zip vs) m x = some v
  | [], _, _, _, _, h, _, _ => by simp at h
  | _ :: _, [], _, _, _, _, h, _ => by simp at h
  | p :: P, w :: vs, 0, m, nd, h1, h2, hk => by
    simp at h1 h2; subst h1; subst h2
    show bindC kindOf ((p, w) :: P.zip vs) m p = _
    unfold bindC
    rw [bindC_out fun v hv => (List.nodup_cons.mp nd).1 (List.of_mem_zip hv).1, if_neg hk]
    simp
  | p :: P, w :: vs, i + 1, m, nd, h1, h2, hk => by
    show bindC kindOf ((p, w) :: P.zip vs) m x = _
    unfold bindC
    exact bindC_get (i := i) (List.nodup_cons.mp nd).2 (by simpa using h1) (by simpa using h2) hk

/-- the names' values at the entry -/
noncomputable def start (N : List Str) (vs : List V) : St := vs.map some ++ List.replicate (N.length - vs.length) none

/-- the context of a def's body, at its entry; an exception leaves the frame, then lies as CX says -/
noncomputable def cxOf (CX : CXT) (P : Program) (w : World) (K : PySem.W.Frag) (mg : Str → Option Value) (base : Heap) (N : List Str) (qual : Str) (scope : Scope) (f : Addr) (cd : Value) (A : Around) (outer : List Env) (s : Shared) (H : Hp) (E : XK) : Cx where
  prog := P
  w := w
  K := K
  mg := mg
  base := base
  A := A.deeper (envOfC qual scope s.heap.objs.size f cd)
  N := N
  s₀ := s
  H₀ := H
  env := envOfC qual scope s.heap.objs.size f cd
  outer := outer
  stack := envOfC qual scope s.heap.objs.size f cd :: outer
  ex := []
  calm := true
  fn := fun _ => true
  pn := []
  xe := fun e s' => wpAny (model P w) (A.deeper (envOfC qual scope s.heap.objs.size f cd)) (leaving (envOfC qual scope s.heap.objs.size f cd) e) (fun _ s'' => CX outer H s E e s'') (fun e' s'' => CX outer H s E e' s'') s'

theorem cell_has {sc : Scope} {n : Nat} {x : Str} (h : sc.names.lookup x = some .cell) : ∃ c, (cellsFrom n sc.names []).lookup x = some c := by
  have q := PySem.W.cellsFrom_some sc.names n [] (.inl h)
  exact Option.isSome_iff_exists.mp q

theorem inv_start {CX : CXT} {P : Program} {w : World} {K : PySem.W.Frag} {mg : Str → Option Value} {base : Heap} {N ps : List Str} {qual : Str} {scope : Scope} {f : Addr} {cd : Value} {A : Around} {outer : List Env} {s s1 : Shared} {H : Hp} {E : XK} {us : List Value} {vs : List V}
    (S : FnScope N ps scope) (hd : A.handled = none) (e0 : Env0 P w K mg base A outer s H) (hl : vs.length = ps.length) (r : Vals vs us)
    (x : InCallC s s.heap.objs.size (bindL (envOfC qual scope s.heap.objs.size f cd).kindOf (ps.zip us) fun _ => none) (cellsFrom (s.heap.objs.size + 1) scope.names []) (bindC (envOfC qual scope s.heap.objs.size f cd).kindOf (ps.zip us) fun _ => none) s1) :
    Inv (cxOf CX P w K mg base N qual scope f cd A outer s H E) [] (start N vs) H s1 := by
  have hpl : ps.length ≤ N.length := by have := congrArg List.length S.pre; rw [List.length_take] at this; omega
  obtain ⟨h1, tk, rfl, hk⟩ := x.done
  have noA : ∀ b : Addr, b ∉ (cxOf CX P w K mg base N qual scope f cd A outer s H E).ex := fun b z => absurd (show b ∈ ([] : List Addr) from z) (by simp)
  refine ⟨⟨e0.mod, S.kind, rfl, rfl, Nat.le_refl _, fun y z c h1 h2 => ?_, fun y hy => ?_, fun y c _ h => ?_, fun _ => hd, Around.frames_deeper e0.frames, .inr ⟨rfl, rfl⟩, fun b z => absurd z (noA b), e0.bs, e0.bsz, fun b _ _ => noA b, fun b z => absurd z (noA b), e0.funs, e0.frf⟩,
    rfl, e0.bare, Un.kept hk, ⟨_, x.toInCall.ns, fun i y v h1 h2 h3 => ?_⟩, fun y c h => ⟨_, x.cell y c h⟩, e0.hok.fresh (Nat.le_refl _), fun y c h => ?_, fun p hp => absurd (show p ∈ ([] : List (Addr × Obj)) from hp) (by simp), e0.hok.kept hk, ?_⟩
  · exact name_of_addr x.apart (PySem.mem_of_lookup h1) (PySem.mem_of_lookup h2)
  · have hy : scope.names.lookup y = some .cell ∨ scope.names.lookup y = some .free := hy
    rcases hy with hy | hy
    · exact cell_has hy
    · exact absurd rfl (S.nofree _ (PySem.mem_of_lookup hy))
  · exact Nat.le_of_lt (x.above y c (PySem.mem_of_lookup h))
  · have hi : i < vs.length := by
      unfold start at h2
      by_cases hi : i < vs.length
      · exact hi
      · rw [List.getElem?_append_right (by simpa using hi)] at h2
        rw [List.getElem?_replicate] at h2
        split at h2 <;> cases h2
    have ha : vs[i]? = some v := by
      unfold start at h2
      rw [List.getElem?_append_left (by simpa using hi), List.getElem?_map] at h2
      cases e : vs[i]? with
      | none => rw [e] at h2; cases h2
      | some a => rw [e] at h2; cases h2; rfl
    obtain ⟨u, hu, rv⟩ := r.get ha
    have hp : ps[i]? = some y := by
      rw [← S.pre, List.getElem?_take_of_lt (by omega)]; exact h1
    have ndP : ps.Nodup := by rw [← S.pre]; exact S.nd.sublist (List.take_sublist _ _)
    refine ⟨u, rv, ?_⟩
    rcases S.par y (List.mem_of_getElem? hp) with k | k
    · exact .inl ⟨k, bindL_get ndP hp hu k⟩
    · obtain ⟨c, e⟩ := cell_has (n := s.heap.objs.size + 1) k
      refine .inr ⟨.inl k, c, e, ?_⟩
      have q := x.cell y c e
      rw [bindC_get ndP hp hu (by show scope.names.lookup y ≠ _; rw [k]; decide)] at q
      exact q
  · exact e0.hok.fresh (Nat.le_of_lt (x.above y c (PySem.mem_of_lookup h)))
  · unfold start
    show _ = N.length
    rw [List.length_append, List.length_map, List.length_replicate]
    omega

/-- THE RULE: a def (or a method) of the text, by its body. The body's reading t is chosen for each entry; it is run at the parameters' values -/
theorem fn_of {CX : CXT} {P : Program} {w : World} {K : PySem.W.Frag} {mg : Str → Option Value} {base : Heap} {k : Nat} {f : Addr} {name qual : Str} {params : Arguments} {body : List Stmt} {scope : Scope} {dV kV doc pm cdv ct oc : Value} {an od : Option Addr}
    {osl : Array (Option Value)} {N ps : List Str} {sp : Sp} (lk : K.lookup f = some ⟨oc, od, .func (PySem.W.fnOf name qual params body scope dV kV doc pm an cdv ct), osl⟩) (hcd : PySem.W.codeIn K cdv qual = true) (S : FnScope N ps scope)
    (len : ∀ vs H Q E, sp vs H Q E → vs.length = ps.length)
    (hbody : ∀ (A : Around) (outer : List Env) (s : Shared) (H : Hp) (vs : List V) (Q : VK) (E : XK), Room k (A.deeper (envOfC qual scope s.heap.objs.size f cdv)) → sp vs H Q E →
      ∃ t, PSs (cxOf CX P w K mg base N qual scope f cdv A outer s H E) body t ∧ t { nx := fun _ H' => Q .non H', rt := Q } (start N vs) H) :
    FnOk P w K mg base CX (k + 1) f (PySem.W.fnOf name qual params body scope dV kV doc pm an cdv ct) ps sp := by
  refine ⟨len, fun A outer s H args us vs Q E hr e0 hb r hsp => ?_⟩
  have hl := len _ _ _ _ hsp
  have KX : K.In s.heap := e0.mod.kin.keeps fun b o e => (e0.bs b o e).1
  have lim : s.heap.NoLimit := e0.mod.nolimit.keeps fun b o e => (e0.bs b o e).1
  have hkind : ∀ y ∈ ps.zip us, scope.names.lookup y.1 = some .local ∨ (scope.names.lookup y.1 = some .cell ∧ ((cellsFrom (s.heap.objs.size + 1) scope.names []).lookup y.1).isSome = true) := fun ⟨n, v⟩ hy => by
    rcases S.par n (List.of_mem_zip hy).1 with q | q
    · exact .inl q
    · exact .inr ⟨q, PySem.W.cellsFrom_some _ _ _ (.inl q)⟩
  refine codeAny_call_function hr.depth (KX _ _ lk) rfl S.co S.gen rfl (PySem.W.codeRec_of KX hcd) (hb _ _ _ _ ?_)
  refine wpAny_newFunctionEnv_cells S.kind hkind fun env he s1 x => ?_
  subst he
  refine ⟨lim.keeps x.toInCall.keep, codeAny_func ?_⟩
  obtain ⟨t, ht, hq⟩ := hbody A outer s H vs Q E (hr.deeper _) hsp
  have I : Inv (cxOf CX P w K mg base N qual scope f cdv A outer s H E) [] (start N vs) H s1 := inv_start S hr.hd e0 hl r x
  refine wpAny_mono (ht [] s1 (start N vs) H _ I hq) (fun fl s' hs => ?_) fun e s' hs => hs
  have fin : ∀ {σ' : St} {H' : Hp} {v : V} {u : Value}, Inv (cxOf CX P w K mg base N qual scope f cdv A outer s H E) [] σ' H' s' → RelV v u → Q v H' → CE outer P w H s Q u s' :=
    fun {σ' H' v u} J rv q => ⟨v, H', J.os, J.bare, J.base, J.hok, rv, q⟩
  cases fl with
  | ret u =>
    obtain ⟨v, σ', H', J, rv, q⟩ := hs
    exact fin J rv q
  | next =>
    obtain ⟨σ', H', J, q⟩ := hs
    exact fin (v := V.non) (u := Value.none) J rfl q
  | brk =>
    obtain ⟨_, _, _, q⟩ := hs
    exact False.elim q
  | cont =>
    obtain ⟨_, _, _, q⟩ := hs
    exact False.elim q
end L2

namespace L2
open PySem PySem.Spec PyProof.Rows
section
variable {X : Cx} {x : Str} {p pos : Pos} {e : Expr} {es : List Expr} {t : TA} {id T : String} {r : List V → Hp → VK → Prop}

noncomputable def tCB (r : List V → Hp → VK → Prop) (t : TA) : TE := fun σ H Q => t σ H fun vs H1 => r vs H1 Q
/-- f(e, ..), f a built-in function -/
theorem pe_callB (hc : CallR X (.builtin id) r) (hg : Gl X x) (hm : X.mg x = none) (hv : bootBuiltins x = some (.builtin id)) (ha : PA X (e :: es) t) (hn : x ≠ "__name__" := by decide) (hdb : (x == ("__debug__" : Str)) = false := by decide)
    (he : starEach (e :: es) X.env = (false, eval e X.env) :: starEach es X.env := by rfl) (hpl : (backTo pos (starEach es X.env)).any (·.1) = false := by rfl) : PE X (.Call (.Name x p) (e :: es) [] pos) (tCB r t) := by
  intro pins s σ H Q I h
  refine wpAny_Call_Name_kw (ld_blt I hg hm hv ?_ hn hdb)
  exact PyProof.Rows.callWith_builtin1 (thn (ha pos pins s σ H _ I h) fun us s1 ⟨vs, H1, I1, r1, q1⟩ => hc pins s1 σ H1 vs us Q I1 r1 q1) he hpl
end
end L2

namespace HT
open PySem PyProof.Rows

section
open PySem.SeqAt
open PySem.AutoSeq1 (wpAny_loadPart')
open PySem.MeetsSeq PySem.MeetsSeq2 PySem.MeetsSeq3

end

section
variable {prog : Program} {w : World} {A : Around} {E : Value → Shared → Prop} {s : Shared}

/-! ### t[a:b], not the whole -/
/-- a slice's bound as a place among n (d where it is left out) -/
noncomputable def sIx (n d : Nat) : Option Int → Nat
  | none => d
  | some v => if v < 0 then (v + (n : Int)).toNat else min v.toNat n
theorem sIx_none (n d : Nat) : sIx n d none = d := rfl
theorem sIx_nat (n d k : Nat) : sIx n d (some (k : Int)) = min k n := by
  show (if (k : Int) < 0 then ((k : Int) + (n : Int)).toNat else min (k : Int).toNat n) = min k n
  rw [if_neg (by omega), Int.toNat_natCast]
end
end HT

namespace L2
open PySem PySem.Spec PyProof.Rows

/-! ### the parts of a slice -/
noncomputable abbrev TO := St → Hp → (Option Int → Hp → Prop) → Prop
/-- a slice's part (left out, or an int) -/
noncomputable def PO (X : Cx) (e : Option Expr) (t : TO) : Prop :=
  ∀ (pins : List (Addr × Obj)) (s : Shared) (σ : St) (H : Hp) (Q : Option Int → Hp → Prop), Inv X pins σ H s → t σ H Q →
    wpAny (model X.prog X.w) X.A (evalPart e X.env) (fun u s' => ∃ o H', Inv X pins σ H' s' ∧ IsPart u o ∧ Q o H') X.xe s
noncomputable def tNoPart : TO := fun _ H Q => Q none H
noncomputable def tPart (t : TE) : TO := fun σ H Q => t σ H fun x H1 => ∃ i, x = .int i ∧ Q (some i) H1

section
variable {X : Cx} {e : Expr} {te : TE} {lo hi : Option Expr} {tl th : TO} {pos p2 : Pos}

theorem po_none : PO X none tNoPart := by
  intro pins s σ H Q I h
  rw [evalPart_none]
  exact wpAny_pure ⟨none, H, I, .none, h⟩
theorem po_some (h : PE X e te) : PO X (some e) (tPart te) := by
  intro pins s σ H Q I hw
  rw [evalPart_some]
  refine thn (h pins s σ H _ I hw) fun u s1 hpat => ?_
  obtain ⟨x, H1, I1, r1, q1⟩ := hpat
  obtain ⟨i, rfl, q⟩ := q1
  obtain ⟨t, rfl⟩ := r1
  exact ⟨some i, H1, I1, .int i t, q⟩

/-- what a slice of a value is, by values: the slice object stands at sl -/
noncomputable def SlR (X : Cx) (r : V → Option Int → Option Int → Hp → VK → Prop) : Prop :=
  ∀ (pins : List (Addr × Obj)) (s : Shared) (σ : St) (H : Hp) (x : V) (v vl vu : Value) (lo hi : Option Int) (sl : Addr) (Q : VK), Inv X pins σ H s → RelV x v → s.heap.IsSliceOf sl vl vu .none → IsPart vl lo → IsPart vu hi → r x lo hi H Q →
    ∃ T id, typeLookup (.type T) "__getitem__" = pure (some (.builtin id)) ∧ s.TypeIs v T ∧ wpAny (model X.prog X.w) X.A (getItem v (.ref sl)) (EP X pins σ Q) X.xe s
noncomputable def tSl (r : V → Option Int → Option Int → Hp → VK → Prop) (te : TE) (tl th : TO) : TE := fun σ H Q => te σ H fun x H1 => tl σ H1 fun l H2 => th σ H2 fun u H3 => r x l u H3 Q
/-- a[lo:hi], any a -/
theorem pe_slice {r : V → Option Int → Option Int → Hp → VK → Prop} (hr : SlR X r) (he : PE X e te) (hl : PO X lo tl) (hu : PO X hi th) : PE X (.Subscript e (.Slice lo hi none p2) pos) (tSl r te tl th) := by
  intro pins s σ H Q I h
  refine Subscript_ (thn (he pins s σ H _ I h) fun v s1 hpat => ?_)
  obtain ⟨x, H1, I1, r1, q1⟩ := hpat
  refine wpAny_Slice (thn (hl pins s1 σ H1 _ I1 q1) fun vl s2 ⟨l, H2, I2, pl, q2⟩ => thn (hu pins s2 σ H2 _ I2 q2) fun vu s3 hpat => ?_)
  obtain ⟨u, H3, I3, pu, q3⟩ := hpat
  rw [evalPart_none]
  refine wpAny_pure ?_
  have I4 : Inv X pins σ H3 { s3 with heap := s3.heap.push { cls := .type "slice", data := .fields #[vl, vu, .none] } } := I3.kept (t' := s3.toks) fun b ob q => Heap.get?_push_of_some _ q
  obtain ⟨T, id, hT, ht, hg⟩ := hr pins { s3 with heap := s3.heap.push { cls := .type "slice", data := .fields #[vl, vu, .none] } } σ H3 x v vl vu l u s3.heap.objs.size Q I4 r1 (Heap.IsSliceOf.new ..) pl pu q3
  show wpAny (model X.prog X.w) X.A (subscriptTail e (.Slice lo hi none p2) v (.ref s3.heap.objs.size)) (EP X pins σ Q) X.xe { s3 with heap := s3.heap.push { cls := .type "slice", data := .fields #[vl, vu, .none] } }
  exact tail_any (ops := [.ref s3.heap.objs.size, v]) ht hT hg (by with_unfolding_all rfl)

/-- the items of xs[lo:hi] -/
noncomputable def cutV (xs : List V) (lo hi : Option Int) : List V := (xs.drop (HT.sIx xs.length 0 lo)).take (HT.sIx xs.length xs.length hi - HT.sIx xs.length 0 lo)
theorem cutV_length (xs : List V) (lo hi : Option Int) : (cutV xs lo hi).length ≤ xs.length := by
  unfold cutV
  rw [List.length_take, List.length_drop]
  omega
/-! ### t < u, t + u -/
end
end L2

namespace L2
open PySem PySem.Spec PyProof.Rows

/-! ### places -/
/-- the place that an index of any sign means -/
noncomputable def ixN (n : Nat) (i : Int) : Option Nat := if 0 ≤ i then (if i < n then some i.toNat else none) else if -(n : Int) ≤ i then some (i + n).toNat else none
noncomputable def atI {α : Type} (xs : List α) (i : Int) : Option α := (ixN xs.length i).bind fun j => xs[j]?
theorem ixN_seq {n : Nat} {i : Int} {j : Nat} (h : ixN n i = some j) : seqIndex? i n = some j ∧ j < n ∧ -(n : Int) ≤ i ∧ i < n := by
  unfold ixN at h
  by_cases h0 : 0 ≤ i
  · rw [if_pos h0] at h
    by_cases h1 : i < n
    · rw [if_pos h1] at h
      have e : i.toNat = j := Option.some.inj h
      exact ⟨by rw [seqIndex_of h0 h1, e], by omega, by omega, h1⟩
    · rw [if_neg h1] at h; cases h
  · rw [if_neg h0] at h
    by_cases h1 : -(n : Int) ≤ i
    · rw [if_pos h1] at h
      have e : (i + n).toNat = j := Option.some.inj h
      exact ⟨by rw [seqIndex_neg (by omega) h1, e], by omega, h1, by omega⟩
    · rw [if_neg h1] at h; cases h
theorem atI_get {α : Type} {xs : List α} {i : Int} {v : α} (h : atI xs i = some v) : ∃ j, seqIndex? i xs.length = some j ∧ xs[j]? = some v ∧ j < xs.length ∧ -(xs.length : Int) ≤ i ∧ i < xs.length := by
  unfold atI at h
  cases e : ixN xs.length i with
  | none => rw [e] at h; cases h
  | some j =>
    rw [e] at h
    obtain ⟨h1, h2, h3, h4⟩ := ixN_seq e
    exact ⟨j, h1, h, h2, h3, h4⟩
theorem atI_nat {α : Type} {xs : List α} {j : Nat} {v : α} (h : xs[j]? = some v) : atI xs (j : Int) = some v := by
  have hj : j < xs.length := (List.getElem?_eq_some_iff.mp h).1
  have e : ixN xs.length (j : Int) = some j := by
    unfold ixN
    rw [if_pos (by omega), if_pos (by omega)]; simp
  unfold atI; rw [e]; exact h
/-! ### what may be subscripted -/
/-- what stands as an index of a plain subscript -/
noncomputable def PlainIx (b : Expr) : Prop := ∀ o i, subscripted b false o i = operate [o, i] (getItem o i)
/-- a subscript by values -/
noncomputable def IxR (X : Cx) (r : R2) : Prop :=
  ∀ (value slice : Expr) (pins : List (Addr × Obj)) (s : Shared) (σ : St) (H : Hp) (x y : V) (v u : Value) (Q : VK), Inv X pins σ H s → RelV x v → RelV y u → r x y H Q →
    subscripted slice false v u = operate [v, u] (getItem v u) → wpAny (model X.prog X.w) X.A (subscriptTail value slice v u) (EP X pins σ Q) X.xe s
/-- a call of a builtin's method by values: the receiver, the arguments -/
noncomputable def MtR (X : Cx) (id : String) (r : V → List V → Hp → VK → Prop) : Prop :=
  ∀ (pins : List (Addr × Obj)) (s : Shared) (σ : St) (H : Hp) (x : V) (xs : List V) (v : Value) (us : List Value) (Q : VK), Inv X pins σ H s → RelV x v → Vals xs us → r x xs H Q →
    wpAny (model X.prog X.w) X.A (call (.builtin id) (v :: us)) (EP X pins σ Q) X.xe s
section
variable {X : Cx} {a b : Expr} {ta tb : TE} {pos : Pos}
/-- a[b] -/
theorem pe_ix {r : R2} (hr : IxR X r) (ha : PE X a ta) (hb : PE X b tb) (hs : PlainIx b) : PE X (.Subscript a b pos) (tOp r ta tb) := by
  intro pins s σ H Q I h
  exact Subscript_ (binT ha hb I h fun v u s2 x y H2 I2 rx ry q => hr a b pins s2 σ H2 x y v u Q I2 rx ry q (hs _ _))

noncomputable def rIxL (K : PySem.W.Frag) : R2 := fun x y H Q => ∃ p xs i v, x = .ref p ∧ y = .int i ∧ SqL K H p xs ∧ atI xs i = some v ∧ Q v H
noncomputable def rIxT (K : PySem.W.Frag) : R2 := fun x y H Q => ∃ p xs i v, x = .ref p ∧ y = .int i ∧ SqT K H p xs ∧ atI xs i = some v ∧ Q v H
theorem ix_list : IxR X (rIxL X.K) := by
  intro value slice pins s σ H x y v u Q I rx ry h hs
  obtain ⟨p, xs, i, z, rfl, rfl, hq, he, q⟩ := h
  cases rx
  obtain ⟨t, rfl⟩ := ry
  obtain ⟨its, r, pl, hz⟩ := I.list hq
  obtain ⟨j, h1, h2, h3, h4, h5⟩ := atI_get he
  obtain ⟨w, ew, rw'⟩ := r.get h2
  have hl := r.length
  have hn := line63
  have fin : EP X pins σ Q w s := ⟨z, H, I, rw', q⟩
  by_cases h0 : 0 ≤ i
  · have hj : i.toNat = j := by
      rw [seqIndex_of h0 h5] at h1
      exact Option.some.inj h1
    exact item_listR pl.isList h0 (by omega) (by rw [hj]; simpa using ew) fin hs
  · have hj : (i + (its.toArray.size : Int)).toNat = j := by
      rw [seqIndex_neg (by omega) h4] at h1
      rw [List.size_toArray, ← hl]
      exact Option.some.inj h1
    exact subscriptTail_builtinR (x := w) pl.isList.typeIs slot_list_getitem.lookup
      (wpAny_getItem_list_neg (Q := fun r s' => r = w ∧ EP X pins σ Q r s') pl.isList (by omega) (by rw [List.size_toArray] <;> omega) (by omega) (by rw [hj]; simpa using ew) ⟨rfl, fin⟩) hs
theorem ix_tup : IxR X (rIxT X.K) := by
  intro value slice pins s σ H x y v u Q I rx ry h hs
  obtain ⟨p, xs, i, z, rfl, rfl, hq, he, q⟩ := h
  cases rx
  obtain ⟨t, rfl⟩ := ry
  obtain ⟨its, r, pl, hz⟩ := I.tuple hq
  obtain ⟨j, h1, h2, h3, h4, h5⟩ := atI_get he
  obtain ⟨w, ew, rw'⟩ := r.get h2
  have hl := r.length
  have hn := line63
  have fin : EP X pins σ Q w s := ⟨z, H, I, rw', q⟩
  exact subscriptTail_builtinR (x := w) pl.typeIs slot_tuple_getitem.lookup
    (getItem_tuple (j := j) (Q := fun r s' => r = w ∧ EP X pins σ Q r s') pl (by omega) (by omega) (by rw [List.size_toArray, ← hl]; exact h1) (by simpa using ew) ⟨rfl, fin⟩) hs
/-! ### xs[i] = v, any sign -/
/-! ### slices -/
theorem slice_bounds (lo hi : Option Int) (n : Nat) : (sliceBounds lo hi none n).1 = ((HT.sIx n 0 lo : Nat) : Int) ∧ (sliceBounds lo hi none n).2.1 = ((HT.sIx n n hi : Nat) : Int) ∧ (sliceBounds lo hi none n).2.2 = 1 := by
  refine ⟨?_, ?_, rfl⟩
  · cases lo with
    | none => simp [sliceBounds, HT.sIx]
    | some i =>
      simp only [sliceBounds, HT.sIx, Option.getD_none, show (1 : Int) > 0 by decide, if_true]
      by_cases h : i < 0
      · simp only [h, if_true] <;> omega
      · simp only [h, if_false] <;> omega
  · cases hi with
    | none => simp [sliceBounds, HT.sIx]
    | some i =>
      simp only [sliceBounds, HT.sIx, Option.getD_none, show (1 : Int) > 0 by decide, if_true]
      by_cases h : i < 0
      · simp only [h, if_true] <;> omega
      · simp only [h, if_false] <;> omega
theorem slicePick_cut (its : List Value) (lo hi : Option Int) : slicePick its.toArray lo hi none = ((its.drop (HT.sIx its.length 0 lo)).take (HT.sIx its.length its.length hi - HT.sIx its.length 0 lo)).toArray := by
  obtain ⟨h1, h2, h3⟩ := slice_bounds lo hi its.toArray.size
  unfold slicePick
  rw [h1, h2, h3]
  simp only [sliceRange_one, pick_run, List.size_toArray] <;> rfl
/-- xs[lo:hi] of a list: a new list -/
noncomputable def rSlL (K : PySem.W.Frag) : V → Option Int → Option Int → Hp → VK → Prop := fun x lo hi H Q => ∃ a xs, x = .ref a ∧ SqL K H a xs ∧ ∀ p, H p = none → Q (.ref p) (upd H p (.lst (cutV xs lo hi)))
theorem sl_list : SlR X (rSlL X.K) := by
  intro pins s σ H x v vl vu lo hi sl Q I rx hs pl pu h
  obtain ⟨a, xs, rfl, hx, q⟩ := h
  cases rx
  obtain ⟨its, r, ht, hz⟩ := I.list hx
  have hlen := r.length
  refine ⟨"list", _, slot_list_getitem.lookup, ht.isList.typeIs, ?_⟩
  refine wpAny_getItem_list_slice ht.isList hs pl pu .none (by simp) ?_ (by rw [List.size_toArray] <;> omega)
  rw [slicePick_cut, ← hlen]
  refine ⟨.ref s.heap.objs.size, _, I.laid (t' := s.toks) (o := .lst (cutV xs lo hi)) (fun b ob q => Heap.get?_push_of_some _ q) (Nat.le_refl _) ?_, rfl, q _ (I.hok.fresh (Nat.le_refl _))⟩
  exact ⟨Nat.le_trans (cutV_length xs lo hi) hz, _, 0, (r.drop (HT.sIx xs.length 0 lo)).take (HT.sIx xs.length xs.length hi - HT.sIx xs.length 0 lo), Heap.get?_push_size _ rfl⟩

/-! ### in, not in: flat items -/
/-! ### len, list(x), tuple(x) of any list or tuple that is read -/
theorem call_len_seq : CallR X (.builtin "len") (fun xs H Q => ∃ p ys, xs = [.ref p] ∧ (SqL X.K H p ys ∨ SqT X.K H p ys) ∧ Q (.int ys.length) H) := by
  intro pins s σ H xs us Q I r h
  obtain ⟨p, ys, rfl, hq, q⟩ := h
  obtain ⟨u, rfl, rx⟩ := vals1 r
  cases rx
  have hn := line63
  rcases hq with hq | hq
  · obtain ⟨its, r', pl, hz⟩ := I.list hq
    have hlen := r'.length
    exact Calls.call_len_list pl.isList (by simp only [List.size_toArray] <;> omega) ⟨.int ys.length, H, I.tok _, ⟨s.toks + 1, by rw [List.size_toArray, hlen]⟩, q⟩
  · obtain ⟨its, r', pl, hz⟩ := I.tuple hq
    have hlen := r'.length
    exact len_tuple pl (by simp only [List.size_toArray] <;> omega) ⟨.int ys.length, H, I.tok _, ⟨s.toks + 1, by rw [List.size_toArray, hlen]⟩, q⟩
/-! ### the call of a builtin's method: o.m(..) -/
/-- the value is of that builtin type -/
noncomputable def tyV (K : PySem.W.Frag) (T : String) (x : V) (H : Hp) : Prop := match x with
  | .str _ => T = "str"
  | .int _ => T = "int"
  | .ref p => (T = "list" ∧ ∃ xs, SqL K H p xs) ∨ (T = "tuple" ∧ ∃ o, K.lookup p = some o ∧ o.cls = .type "tuple" ∧ o.dict = none) ∨
      (T = "dict" ∧ ((∃ kvs, H p = some (.dK kvs)) ∨ ∃ kvs, H p = some (.dT kvs))) ∨ (T = "set" ∧ ∃ S n, H p = some (.set S n))
  | _ => False
theorem tyV_is {pins : List (Addr × Obj)} {σ : St} {H : Hp} {s : Shared} {T : String} {x : V} {v : Value} (I : Inv X pins σ H s) (r : RelV x v) (ty : tyV X.K T x H) :
    s.TypeIs v T ∧ ∀ a, v = .ref a → ∃ ob, s.heap.get? a = some ob ∧ ob.dict = none := by
  cases x with
  | str z =>
    obtain ⟨t, rfl⟩ := r
    cases (show T = "str" from ty)
    exact ⟨typeIs_str s z t, fun _ e => nomatch e⟩
  | int i =>
    obtain ⟨t, rfl⟩ := r
    cases (show T = "int" from ty)
    exact ⟨typeIs_int s i t, fun _ e => nomatch e⟩
  | ref p =>
    cases r
    rcases ty with ⟨rfl, xs, hq⟩ | ⟨rfl, o, hk, hc, hd⟩ | ⟨rfl, hk⟩ | ⟨rfl, S, n, hk⟩
    · obtain ⟨its, _, pl, _⟩ := I.list hq
      refine ⟨pl.isList.typeIs, fun a e => ?_⟩
      cases e
      obtain ⟨o, n, e, c, hd, _⟩ := pl
      exact ⟨o, e, hd⟩
    · refine ⟨⟨o, I.kIn p o hk, hc⟩, fun a e => ?_⟩
      cases e
      exact ⟨o, I.kIn _ o hk, hd⟩
    · have z : ∃ o, s.heap.get? p = some o ∧ o.ExactDict := by
        rcases hk with ⟨kvs, hk⟩ | ⟨kvs, hk⟩
        · obtain ⟨_, _, _, _, o, _, _, e, ex, _⟩ := I.hok p _ hk
          exact ⟨o, e, ex⟩
        · obtain ⟨_, _, _, _, o, _, _, e, ex, _⟩ := I.hok p _ hk
          exact ⟨o, e, ex⟩
      obtain ⟨o, e, ex⟩ := z
      refine ⟨⟨o, e, ex.1⟩, fun a e2 => ?_⟩
      cases e2
      exact ⟨o, e, ex.2.1⟩
    · obtain ⟨o, _, _, _, e, ex, _⟩ := I.hok p _ hk
      refine ⟨⟨o, e, ex.1⟩, fun a e2 => ?_⟩
      cases e2
      exact ⟨o, e, ex.2.1⟩
  | _ => exact False.elim ty
noncomputable def tBM (K : PySem.W.Frag) (T : String) (r : V → List V → Hp → VK → Prop) (to : TE) (t : TA) : TE := fun σ H Q => to σ H fun x H1 => tyV K T x H1 ∧ t σ H1 fun xs H2 => r x xs H2 Q
variable {o e : Expr} {es : List Expr} {to : TE} {t : TA} {name : Str} {apos cpos : Pos} {T id : String} {r : V → List V → Hp → VK → Prop}
theorem pe_bm (pa : PlainAttrs T) (slot : Slot T name id) (hty : typeOf (.builtin id) = pure (.type "method_descriptor")) (hm : MtR X id r) (ho : PE X o to) (ha : PA X (e :: es) t)
    (hbase : attributeBase o name X.env (eval o X.env) = eval o X.env := by rfl)
    (hfew : ((backTo cpos (starEach (e :: es) X.env)).all (fun x => !x.1) && (backToKw cpos (keywordEach [] X.env)).all (fun x => x.1.isSome)
      && decide ((e :: es).length + ([] : List Keyword).length + (if ([] : List Keyword).isEmpty then 0 else 1) < 30)) = true := by rfl)
    (hline : (apos.endLine == cpos.line) = true := by rfl) (hs : starEach (e :: es) X.env = (false, eval e X.env) :: starEach es X.env := by rfl) (hplain : (backTo cpos (starEach es X.env)).any (·.1) = false := by rfl) :
    PE X (.Call (.Attribute o name apos) (e :: es) [] cpos) (tBM X.K T r to t) := by
  intro pins s σ H Q I h
  refine wpAny_Call_method_late hbase hfew hline rfl (thn (ho pins s σ H _ I h) fun v s1 hpat => ?_)
  obtain ⟨x, H1, I1, r1, ty, q1⟩ := hpat
  obtain ⟨h1, h2⟩ := tyV_is I1 r1 ty
  refine ⟨T, id, pa, slot, hty, h1, h2, ?_⟩
  have hA := ha cpos pins s1 σ H1 _ I1 q1
  rw [hs] at hA ⊢
  refine Calls.callWith_builtin (by show (false || (backTo cpos (starEach es X.env)).any (·.1)) = false; rw [hplain] <;> rfl) (Calls.evalArgs_plain ?_)
  exact thn hA fun us s2 ⟨vs, H2, I2, r2, q2⟩ => hm pins s2 σ H2 x vs v us Q I2 r1 r2 q2
/- xs.append(e), list.index on a module's tuple .. are MtR facts of 06m -/
end
end L2

namespace L2
open PySem PySem.Spec PyProof.Rows

noncomputable def MtM (X : Cx) (id : String) (r : V → List V → Hp → VK → Prop) : Prop :=
  ∀ (pins : List (Addr × Obj)) (s : Shared) (σ : St) (H : Hp) (x : V) (xs : List V) (v : Value) (us : List Value) (Q : VK), Inv X pins σ H s → RelV x v → Vals xs us → r x xs H Q →
    wpAny (model X.prog X.w) X.A (call (.builtin id) (v :: us)) (EP X pins σ Q) X.xe s

/-! ### lists of values -/
theorem Vals.one : ∀ {x : V} {us : List Value}, Vals [x] us → ∃ u, us = [u] ∧ RelV x u
  | _, _, .cons r .nil => ⟨_, rfl, r⟩
section
variable {X : Cx} {pins : List (Addr × Obj)} {σ : St} {H : Hp} {s : Shared} {l b : Addr} {xs ys zs : List V}

/-! ### the two steps: a tracked list is rewritten, a new list is laid -/
theorem Inv.lset {its its' : List Value} {n : Nat} {f : Array Value → Array Value} {t' : Nat} (I : Inv X pins σ H s) (hH : H l = some (.lst xs))
    (e : s.heap.get? l = some { cls := .type "list", data := .seq its.toArray n }) (hf : f its.toArray = its'.toArray) (hv : Vals ys its') (hz : ys.length ≤ sizeLine) :
    Inv X pins σ (upd H l (.lst ys)) { s with heap := s.heap.update l (Obj.mapSeq f), toks := t' } := by
  have q := PySem.IsL.update e f
  rw [hf] at q
  refine I.write (x := l) (e := l) (by rw [hH]; exact trivial) (.inl rfl) (fun b' u hb hu => (Heap.get?_update_other s.heap (Obj.mapSeq f) (Ne.symm hb)).trans hu) ⟨_, q⟩ ?_
  exact ⟨hz, its', _, hv, q⟩
theorem Inv.lnew {its : List Value} {t' : Nat} (I : Inv X pins σ H s) (hv : Vals ys its) (hz : ys.length ≤ sizeLine) :
    Inv X pins σ (upd H s.heap.objs.size (.lst ys)) { s with heap := s.heap.push { cls := .type "list", data := .seq its.toArray }, toks := t' } :=
  I.laid (fun _ _ q => Heap.get?_push_of_some _ q) (Nat.le_refl _) ⟨hz, its, 0, hv, Heap.get?_push_size _ rfl⟩
theorem Inv.fresh (I : Inv X pins σ H s) : H s.heap.objs.size = none := I.hok.fresh (Nat.le_refl _)
theorem Inv.lstM (I : Inv X pins σ H s) (hH : H l = some (.lst xs)) : xs.length ≤ sizeLine ∧ ∃ (its : List Value) (n : Nat), Vals xs its ∧ xs.length = its.length ∧ s.heap.get? l = some { cls := .type "list", data := .seq its.toArray n } := by
  obtain ⟨z, its, n, r, e⟩ := I.hok l _ hH
  exact ⟨z, its, n, r, r.length, e⟩

theorem notLongL {n : Nat} (h : n ≤ sizeLine) : Builtin.List.listTooLong n = false := by
  unfold Builtin.List.listTooLong
  exact decide_eq_false (by omega)
end

section
variable {X : Cx}

/-! ### methods -/
noncomputable def rAppend : V → List V → Hp → VK → Prop := fun x vs H Q => ∃ l xs y, x = .ref l ∧ vs = [y] ∧ H l = some (.lst xs) ∧ xs.length < sizeLine ∧ Q .non (upd H l (.lst (xs ++ [y])))
theorem mt_append : MtM X "list.append" rAppend := by
  intro pins s σ H x vs v us Q I rx rv h
  obtain ⟨l, xs, y, rfl, rfl, hH, hz, q⟩ := h
  cases rx
  obtain ⟨u, rfl, ru⟩ := rv.one
  obtain ⟨z, its, n, r, hl, e⟩ := I.lstM hH
  refine call_meets F.slot_list_append ⟨_, e, rfl⟩ F.entry_list_append (F.args_list_append_2 _ _) (PySem.list_append l its.toArray n u (by rw [List.size_toArray]; omega)) ⟨e, ?_⟩
  refine ⟨.non, _, I.lset (its' := its ++ [u]) hH e (by simp) (r.append (.cons ru .nil)) ?_, rfl, q⟩
  rw [List.length_append, List.length_singleton]
  omega

noncomputable def rExtend : V → List V → Hp → VK → Prop := fun x vs H Q => ∃ l b xs zs, x = .ref l ∧ vs = [.ref b] ∧ H l = some (.lst xs) ∧ H b = some (.lst zs) ∧ xs.length + zs.length ≤ sizeLine ∧ Q .non (upd H l (.lst (xs ++ zs)))
theorem mt_extend : MtM X "list.extend" rExtend := by
  intro pins s σ H x vs v us Q I rx rv h
  obtain ⟨l, b, xs, zs, rfl, rfl, hH, hB, hz, q⟩ := h
  cases rx
  obtain ⟨u, rfl, ru⟩ := rv.one
  cases ru
  obtain ⟨z, its, n, r, hl, e⟩ := I.lstM hH
  obtain ⟨z2, its2, n2, r2, hl2, e2⟩ := I.lstM hB
  have hsz : its.toArray.size + its2.toArray.size ≤ sizeLine := by rw [List.size_toArray, List.size_toArray]; omega
  have hlong : ¬ (!its.toArray.isEmpty && Builtin.List.listTooLong (its.toArray.size + its2.toArray.size)) = true := by
    rw [notLongL hsz, Bool.and_false]
    exact Bool.false_ne_true
  refine call_meets F.slot_list_extend ⟨_, e, rfl⟩ F.entry_list_extend (F.args_list_extend_2 _ _)
    (AutoSeq1.list_extend_list_list_0 l its.toArray n b its2.toArray n2 hlong (by rw [List.size_toArray]; omega) (by omega)) ⟨e, e2, ?_⟩
  refine ⟨.non, _, I.lset (its' := its ++ its2) hH e (by simp) (r.append r2) ?_, rfl, q⟩
  rw [List.length_append]
  omega

/-! ### list + list, list += list, list * int -/
noncomputable def rCat : R2 := fun x y H Q => ∃ l b xs zs, x = .ref l ∧ y = .ref b ∧ H l = some (.lst xs) ∧ H b = some (.lst zs) ∧ xs.length + zs.length ≤ sizeLine ∧ ∀ p, H p = none → Q (.ref p) (upd H p (.lst (xs ++ zs)))
theorem op_cat : OpR X (binaryOp .Add) rCat := by
  intro pins s σ H x y v u Q I rx ry h
  obtain ⟨l, b, xs, zs, rfl, rfl, hH, hB, hz, q⟩ := h
  cases rx
  cases ry
  obtain ⟨z, its, n, r, hl, e⟩ := I.lstM hH
  obtain ⟨z2, its2, n2, r2, hl2, e2⟩ := I.lstM hB
  refine PySem.P.add_list e e2 ?_ (by rw [List.size_toArray, List.size_toArray]; omega)
  have ea : its.toArray ++ its2.toArray = (its ++ its2).toArray := by simp
  rw [ea]
  exact ⟨.ref _, _, I.lnew (t' := s.toks) (r.append r2) (by rw [List.length_append]; omega), rfl, q _ I.fresh⟩
/-! ### del xs[i] -/
end

/-! ### xs[a:b] = ys -/
section
variable {prog : Program} {w : World} {A : Around} {E : Value → Shared → Prop} {s : Shared}
set_option maxRecDepth 100000 in
end

section
variable {X : Cx}
end
end L2

namespace L2
open PySem PySem.Spec PyProof.Rows

theorem Vals.ints : ∀ {ns : List Int} {us : List Value}, Vals (ns.map V.int) us → IntsAre us ns
  | [], us, h => by
    rw [List.map_nil] at h
    cases h
    exact IntsAre.nil
  | n :: ns, us, h => by
    rw [List.map_cons] at h
    cases h with
    | cons r t =>
      obtain ⟨k, rfl⟩ := r
      exact IntsAre.cons n k (Vals.ints t)
theorem Vals.ref1 {a : Addr} {us : List Value} (r : Vals [V.ref a] us) : us = [Value.ref a] := by
  cases r with
  | cons r t =>
    cases t
    cases r
    rfl
/-! ### the library's walks over a list of ints, kept objects alone -/
section
variable {prog : Program} {w : World} {A : Around} {E : Value → Shared → Prop} {s : Shared} {l : Addr} {its : List Value} {ns : List Int} {Q : Value → Shared → Prop}
theorem sum_raw (hh : A.handled = none) (hl : s.heap.IsList l its.toArray) (hi : IntsAre its ns)
    (h : ∀ h' tk t', (∀ b o, s.heap.get? b = some o → h'.get? b = some o) → Q (.int ns.sum t') { s with heap := h', toks := tk }) : wpAny (model prog w) A (call (.builtin "sum") [.ref l]) Q E s := by
  obtain ⟨xs, e⟩ := hi.allInts.items
  have hn : numsOf (intItems xs).toList = ns := by rw [← e]; exact hi.numsOf
  rw [nums_intItems] at hn
  rw [e] at hl
  refine PySem.sum_intListG hh hl fun h' tk t' hk => ?_
  have := h h' tk t' hk
  rw [preSum_eq, List.take_of_length_le (by simp), hn]; exact this
end

/-! ### the calls, by values (CallR of 03t; MtR of 06l) -/
section
variable {X : Cx}
/-- sum(xs) of a list of ints -/
noncomputable def rSum (K : PySem.W.Frag) : List V → Hp → VK → Prop := fun vs H Q => ∃ (a : Addr) (ns : List Int), vs = [V.ref a] ∧ SqL K H a (ns.map V.int) ∧ Q (.int ns.sum) H
theorem cr_sum (hc : X.calm = true) : CallR X (.builtin "sum") (rSum X.K) := by
  intro pins s σ H vs us Q I r h
  obtain ⟨a, ns, rfl, hs, q⟩ := h
  obtain ⟨its, rv, hl, _⟩ := I.list hs
  rw [Vals.ref1 r]
  exact sum_raw (I.ok.hd hc) hl.isList rv.ints fun h' tk t' hk => ⟨.int _, H, I.kept hk, ⟨_, rfl⟩, q⟩
/-! sorted, sort (fewer than 64 items: the library's own bound) -/
end

/-! ### list.index, flat items -/
section
variable {X : Cx}
end

/-! ### type(x) of an own instance; is, is not of a module's class -/
section
variable {X : Cx}
end

/-! ### any(xs), all(xs) of a list of bools -/
section
variable {X : Cx}
end

/-! ### == and != of data at any depth: none, bools, ints, texts, lists, tuples -/
section
variable {X : Cx} {pins : List (Addr × Obj)} {σ : St} {H : Hp} {s : Shared}
end
section
variable {X : Cx}
end
end L2

namespace L2
open PySem PySem.Spec PyProof.Rows
noncomputable abbrev CellAt (h : Heap) (c : Addr) (v : Option Value) : Prop := h.IsCell c v
noncomputable def relS (scope sc : Scope) : Scope :=
  { scope with names := scope.names.map fun (n, k) => if (k == .free && sc.kind == .function && sc.names.lookup n == some .cell) then (n, .cell) else (n, k) }

noncomputable def cloFrom (cells : List (Str × Addr)) : List (Str × NameKind) → List (Str × Addr) → List (Str × Addr)
  | [], acc => acc
  | (n, k) :: r, acc => if k == .free then cloFrom cells r ((n, (cells.lookup n).getD 0) :: acc) else cloFrom cells r acc

theorem closure_loop (env : Env) (f : Str × NameKind → List (Str × Addr) → Sem (ForInStep (List (Str × Addr))))
    (hf : ∀ n k c, f (n, k) c = if k == .free then (do let a ← cellOf env n; pure (.yield ((n, a) :: c))) else pure (.yield c)) :
    ∀ (names : List (Str × NameKind)) (acc : List (Str × Addr)), (∀ y ∈ names, y.2 = .free → ∃ c, env.cells.lookup y.1 = some c) → forIn names acc f = pure (cloFrom env.cells names acc)
  | [], acc, _ => by rw [List.forIn_nil]; rfl
  | (n, k) :: r, acc, h => by
    rw [List.forIn_cons, hf]
    have ih := fun acc => closure_loop env f hf r acc fun y hy => h y (List.mem_cons_of_mem _ hy)
    unfold cloFrom
    by_cases hk : (k == NameKind.free) = true
    · rw [if_pos hk, if_pos hk]
      obtain ⟨c, hc⟩ := h (n, k) List.mem_cons_self (by simpa using hk)
      have e : cellOf env n = pure c := by unfold cellOf; rw [hc]
      rw [e]
      have e2 : (env.cells.lookup n).getD 0 = c := by rw [hc]; rfl
      rw [e2]
      exact ih _
    · rw [if_neg hk, if_neg hk]
      exact ih _
theorem closure_ok {scope : Scope} {env : Env} (h : ∀ y ∈ scope.names, y.2 = .free → ∃ c, env.cells.lookup y.1 = some c) : closureFor scope env = pure (cloFrom env.cells scope.names []) := by
  simp only [closureFor]
  rw [closure_loop env _ (fun n k c => rfl) scope.names [] h]
  rfl

theorem mem_lookup {α : Type} : ∀ {l : List (Str × α)} {n : Str} {c : α}, (n, c) ∈ l → ∃ c', l.lookup n = some c'
  | (k, v) :: r, n, c, h => by
    rw [List.lookup_cons]
    cases hb : n == k with
    | true => exact ⟨_, rfl⟩
    | false =>
      rcases List.mem_cons.mp h with e | h
      · cases e; simp at hb
      · exact mem_lookup h

theorem cloFrom_mem {cells : List (Str × Addr)} : ∀ {names : List (Str × NameKind)} {acc : List (Str × Addr)} {n : Str} {c : Addr}, (n, c) ∈ cloFrom cells names acc → (n, c) ∈ acc ∨ ((n, .free) ∈ names ∧ c = (cells.lookup n).getD 0)
  | [], _, _, _, h => .inl h
  | (m, k) :: r, acc, n, c, h => by
    unfold cloFrom at h
    split at h
    · rename_i hk
      have hk : k = .free := by simpa using hk
      rcases cloFrom_mem h with h | ⟨h1, h2⟩
      · rcases List.mem_cons.mp h with e | h
        · cases e; exact .inr ⟨hk ▸ List.mem_cons_self, rfl⟩
        · exact .inl h
      · exact .inr ⟨List.mem_cons_of_mem _ h1, h2⟩
    · rcases cloFrom_mem h with h | ⟨h1, h2⟩
      · exact .inl h
      · exact .inr ⟨List.mem_cons_of_mem _ h1, h2⟩
theorem cloFrom_acc {cells : List (Str × Addr)} : ∀ {names : List (Str × NameKind)} {acc : List (Str × Addr)} {p : Str × Addr}, p ∈ acc → p ∈ cloFrom cells names acc
  | [], _, _, h => h
  | (m, k) :: r, acc, p, h => by
    unfold cloFrom
    split
    · exact cloFrom_acc (List.mem_cons_of_mem _ h)
    · exact cloFrom_acc h
theorem cloFrom_has {cells : List (Str × Addr)} : ∀ {names : List (Str × NameKind)} {acc : List (Str × Addr)} {n : Str}, (n, .free) ∈ names → (n, (cells.lookup n).getD 0) ∈ cloFrom cells names acc
  | (m, k) :: r, acc, n, h => by
    unfold cloFrom
    rcases List.mem_cons.mp h with e | h
    · cases e
      exact cloFrom_acc List.mem_cons_self
    · split
      · exact cloFrom_has h
      · exact cloFrom_has h

theorem cells_mem : ∀ {names : List (Str × NameKind)} {h : Heap} {acc : List (Str × Addr)} {x : Str} {c : Addr}, (x, c) ∈ cellsFrom h.objs.size names acc →
    (x, c) ∈ acc ∨ ((x, .cell) ∈ names ∧ h.objs.size ≤ c ∧ CellAt (pushCells h names) c none)
  | [], _, _, _, _, h => .inl h
  | (n, k) :: r, h, acc, x, c, hm => by
    unfold cellsFrom at hm
    unfold pushCells
    split at hm
    · rename_i hk
      rw [if_pos hk]
      have hk : k = .cell := by simpa using hk
      rw [← Heap.size_push h { cls := .type "cell", data := .cell none }] at hm
      rcases cells_mem hm with hm | ⟨h1, h2, h3⟩
      · rcases List.mem_cons.mp hm with e | hm
        · cases e
          exact .inr ⟨hk ▸ List.mem_cons_self, Nat.le_refl _, _, pushCells_keeps r _ _ _ (Heap.get?_push_size _ rfl), rfl⟩
        · exact .inl hm
      · rw [Heap.size_push] at h2
        exact .inr ⟨List.mem_cons_of_mem _ h1, Nat.le_of_succ_le h2, h3⟩
    · rename_i hk
      rw [if_neg hk]
      rcases cells_mem hm with hm | ⟨h1, h2, h3⟩
      · exact .inl hm
      · exact .inr ⟨List.mem_cons_of_mem _ h1, h2, h3⟩
theorem cells_acc : ∀ {names : List (Str × NameKind)} {n : Nat} {acc : List (Str × Addr)} {p : Str × Addr}, p ∈ acc → p ∈ cellsFrom n names acc
  | [], _, _, _, h => h
  | (m, k) :: r, n, acc, p, h => by
    unfold cellsFrom
    split
    · exact cells_acc (List.mem_cons_of_mem _ h)
    · exact cells_acc h
theorem cells_has : ∀ {names : List (Str × NameKind)} {n : Nat} {acc : List (Str × Addr)} {x : Str}, (x, .cell) ∈ names → ∃ c, (x, c) ∈ cellsFrom n names acc
  | (m, k) :: r, n, acc, x, h => by
    unfold cellsFrom
    rcases List.mem_cons.mp h with e | h
    · cases e
      exact ⟨n, cells_acc List.mem_cons_self⟩
    · split
      · exact cells_has h
      · exact cells_has h
theorem cells_inj : ∀ {names : List (Str × NameKind)} {h : Heap} {acc : List (Str × Addr)} {x y : Str} {c : Addr}, (∀ p ∈ acc, p.2 < h.objs.size) → (∀ x y c, (x, c) ∈ acc → (y, c) ∈ acc → x = y) →
    (x, c) ∈ cellsFrom h.objs.size names acc → (y, c) ∈ cellsFrom h.objs.size names acc → x = y
  | [], _, _, _, _, _, _, hi, h1, h2 => hi _ _ _ h1 h2
  | (n, k) :: r, h, acc, x, y, c, hl, hi, h1, h2 => by
    unfold cellsFrom at h1 h2
    split at h1
    · rename_i hk
      rw [if_pos hk] at h2
      rw [← Heap.size_push h { cls := .type "cell", data := .cell none }] at h1 h2
      refine cells_inj (h := h.push _) (fun p hp => ?_) (fun x y c a b => ?_) h1 h2
      · rw [Heap.size_push]
        rcases List.mem_cons.mp hp with rfl | hp
        · exact Nat.lt_succ_self _
        · exact Nat.lt_succ_of_lt (hl p hp)
      · rcases List.mem_cons.mp a with e | a <;> rcases List.mem_cons.mp b with e' | b
        · cases e; cases e'; rfl
        · cases e; exact absurd (hl _ b) (Nat.lt_irrefl _)
        · cases e'; exact absurd (hl _ a) (Nat.lt_irrefl _)
        · exact hi _ _ _ a b
    · rename_i hk
      rw [if_neg hk] at h2
      exact cells_inj hl hi h1 h2

theorem newEnv_comp {M : Model} {A : Around} {E : Value → Shared → Prop} {s : Shared} {scope : Scope} {globals : Addr} {closure : List (Str × Addr)} {qual : Str} {func : Option Addr} {code : Value} {around : Env} {builtins : Addr} {Q : Env → Shared → Prop}
    (h : Q (newEnv scope s.heap.objs.size globals (cellsFrom (s.heap.objs.size + 1) scope.names closure) qual func code (some around) builtins)
      { s with heap := pushCells (s.heap.push { cls := .type "dict", data := .dict #[] }) scope.names }) :
    wpAny M A (newFunctionEnv scope globals closure [] qual func code (some around) builtins) Q E s := by
  simp only [newFunctionEnv, Option.isSome_some, if_true]
  refine wpAny_bind (wpAny_alloc ?_)
  refine wpAny_bind (wpAny_layCells _ (fun n k c => rfl) scope.names closure _ _ ?_)
  rw [show ({ s with heap := s.heap.push { cls := .type "dict", data := .dict #[] } } : Shared).heap.objs.size = s.heap.objs.size + 1 from Heap.size_push ..]
  rw [List.forIn_nil]
  exact wpAny_bind (wpAny_pure (wpAny_pure h))

/-- every name of the written scope, in the scope that runs -/
theorem lookup_relS {sc : Scope} : ∀ {names : List (Str × NameKind)} {x : Str} {k : NameKind},
    (names.map fun (n, k) => if (k == NameKind.free && sc.kind == .function && sc.names.lookup n == some .cell) then (n, NameKind.cell) else (n, k)).lookup x = some k →
    ∃ k', names.lookup x = some k' ∧ (k = k' ∨ (k' = .free ∧ k = .cell))
  | [], _, _, h => by simp at h
  | (n, k₀) :: r, x, k, h => by
    have ih := @lookup_relS sc r x k
    have h' : List.lookup x ((if (k₀ == NameKind.free && sc.kind == .function && sc.names.lookup n == some .cell) = true then (n, NameKind.cell) else (n, k₀)) :: (r.map _)) = some k := h
    cases hx : x == n with
    | true =>
      simp only [List.lookup_cons, hx]
      by_cases hc : (k₀ == NameKind.free && sc.kind == .function && sc.names.lookup n == some .cell) = true
      · rw [if_pos hc] at h'
        simp only [List.lookup_cons, hx] at h'
        cases h'
        simp only [Bool.and_eq_true, beq_iff_eq] at hc
        exact ⟨k₀, rfl, .inr ⟨hc.1.1, rfl⟩⟩
      · rw [if_neg hc] at h'
        simp only [List.lookup_cons, hx] at h'
        cases h'
        exact ⟨_, rfl, .inl rfl⟩
    | false =>
      simp only [List.lookup_cons, hx]
      by_cases hc : (k₀ == NameKind.free && sc.kind == .function && sc.names.lookup n == some .cell) = true
      · rw [if_pos hc] at h'
        simp only [List.lookup_cons, hx] at h'
        exact ih h'
      · rw [if_neg hc] at h'
        simp only [List.lookup_cons, hx] at h'
        exact ih h'
/-- the names of a comprehension's block: its own (with their places in N), or captured -/
structure BlkOk (N : List Str) (sc scope : Scope) (own : List (Str × Nat)) : Prop where
  kind : scope.kind = .function
  uniq : ∀ y ∈ scope.names, scope.names.lookup y.1 = some y.2
  ix : ∀ p ∈ own, N[p.2]? = some p.1
  free : ∀ y ∈ scope.names, y.2 = .free → sc.names.lookup y.1 = some .cell ∨ sc.names.lookup y.1 = some .free
  own : ∀ y ∈ scope.names, y.2 = .local ∨ y.2 = .cell → y.1 ∈ own.map (·.1) ∨ y.1 ∉ N
/-- the slots of the block's own names forgotten -/
noncomputable def wipe (σ : St) : List Nat → St
  | [] => σ
  | v :: vs => (wipe σ vs).set v none
theorem wipe_length (σ : St) : ∀ vs : List Nat, (wipe σ vs).length = σ.length
  | [] => rfl
  | v :: vs => by unfold wipe; rw [List.length_set, wipe_length σ vs]
theorem wipe_some {σ : St} {i : Nat} {x : V} : ∀ {vs : List Nat}, (wipe σ vs)[i]? = some (some x) → σ[i]? = some (some x) ∧ i ∉ vs
  | [], h => ⟨h, by simp⟩
  | v :: vs, h => by
    unfold wipe at h
    by_cases hi : v = i
    · subst hi
      by_cases hv : v < (wipe σ vs).length
      · rw [List.getElem?_set_self hv] at h; cases h
      · rw [List.getElem?_eq_none (by simpa using hv)] at h; cases h
    · rw [List.getElem?_set_ne hi] at h
      obtain ⟨h1, h2⟩ := wipe_some h
      exact ⟨h1, by simp only [List.mem_cons, not_or]; exact ⟨fun e => hi e.symm, h2⟩⟩

/-- the context of a block that starts at s, its iterator's objects at fp -/
noncomputable abbrev Cx.blk (X : Cx) (s : Shared) (H : Hp) (scope : Scope) (cenv : Env) (fp : List Addr) : Cx := { X with s₀ := s, H₀ := H, env := cenv, outer := X.stack, ex := fp, fn := fun x => scope.names.lookup x == some .cell, pn := [], xe := fun _ _ => False }
section
variable {X : Cx} {pins : List (Addr × Obj)} {σ : St} {H : Hp} {s : Shared}
theorem block_start {scope : Scope} {own : List (Str × Nat)} {fp : List Addr} (I : Inv X pins σ H s) (ok : BlkOk X.N X.env.scope scope own) (hN : X.N.Nodup) (hfp : ∀ b ∈ fp, FpOk X pins H b ∧ b < s.heap.objs.size) :
    Inv (X.blk s H scope (compEnvC scope (cellsFrom (s.heap.objs.size + 1) scope.names (cloFrom X.env.cells scope.names [])) s.heap.objs.size X.env) fp) [] (wipe σ (own.map (·.2))) H { s with heap := pushCells (s.heap.push { cls := .type "dict", data := .dict #[] }) scope.names } := by
  have hfree : ∀ y ∈ scope.names, y.2 = .free → ∃ c, X.env.cells.lookup y.1 = some c := fun y hy e => by
    rcases ok.free y hy e with k | k
    · exact I.ok.has _ (.inl k)
    · exact I.ok.has _ (.inr k)
  generalize hcenv : compEnvC scope (cellsFrom (s.heap.objs.size + 1) scope.names (cloFrom X.env.cells scope.names [])) s.heap.objs.size X.env = cenv
  have kp : ∀ b o, s.heap.get? b = some o → (pushCells (s.heap.push { cls := .type "dict", data := .dict #[] }) scope.names).get? b = some o := fun b o e => pushCells_keeps _ _ _ _ (Heap.get?_push_of_some _ e)
  have hL : cenv.locals = s.heap.objs.size := by rw [← hcenv]; rfl
  have hcl : cenv.cells = cellsFrom (s.heap.objs.size + 1) scope.names (cloFrom X.env.cells scope.names []) := by rw [← hcenv]; rfl
  have hsc : cenv.scope = relS scope X.env.scope := by rw [← hcenv]; rfl
  rw [← Heap.size_push s.heap { cls := .type "dict", data := .dict #[] }] at hcl
  have cm : ∀ {y c}, (y, c) ∈ cloFrom X.env.cells scope.names [] → X.env.cells.lookup y = some c ∧ c < s.heap.objs.size := fun {y c} hm => by
    rcases cloFrom_mem hm with hm | ⟨h1, rfl⟩
    · cases hm
    · obtain ⟨c, hc⟩ := hfree _ h1 rfl
      rw [hc]
      obtain ⟨w, z⟩ := I.cell _ _ hc
      exact ⟨rfl, z.lt⟩
  have mem : ∀ {y c}, cenv.cells.lookup y = some c → (X.env.cells.lookup y = some c ∧ c < s.heap.objs.size) ∨ (s.heap.objs.size + 1 ≤ c ∧ CellAt (pushCells (s.heap.push { cls := .type "dict", data := .dict #[] }) scope.names) c none) := fun {y c} e => by
    rw [hcl] at e
    rcases cells_mem (PySem.mem_of_lookup e) with hm | ⟨_, h2, h3⟩
    · exact .inl (cm hm)
    · rw [Heap.size_push] at h2; exact .inr ⟨h2, h3⟩
  have look : ∀ {y}, scope.names.lookup y = some .free → ∃ c, cenv.cells.lookup y = some c ∧ X.env.cells.lookup y = some c := fun {y} hl => by
    have hy : (y, NameKind.free) ∈ scope.names := PySem.mem_of_lookup hl
    obtain ⟨c', e'⟩ := mem_lookup (cells_acc (names := scope.names) (n := (s.heap.push { cls := .type "dict", data := .dict #[] }).objs.size) (cloFrom_has (cells := X.env.cells) (acc := []) hy))
    rw [← hcl] at e'
    refine ⟨c', e', ?_⟩
    rw [hcl] at e'
    rcases cells_mem (PySem.mem_of_lookup e') with hm | ⟨h1, _, _⟩
    · exact (cm hm).1
    · have := ok.uniq _ h1
      rw [hl] at this; cases this
  have okB : (X.blk s H scope cenv fp).Ok := by
    refine ⟨I.ok.mod, by show cenv.scope.kind = _; rw [hsc]; exact ok.kind, by show cenv.globals = _; rw [← hcenv]; exact I.ok.glob, by show cenv.builtins = _; rw [← hcenv]; exact I.ok.blt, by show s.heap.objs.size ≤ cenv.locals; rw [hL]; exact Nat.le_refl _,
      fun y z c e1 e2 => ?_, fun y hy => ?_, fun y c z e => ?_, I.ok.hd, I.ok.frames, .inl rfl, fun b hb => ⟨?_, fun y c e z => ?_⟩, I.bs, Nat.le_trans I.ok.bsz I.sz, fun b o e hb => ?_, fun b hb z => ?_, I.stack, I.stkFree⟩
    · have e1 : cenv.cells.lookup y = some c := e1
      have e2 : cenv.cells.lookup z = some c := e2
      rw [hcl] at e1 e2
      refine cells_inj (fun p hp => ?_) (fun y z c a b => I.ok.inj y z c (cm a).1 (cm b).1) (PySem.mem_of_lookup e1) (PySem.mem_of_lookup e2)
      rw [Heap.size_push]
      exact Nat.lt_succ_of_lt (cm (y := p.1) (c := p.2) hp).2
    · show ∃ c, cenv.cells.lookup y = some c
      have key : ∀ k, cenv.kindOf y = some k → (k = .cell ∨ k = .free) → ∃ c, cenv.cells.lookup y = some c := fun k hk hk' => by
        unfold Env.kindOf at hk
        rw [hsc] at hk
        obtain ⟨k', e, r⟩ := lookup_relS hk
        have : k' = .cell ∨ k' = .free := by
          rcases r with rfl | ⟨rfl, _⟩
          · exact hk'
          · exact .inr rfl
        rcases this with rfl | rfl
        · obtain ⟨c, hm⟩ := cells_has (n := (s.heap.push { cls := .type "dict", data := .dict #[] }).objs.size) (acc := cloFrom X.env.cells scope.names []) (PySem.mem_of_lookup e)
          obtain ⟨c', e'⟩ := mem_lookup hm
          exact ⟨c', by rw [hcl]; exact e'⟩
        · obtain ⟨c, h1, _⟩ := look e
          exact ⟨c, h1⟩
      rcases hy with hy | hy
      · exact key _ hy (.inl rfl)
      · exact key _ hy (.inr rfl)
    · have z : (scope.names.lookup y == some NameKind.cell) = true := z
      have z : scope.names.lookup y = some .cell := by simpa using z
      have e : cenv.cells.lookup y = some c := e
      rw [hcl] at e
      rcases cells_mem (PySem.mem_of_lookup e) with hm | ⟨_, h2, _⟩
      · rcases cloFrom_mem hm with hm | ⟨h1, _⟩
        · cases hm
        · have q := ok.uniq _ h1
          rw [z] at q; cases q
      · rw [Heap.size_push] at h2
        exact Nat.le_of_succ_le h2
    · show b ≠ cenv.locals
      rw [hL]; exact Nat.ne_of_lt (hfp b hb).2
    · have e : cenv.cells.lookup y = some c := e
      rcases mem e with ⟨h1, _⟩ | ⟨h1, _⟩
      · exact (hfp b hb).1.2.2.2.2.1 y c h1 z
      · have h2 : s.heap.objs.size + 1 ≤ b := by rw [← z]; exact h1
        exact absurd (Nat.lt_of_lt_of_le (hfp b hb).2 (Nat.le_of_succ_le h2)) (Nat.lt_irrefl _)
    · rcases (hfp b hb).1.2.2.2.1 with z | z
      · exact I.ok.noex b o e z
      · exact absurd (Nat.lt_of_lt_of_le (Heap.lt_size e) (Nat.le_trans I.ok.bsz z)) (Nat.lt_irrefl _)
    · rcases List.mem_cons.mp (I.stkSub b z) with z | z
      · exact (hfp b hb).1.2.1 z
      · exact (hfp b hb).1.2.2.1 z
  refine ⟨okB, rfl, I.bare, Un.kept kp, ⟨fun _ => none, ?_, fun i y av e1 e2 e3 => ?_⟩, fun y c e => ?_, ?_, fun y c e => ?_, fun p hp => ?_, I.hok.kept kp, by rw [wipe_length]; exact I.len⟩
  · show Heap.Ns _ cenv.locals _
    rw [hL]
    exact Heap.Ns.keeps (Heap.Ns.new ..) fun b o e => pushCells_keeps _ _ _ _ e
  · obtain ⟨e2, hne⟩ := wipe_some e2
    have hfr : scope.names.lookup y = some .free ∧ (cenv.kindOf y = some .cell ∨ cenv.kindOf y = some .free) := by
      have key : ∀ k, cenv.scope.names.lookup y = some k → k = .local ∨ k = .cell ∨ k = .free → scope.names.lookup y = some .free ∧ (cenv.kindOf y = some .cell ∨ cenv.kindOf y = some .free) := fun k hk hk' => by
        have hk0 := hk
        rw [hsc] at hk
        obtain ⟨k', e, r⟩ := lookup_relS hk
        have no : ¬ (k' = .local ∨ k' = .cell) := fun hh => by
          rcases ok.own _ (PySem.mem_of_lookup e) hh with e' | e'
          · obtain ⟨p, hp, hpy⟩ := List.mem_map.mp e'
            have e3 := ok.ix p hp
            have : p.1 = y := hpy
            rw [this] at e3
            exact hne (List.mem_map.mpr ⟨p, hp, nodup_ix hN e3 e1⟩)
          · exact e' (List.mem_of_getElem? e1)
        rcases r with rfl | ⟨rfl, rfl⟩
        · rcases hk' with rfl | rfl | rfl
          · exact absurd (.inl rfl) no
          · exact absurd (.inr rfl) no
          · exact ⟨e, .inr hk0⟩
        · exact ⟨e, .inl hk0⟩
      have e3 : Vis cenv.scope y := e3
      rcases e3 with e3 | e3 | e3
      · exact key _ e3 (.inl rfl)
      · exact key _ e3 (.inr (.inl rfl))
      · exact key _ e3 (.inr (.inr rfl))
    obtain ⟨m, hn, hl⟩ := I.loc
    have hvis : Vis X.env.scope y := (ok.free _ (PySem.mem_of_lookup hfr.1) rfl).elim (fun k => .inr (.inl k)) (fun k => .inr (.inr k))
    obtain ⟨w, r, q⟩ := hl i y av e1 e2 hvis
    refine ⟨w, r, .inr ⟨hfr.2, ?_⟩⟩
    obtain ⟨c, h1, h2⟩ := look hfr.1
    rcases q with ⟨k, _⟩ | ⟨_, c', e', z⟩
    · have k : X.env.scope.names.lookup y = some .local := k
      rcases ok.free _ (PySem.mem_of_lookup hfr.1) rfl with k' | k' <;> rw [show X.env.scope.names.lookup y = _ from k'] at k <;> cases k
    · rw [h2] at e'; cases e'
      exact ⟨c, h1, z.keeps kp⟩
  · have e : cenv.cells.lookup y = some c := e
    rcases mem e with ⟨h1, _⟩ | ⟨_, z⟩
    · obtain ⟨w, z⟩ := I.cell y c h1
      exact ⟨w, z.keeps kp⟩
    · exact ⟨_, z⟩
  · show H cenv.locals = none
    rw [hL]; exact I.hok.fresh (Nat.le_refl _)
  · have e : cenv.cells.lookup y = some c := e
    rcases mem e with ⟨h1, _⟩ | ⟨h1, _⟩
    · exact I.freeC y c h1
    · exact I.hok.fresh (Nat.le_of_succ_le h1)
  · exact absurd (show p ∈ ([] : List (Addr × Obj)) ++ [] from hp) (by simp)

/-- an item appended to a tracked list -/
theorem app_ok {E : Value → Shared → Prop} {D : Addr} {xs : List V} {y : V} {v : Value} {Q : Value → Shared → Prop} (I : Inv X pins σ H s) (hD : H D = some (.lst xs)) (hz : xs.length < sizeLine) (r : RelV y v)
    (h : ∀ s', Inv X pins σ (upd H D (.lst (xs ++ [y]))) s' → Q .none s') : wpAny (model X.prog X.w) X.A (call (.builtin "list.append") [.ref D, v]) Q E s := by
  obtain ⟨hz', its, n, ri, e⟩ := I.hok D _ hD
  have hl := ri.length
  refine append_at (hsz := by rw [List.size_toArray]; omega) e fun h' sb ho' => ?_
  refine h { s with heap := h' } (I.write (t' := s.toks) (by rw [hD]; trivial) (.inl rfl) (fun b u hb q => (sb.2 b hb).trans q) ⟨_, ho'⟩ ⟨by rw [List.length_append]; exact hz, its ++ [v], n + 1, ri.append (.cons r .nil), ?_⟩)
  rw [ho']
  simp

/-- a clause's tests -/
noncomputable def PTs (X : Cx) (ifs : List Expr) (t : TT) : Prop :=
  ∀ (pins : List (Addr × Obj)) (s : Shared) (σ : St) (H : Hp) (Q : Bool → Hp → Prop), Inv X pins σ H s → t σ H Q →
    wpAny (model X.prog X.w) X.A (forIn ifs true fun c r => if r = true then do let ok ← isTrue c X.env (eval c X.env); pure (ForInStep.yield ok) else pure (ForInStep.yield r)) (TP X pins σ Q) X.xe s
noncomputable def tYes : TT := fun _ H Q => Q true H
theorem pts_nil : PTs X [] tYes := fun _ _ _ H _ I h => wpAny_tests_nil ⟨H, I, h⟩
end

theorem thnF {α : Type} {t : Sem α} {Q Q' : α → Shared → Prop} {M : Model} {A : Around} {E : Value → Shared → Prop} {s : Shared} (h : wpAny M A t Q (fun _ _ => False) s) (hQ : ∀ a s, Q a s → Q' a s) : wpAny M A t Q' E s := wpAny_mono h hQ fun _ _ z => False.elim z

/-- the loop of a list comprehension's block, the target of any form (codeAny_compLoop_tests asks a target that no tuple goes to; statement and proof follow it, PyProof/CompMap.lean:41-61, with the step letOwnedTupleGo kept) -/
theorem compLoop_any {prog : Program} {w : World} {A : Around} {R : Result → Shared → Prop} {s : Shared} {elt target iter : Expr} {ifs : List Expr} {scope : Scope} {pos : Pos} {it acc : Value} {env : Env} (I : Nat → Shared → Prop)
    (turn : ∀ n s, I n s → wpAny (model prog w) A (pyNext it) (fun r s₁ => match r with
      | none => R (.ok .next) s₁
      | some v => wpAny (model prog w) A (letOwnedTupleGo target it v) (fun _ s₁' => wpAny (model prog w) A (assign target env v) (fun _ s₂ =>
          wpAny (model prog w) A (forIn ifs true fun c r => if r = true then do let ok ← isTrue c env (eval c env); pure (ForInStep.yield ok) else pure (ForInStep.yield r)) (fun ok s₃ =>
            if ok = true then wpAny (model prog w) A (eval elt env) (fun x s₄ =>
              wpAny (model prog w) A (call (.builtin "list.append") [acc, x]) (fun _ s₅ => ∃ m, m < n ∧ I m s₅) (notedBy (model prog w) A env fun e s' => R (.error e) s') s₄) (notedBy (model prog w) A env fun e s' => R (.error e) s') s₃
            else ∃ m, m < n ∧ I m s₃) (notedBy (model prog w) A env fun e s' => R (.error e) s') s₂) (notedBy (model prog w) A env fun e s' => R (.error e) s') s₁') (notedBy (model prog w) A env fun e s' => R (.error e) s') s₁) (notedBy (model prog w) A env fun e s' => R (.error e) s') s)
    (n : Nat) (h : I n s) :
    codeAny (model prog w) A (.compLoop (.ListComp elt [⟨target, iter, ifs, 0⟩] scope pos) 0 it acc env) R s := by
  refine codeAny_loop rfl I (fun n s hI => ?_) n h
  show wpAny _ A ((compTurn (.ListComp elt [⟨target, iter, ifs, 0⟩] scope pos) 0 it acc env).onRaise (fun x => do noteFrame x env; theTreesLotGoes x)) _ _ s
  refine wpAny_noted ?_
  rw [compTurn_list]
  refine wpAny_bind (wpAny_standAt (wpAny_bind (wpAny_mono (turn n s hI) (fun r s₁ h₁ => ?_) fun _ _ h' => h')))
  cases r with
  | none => exact wpAny_pure h₁
  | some v =>
    refine wpAny_bind (wpAny_mono h₁ (fun _ s₁' h₁' => ?_) fun _ _ h' => h')
    refine wpAny_bind (wpAny_mono h₁' (fun _ s₂ h₂ => wpAny_bind (wpAny_mono h₂ (fun ok s₃ h₃ => ?_) fun _ _ h' => h')) fun _ _ h' => h')
    cases ok with
    | false => exact wpAny_pure ⟨rfl, h₃⟩
    | true =>
      exact wpAny_bind (wpAny_bind (wpAny_mono h₃ (fun x s₄ h₄ => wpAny_bind (wpAny_mono h₄ (fun _ s₅ h₅ => wpAny_pure (wpAny_pure ⟨rfl, h₅⟩)) fun _ _ h' => h')) fun _ _ h' => h'))

section
variable {X : Cx}
/-- [elt for target in iter if ..]: D the new list; W by the turn and a measure, Nx what a turn is to reach -/
noncomputable def tLc (wi : TI) (g : TG) (tt : TT) (te : TE) (vs : List Nat) : TE := fun σ H Q => wi σ H fun J H1 => ∀ D, H1 D = none → ∃ W : Nat → Nat → Hp → Prop, (∃ m, W 0 m (upd H1 D (.lst []))) ∧ ∀ i m H, W i m H →
  (J.stop i H ∧ Q (.ref D) H) ∨ (J.go i H ∧ ∃ Nx : Hp → Prop, (∀ H', Nx H' → ∃ m', m' < m ∧ W (i + 1) m' H') ∧ ∀ x H', J.yld i H x H' → g x (wipe σ vs) H' fun σ2 H2 => wipe σ2 vs = wipe σ vs ∧ tt σ2 H2 fun b H3 =>
    if b = true then te σ2 H3 fun y H4 => ∃ acc, H4 D = some (.lst acc) ∧ acc.length < sizeLine ∧ Nx (upd H4 D (.lst (acc ++ [y]))) else Nx H3)
theorem lc_core {pins : List (Addr × Obj)} {s : Shared} {σ : St} {H : Hp} {Q : VK} {elt tg iter : Expr} {ifs : List Expr} {scope : Scope} {own : List (Str × Nat)} {pos pos' : Pos} {wi : TI} {g : TG} {tt : TT} {te : TE} {use : Option (Value → Sem Unit)} {Qf : Value → Shared → Prop}
    (hc : X.calm = true) (hN : X.N.Nodup) (I : Inv X pins σ H s) (hi : PI X tg iter wi) (ok : BlkOk X.N X.env.scope scope own)
    (hg : ∀ (s : Shared) (H : Hp) (C : Addr) (cl : List (Str × Addr)) (fp : List Addr), PG (X.blk s H scope (compEnvC scope cl C X.env) fp) tg g) (ht : ∀ (s : Shared) (H : Hp) (C : Addr) (cl : List (Str × Addr)) (fp : List Addr), PTs (X.blk s H scope (compEnvC scope cl C X.env) fp) ifs tt)
    (he : ∀ (s : Shared) (H : Hp) (C : Addr) (cl : List (Str × Addr)) (fp : List Addr), PE (X.blk s H scope (compEnvC scope cl C X.env) fp) elt te) (hs : ∀ x, foldedSetIterable iter X.env x = pure x)
    (h : tLc wi g tt te (own.map (·.2)) σ H Q)
    (hRR : ∀ D C s' m H', Inv X pins σ H' s' → Q (.ref D) H' → s'.heap.Ns C m → FpOk X pins H' C → compPost (model X.prog X.w) X.A X.xe use Qf (.ref D) C (.ok .next) s') :
    wpAny (model X.prog X.w) X.A (comprehension (.ListComp elt [⟨tg, iter, ifs, 0⟩] scope pos) scope X.env pos' (newList []) false (eval iter X.env) use) Qf X.xe s := by
  have hfree : ∀ y ∈ scope.names, y.2 = .free → ∃ c, X.env.cells.lookup y.1 = some c := fun y hy e => by
    rcases ok.free y hy e with k | k
    · exact I.ok.has _ (.inl k)
    · exact I.ok.has _ (.inr k)
  refine wpAny_comprehension_free (use := use) rfl hs (closure_ok hfree) ok.kind (fun y hy e => by rw [ok.uniq y hy, e])
    (thn (hi pins s σ H _ I h) fun xv s1 hx => thn hx fun itv s2 h2 => ?_)
  obtain ⟨it, fp, tn, J, H2, e, I2, T, st2, f2, q⟩ := h2
  subst e
  refine wpAny_newObj_type (newEnv_comp ?_) (by show 0 ≤ sizeLine; decide)
  generalize hD : s2.heap.objs.size = D
  have hDn : H2 D = none := I2.hok.fresh (Nat.le_of_eq hD)
  obtain ⟨W, ⟨m0, w0⟩, turn⟩ := q D hDn
  -- the new list
  generalize hs3 : ({ s2 with heap := s2.heap.push { cls := .type "list", data := .seq ([] : List Value).toArray } } : Shared) = s3
  have I3 : Inv X pins σ (upd H2 D (.lst [])) s3 := by
    rw [← hs3]
    refine I2.laid (t' := s2.toks) (fun b o e => Heap.get?_push_of_some _ e) (Nat.le_of_eq hD) ⟨Nat.zero_le _, [], 0, .nil, ?_⟩
    rw [← hD]
    exact Heap.get?_push_size _ rfl
  have h3 : s3.heap = s2.heap.push { cls := .type "list", data := .seq ([] : List Value).toArray } := by rw [← hs3]
  have sz : ∀ b ∈ fp, b < s2.heap.objs.size := fun b hb => by
    obtain ⟨o, e, _⟩ := T.obj _ _ st2 b hb
    exact Heap.lt_size e
  have f3 : ∀ b ∈ fp, FpOk X pins (upd H2 D (.lst [])) b ∧ b < s3.heap.objs.size := fun b hb => by
    have hlt := sz b hb
    refine ⟨⟨?_, (f2 b hb).2⟩, by rw [h3, Heap.size_push]; exact Nat.lt_succ_of_lt hlt⟩
    rw [upd_ne (by rw [← hD]; exact Nat.ne_of_lt hlt)]
    exact (f2 b hb).1
  have st3 : tn 0 s3.heap := T.keep _ _ _ st2 fun b _ o e => by rw [h3]; exact Heap.get?_push_of_some _ e
  have I4 := block_start I3 ok hN f3
  have pg := hg s3 (upd H2 D (.lst [])) s3.heap.objs.size (cellsFrom (s3.heap.objs.size + 1) scope.names (cloFrom X.env.cells scope.names [])) fp
  have pt := ht s3 (upd H2 D (.lst [])) s3.heap.objs.size (cellsFrom (s3.heap.objs.size + 1) scope.names (cloFrom X.env.cells scope.names [])) fp
  have pe := he s3 (upd H2 D (.lst [])) s3.heap.objs.size (cellsFrom (s3.heap.objs.size + 1) scope.names (cloFrom X.env.cells scope.names [])) fp
  show codeAny _ _ (.compStart (.ListComp elt [⟨tg, iter, ifs, 0⟩] scope pos) 0 (.ref it) (.ref D) (compEnvC scope (cellsFrom (s3.heap.objs.size + 1) scope.names (cloFrom X.env.cells scope.names [])) s3.heap.objs.size X.env)) (compPost (model X.prog X.w) X.A X.xe use Qf (.ref D) s3.heap.objs.size) { s3 with heap := pushCells (s3.heap.push { cls := .type "dict", data := .dict #[] }) scope.names }
  have nfp : ∀ b ∈ fp, (upd H2 D (.lst [])) b = none := fun b hb => (f3 b hb).1.1
  generalize hce : compEnvC scope (cellsFrom (s3.heap.objs.size + 1) scope.names (cloFrom X.env.cells scope.names [])) s3.heap.objs.size X.env = ce at I4 pg pt pe ⊢
  have cL : ce.locals = s3.heap.objs.size := by subst hce; rfl
  generalize hH3 : upd H2 D (.lst []) = H3 at I3 I4 pg pt pe w0 nfp f3
  generalize hs4 : ({ s3 with heap := pushCells (s3.heap.push { cls := .type "dict", data := .dict #[] }) scope.names } : Shared) = s4 at I4 ⊢
  have st4 : tn 0 s4.heap := T.keep _ _ _ st3 fun b _ o e => by rw [← hs4]; exact pushCells_keeps _ _ _ _ (Heap.get?_push_of_some _ e)
  have stat : ∀ {σ' : St} {H' : Hp} {s' : Shared}, Inv (X.blk s3 H3 scope ce fp) [] σ' H' s' → (∀ b ∈ fp, H' b = none) → ∀ b ∈ fp, FpOk (X.blk s3 H3 scope ce fp) [] H' b := fun {σ' H' s'} I' hn b hb =>
    ⟨hn b hb, (I'.ok.exf b hb).1, I'.ok.exfs b hb, .inl hb, fun x c e => (I'.ok.exf b hb).2 x c e, fun p hp => absurd (show p ∈ ([] : List (Addr × Obj)) ++ [] from hp) (by simp)⟩
  have loop : codeAny (model X.prog X.w) X.A (.compLoop (.ListComp elt [⟨tg, iter, ifs, 0⟩] scope pos) 0 (.ref it) (.ref D) ce) (compPost (model X.prog X.w) X.A X.xe use Qf (.ref D) s3.heap.objs.size) s4 := by
    refine compLoop_any (fun n s' => ∃ i H', Inv (X.blk s3 H3 scope ce fp) [] (wipe σ (own.map (·.2))) H' s' ∧ tn i s'.heap ∧ (∀ b ∈ fp, H' b = none) ∧ W i n H') ?_ m0 ⟨0, H3, I4, st4, nfp, w0⟩
    rintro n s5 ⟨i, H5, I5, st5, n5, w5⟩
    rcases turn i n H5 w5 with ⟨stop, qq⟩ | ⟨go, Nx, hNx, step⟩
    · have td := T.done (X.blk s3 H3 scope ce fp) rfl rfl rfl hc i [] s5 _ H5 (fun _ _ => False) I5 (stat I5 n5) st5 stop
      refine thnF td fun r s6 hpat => ?_
      obtain ⟨hr, I6⟩ := hpat
      subst hr
      -- back in the def's context
      have I7 : Inv X pins σ H5 s6 := I3.call' (ch := fp) I6.os I6.base I6.hok I6.bare fun b hb => ⟨(f3 b hb).1.2.2.2.1, (f3 b hb).1.2.1, (f3 b hb).1.2.2.2.2.1, (f3 b hb).1.2.2.2.2.2⟩
      have nC : H5 s3.heap.objs.size = none := by
        have z : H5 ce.locals = none := I6.free
        rw [cL] at z
        exact z
      obtain ⟨m, hn, _⟩ := I6.loc
      have hn : s6.heap.Ns ce.locals m := hn
      rw [cL] at hn
      exact hRR D s3.heap.objs.size s6 m H5 I7 qq hn (I3.fpOk (Nat.le_refl _) nC)
    · have ti := T.item (X.blk s3 H3 scope ce fp) rfl rfl rfl hc i [] s5 _ H5 (fun _ _ => False) I5 (stat I5 n5) st5 go
      refine thnF ti fun r s6 hpat => ?_
      obtain ⟨u, hr, h6⟩ := hpat
      subst hr
      refine thnF h6 fun _ s7 hpat => ?_
      obtain ⟨x, H7, I7, r7, y7, st7, n7⟩ := hpat
      have I7' := I7.pinned (stat I7 n7) (T.obj _ _ st7)
      refine thnF (pg _ s7 _ H7 x u _ I7' r7 (step x H7 y7)) fun _ s8 hpat => ?_
      obtain ⟨σ8, H8, I8, hw8, q8⟩ := hpat
      refine thnF (pt _ s8 σ8 H8 _ I8 q8) fun b s9 hpat => ?_
      obtain ⟨H9, I9, q9⟩ := hpat
      -- the turn's end
      have fin : ∀ {s' : Shared} {H' : Hp}, Inv (X.blk s3 H3 scope ce fp) ([] ++ pinsAt fp s7.heap) σ8 H' s' → Nx H' → ∃ m, m < n ∧ ∃ i H', Inv (X.blk s3 H3 scope ce fp) [] (wipe σ (own.map (·.2))) H' s' ∧ tn i s'.heap ∧ (∀ b ∈ fp, H' b = none) ∧ W i m H' := fun {s' H'} I' nx => by
        obtain ⟨m', hm, w'⟩ := hNx H' nx
        have pin' : ∀ b ∈ fp, ∀ o, s7.heap.get? b = some o → s'.heap.get? b = some o ∧ H' b = none := fun b hb o e =>
          let z := I'.pin (b, o) (List.mem_append_right _ (List.mem_append_right _ (mem_pinsAt hb e)))
          ⟨z.1, z.2.1⟩
        have hl : (wipe σ (own.map (·.2))).length = σ8.length := by rw [← hw8, wipe_length]
        refine ⟨m', hm, i + 1, H', (I'.unpinned (pins := [])).weak hl (fun j v e => ?_), T.keep _ _ _ st7 fun b hb o e => (pin' b hb o e).1, fun b hb => ?_, w'⟩
        · rw [← hw8] at e
          exact (wipe_some e).1
        · obtain ⟨o, e, _⟩ := T.obj _ _ st7 b hb
          exact (pin' b hb o e).2
      cases b with
      | false =>
        simp only [Bool.false_eq_true, if_false] at q9 ⊢
        exact fin I9 q9
      | true =>
        simp only [if_true] at q9 ⊢
        refine thnF (pe _ s9 σ8 H9 _ I9 q9) fun z s10 hpat => ?_
        obtain ⟨yv, H10, I10, r10, acc, hD10, hz10, nx⟩ := hpat
        exact app_ok (X := X.blk s3 H3 scope ce fp) I10 hD10 hz10 r10 fun s11 I11 => fin I11 nx
  exact codeAny_compStart_list loop (T.self X.A 0 _ _ _ st4 loop)
/-- as a value -/
theorem pe_lc {elt tg iter : Expr} {ifs : List Expr} {scope : Scope} {own : List (Str × Nat)} {pos : Pos} {wi : TI} {g : TG} {tt : TT} {te : TE} (hc : X.calm = true) (hN : X.N.Nodup) (hi : PI X tg iter wi) (ok : BlkOk X.N X.env.scope scope own)
    (hg : ∀ (s : Shared) (H : Hp) (C : Addr) (cl : List (Str × Addr)) (fp : List Addr), PG (X.blk s H scope (compEnvC scope cl C X.env) fp) tg g) (ht : ∀ (s : Shared) (H : Hp) (C : Addr) (cl : List (Str × Addr)) (fp : List Addr), PTs (X.blk s H scope (compEnvC scope cl C X.env) fp) ifs tt)
    (he : ∀ (s : Shared) (H : Hp) (C : Addr) (cl : List (Str × Addr)) (fp : List Addr), PE (X.blk s H scope (compEnvC scope cl C X.env) fp) elt te) (hs : ∀ x, foldedSetIterable iter X.env x = pure x := by intro _; rfl) :
    PE X (.ListComp elt [⟨tg, iter, ifs, 0⟩] scope pos) (tLc wi g tt te (own.map (·.2))) := by
  intro pins s σ H Q I h
  rw [eval_ListComp]
  refine lc_core hc hN I hi ok hg ht he hs h fun D C s' m H' I' q hn f => ⟨m, hn, fun h'' sb => ?_⟩
  obtain ⟨f0, f1, f2, f3, f4, f5⟩ := f
  exact ⟨.ref D, H', I'.turned (t' := s'.toks) (fun b o hb e => (sb.2 b hb).trans e) f0 f1 f3 f4 f5, rfl, q⟩
end

/-! ### the forms one uses -/
/-- over a range: Pv by the turn and the heap (the new list at D within) -/
theorem lc_range {lo : Int} {n : Nat} {g : TG} {tt : TT} {te : TE} {vs : List Nat} {σ : St} {H1 : Hp} {D : Addr} {Qd : Hp → Prop} (Pv : Nat → Hp → Prop) (h0 : Pv 0 (upd H1 D (.lst [])))
    (hs : ∀ i H, i < n → Pv i H → g (.int (lo + i)) (wipe σ vs) H fun σ2 H2 => wipe σ2 vs = wipe σ vs ∧ tt σ2 H2 fun b H3 =>
      if b = true then te σ2 H3 fun y H4 => ∃ acc, H4 D = some (.lst acc) ∧ acc.length < sizeLine ∧ Pv (i + 1) (upd H4 D (.lst (acc ++ [y]))) else Pv (i + 1) H3) (hd : ∀ H, Pv n H → Qd H) :
    ∃ W : Nat → Nat → Hp → Prop, (∃ m, W 0 m (upd H1 D (.lst []))) ∧ ∀ i m H, W i m H →
      ((Itr lo n).stop i H ∧ Qd H) ∨ ((Itr lo n).go i H ∧ ∃ Nx : Hp → Prop, (∀ H', Nx H' → ∃ m', m' < m ∧ W (i + 1) m' H') ∧ ∀ x H', (Itr lo n).yld i H x H' → g x (wipe σ vs) H' fun σ2 H2 => wipe σ2 vs = wipe σ vs ∧ tt σ2 H2 fun b H3 =>
        if b = true then te σ2 H3 fun y H4 => ∃ acc, H4 D = some (.lst acc) ∧ acc.length < sizeLine ∧ Nx (upd H4 D (.lst (acc ++ [y]))) else Nx H3) := by
  refine ⟨fun i m H => m = n - i ∧ i ≤ n ∧ Pv i H, ⟨n, by simp, Nat.zero_le _, h0⟩, ?_⟩
  rintro i m H ⟨rfl, hi, p⟩
  by_cases hlt : i < n
  · refine .inr ⟨hlt, Pv (i + 1), fun H' p' => ⟨n - (i + 1), by omega, rfl, hlt, p'⟩, fun x H' y => ?_⟩
    obtain ⟨e, y⟩ := y
    subst e y
    exact hs i _ hlt p
  · have e : i = n := by omega
    subst e
    exact .inl ⟨Nat.le_refl _, hd H p⟩
/-- over a tuple -/
theorem lc_tup {K : PySem.W.Frag} {a : Addr} {xs : List V} {g : TG} {tt : TT} {te : TE} {vs : List Nat} {σ : St} {H1 : Hp} {D : Addr} {Qd : Hp → Prop} (Pv : Nat → Hp → Prop) (h0 : Pv 0 (upd H1 D (.lst []))) (hl : ∀ i H, i ≤ xs.length → Pv i H → SqT K H a xs)
    (hs : ∀ i x H, xs[i]? = some x → Pv i H → g x (wipe σ vs) H fun σ2 H2 => wipe σ2 vs = wipe σ vs ∧ tt σ2 H2 fun b H3 =>
      if b = true then te σ2 H3 fun y H4 => ∃ acc, H4 D = some (.lst acc) ∧ acc.length < sizeLine ∧ Pv (i + 1) (upd H4 D (.lst (acc ++ [y]))) else Pv (i + 1) H3) (hd : ∀ H, Pv xs.length H → Qd H) :
    ∃ W : Nat → Nat → Hp → Prop, (∃ m, W 0 m (upd H1 D (.lst []))) ∧ ∀ i m H, W i m H →
      ((Itt K a).stop i H ∧ Qd H) ∨ ((Itt K a).go i H ∧ ∃ Nx : Hp → Prop, (∀ H', Nx H' → ∃ m', m' < m ∧ W (i + 1) m' H') ∧ ∀ x H', (Itt K a).yld i H x H' → g x (wipe σ vs) H' fun σ2 H2 => wipe σ2 vs = wipe σ vs ∧ tt σ2 H2 fun b H3 =>
        if b = true then te σ2 H3 fun y H4 => ∃ acc, H4 D = some (.lst acc) ∧ acc.length < sizeLine ∧ Nx (upd H4 D (.lst (acc ++ [y]))) else Nx H3) := by
  refine ⟨fun i m H => m = xs.length - i ∧ i ≤ xs.length ∧ Pv i H, ⟨xs.length, by simp, Nat.zero_le _, h0⟩, ?_⟩
  rintro i m H ⟨rfl, hi, p⟩
  have q := hl i H hi p
  by_cases hlt : i < xs.length
  · refine .inr ⟨⟨xs, xs[i], q, by simp [hlt]⟩, Pv (i + 1), fun H' p' => ⟨xs.length - (i + 1), by omega, rfl, hlt, p'⟩, fun x H' y => ?_⟩
    obtain ⟨e, y⟩ := y
    subst e
    exact hs i x _ (y xs q) p
  · have e : i = xs.length := by omega
    subst e
    exact .inl ⟨⟨xs, q, Nat.le_refl _⟩, hd H p⟩
noncomputable def blkC (N : List Str) (sc scope : Scope) (own : List (Str × Nat)) : Bool :=
  (match scope.kind with | .function => true | _ => false) && (scope.names.all fun y => decide (scope.names.lookup y.1 = some y.2)) && (own.all fun p => decide (N[p.2]? = some p.1)) &&
    (scope.names.all fun y => match y.2 with
      | .free => (match sc.names.lookup y.1 with | some .cell => true | some .free => true | _ => false)
      | .local => decide (y.1 ∈ own.map (·.1)) || decide (y.1 ∉ N)
      | .cell => decide (y.1 ∈ own.map (·.1)) || decide (y.1 ∉ N)
      | _ => true)
theorem blkOk_by {N : List Str} {sc scope : Scope} {own : List (Str × Nat)} (h : blkC N sc scope own = true) : BlkOk N sc scope own := by
  unfold blkC at h
  simp only [Bool.and_eq_true, List.all_eq_true, decide_eq_true_eq] at h
  obtain ⟨⟨⟨h1, h2⟩, h3⟩, h4⟩ := h
  refine ⟨?_, h2, h3, fun y hy e => ?_, fun y hy e => ?_⟩
  · split at h1
    · assumption
    · cases h1
  · have q := h4 y hy
    simp only [e] at q
    split at q <;> first | exact .inl (by assumption) | exact .inr (by assumption) | cases q
  · have q := h4 y hy
    rcases e with e | e <;> (simp only [e, Bool.or_eq_true, decide_eq_true_eq] at q; exact q)
end L2

namespace L2
open PySem PySem.Spec PyProof.Rows

section
variable {prog : Program} {w : World} {A : Around} {R : Result → Shared → Prop} {s : Shared} {elt t0 i0 t1 i1 : Expr} {ifs0 ifs1 : List Expr} {scope : Scope} {pos : Pos} {it acc : Value} {env : Env}
end

section
variable {X : Cx}
end
end L2

namespace L2
open PySem PySem.Spec PyProof.Rows

/-! ### lists of pairs as tables -/
section
variable {κ : Type} [DecidableEq κ]
end


/-! ### a tracked dict, its keys ints and texts or tuples of these -/
section
variable {P : Program} {w : World} {H : Hp} {h : Heap} {a : Addr}
end

section
variable {X : Cx} {pins : List (Addr × Obj)} {σ : St} {H : Hp} {s : Shared} {a : Addr} {y v : V} {u r : Value} {o : Option V} {A : Around} {E : Value → Shared → Prop}

end

section
variable {X : Cx} {pins : List (Addr × Obj)} {σ : St} {H : Hp} {s : Shared} {a : Addr} {kvs : List (Key × V)} {k : Key} {u : Value} {A : Around} {E : Value → Shared → Prop}
end


/-! ### readings and rules -/
section
variable {X : Cx} {o i e value : Expr} {pos pos' tpos : Pos} {td ty tv : TE}
end


/-! ### displays -/
section
variable {X : Cx} {pos : Pos}
end

/-! ### methods -/
section
variable {X : Cx} {pins : List (Addr × Obj)} {σ : St} {H : Hp} {s : Shared} {a : Addr} {y d : V} {u r : Value} {o : Option V} {A : Around} {E : Value → Shared → Prop}
end

section
variable {X : Cx} {o e f : Expr} {apos cpos : Pos} {td ty tx : TE}
end

/-! ### dict(d): a copy -/
section
variable {X : Cx} {pins : List (Addr × Obj)} {σ : St} {H : Hp} {s : Shared} {a : Addr} {kvs : List (Key × V)} {A : Around} {E : Value → Shared → Prop}
end


section
variable {X : Cx} {pins : List (Addr × Obj)} {σ : St} {H : Hp} {s : Shared} {a : Addr} {y : V} {u : Value} {A : Around} {E : Value → Shared → Prop}
end
end L2

namespace L2
open PySem PySem.Spec PyProof.Rows

section
variable {prog : Program} {w : World} {A : Around} {E : Value → Shared → Prop}
end

section
variable {X : Cx}
end
end L2

namespace L2
open PySem PySem.Spec PyProof.Rows

section
variable {X : Cx} {pins : List (Addr × Obj)} {σ : St} {H : Hp} {s : Shared} {h' : Heap}
/-! ### locking a thing while a statement runs -/
end
section
variable {X : Cx}
/-! ### one iterator just laid -/
end

/-! ### range with a step -/
section
variable {X : Cx} {tg : Expr}
end
/-! ### reversed(list) -/
section
variable {X : Cx} {tg : Expr}
end

/-! ### a str -/
/-! ### a dict's keys: any dict's entries -/
section
variable {prog : Program} {w : World} {A : Around} {E : Value → Shared → Prop} {s : Shared}
end

/-! ### a locked dict -/
section
variable {X : Cx} {pins : List (Addr × Obj)} {σ : St} {H : Hp} {s : Shared} {d : Addr} {o : Obj}
end

section
variable {P : Program} {w : World} {K : PySem.W.Frag} {tg : Expr} {d : Addr} {o : Obj} {es : Array DictEntry} {ep : Nat}
end

/-! ### for k in d, d.keys(), d.values(), d.items() -/
section
variable {X : Cx} {tg e : Expr} {td : TE} {apos cpos : Pos}
end

/-! ### enumerate(list) -/
/-! ### zip(list, list) -/
end L2

section 
namespace Bits
open PySem PyProof.Rows

end Bits
end 

section 
namespace TL
open PySem PySem.Builtin PySem.Builtin.Str PySem.StrLaws

noncomputable abbrev tl (x : Str) : List Nat := x.cps.toList
/-! ### the list functions -/
/-- S stands at the head of l -/
noncomputable def pre (S l : List Nat) : Bool := l.take S.length == S
/-- l cut at each S from the left; k signs are still to be passed over -/
noncomputable def spl (S : List Nat) : Nat → List Nat → List Nat → List (List Nat)
  | _, acc, [] => [acc]
  | 0, acc, c :: r => if pre S (c :: r) = true then acc :: spl S (S.length - 1) [] r else spl S 0 (acc ++ [c]) r
  | k + 1, acc, _ :: r => spl S k acc r
/-- what stands before the first S, and behind it -/
noncomputable def par (S : List Nat) : List Nat → List Nat → Option (List Nat × List Nat)
  | _, [] => none
  | acc, c :: r => if pre S (c :: r) = true then some (acc, (c :: r).drop S.length) else par S (acc ++ [c]) r

/-! ### the model's split and partition are these -/
/-! ### computing spl and par -/
/-! ### digits -/
/-! ### words: x.split() -/
end TL
end 

namespace L2
open PySem PySem.Spec PyProof.Rows

section
variable {X : Cx} {pins : List (Addr × Obj)} {σ : St} {H : Hp} {s : Shared} {Q : VK}
end

section
variable {X : Cx}

/-! ### of a text alone -/
/-! ### of a text and a text -/
end

section
variable {X : Cx} {o e : Expr} {to te : TE}
end
end L2

namespace L2
open PySem PySem.Spec PyProof.Rows

section
variable {X : Cx}
end

/-! ### slices of a text -/
end L2

namespace Att
open PySem PySem.W PySem.Calls PyProof.Rows

/-! ### the script -/
theorem ints_of_wellAll {P : Params} {h : Heap} : ∀ (ns : List Int) (vs : List Value), WellAll P h vs (ns.map WData.int) → IntsAre vs ns := by
  intro ns
  induction ns with
  | nil =>
    intro vs w
    rw [List.map_nil] at w
    cases w
    exact .nil
  | cons n ns ih =>
    intro vs w
    rw [List.map_cons] at w
    cases w with
    | cons a b =>
      cases a
      exact .cons _ _ (ih _ b)

/-! ### the attachment: holds_open's last premise (the goal 'hc' behind k_head) from a wpAny of the law's body -/
/-! ### rules over ANY heap (no ledger) from facts about the written part K: the library's own take a ledger (News) for what they write -/
section
variable {prog : Program} {w : World} {A : Around} {E : Value → Shared → Prop} {s : Shared} {K : Frag}

/-! the whole heap as the ledger: makes every rule that writes through a ledger a rule over any heap -/
noncomputable def ledger (h : Heap) (L d : Addr) : List (Addr × Obj) := (List.range h.objs.size).filterMap fun a => if a = L ∨ a = d then none else (h.get? a).map fun o => (a, o)
end
end Att

namespace L2
open PySem PySem.Spec PyProof.Rows

theorem vals_ints : ∀ {vs : List Value} {ns : List Int}, IntsAre vs ns → Vals (ns.map V.int) vs
  | _, _, .nil => .nil
  | _, _, .cons n t h => .cons ⟨t, rfl⟩ (vals_ints h)

/-- nothing is tracked but the script, known to the object (or it is an object of the module) -/
noncomputable def Only (H : Hp) : Prop := ∀ b, H b = none ∨ ∃ o xs, H b = some (.frz o (.lst xs))

end L2

namespace L2
open PySem PySem.Spec PyProof.Rows

end L2

/- THE LAST THEOREM (shape; LID, My.* are yours):
   My.Adr: a structure of the addresses that your layer names (classes, functions); My.Txt K t: a structure (Prop) of the equations over K;
   My.txt_mk : {K} {implicit addresses ..} (e1 : nsIn K mainGlobals "law" = some (some (.ref f))) (e2 : K.lookup f = some ⟨oc, od, .func (fnOf "law" "law" params body scope dV kV doc pm an cdv ct), sl⟩) (e3 : codeIn K cdv "law" = true) .. : ∃ t, My.Txt K t

set_option maxRecDepth 100000 in
set_option maxHeartbeats 0 in
(the tactic k_is has no namespace: write k_is) -/

/-! SHORT WORDS over the layer: a def of the text, its body, what a loop and a test want. -/
namespace L2
open PySem PySem.Spec PyProof.Rows

/-! ### the text by places -/
/-- the j-th statement of a class's body -/
noncomputable def inClass (s : Stmt) (j : Nat) : Stmt := match s with
  | .ClassDef _ _ _ body _ _ _ _ _ _ _ => body.getD j (.Pass ⟨0, 0, 0, 0⟩)
  | _ => .Pass ⟨0, 0, 0, 0⟩
noncomputable def defArgs (s : Stmt) : Arguments := match s with
  | .FunctionDef _ a _ _ _ _ _ _ _ _ => a
  | _ => { posonlyargs := [], args := [], vararg := none, kwonlyargs := [], kw_defaults := [], kwarg := none, defaults := [] }
noncomputable def defBody (s : Stmt) : List Stmt := match s with
  | .FunctionDef _ _ b _ _ _ _ _ _ _ => b
  | _ => []
noncomputable def defScope (s : Stmt) : Scope := match s with
  | .FunctionDef _ _ _ _ _ _ sc _ _ _ => sc
  | _ => { kind := .function, names := [], isGenerator := false, isCoroutine := false }

/-! ### no exception leaves a def -/
noncomputable abbrev CX0 : CXT := fun _ _ _ _ _ _ => False
noncomputable abbrev E0 : XK := fun _ _ _ => False
theorem pass0 {X : Cx} : Passes CX0 X E0 := fun _ _ _ _ _ _ _ h => h.elim

/-! ### a def (or method) of the text as it stands behind the top -/
structure Fun (K : PySem.W.Frag) (x qual : Str) (st : Stmt) (f : Addr) (fd : FuncData) : Prop where
  ex : ∃ (oc : Value) (od : Option Addr) (kV doc pm : Value) (an : Option Addr) (cdv ct : Value) (osl : Array (Option Value)),
    fd = PySem.W.fnOf x qual (defArgs st) (defBody st) (defScope st) .none kV doc pm an cdv ct ∧ K.lookup f = some ⟨oc, od, .func fd, osl⟩ ∧ PySem.W.codeIn K cdv qual = true
  kp : PySem.W.keepIn K (.ref f) = true
section
variable {P : Program} {w : World} {K : PySem.W.Frag} {mg : Str → Option Value} {base : Heap}
/-- THE RULE for a def: its body as a term of rules, and the reading of that term -/
theorem Fun.ok {x qual : Str} {st : Stmt} {f : Addr} {fd : FuncData} {N ps : List Str} {k : Nat} {sp : Sp} (F : Fun K x qual st f fd) (S : FnScope N ps (defScope st)) (len : ∀ vs H Q E, sp vs H Q E → vs.length = ps.length)
    (hbody : ∀ (cdv : Value) (A : Around) (outer : List Env) (s : Shared) (H : Hp) (vs : List V) (Q : VK) (E : XK), Room k (A.deeper (envOfC qual (defScope st) s.heap.objs.size f cdv)) → sp vs H Q E →
      ∃ t, PSs (cxOf CX0 P w K mg base N qual (defScope st) f cdv A outer s H E).nox (defBody st) t ∧ t { nx := fun _ H' => Q .non H', rt := Q } (start N vs) H) : FnOk P w K mg base CX0 (k + 1) f fd ps sp := by
  obtain ⟨oc, od, kV, doc, pm, an, cdv, ct, osl, rfl, lk, hcd⟩ := F.ex
  refine fn_of lk hcd S len fun A outer s H vs Q E hr hsp => ?_
  obtain ⟨t, h, q⟩ := hbody cdv A outer s H vs Q E hr hsp
  exact ⟨t, h.nox, q⟩
/-- how its arguments bind (no defaults): h is «fun _ _ _ _ _ _ us hl => match us, hl with | [_, _], _ => rfl», one _ a parameter -/
theorem Fun.binds {x qual : Str} {st : Stmt} {f : Addr} {fd : FuncData} {ps : List Str} (F : Fun K x qual st f fd)
    (h : ∀ (kV doc pm : Value) (an : Option Addr) (cdv ct : Value) (us : List Value), us.length = ps.length → bindArgs (PySem.W.fnOf x qual (defArgs st) (defBody st) (defScope st) .none kV doc pm an cdv ct) ⟨us, []⟩ = pure (ps.zip us)) : Binds K fd ps [] := by
  obtain ⟨oc, od, kV, doc, pm, an, cdv, ct, osl, rfl, lk, hcd⟩ := F.ex
  exact .all (h kV doc pm an cdv ct)
theorem fun_mk {x qual : Str} {st : Stmt} {f : Addr} {oc : Value} {od an : Option Addr} {osl : Array (Option Value)} {kV doc pm cdv ct : Value} (l : K.lookup f = some ⟨oc, od, .func (PySem.W.fnOf x qual (defArgs st) (defBody st) (defScope st) .none kV doc pm an cdv ct), osl⟩)
    (c : PySem.W.codeIn K cdv qual = true) (k : PySem.W.keepIn K (.ref f) = true) : Fun K x qual st f (PySem.W.fnOf x qual (defArgs st) (defBody st) (defScope st) .none kV doc pm an cdv ct) := ⟨⟨oc, od, kV, doc, pm, an, cdv, ct, osl, rfl, l, c⟩, k⟩
end
theorem small1000 {n : Nat} (h : n ≤ 1000) : n < sizeLine := Nat.lt_of_le_of_lt h (by decide)

/-! ### expressions in short: the name that stands in the i-th slot -/
section
variable {X : Cx}
theorem pv (i : Nat) {x : Str} {pos : Pos} (hN : X.N[i]? = some x := by rfl) (hv : Vis X.env.scope x := by first | exact Or.inl rfl | exact Or.inr (Or.inl rfl) | exact Or.inr (Or.inr rfl)) (hd : (x == ("__debug__" : Str)) = false := by decide)
    (hcd : (x == ("__classdict__" : Str)) = false := by decide) : PE X (.Name x pos) (tVar i) := pe_var hN hv hd hcd
end

/-! ### tests -/
theorem iteF {A B : Prop} (h : B) : if false = true then A else B := by
  rw [if_neg Bool.false_ne_true]
  exact h
theorem iteT {A B : Prop} (h : A) : if true = true then A else B := by
  rw [if_pos rfl]
  exact h
theorem ite2 {c A B : Prop} [Decidable c] (h1 : c → A) (h2 : ¬ c → B) : if c then A else B := by
  by_cases h : c
  · rw [if_pos h]
    exact h1 h
  · rw [if_neg h]
    exact h2 h
/-! ### heaps -/
/-- all that was tracked is as it was -/
noncomputable def Same (H H' : Hp) : Prop := ∀ b o, H b = some o → H' b = some o
theorem Same.refl (H : Hp) : Same H H := fun _ _ h => h
theorem Same.trans {H H1 H2 : Hp} (a : Same H H1) (b : Same H1 H2) : Same H H2 := fun c o h => b c o (a c o h)
theorem Same.free {H H' : Hp} (e : Same H H') {l : Addr} (h : H' l = Option.none) : H l = Option.none := by
  cases q : H l with
  | none => rfl
  | some o =>
    rw [e l o q] at h
    cases h
/-! ### a dict's pairs: keys that differ -/
section
variable {κ : Type} [DecidableEq κ]
end
/-! ### lists -/
/-- a new instance and its __init__ leave all that was tracked as it was -/
theorem Same.made {H H1 : Hp} {x dx C : Addr} (nx : H x = Option.none) (nd : H dx = Option.none) (k : ∀ b o, (upd (upd H dx (.own x)) x (.ins C dx [])) b = some o → b ≠ x → H1 b = some o) : Same H H1 := fun b o e =>
  k b o (by rw [upd_ne (ne_of_none e nx), upd_ne (ne_of_none e nd)]; exact e) (ne_of_none e nx)
end L2
namespace SH
open PySem PySem.W PySem.Calls PyProof.Rows L2

theorem reads_ints {R : WRecords} {cl : Str → Option Addr} {h : Heap} : ∀ {ns : List Int} {us : List Value}, Vals (ns.map V.int) us → ReadsAllW R cl h us (ns.map WData.int) []
  | [], _, r => by
    cases r
    exact .nil
  | n :: ns, _, r => by
    cases r with
    | cons q t =>
      obtain ⟨tk, rfl⟩ := q
      exact ReadsAllW.cons (as := []) (bs := []) (.int n tk) (reads_ints t)

theorem spec_call {P : Program} {w : World} {K : PySem.W.Frag} {mg mb : Str → Option Value} {CX : CXT} {k : Nat} {fa a : Addr} {fd : FuncData} {x : Str} {sp : Sp} {s₁ : Shared} {vs : List Value} {ns out : List Int}
    (KX : K.In s₁.heap) (hns : s₁.heap.Ns mainGlobals mg) (hb : s₁.heap.Ns builtinsNs mb) (hbb : ∀ x : Str, x ≠ "__name__" → mb x = bootBuiltins x) (hlim : s₁.heap.NoLimit) (hg : s₁.gens = #[])
    (ha : s₁.heap.get? a = some { cls := .type "list", data := .seq vs.toArray }) (hi : IntsAre vs ns) (hl : ns.length ≤ sizeLine) (hr : Room k callerA)
    (F : ∀ base : Heap, K.In base → base.Ns mainGlobals mg → FnOk P w K mg base CX k fa fd [x] sp) (hbind : ∀ (s : Shared) (u : Value), K.In s.heap → BindsTo s fd ⟨[u], []⟩ [(x, u)])
    (hsp : ∀ H : Hp, Only H → SqL K H a (ns.map V.int) → sp [.ref a] H (fun v H' => ∃ l, v = .ref l ∧ H' l = some (.lst (out.map V.int))) fun _ _ _ => False)
    (hCX : ∀ H e s', CX [] H s₁ (fun _ _ _ => False) e s' → False) :
    codeAny (model P w) callerA (.call (.ref fa) ⟨[.ref a], []⟩) (fun r s' => (∃ (l : Addr) (its : List Value) (n : Nat), r = .ok (.ret (.ref l)) ∧ Vals (out.map V.int) its ∧ s'.heap.get? l = some { cls := .type "list", data := .seq its.toArray n }) ∧ OldK s₁.heap s'.heap ∧ s'.os = s₁.os ∧ AllBare s'.gens) s₁ := by
  have rv := vals_ints hi
  have lenV := hi.length
  have core : ∀ H : Hp, Only H → SqL K H a (ns.map V.int) → HOk P w H s₁.heap → (∀ b, H b ≠ none → b = a) → (H a ≠ none → K.lookup a = none) →
      codeAny (model P w) callerA (.call (.ref fa) ⟨[.ref a], []⟩) (fun r s' => (∃ (l : Addr) (its : List Value) (n : Nat), r = .ok (.ret (.ref l)) ∧ Vals (out.map V.int) its ∧ s'.heap.get? l = some { cls := .type "list", data := .seq its.toArray n }) ∧ OldK s₁.heap s'.heap ∧ s'.os = s₁.os ∧ AllBare s'.gens) s₁ := by
    intro H hO hS hok hA hK
    have base_of : ∀ {b : Addr} {o : Obj}, s₁.heap.get? b = some o → H b = none → (hidT s₁.heap H).get? b = some o := fun e n => hidT_get e n
    have noA : ∀ {b : Addr} {o : Obj} {es : Array DictEntry} {ep : Nat}, s₁.heap.get? b = some o → o.data = .dict es ep → H b = none := fun {b o es ep} e d => by
      cases q : H b with
      | none => rfl
      | some u =>
        have e' : b = a := hA b (by rw [q]; simp)
        subst e'
        rw [ha] at e; cases e
        have d' : Data.seq vs.toArray _ = Data.dict es ep := d
        cases d'
    have nsK : ∀ {b : Addr} {m : Str → Option Value}, s₁.heap.Ns b m → (hidT s₁.heap H).Ns b m := fun {b m} ⟨o, es, ep, e, d, r⟩ => ⟨o, es, ep, base_of e (noA e d), d, r⟩
    have hKb : K.In (hidT s₁.heap H) := fun b o e => base_of (KX b o e) (by
      cases q : H b with
      | none => rfl
      | some u =>
        have e' : b = a := hA b (by rw [q]; simp)
        subst e'
        rw [hK (by rw [q]; simp)] at e; cases e)
    have hM : Mod K mg (hidT s₁.heap H) := ⟨hKb, nsK hns, ⟨mb, nsK hb, hbb⟩, let ⟨mc, h1, h2⟩ := hlim; ⟨mc, nsK h1, h2⟩⟩
    have e0 : Env0 P w K mg (hidT s₁.heap H) callerA [] s₁ H := ⟨rfl, hM, fun b o e => of_hidT e, Nat.le_of_eq (hidT_size _ _), trivial, fun b hb => absurd (show b ∈ ([] : List Addr) from hb) (by simp), hok, .of_eq hg⟩
    refine codeAny_mono ((F _ hKb (nsK hns)).run callerA [] s₁ H ⟨[.ref a], []⟩ [.ref a] [.ref a] _ _ hr e0 (hbind s₁ (.ref a) KX) (.cons rfl .nil) (hsp H hO hS)) fun r s' h => ?_
    cases r with
    | error e => exact (hCX H e s' h).elim
    | ok fl =>
      cases fl with
      | next => exact False.elim h
      | brk => exact False.elim h
      | cont => exact False.elim h
      | ret u =>
        obtain ⟨v, H', os, bare, un, hok', r', q⟩ := h
        obtain ⟨l, q', hl'⟩ := q
        subst q'
        obtain rfl : u = Value.ref l := r'
        obtain ⟨_, its, n, rv', ho'⟩ := hok' l _ hl'
        refine ⟨⟨l, its, n, rfl, rv', ho'⟩, OldK.of_keep fun b o e => ?_, os, bare⟩
        cases q : H b with
        | none => exact un.keep b o e q (by intro z; exact absurd (show b ∈ ([] : List Addr) from z) (by simp)) (by simp)
        | some u =>
          rcases hO b with z | ⟨ob, xs, z⟩
          · rw [q] at z; cases z
          · have z2 := un.frzs b ob _ z
            obtain ⟨e1, _⟩ := hok b _ z
            obtain ⟨e2, _⟩ := hok' b _ z2
            rw [e] at e1; cases e1
            exact e2
  cases hk : K.lookup a with
  | some o =>
    have e := KX a o hk
    rw [ha] at e
    cases e
    refine core (fun _ => none) (fun _ => .inl rfl) (.inr ⟨_, vs.toArray, _, hk, rfl, rfl, rfl, by rw [List.size_toArray, lenV]; exact hl, by simpa using rv⟩) (fun b u z => by have z' : (none : Option HO) = some u := z; cases z') (fun b z => absurd rfl z) fun z => absurd rfl z
  | none =>
    refine core (fun b => if b = a then some (.frz { cls := .type "list", data := .seq vs.toArray } (.lst (ns.map V.int))) else none) (fun b => ?_) (.inl (.inr ⟨{ cls := .type "list", data := .seq vs.toArray }, if_pos rfl⟩)) (fun b u z => ?_) (fun b z => ?_) fun _ => hk
    · by_cases hb : b = a
      · exact .inr ⟨_, _, if_pos hb⟩
      · exact .inl (if_neg hb)
    · by_cases hb : b = a
      · have z' := (if_pos hb).symm.trans z
        cases z'
        subst hb
        exact ⟨ha, by rw [List.length_map]; exact hl, vs, _, rv, ha⟩
      · have z' := (if_neg hb).symm.trans z
        cases z'
    · by_cases hb : b = a
      · exact hb
      · exact absurd (if_neg hb) z

/-- one list of ints in, one list of ints out -/
theorem spec_walk {prog : Program} {name : Str} {least most l2 m2 : Nat} {lo hi lo2 hi2 : Int} {asked : List Int → Bool} {f : List Int → List Int} {r : OpenSpec}
    (hr0 : r = OpenSpec.mk prog name [.list least most (.int lo hi)] (.list l2 m2 (.int lo2 hi2)) asked f) (said : r.wellSaid = true)
    {k : Nat} {q : Program} {loose : List Str} {XP : (Str → Option Value) → Heap → Prop} {YP : World → Heap → Prop} {d : DefRec} {K : Params → PySem.W.Frag} {CX : World → CXT} {sp : World → Sp} {x : Str}
    (hmost : most ≤ sizeLine) (hdf : d.params.defaults = []) (hr : Room k callerA)
    (hY : ∀ (w : World) (h : Heap), YP w h → (K w.params).In h)
    (F : ∀ (w : World) (mg : Str → Option Value) (fa : Addr) (h : Heap), (K w.params).In h → h.Ns mainGlobals mg → mg d.name = some (.ref fa) →
      ∃ fd : FuncData, (∀ (s : Shared) (u : Value), (K w.params).In s.heap → BindsTo s fd ⟨[u], []⟩ [(x, u)]) ∧
        ∀ base : Heap, (K w.params).In base → base.Ns mainGlobals mg → FnOk prog w (K w.params) mg base (CX w) k fa fd [x] (sp w))
    (hsp : ∀ (w : World) (H : Hp) (a : Addr) (ns : List Int), ns.length ≤ most → (∀ n ∈ ns, lo ≤ n ∧ n ≤ hi) → asked ns = true → Only H → SqL (K w.params) H a (ns.map V.int) →
      sp w [.ref a] H (fun v H' => ∃ l, v = .ref l ∧ H' l = some (.lst ((f ns).map V.int))) fun _ _ _ => False)
    (hCX : ∀ (w : World) (H : Hp) (s : Shared) (e : Value) (s' : Shared), CX w [] H s (fun _ _ _ => False) e s' → False) :
    PySem.W.WalkOS q loose XP YP r d [] (fun f vs => PySem.call f vs) := by
  intro w s₀ s₁ mg mb G Y fa o pm cd doc dV kV ho hd hcd hD hmg hg args vals as hpre hlay hrd hwl hlo
  obtain ⟨a0, hw0, hask0, rfl⟩ := (OpenSpec.pre_iff said args).mp hpre
  have hpost := OpenSpec.post_iff said hw0
  subst hr0
  obtain rfl : dV = .none := Dflts.none hD hdf
  obtain rfl : kV = .none := Dflts.noKw hD
  obtain ⟨ns, u⟩ := a0
  have hask : asked ns = true := hask0
  have hw1 := Codec.and_of (show (Codec.inList least most (Codec.inInt lo hi) ns && true) = true from hw0)
  have hw2 := Codec.and_of (show (Codec.inLen least most ns && ns.all (Codec.inInt lo hi)) = true from hw1.1)
  have hlen : ns.length ≤ most := (Codec.inNat_iff.mp (show Codec.inNat least most ns.length = true from hw2.1)).2
  have hitems : ∀ n ∈ ns, lo ≤ n ∧ n ≤ hi := fun n hn => Codec.inInt_iff.mp (List.all_eq_true.mp hw2.2 n hn)
  have hwl' : WellAll w.params s₁.heap vals [WData.list (ns.map WData.int)] := hwl
  cases hwl' with
  | cons w1 w2 =>
    cases w2
    cases w1 with
    | list ho' hall =>
      rename_i a vs
      have hints := Att.ints_of_wellAll ns _ hall
      have KX := hY w _ Y
      obtain ⟨fd, hb, hF⟩ := F w mg fa _ KX G.T.g hmg
      refine enter_call (codeAny_mono (spec_call (out := f ns) KX G.T.g G.T.b G.T.builtins G.T.nolimit hg ho' hints (Nat.le_trans hlen hmost) hr hF hb (fun H hO hS => hsp w H a ns hlen hitems hask hO hS) fun H e s' => hCX w H s₁ e s') fun r s' hq => ?_)
      obtain ⟨⟨l, its, n, rfl, rv, hl⟩, h2, h3, h4⟩ := hq
      exact ⟨.inl ⟨.ref l, .list ((f ns).map WData.int), [l], rfl, fun _ => rfl, ReadsW.list hl rfl rfl (by simpa using reads_ints rv), (hpost _ _).mpr rfl, fun hu => absurd hu Bool.false_ne_true⟩, h2, h3, h4⟩
end SH
/-! numbers: bits, bytes, the check; messages by their bytes -/
namespace MX
open PySem PyProof.Rows

theorem xor_and_add : ∀ a b : Nat, (a ^^^ b) + 2 * (a &&& b) = a + b := by
  intro a
  induction a using Nat.strongRecOn with
  | ind a ih =>
    intro b
    by_cases h : a = 0
    · subst h
      simp
    · have i := ih (a / 2) (by omega) (b / 2)
      have d1 : (a ^^^ b) / 2 = a / 2 ^^^ b / 2 := Nat.xor_div_two
      have d2 : (a &&& b) / 2 = a / 2 &&& b / 2 := Nat.and_div_two
      have m1 : (a ^^^ b) % 2 = a % 2 ^^^ b % 2 := Nat.xor_mod_two_pow (n := 1)
      have m2 : (a &&& b) % 2 = a % 2 &&& b % 2 := Nat.and_mod_two_pow (n := 1)
      have hm : (a ^^^ b) % 2 + 2 * ((a &&& b) % 2) = a % 2 + b % 2 := by
        rw [m1, m2]
        rcases Nat.mod_two_eq_zero_or_one a with ea | ea <;> rcases Nat.mod_two_eq_zero_or_one b with eb | eb <;> rw [ea, eb] <;> rfl
      rw [← d1, ← d2] at i
      omega

theorem xor_nat (a b : Nat) : Builtin.bitXor (a : Int) (b : Int) = ((a ^^^ b : Nat) : Int) := by
  have h := xor_and_add a b
  rw [bitXor_and, bitAnd_pp (Int.natCast_nonneg _) (Int.natCast_nonneg _), Int.toNat_natCast, Int.toNat_natCast]
  omega

/-- one step of the check, as the program does it -/
theorem bit_step (c : Nat) : (if decide (Builtin.bitAnd (c : Int) 1 = 1) = true then Builtin.bitXor ((c : Int) / 2 ^ (1 : Int).toNat) 2197175160 else (c : Int) / 2 ^ (1 : Int).toNat) = ((Km264.crcBit c : Nat) : Int) := by
  have e1 : (c : Int) / 2 ^ (1 : Int).toNat = ((c / 2 : Nat) : Int) := by
    show (c : Int) / 2 ^ 1 = _
    omega
  rw [bitAnd_m1, e1]
  unfold Km264.crcBit
  by_cases h : c % 2 = 1
  · rw [if_pos (by simp; omega), if_pos h]
    exact xor_nat (c / 2) 2197175160
  · rw [if_neg (by simp; omega), if_neg h]

/-- the first n steps on a byte -/
noncomputable def bits (n c : Nat) : Nat := (List.range n).foldl (fun x _ => Km264.crcBit x) c
theorem bits_succ (n c : Nat) : bits (n + 1) c = Km264.crcBit (bits n c) := by
  unfold bits
  rw [List.range_succ, List.foldl_append]
  rfl
theorem crcByte_eq (c b : Nat) : Km264.crcByte c b = bits 8 (c ^^^ b) := rfl

theorem byte_at (n k : Nat) : Builtin.bitAnd ((n : Int) / 2 ^ k) 255 = ((n / 2 ^ k % 256 : Nat) : Int) := by
  rw [bitAnd_m8]
  have e : (2 : Int) ^ k = ((2 ^ k : Nat) : Int) := by simp
  rw [e]
  omega
theorem le4 (n : Nat) : Km264.le 4 n = [n % 256, n / 256 % 256, n / 65536 % 256, n / 16777216 % 256] := by
  unfold Km264.le
  have e : List.range 4 = [0, 1, 2, 3] := by decide
  rw [e]
  simp

/-! ### a message's bytes -/
theorem bits_lt (n : Nat) : ∀ c, c < 2 ^ 32 → bits n c < 2 ^ 32 := by
  induction n with
  | zero => intro c h; exact h
  | succ n ih =>
    intro c h
    rw [bits_succ]
    have q := ih c h
    unfold Km264.crcBit
    split
    · exact Nat.xor_lt_two_pow (by omega) (by decide)
    · omega
theorem fold_lt : ∀ (l : List Nat) (c : Nat), c < 2 ^ 32 → (∀ b ∈ l, b < 256) → l.foldl Km264.crcByte c < 2 ^ 32
  | [], c, h, _ => h
  | b :: l, c, h, hb => by
    rw [List.foldl_cons]
    refine fold_lt l _ ?_ fun x hx => hb x (List.mem_cons_of_mem _ hx)
    rw [crcByte_eq]
    have h2 := hb b List.mem_cons_self
    exact bits_lt 8 _ (Nat.xor_lt_two_pow h (by omega))
theorem crc_lt {l : List Nat} (h : ∀ b ∈ l, b < 256) : Km264.crc l < 2 ^ 32 := by
  unfold Km264.crc
  exact Nat.xor_lt_two_pow (fold_lt l _ (by decide) h) (by decide)

theorem at1 (a : Nat) (l : List Nat) : Km264.at_ (a :: l) 0 1 = a := by
  simp [Km264.at_]
theorem uncons {α : Type} {l : List α} {n : Nat} (h : l.length = n + 1) : ∃ a r, l = a :: r ∧ r.length = n := by
  cases l with
  | nil => cases h
  | cons a r => exact ⟨a, r, rfl, Nat.succ.inj h⟩
theorem unnil {α : Type} {l : List α} (h : l.length = 0) : l = [] := List.length_eq_zero_iff.mp h
theorem of4 {α : Type} {l : List α} {n : Nat} (h : l.length = n + 4) : ∃ a b c d r, l = a :: b :: c :: d :: r ∧ r.length = n := by
  obtain ⟨a, r1, rfl, h1⟩ := uncons h
  obtain ⟨b, r2, rfl, h2⟩ := uncons h1
  obtain ⟨c, r3, rfl, h3⟩ := uncons h2
  obtain ⟨d, r4, rfl, h4⟩ := uncons h3
  exact ⟨a, b, c, d, r4, rfl, h4⟩
/-- a list of 16 bytes, written out -/
theorem of16 {α : Type} {l : List α} (h : l.length = 16) : ∃ a0 a1 a2 a3 a4 a5 a6 a7 a8 a9 b0 b1 b2 b3 b4 b5, l = [a0, a1, a2, a3, a4, a5, a6, a7, a8, a9, b0, b1, b2, b3, b4, b5] := by
  obtain ⟨a0, a1, a2, a3, r1, rfl, h1⟩ := of4 (n := 12) h
  obtain ⟨a4, a5, a6, a7, r2, rfl, h2⟩ := of4 (n := 8) h1
  obtain ⟨a8, a9, b0, b1, r3, rfl, h3⟩ := of4 (n := 4) h2
  obtain ⟨b2, b3, b4, b5, r4, rfl, h4⟩ := of4 (n := 0) h3
  cases unnil h4
  exact ⟨_, _, _, _, _, _, _, _, _, _, _, _, _, _, _, _, rfl⟩

noncomputable def num4 (a b c d : Nat) : Nat := a + 256 * b + 65536 * c + 16777216 * d
theorem le_num4 {a b c d : Nat} (ha : a < 256) (hb : b < 256) (hc : c < 256) (hd : d < 256) : Km264.le 4 (num4 a b c d) = [a, b, c, d] := by
  rw [le4]
  unfold num4
  congr 1
  · omega
  · congr 1
    · omega
    · congr 1
      · omega
      · congr 1
        omega
theorem num4_le {n : Nat} (h : n < 2 ^ 32) : num4 (n % 256) (n / 256 % 256) (n / 65536 % 256) (n / 16777216 % 256) = n := by
  unfold num4
  omega

/-- what the document asks of 16 bytes: parse, by its parts -/
theorem parse16 {k o z2 z3 t0 t1 t2 t3 c0 c1 c2 c3 s0 s1 s2 s3 : Nat}
    (ht0 : t0 < 256) (ht1 : t1 < 256) (ht2 : t2 < 256) (ht3 : t3 < 256) (hc0 : c0 < 256) (hc1 : c1 < 256) (hc2 : c2 < 256) (hc3 : c3 < 256) :
    Km264.parse [k, o, z2, z3, t0, t1, t2, t3, c0, c1, c2, c3, s0, s1, s2, s3] =
      if z2 = 0 ∧ z3 = 0 ∧ [s0, s1, s2, s3] = Km264.le 4 (Km264.crc [k, o, z2, z3, t0, t1, t2, t3, c0, c1, c2, c3]) then some ⟨k, o, num4 t0 t1 t2 t3, num4 c0 c1 c2 c3⟩ else none := by
  have e1 : Km264.at_ [k, o, z2, z3, t0, t1, t2, t3, c0, c1, c2, c3, s0, s1, s2, s3] 0 1 = k := by simp [Km264.at_]
  have e2 : Km264.at_ [k, o, z2, z3, t0, t1, t2, t3, c0, c1, c2, c3, s0, s1, s2, s3] 1 1 = o := by simp [Km264.at_]
  have e3 : Km264.at_ [k, o, z2, z3, t0, t1, t2, t3, c0, c1, c2, c3, s0, s1, s2, s3] 4 4 = num4 t0 t1 t2 t3 := by
    simp [Km264.at_, num4]
    omega
  have e4 : Km264.at_ [k, o, z2, z3, t0, t1, t2, t3, c0, c1, c2, c3, s0, s1, s2, s3] 8 4 = num4 c0 c1 c2 c3 := by
    simp [Km264.at_, num4]
    omega
  unfold Km264.parse
  dsimp only
  rw [e1, e2, e3, e4]
  have hm : (⟨k, o, num4 t0 t1 t2 t3, num4 c0 c1 c2 c3⟩ : Km264.Msg).half = [k, o, 0, 0, t0, t1, t2, t3, c0, c1, c2, c3] := by
    unfold Km264.Msg.half
    dsimp only
    rw [le_num4 ht0 ht1 ht2 ht3, le_num4 hc0 hc1 hc2 hc3]
    rfl
  have hb : (⟨k, o, num4 t0 t1 t2 t3, num4 c0 c1 c2 c3⟩ : Km264.Msg).bytes = [k, o, 0, 0, t0, t1, t2, t3, c0, c1, c2, c3] ++ Km264.le 4 (Km264.crc [k, o, 0, 0, t0, t1, t2, t3, c0, c1, c2, c3]) := by
    unfold Km264.Msg.bytes
    rw [hm]
  rw [hb]
  by_cases h2 : z2 = 0
  · subst h2
    by_cases h3 : z3 = 0
    · subst h3
      by_cases h4 : [s0, s1, s2, s3] = Km264.le 4 (Km264.crc [k, o, 0, 0, t0, t1, t2, t3, c0, c1, c2, c3])
      · rw [if_pos ⟨rfl, by rw [← h4]; rfl⟩, if_pos ⟨rfl, rfl, h4⟩]
      · rw [if_neg (fun q => h4 ?_), if_neg (fun q => h4 q.2.2)]
        have q2 := q.2
        simpa using q2
    · rw [if_neg (fun q => h3 ?_), if_neg (fun q => h3 q.2.1)]
      have q2 := q.2
      simp at q2
      exact q2.1
  · rw [if_neg (fun q => h2 ?_), if_neg (fun q => h2 q.1)]
    have q2 := q.2
    simp at q2
    exact q2.1
end MX
namespace Ol
open PySem L2
/-- a tuple of ints at a file's top -/
noncomputable def IntTup (K : PySem.W.Frag) (a : Addr) (ns : List Int) : Prop :=
  ∃ (o : Obj) (its : Array Value) (n : Nat), K.lookup a = some o ∧ o.cls = .type "tuple" ∧ o.data = .seq its n ∧ its.size ≤ sizeLine ∧ Vals (ns.map V.int) its.toList
theorem IntTup.at {K : PySem.W.Frag} {a : Addr} {ns : List Int} (h : IntTup K a ns) (H : Hp) : SqT K H a (ns.map V.int) := .inr h
/-- a name of the file's top that is an object -/
theorem pe_gref {X : Cx} {x : Str} {a : Addr} {pos : Pos} (hg : Gl X x) (hm : X.mg x = some (.ref a)) (hd : (x == ("__debug__" : Str)) = false := by decide) : PE X (.Name x pos) (tC (.ref a)) := pe_glob hg hm rfl hd
end Ol
/-! the text by places (printed by tools/gen.py) -/
namespace Ol
open PySem L2
noncomputable def top (i : Nat) : Stmt := PySem.Challenge.pw_onelane_s01_answers.main.body.getD i (.Pass ⟨0, 0, 0, 0⟩)
noncomputable abbrev s_low_bytes_first : Stmt := top 10
noncomputable abbrev s_number_at : Stmt := top 11
noncomputable abbrev s_check_of : Stmt := top 12
noncomputable abbrev s_made_message : Stmt := top 13
noncomputable abbrev s_kind_of : Stmt := top 14
noncomputable abbrev s_turn_of : Stmt := top 15
noncomputable abbrev s_count_of : Stmt := top 16
noncomputable abbrev s_is_sound : Stmt := top 17
noncomputable abbrev s_is_right_ask : Stmt := top 18
noncomputable abbrev s_is_right : Stmt := top 19
noncomputable abbrev s_Right_init : Stmt := inClass (top 35) 0
noncomputable abbrev s_Right_begin_right : Stmt := inClass (top 35) 1
noncomputable abbrev s_Right_take_told : Stmt := inClass (top 35) 2
noncomputable abbrev s_Right_send_message : Stmt := inClass (top 35) 3
noncomputable abbrev s_Right_other_end : Stmt := inClass (top 35) 4
noncomputable abbrev s_Right_rl_start : Stmt := inClass (top 35) 5
noncomputable abbrev s_Right_rl_green : Stmt := inClass (top 35) 6
noncomputable abbrev s_Right_rl_red : Stmt := inClass (top 35) 7
noncomputable abbrev s_Right_rl_in : Stmt := inClass (top 35) 8
noncomputable abbrev s_Right_rl_out : Stmt := inClass (top 35) 9
noncomputable abbrev s_Right_have_if_all_out : Stmt := inClass (top 35) 10
noncomputable abbrev s_Right_rl_give : Stmt := inClass (top 35) 11
noncomputable abbrev s_Right_rl_heard : Stmt := inClass (top 35) 12
noncomputable abbrev s_Right_heard_given : Stmt := inClass (top 35) 13
noncomputable abbrev s_Right_heard_had : Stmt := inClass (top 35) 14
noncomputable abbrev s_Right_is_tenth_tick : Stmt := inClass (top 35) 15
noncomputable abbrev s_Right_rl_tick : Stmt := inClass (top 35) 16
noncomputable abbrev s_Right_rl_state : Stmt := inClass (top 35) 17
noncomputable abbrev s_Works_init : Stmt := inClass (top 39) 0
noncomputable abbrev s_Works_begin_works : Stmt := inClass (top 39) 1
noncomputable abbrev s_Works_rw_start : Stmt := inClass (top 39) 2
noncomputable abbrev s_Works_rw_in : Stmt := inClass (top 39) 3
noncomputable abbrev s_Works_rw_out : Stmt := inClass (top 39) 4
noncomputable abbrev s_Works_rw_waiting : Stmt := inClass (top 39) 5
noncomputable abbrev s_Works_rw_heard : Stmt := inClass (top 39) 6
noncomputable abbrev s_Works_rw_tick : Stmt := inClass (top 39) 7
noncomputable abbrev s_Works_rw_state : Stmt := inClass (top 39) 8
noncomputable abbrev s_Works_has_right : Stmt := inClass (top 39) 9
noncomputable abbrev s_Works_is_asked : Stmt := inClass (top 39) 10
noncomputable abbrev s_Works_look : Stmt := inClass (top 39) 11
noncomputable abbrev s_Works_give_right : Stmt := inClass (top 39) 12
noncomputable abbrev s_Works_make_green : Stmt := inClass (top 39) 13
noncomputable abbrev s_row_length : Stmt := top 48
noncomputable abbrev s_called : Stmt := top 49
noncomputable abbrev s_with_told : Stmt := top 50
noncomputable abbrev s_answers : Stmt := top 51
theorem sc_low_bytes_first : FnScope ["number", "shift"] ["number"] (defScope s_low_bytes_first) := ⟨rfl, rfl, rfl, by decide +kernel, rfl, by decide +kernel, by decide +kernel⟩
theorem sc_number_at : FnScope ["message", "place", "k"] ["message", "place"] (defScope s_number_at) := ⟨rfl, rfl, rfl, by decide +kernel, rfl, by decide +kernel, by decide +kernel⟩
theorem sc_check_of : FnScope ["numbers", "rest", "number", "step", "low_bit"] ["numbers"] (defScope s_check_of) := ⟨rfl, rfl, rfl, by decide +kernel, rfl, by decide +kernel, by decide +kernel⟩
theorem sc_made_message : FnScope ["kind", "sender", "turn", "count", "body"] ["kind", "sender", "turn", "count"] (defScope s_made_message) := ⟨rfl, rfl, rfl, by decide +kernel, rfl, by decide +kernel, by decide +kernel⟩
theorem sc_kind_of : FnScope ["message"] ["message"] (defScope s_kind_of) := ⟨rfl, rfl, rfl, by decide +kernel, rfl, by decide +kernel, by decide +kernel⟩
theorem sc_turn_of : FnScope ["message"] ["message"] (defScope s_turn_of) := ⟨rfl, rfl, rfl, by decide +kernel, rfl, by decide +kernel, by decide +kernel⟩
theorem sc_count_of : FnScope ["message"] ["message"] (defScope s_count_of) := ⟨rfl, rfl, rfl, by decide +kernel, rfl, by decide +kernel, by decide +kernel⟩
theorem sc_is_sound : FnScope ["message", "sender"] ["message", "sender"] (defScope s_is_sound) := ⟨rfl, rfl, rfl, by decide +kernel, rfl, by decide +kernel, by decide +kernel⟩
theorem sc_is_right_ask : FnScope ["message", "sender"] ["message", "sender"] (defScope s_is_right_ask) := ⟨rfl, rfl, rfl, by decide +kernel, rfl, by decide +kernel, by decide +kernel⟩
theorem sc_is_right : FnScope ["message", "sender"] ["message", "sender"] (defScope s_is_right) := ⟨rfl, rfl, rfl, by decide +kernel, rfl, by decide +kernel, by decide +kernel⟩
theorem sc_Right_init : FnScope ["self"] ["self"] (defScope s_Right_init) := ⟨rfl, rfl, rfl, by decide +kernel, rfl, by decide +kernel, by decide +kernel⟩
theorem sc_Right_begin_right : FnScope ["self", "me"] ["self", "me"] (defScope s_Right_begin_right) := ⟨rfl, rfl, rfl, by decide +kernel, rfl, by decide +kernel, by decide +kernel⟩
theorem sc_Right_take_told : FnScope ["self", "told"] ["self"] (defScope s_Right_take_told) := ⟨rfl, rfl, rfl, by decide +kernel, rfl, by decide +kernel, by decide +kernel⟩
theorem sc_Right_send_message : FnScope ["self", "kind", "turn", "count"] ["self", "kind", "turn", "count"] (defScope s_Right_send_message) := ⟨rfl, rfl, rfl, by decide +kernel, rfl, by decide +kernel, by decide +kernel⟩
theorem sc_Right_other_end : FnScope ["self"] ["self"] (defScope s_Right_other_end) := ⟨rfl, rfl, rfl, by decide +kernel, rfl, by decide +kernel, by decide +kernel⟩
theorem sc_Right_rl_start : FnScope ["self", "me"] ["self", "me"] (defScope s_Right_rl_start) := ⟨rfl, rfl, rfl, by decide +kernel, rfl, by decide +kernel, by decide +kernel⟩
theorem sc_Right_rl_green : FnScope ["self"] ["self"] (defScope s_Right_rl_green) := ⟨rfl, rfl, rfl, by decide +kernel, rfl, by decide +kernel, by decide +kernel⟩
theorem sc_Right_rl_red : FnScope ["self"] ["self"] (defScope s_Right_rl_red) := ⟨rfl, rfl, rfl, by decide +kernel, rfl, by decide +kernel, by decide +kernel⟩
theorem sc_Right_rl_in : FnScope ["self"] ["self"] (defScope s_Right_rl_in) := ⟨rfl, rfl, rfl, by decide +kernel, rfl, by decide +kernel, by decide +kernel⟩
theorem sc_Right_rl_out : FnScope ["self"] ["self"] (defScope s_Right_rl_out) := ⟨rfl, rfl, rfl, by decide +kernel, rfl, by decide +kernel, by decide +kernel⟩
theorem sc_Right_have_if_all_out : FnScope ["self"] ["self"] (defScope s_Right_have_if_all_out) := ⟨rfl, rfl, rfl, by decide +kernel, rfl, by decide +kernel, by decide +kernel⟩
theorem sc_Right_rl_give : FnScope ["self"] ["self"] (defScope s_Right_rl_give) := ⟨rfl, rfl, rfl, by decide +kernel, rfl, by decide +kernel, by decide +kernel⟩
theorem sc_Right_rl_heard : FnScope ["self", "message"] ["self", "message"] (defScope s_Right_rl_heard) := ⟨rfl, rfl, rfl, by decide +kernel, rfl, by decide +kernel, by decide +kernel⟩
theorem sc_Right_heard_given : FnScope ["self", "turn", "count"] ["self", "turn", "count"] (defScope s_Right_heard_given) := ⟨rfl, rfl, rfl, by decide +kernel, rfl, by decide +kernel, by decide +kernel⟩
theorem sc_Right_heard_had : FnScope ["self", "turn"] ["self", "turn"] (defScope s_Right_heard_had) := ⟨rfl, rfl, rfl, by decide +kernel, rfl, by decide +kernel, by decide +kernel⟩
theorem sc_Right_is_tenth_tick : FnScope ["self"] ["self"] (defScope s_Right_is_tenth_tick) := ⟨rfl, rfl, rfl, by decide +kernel, rfl, by decide +kernel, by decide +kernel⟩
theorem sc_Right_rl_tick : FnScope ["self"] ["self"] (defScope s_Right_rl_tick) := ⟨rfl, rfl, rfl, by decide +kernel, rfl, by decide +kernel, by decide +kernel⟩
theorem sc_Right_rl_state : FnScope ["self", "green", "other_count"] ["self"] (defScope s_Right_rl_state) := ⟨rfl, rfl, rfl, by decide +kernel, rfl, by decide +kernel, by decide +kernel⟩
theorem sc_Works_init : FnScope ["self"] ["self"] (defScope s_Works_init) := ⟨rfl, rfl, rfl, by decide +kernel, rfl, by decide +kernel, by decide +kernel⟩
theorem sc_Works_begin_works : FnScope ["self", "most"] ["self", "most"] (defScope s_Works_begin_works) := ⟨rfl, rfl, rfl, by decide +kernel, rfl, by decide +kernel, by decide +kernel⟩
theorem sc_Works_rw_start : FnScope ["self", "me", "most"] ["self", "me", "most"] (defScope s_Works_rw_start) := ⟨rfl, rfl, rfl, by decide +kernel, rfl, by decide +kernel, by decide +kernel⟩
theorem sc_Works_rw_in : FnScope ["self", "answer"] ["self"] (defScope s_Works_rw_in) := ⟨rfl, rfl, rfl, by decide +kernel, rfl, by decide +kernel, by decide +kernel⟩
theorem sc_Works_rw_out : FnScope ["self", "answer"] ["self"] (defScope s_Works_rw_out) := ⟨rfl, rfl, rfl, by decide +kernel, rfl, by decide +kernel, by decide +kernel⟩
theorem sc_Works_rw_waiting : FnScope ["self", "yes"] ["self", "yes"] (defScope s_Works_rw_waiting) := ⟨rfl, rfl, rfl, by decide +kernel, rfl, by decide +kernel, by decide +kernel⟩
theorem sc_Works_rw_heard : FnScope ["self", "message", "answer"] ["self", "message"] (defScope s_Works_rw_heard) := ⟨rfl, rfl, rfl, by decide +kernel, rfl, by decide +kernel, by decide +kernel⟩
theorem sc_Works_rw_tick : FnScope ["self"] ["self"] (defScope s_Works_rw_tick) := ⟨rfl, rfl, rfl, by decide +kernel, rfl, by decide +kernel, by decide +kernel⟩
theorem sc_Works_rw_state : FnScope ["self", "green_ticks", "asked"] ["self"] (defScope s_Works_rw_state) := ⟨rfl, rfl, rfl, by decide +kernel, rfl, by decide +kernel, by decide +kernel⟩
theorem sc_Works_has_right : FnScope ["self"] ["self"] (defScope s_Works_has_right) := ⟨rfl, rfl, rfl, by decide +kernel, rfl, by decide +kernel, by decide +kernel⟩
theorem sc_Works_is_asked : FnScope ["self"] ["self"] (defScope s_Works_is_asked) := ⟨rfl, rfl, rfl, by decide +kernel, rfl, by decide +kernel, by decide +kernel⟩
theorem sc_Works_look : FnScope ["self"] ["self"] (defScope s_Works_look) := ⟨rfl, rfl, rfl, by decide +kernel, rfl, by decide +kernel, by decide +kernel⟩
theorem sc_Works_give_right : FnScope ["self"] ["self"] (defScope s_Works_give_right) := ⟨rfl, rfl, rfl, by decide +kernel, rfl, by decide +kernel, by decide +kernel⟩
theorem sc_Works_make_green : FnScope ["self"] ["self"] (defScope s_Works_make_green) := ⟨rfl, rfl, rfl, by decide +kernel, rfl, by decide +kernel, by decide +kernel⟩
theorem sc_row_length : FnScope ["calls", "place"] ["calls", "place"] (defScope s_row_length) := ⟨rfl, rfl, rfl, by decide +kernel, rfl, by decide +kernel, by decide +kernel⟩
theorem sc_called : FnScope ["works", "call", "handed", "row"] ["works", "call", "handed", "row"] (defScope s_called) := ⟨rfl, rfl, rfl, by decide +kernel, rfl, by decide +kernel, by decide +kernel⟩
theorem sc_with_told : FnScope ["answered", "told", "numbers", "thing"] ["answered", "told"] (defScope s_with_told) := ⟨rfl, rfl, rfl, by decide +kernel, rfl, by decide +kernel, by decide +kernel⟩
theorem sc_answers : FnScope ["calls", "works", "given", "place", "first", "row_at", "behind", "answered", "numbers"] ["calls"] (defScope s_answers) := ⟨rfl, rfl, rfl, by decide +kernel, rfl, by decide +kernel, by decide +kernel⟩
theorem ar1 {α : Type} {P : List α → Prop} (h : ∀ a, P [a]) : ∀ us : List α, us.length = 1 → P us
  | [a], _ => h a
theorem ar2 {α : Type} {P : List α → Prop} (h : ∀ a b, P [a, b]) : ∀ us : List α, us.length = 2 → P us
  | [a, b], _ => h a b
theorem ar3 {α : Type} {P : List α → Prop} (h : ∀ a b c, P [a, b, c]) : ∀ us : List α, us.length = 3 → P us
  | [a, b, c], _ => h a b c
theorem ar4 {α : Type} {P : List α → Prop} (h : ∀ a b c d, P [a, b, c, d]) : ∀ us : List α, us.length = 4 → P us
  | [a, b, c, d], _ => h a b c d
set_option genInjectivity false in
set_option genSizeOf false in
structure Adr where
  c_Right : Addr
  c_Works : Addr
  f_low_bytes_first : Addr
  d_low_bytes_first : FuncData
  f_number_at : Addr
  d_number_at : FuncData
  f_check_of : Addr
  d_check_of : FuncData
  f_made_message : Addr
  d_made_message : FuncData
  f_kind_of : Addr
  d_kind_of : FuncData
  f_turn_of : Addr
  d_turn_of : FuncData
  f_count_of : Addr
  d_count_of : FuncData
  f_is_sound : Addr
  d_is_sound : FuncData
  f_is_right_ask : Addr
  d_is_right_ask : FuncData
  f_is_right : Addr
  d_is_right : FuncData
  f_Right_init : Addr
  d_Right_init : FuncData
  f_Right_begin_right : Addr
  d_Right_begin_right : FuncData
  f_Right_take_told : Addr
  d_Right_take_told : FuncData
  f_Right_send_message : Addr
  d_Right_send_message : FuncData
  f_Right_other_end : Addr
  d_Right_other_end : FuncData
  f_Right_rl_start : Addr
  d_Right_rl_start : FuncData
  f_Right_rl_green : Addr
  d_Right_rl_green : FuncData
  f_Right_rl_red : Addr
  d_Right_rl_red : FuncData
  f_Right_rl_in : Addr
  d_Right_rl_in : FuncData
  f_Right_rl_out : Addr
  d_Right_rl_out : FuncData
  f_Right_have_if_all_out : Addr
  d_Right_have_if_all_out : FuncData
  f_Right_rl_give : Addr
  d_Right_rl_give : FuncData
  f_Right_rl_heard : Addr
  d_Right_rl_heard : FuncData
  f_Right_heard_given : Addr
  d_Right_heard_given : FuncData
  f_Right_heard_had : Addr
  d_Right_heard_had : FuncData
  f_Right_is_tenth_tick : Addr
  d_Right_is_tenth_tick : FuncData
  f_Right_rl_tick : Addr
  d_Right_rl_tick : FuncData
  f_Right_rl_state : Addr
  d_Right_rl_state : FuncData
  f_Works_init : Addr
  d_Works_init : FuncData
  f_Works_begin_works : Addr
  d_Works_begin_works : FuncData
  f_Works_rw_start : Addr
  d_Works_rw_start : FuncData
  f_Works_rw_in : Addr
  d_Works_rw_in : FuncData
  f_Works_rw_out : Addr
  d_Works_rw_out : FuncData
  f_Works_rw_waiting : Addr
  d_Works_rw_waiting : FuncData
  f_Works_rw_heard : Addr
  d_Works_rw_heard : FuncData
  f_Works_rw_tick : Addr
  d_Works_rw_tick : FuncData
  f_Works_rw_state : Addr
  d_Works_rw_state : FuncData
  f_Works_has_right : Addr
  d_Works_has_right : FuncData
  f_Works_is_asked : Addr
  d_Works_is_asked : FuncData
  f_Works_look : Addr
  d_Works_look : FuncData
  f_Works_give_right : Addr
  d_Works_give_right : FuncData
  f_Works_make_green : Addr
  d_Works_make_green : FuncData
  f_row_length : Addr
  d_row_length : FuncData
  f_called : Addr
  d_called : FuncData
  f_with_told : Addr
  d_with_told : FuncData
  f_answers : Addr
  d_answers : FuncData
  o_WHOLE_NUMBERS : Addr
structure Tx (K : PySem.W.Frag) (mg : Str → Option Value) (A : Adr) : Prop where
  cl_Right : Cls K A.c_Right
  mg_Right : mg "Right" = some (.ref A.c_Right)
  mk_Right : Mk K A.c_Right A.f_Right_init
  na_Right_told : NoAttr K A.c_Right "told"
  na_Right_me : NoAttr K A.c_Right "me"
  na_Right_turn : NoAttr K A.c_Right "turn"
  na_Right_driven_in : NoAttr K A.c_Right "driven_in"
  na_Right_come_out : NoAttr K A.c_Right "come_out"
  na_Right_standing : NoAttr K A.c_Right "standing"
  na_Right_had : NoAttr K A.c_Right "had"
  na_Right_green : NoAttr K A.c_Right "green"
  na_Right_other_count : NoAttr K A.c_Right "other_count"
  na_Right_ticks : NoAttr K A.c_Right "ticks"
  cl_Works : Cls K A.c_Works
  mg_Works : mg "Works" = some (.ref A.c_Works)
  mk_Works : Mk K A.c_Works A.f_Works_init
  na_Works_right : NoAttr K A.c_Works "right"
  na_Works_most : NoAttr K A.c_Works "most"
  na_Works_waiting : NoAttr K A.c_Works "waiting"
  na_Works_ask : NoAttr K A.c_Works "ask"
  na_Works_green_ticks : NoAttr K A.c_Works "green_ticks"
  na_Works_was_green : NoAttr K A.c_Works "was_green"
  fn_low_bytes_first : Fun K "low_bytes_first" "low_bytes_first" s_low_bytes_first A.f_low_bytes_first A.d_low_bytes_first
  bd_low_bytes_first : Binds K A.d_low_bytes_first ["number"] []
  mg_low_bytes_first : mg "low_bytes_first" = some (.ref A.f_low_bytes_first)
  fn_number_at : Fun K "number_at" "number_at" s_number_at A.f_number_at A.d_number_at
  bd_number_at : Binds K A.d_number_at ["message", "place"] []
  mg_number_at : mg "number_at" = some (.ref A.f_number_at)
  fn_check_of : Fun K "check_of" "check_of" s_check_of A.f_check_of A.d_check_of
  bd_check_of : Binds K A.d_check_of ["numbers"] []
  mg_check_of : mg "check_of" = some (.ref A.f_check_of)
  fn_made_message : Fun K "made_message" "made_message" s_made_message A.f_made_message A.d_made_message
  bd_made_message : Binds K A.d_made_message ["kind", "sender", "turn", "count"] []
  mg_made_message : mg "made_message" = some (.ref A.f_made_message)
  fn_kind_of : Fun K "kind_of" "kind_of" s_kind_of A.f_kind_of A.d_kind_of
  bd_kind_of : Binds K A.d_kind_of ["message"] []
  mg_kind_of : mg "kind_of" = some (.ref A.f_kind_of)
  fn_turn_of : Fun K "turn_of" "turn_of" s_turn_of A.f_turn_of A.d_turn_of
  bd_turn_of : Binds K A.d_turn_of ["message"] []
  mg_turn_of : mg "turn_of" = some (.ref A.f_turn_of)
  fn_count_of : Fun K "count_of" "count_of" s_count_of A.f_count_of A.d_count_of
  bd_count_of : Binds K A.d_count_of ["message"] []
  mg_count_of : mg "count_of" = some (.ref A.f_count_of)
  fn_is_sound : Fun K "is_sound" "is_sound" s_is_sound A.f_is_sound A.d_is_sound
  bd_is_sound : Binds K A.d_is_sound ["message", "sender"] []
  mg_is_sound : mg "is_sound" = some (.ref A.f_is_sound)
  fn_is_right_ask : Fun K "is_right_ask" "is_right_ask" s_is_right_ask A.f_is_right_ask A.d_is_right_ask
  bd_is_right_ask : Binds K A.d_is_right_ask ["message", "sender"] []
  mg_is_right_ask : mg "is_right_ask" = some (.ref A.f_is_right_ask)
  fn_is_right : Fun K "is_right" "is_right" s_is_right A.f_is_right A.d_is_right
  bd_is_right : Binds K A.d_is_right ["message", "sender"] []
  mg_is_right : mg "is_right" = some (.ref A.f_is_right)
  fn_Right_init : Fun K "__init__" "Right.__init__" s_Right_init A.f_Right_init A.d_Right_init
  bd_Right_init : Binds K A.d_Right_init ["self"] []
  mt_Right_init : Meth K A.c_Right "__init__" A.f_Right_init
  fn_Right_begin_right : Fun K "begin_right" "Right.begin_right" s_Right_begin_right A.f_Right_begin_right A.d_Right_begin_right
  bd_Right_begin_right : Binds K A.d_Right_begin_right ["self", "me"] []
  mt_Right_begin_right : Meth K A.c_Right "begin_right" A.f_Right_begin_right
  fn_Right_take_told : Fun K "take_told" "Right.take_told" s_Right_take_told A.f_Right_take_told A.d_Right_take_told
  bd_Right_take_told : Binds K A.d_Right_take_told ["self"] []
  mt_Right_take_told : Meth K A.c_Right "take_told" A.f_Right_take_told
  fn_Right_send_message : Fun K "send_message" "Right.send_message" s_Right_send_message A.f_Right_send_message A.d_Right_send_message
  bd_Right_send_message : Binds K A.d_Right_send_message ["self", "kind", "turn", "count"] []
  mt_Right_send_message : Meth K A.c_Right "send_message" A.f_Right_send_message
  fn_Right_other_end : Fun K "other_end" "Right.other_end" s_Right_other_end A.f_Right_other_end A.d_Right_other_end
  bd_Right_other_end : Binds K A.d_Right_other_end ["self"] []
  mt_Right_other_end : Meth K A.c_Right "other_end" A.f_Right_other_end
  fn_Right_rl_start : Fun K "rl_start" "Right.rl_start" s_Right_rl_start A.f_Right_rl_start A.d_Right_rl_start
  bd_Right_rl_start : Binds K A.d_Right_rl_start ["self", "me"] []
  mt_Right_rl_start : Meth K A.c_Right "rl_start" A.f_Right_rl_start
  fn_Right_rl_green : Fun K "rl_green" "Right.rl_green" s_Right_rl_green A.f_Right_rl_green A.d_Right_rl_green
  bd_Right_rl_green : Binds K A.d_Right_rl_green ["self"] []
  mt_Right_rl_green : Meth K A.c_Right "rl_green" A.f_Right_rl_green
  fn_Right_rl_red : Fun K "rl_red" "Right.rl_red" s_Right_rl_red A.f_Right_rl_red A.d_Right_rl_red
  bd_Right_rl_red : Binds K A.d_Right_rl_red ["self"] []
  mt_Right_rl_red : Meth K A.c_Right "rl_red" A.f_Right_rl_red
  fn_Right_rl_in : Fun K "rl_in" "Right.rl_in" s_Right_rl_in A.f_Right_rl_in A.d_Right_rl_in
  bd_Right_rl_in : Binds K A.d_Right_rl_in ["self"] []
  mt_Right_rl_in : Meth K A.c_Right "rl_in" A.f_Right_rl_in
  fn_Right_rl_out : Fun K "rl_out" "Right.rl_out" s_Right_rl_out A.f_Right_rl_out A.d_Right_rl_out
  bd_Right_rl_out : Binds K A.d_Right_rl_out ["self"] []
  mt_Right_rl_out : Meth K A.c_Right "rl_out" A.f_Right_rl_out
  fn_Right_have_if_all_out : Fun K "have_if_all_out" "Right.have_if_all_out" s_Right_have_if_all_out A.f_Right_have_if_all_out A.d_Right_have_if_all_out
  bd_Right_have_if_all_out : Binds K A.d_Right_have_if_all_out ["self"] []
  mt_Right_have_if_all_out : Meth K A.c_Right "have_if_all_out" A.f_Right_have_if_all_out
  fn_Right_rl_give : Fun K "rl_give" "Right.rl_give" s_Right_rl_give A.f_Right_rl_give A.d_Right_rl_give
  bd_Right_rl_give : Binds K A.d_Right_rl_give ["self"] []
  mt_Right_rl_give : Meth K A.c_Right "rl_give" A.f_Right_rl_give
  fn_Right_rl_heard : Fun K "rl_heard" "Right.rl_heard" s_Right_rl_heard A.f_Right_rl_heard A.d_Right_rl_heard
  bd_Right_rl_heard : Binds K A.d_Right_rl_heard ["self", "message"] []
  mt_Right_rl_heard : Meth K A.c_Right "rl_heard" A.f_Right_rl_heard
  fn_Right_heard_given : Fun K "heard_given" "Right.heard_given" s_Right_heard_given A.f_Right_heard_given A.d_Right_heard_given
  bd_Right_heard_given : Binds K A.d_Right_heard_given ["self", "turn", "count"] []
  mt_Right_heard_given : Meth K A.c_Right "heard_given" A.f_Right_heard_given
  fn_Right_heard_had : Fun K "heard_had" "Right.heard_had" s_Right_heard_had A.f_Right_heard_had A.d_Right_heard_had
  bd_Right_heard_had : Binds K A.d_Right_heard_had ["self", "turn"] []
  mt_Right_heard_had : Meth K A.c_Right "heard_had" A.f_Right_heard_had
  fn_Right_is_tenth_tick : Fun K "is_tenth_tick" "Right.is_tenth_tick" s_Right_is_tenth_tick A.f_Right_is_tenth_tick A.d_Right_is_tenth_tick
  bd_Right_is_tenth_tick : Binds K A.d_Right_is_tenth_tick ["self"] []
  mt_Right_is_tenth_tick : Meth K A.c_Right "is_tenth_tick" A.f_Right_is_tenth_tick
  fn_Right_rl_tick : Fun K "rl_tick" "Right.rl_tick" s_Right_rl_tick A.f_Right_rl_tick A.d_Right_rl_tick
  bd_Right_rl_tick : Binds K A.d_Right_rl_tick ["self"] []
  mt_Right_rl_tick : Meth K A.c_Right "rl_tick" A.f_Right_rl_tick
  fn_Right_rl_state : Fun K "rl_state" "Right.rl_state" s_Right_rl_state A.f_Right_rl_state A.d_Right_rl_state
  bd_Right_rl_state : Binds K A.d_Right_rl_state ["self"] []
  mt_Right_rl_state : Meth K A.c_Right "rl_state" A.f_Right_rl_state
  fn_Works_init : Fun K "__init__" "Works.__init__" s_Works_init A.f_Works_init A.d_Works_init
  bd_Works_init : Binds K A.d_Works_init ["self"] []
  mt_Works_init : Meth K A.c_Works "__init__" A.f_Works_init
  fn_Works_begin_works : Fun K "begin_works" "Works.begin_works" s_Works_begin_works A.f_Works_begin_works A.d_Works_begin_works
  bd_Works_begin_works : Binds K A.d_Works_begin_works ["self", "most"] []
  mt_Works_begin_works : Meth K A.c_Works "begin_works" A.f_Works_begin_works
  fn_Works_rw_start : Fun K "rw_start" "Works.rw_start" s_Works_rw_start A.f_Works_rw_start A.d_Works_rw_start
  bd_Works_rw_start : Binds K A.d_Works_rw_start ["self", "me", "most"] []
  mt_Works_rw_start : Meth K A.c_Works "rw_start" A.f_Works_rw_start
  fn_Works_rw_in : Fun K "rw_in" "Works.rw_in" s_Works_rw_in A.f_Works_rw_in A.d_Works_rw_in
  bd_Works_rw_in : Binds K A.d_Works_rw_in ["self"] []
  mt_Works_rw_in : Meth K A.c_Works "rw_in" A.f_Works_rw_in
  fn_Works_rw_out : Fun K "rw_out" "Works.rw_out" s_Works_rw_out A.f_Works_rw_out A.d_Works_rw_out
  bd_Works_rw_out : Binds K A.d_Works_rw_out ["self"] []
  mt_Works_rw_out : Meth K A.c_Works "rw_out" A.f_Works_rw_out
  fn_Works_rw_waiting : Fun K "rw_waiting" "Works.rw_waiting" s_Works_rw_waiting A.f_Works_rw_waiting A.d_Works_rw_waiting
  bd_Works_rw_waiting : Binds K A.d_Works_rw_waiting ["self", "yes"] []
  mt_Works_rw_waiting : Meth K A.c_Works "rw_waiting" A.f_Works_rw_waiting
  fn_Works_rw_heard : Fun K "rw_heard" "Works.rw_heard" s_Works_rw_heard A.f_Works_rw_heard A.d_Works_rw_heard
  bd_Works_rw_heard : Binds K A.d_Works_rw_heard ["self", "message"] []
  mt_Works_rw_heard : Meth K A.c_Works "rw_heard" A.f_Works_rw_heard
  fn_Works_rw_tick : Fun K "rw_tick" "Works.rw_tick" s_Works_rw_tick A.f_Works_rw_tick A.d_Works_rw_tick
  bd_Works_rw_tick : Binds K A.d_Works_rw_tick ["self"] []
  mt_Works_rw_tick : Meth K A.c_Works "rw_tick" A.f_Works_rw_tick
  fn_Works_rw_state : Fun K "rw_state" "Works.rw_state" s_Works_rw_state A.f_Works_rw_state A.d_Works_rw_state
  bd_Works_rw_state : Binds K A.d_Works_rw_state ["self"] []
  mt_Works_rw_state : Meth K A.c_Works "rw_state" A.f_Works_rw_state
  fn_Works_has_right : Fun K "has_right" "Works.has_right" s_Works_has_right A.f_Works_has_right A.d_Works_has_right
  bd_Works_has_right : Binds K A.d_Works_has_right ["self"] []
  mt_Works_has_right : Meth K A.c_Works "has_right" A.f_Works_has_right
  fn_Works_is_asked : Fun K "is_asked" "Works.is_asked" s_Works_is_asked A.f_Works_is_asked A.d_Works_is_asked
  bd_Works_is_asked : Binds K A.d_Works_is_asked ["self"] []
  mt_Works_is_asked : Meth K A.c_Works "is_asked" A.f_Works_is_asked
  fn_Works_look : Fun K "look" "Works.look" s_Works_look A.f_Works_look A.d_Works_look
  bd_Works_look : Binds K A.d_Works_look ["self"] []
  mt_Works_look : Meth K A.c_Works "look" A.f_Works_look
  fn_Works_give_right : Fun K "give_right" "Works.give_right" s_Works_give_right A.f_Works_give_right A.d_Works_give_right
  bd_Works_give_right : Binds K A.d_Works_give_right ["self"] []
  mt_Works_give_right : Meth K A.c_Works "give_right" A.f_Works_give_right
  fn_Works_make_green : Fun K "make_green" "Works.make_green" s_Works_make_green A.f_Works_make_green A.d_Works_make_green
  bd_Works_make_green : Binds K A.d_Works_make_green ["self"] []
  mt_Works_make_green : Meth K A.c_Works "make_green" A.f_Works_make_green
  fn_row_length : Fun K "row_length" "row_length" s_row_length A.f_row_length A.d_row_length
  bd_row_length : Binds K A.d_row_length ["calls", "place"] []
  mg_row_length : mg "row_length" = some (.ref A.f_row_length)
  fn_called : Fun K "called" "called" s_called A.f_called A.d_called
  bd_called : Binds K A.d_called ["works", "call", "handed", "row"] []
  mg_called : mg "called" = some (.ref A.f_called)
  fn_with_told : Fun K "with_told" "with_told" s_with_told A.f_with_told A.d_with_told
  bd_with_told : Binds K A.d_with_told ["answered", "told"] []
  mg_with_told : mg "with_told" = some (.ref A.f_with_told)
  fn_answers : Fun K "answers" "answers" s_answers A.f_answers A.d_answers
  bd_answers : Binds K A.d_answers ["calls"] []
  mg_answers : mg "answers" = some (.ref A.f_answers)
  gi_GIVEN : ∃ t, mg "GIVEN" = some (.int (1) t)
  gi_HAD : ∃ t, mg "HAD" = some (.int (2) t)
  gi_ASK : ∃ t, mg "ASK" = some (.int (3) t)
  gi_LENGTH : ∃ t, mg "LENGTH" = some (.int (16) t)
  gi_TURN_AT : ∃ t, mg "TURN_AT" = some (.int (4) t)
  gi_COUNT_AT : ∃ t, mg "COUNT_AT" = some (.int (8) t)
  gi_CHECK_AT : ∃ t, mg "CHECK_AT" = some (.int (12) t)
  gi_POLYNOMIAL : ∃ t, mg "POLYNOMIAL" = some (.int (2197175160) t)
  gi_ONES : ∃ t, mg "ONES" = some (.int (4294967295) t)
  gi_SEND : ∃ t, mg "SEND" = some (.int (0) t)
  gi_LIGHT : ∃ t, mg "LIGHT" = some (.int (1) t)
  gi_TELLS : ∃ t, mg "TELLS" = some (.int (2) t)
  gi_CAME_TO_HAVE : ∃ t, mg "CAME_TO_HAVE" = some (.int (1) t)
  gi_DROVE_IN_AT_RED : ∃ t, mg "DROVE_IN_AT_RED" = some (.int (2) t)
  gi_GAVE : ∃ t, mg "GAVE" = some (.int (0) t)
  gi_HAS : ∃ t, mg "HAS" = some (.int (1) t)
  gi_WAITS : ∃ t, mg "WAITS" = some (.int (2) t)
  gi_HAS_NOT : ∃ t, mg "HAS_NOT" = some (.int (-11) t)
  gi_NOT_ALLOWED : ∃ t, mg "NOT_ALLOWED" = some (.int (-13) t)
  gi_IS_GREEN : ∃ t, mg "IS_GREEN" = some (.int (-16) t)
  gi_WRONG_NUMBER : ∃ t, mg "WRONG_NUMBER" = some (.int (-22) t)
  gi_NOT_RIGHT : ∃ t, mg "NOT_RIGHT" = some (.int (-71) t)
  gi_AGAIN_EVERY : ∃ t, mg "AGAIN_EVERY" = some (.int (10) t)
  gi_NEVER : ∃ t, mg "NEVER" = some (.int (-1) t)
  gi_MOST_TICKS : ∃ t, mg "MOST_TICKS" = some (.int (1000) t)
  gi_RW_START : ∃ t, mg "RW_START" = some (.int (0) t)
  gi_RW_IN : ∃ t, mg "RW_IN" = some (.int (1) t)
  gi_RW_OUT : ∃ t, mg "RW_OUT" = some (.int (2) t)
  gi_RW_WAITING : ∃ t, mg "RW_WAITING" = some (.int (3) t)
  gi_RW_HEARD : ∃ t, mg "RW_HEARD" = some (.int (4) t)
  gi_RW_TICK : ∃ t, mg "RW_TICK" = some (.int (5) t)
  mg_WHOLE_NUMBERS : mg "WHOLE_NUMBERS" = some (.ref A.o_WHOLE_NUMBERS)
  tu_WHOLE_NUMBERS : IntTup K A.o_WHOLE_NUMBERS [2, 0, 0, 1, 1, 0, 0]
  mg_len : mg "len" = none
  mg_range : mg "range" = none
  mg_sum : mg "sum" = none
  mg_max : mg "max" = none
end Ol
namespace Ol
open PySem L2
/-! ### small things about readings -/
section
variable {X : Cx}
theorem pe_gint {x : Str} {n : Int} {pos : Pos} (hg : Gl X x) (hm : ∃ t, X.mg x = some (.int n t)) (hd : (x == ("__debug__" : Str)) = false := by decide) : PE X (.Name x pos) (tC (.int n)) := by
  obtain ⟨t, e⟩ := hm
  exact pe_glob hg e ⟨t, rfl⟩ hd
end
theorem same_upd {H H' : Hp} {l : Addr} {o : HO} (h : L2.Same H H') (hl : H' l = none) : L2.Same H (upd H' l o) := fun b u e => by
  rw [upd_ne (ne_of_none (h b u e) hl)]
  exact h b u e
theorem same_upd2 {H H' : Hp} {l : Addr} {o : HO} (h : L2.Same H H') (hl : H l = none) : L2.Same H (upd H' l o) := fun b u e => by
  rw [upd_ne (ne_of_none e hl)]
  exact h b u e
noncomputable abbrev vInts (l : List Int) : List V := l.map V.int
noncomputable abbrev vNats (l : List Nat) : List V := l.map fun n : Nat => V.int (n : Int)

section
variable {P : Program} {w : World} {K : PySem.W.Frag} {mg : Str → Option Value} {base : Heap} {A : Adr}

inductive iLow (vs : List V) (H : Hp) (Q : VK) : Prop
  | mk (n : Nat) : (vs = [.int n]) → (∀ (l : Addr) (H' : Hp), H l = none → H' l = some (.lst (vNats (Km264.le 4 n))) → L2.Same H H' → Q (.ref l) H') → iLow vs H Q
noncomputable def spLow : Sp := fun vs H Q _ => iLow vs H Q

theorem ok_low (T : Tx K mg A) : FnOk P w K mg base CX0 1 A.f_low_bytes_first A.d_low_bytes_first ["number"] spLow := by
  refine T.fn_low_bytes_first.ok sc_low_bytes_first (fun vs H Q E h => ?_) (fun cdv A' outer s H vs Q E hr h => ?_)
  · obtain ⟨n, rfl, _⟩ := h
    rfl
  · obtain ⟨n, rfl, k⟩ := h
    refine ⟨_, pss_one (ps_ret (pe_lc (own := [("shift", 1)]) rfl sc_low_bytes_first.nd (pi_tup (pe_tup (pa_cons pe_int (pa_cons pe_int (pa_cons pe_int (pa_cons pe_int pa_nil)))))) (blkOk_by (by show blkC ["number", "shift"] (defScope s_low_bytes_first) _ [("shift", 1)] = true; decide +kernel))
      (fun _ _ _ _ _ => pg_name (i := 1) sc_low_bytes_first.nd rfl (Or.inl rfl)) (fun _ _ _ _ _ => pts_nil) (fun _ _ _ _ _ => pe_op op_and (pe_op op_shr (pv 0) (pv 1)) pe_int))), ?_⟩
    refine ⟨by show 4 ≤ sizeLine; decide, fun p hp => ⟨p, rfl, ⟨_, SqT.of upd_same⟩, fun D hD => ?_⟩⟩
    have hpD : p ≠ D := ne_of_none upd_same hD
    have hD0 : H D = none := by rw [upd_ne hpD.symm] at hD; exact hD
    refine lc_tup (K := K) (a := p) (xs := [.int 0, .int 8, .int 16, .int 24]) (fun i H2 => H2 D = some (.lst ((vNats (Km264.le 4 n)).take i)) ∧ H2 p = some (.tup [.int 0, .int 8, .int 16, .int 24]) ∧ L2.Same H H2) ?_ ?_ ?_ ?_
    · exact ⟨upd_same, by rw [upd_ne hpD]; exact upd_same, same_upd2 (same_upd2 (L2.Same.refl H) hp) hD0⟩
    · rintro i H2 _ ⟨_, h2, _⟩
      exact SqT.of h2
    · rintro i x H2 hx ⟨h1, h2, h3⟩
      have fin : ∀ (k b : Nat) (hkb : (Km264.le 4 n)[i]? = some b) (hb : b = n / 2 ^ k % 256), upd H2 D (.lst ((vNats (Km264.le 4 n)).take i ++ [.int (Builtin.bitAnd ((n : Int) / 2 ^ k) 255)])) D = some (.lst ((vNats (Km264.le 4 n)).take (i + 1))) := fun k b hkb hb => by
        rw [upd_same, MX.byte_at, ← hb, List.take_add_one, List.getElem?_map, hkb]
        rfl
      have hlen : ((vNats (Km264.le 4 n)).take i).length < sizeLine := by
        rw [List.length_take, List.length_map, MX.le4]
        show min i 4 < 2 ^ 24
        omega
      have rest : ∀ o, (upd H2 D o) p = some (.tup [.int 0, .int 8, .int 16, .int 24]) ∧ L2.Same H (upd H2 D o) := fun o => ⟨by rw [upd_ne hpD]; exact h2, same_upd2 h3 hD0⟩
      rcases i with _ | _ | _ | _ | i
      · cases hx
        exact ⟨rfl, _, rfl, _, rfl, _, _, rfl, rfl, (by show (0 : Int) ≤ 0; decide), _, _, rfl, rfl, _, h1, hlen, fin 0 (n / 2 ^ 0 % 256) (by rw [MX.le4]; simp) rfl, rest _⟩
      · cases hx
        exact ⟨rfl, _, rfl, _, rfl, _, _, rfl, rfl, (by show (0 : Int) ≤ 8; decide), _, _, rfl, rfl, _, h1, hlen, fin 8 (n / 2 ^ 8 % 256) (by rw [MX.le4]; rfl) rfl, rest _⟩
      · cases hx
        exact ⟨rfl, _, rfl, _, rfl, _, _, rfl, rfl, (by show (0 : Int) ≤ 16; decide), _, _, rfl, rfl, _, h1, hlen, fin 16 (n / 2 ^ 16 % 256) (by rw [MX.le4]; rfl) rfl, rest _⟩
      · cases hx
        exact ⟨rfl, _, rfl, _, rfl, _, _, rfl, rfl, (by show (0 : Int) ≤ 24; decide), _, _, rfl, rfl, _, h1, hlen, fin 24 (n / 2 ^ 24 % 256) (by rw [MX.le4]; rfl) rfl, rest _⟩
      · simp at hx
    · rintro H2 ⟨h1, _, h3⟩
      refine k D H2 hD0 ?_ h3
      rw [h1, List.take_of_length_le (by rw [List.length_map, MX.le4]; exact Nat.le_refl 4)]
end
end Ol
namespace Ol
open PySem L2
section
variable {P : Program} {w : World} {K : PySem.W.Frag} {mg : Str → Option Value} {base : Heap} {A : Adr}

inductive iCheck (K : PySem.W.Frag) (vs : List V) (H : Hp) (Q : VK) : Prop
  | mk (a : Addr) (l : List Nat) : (vs = [.ref a]) → (SqL K H a (vNats l)) → (Q (.int (Km264.crc l : Nat)) H) → iCheck K vs H Q
noncomputable def spCheck (K : PySem.W.Frag) : Sp := fun vs H Q _ => iCheck K vs H Q

theorem ok_check (T : Tx K mg A) : FnOk P w K mg base CX0 1 A.f_check_of A.d_check_of ["numbers"] (spCheck K) := by
  refine T.fn_check_of.ok sc_check_of (fun vs H Q E h => ?_) (fun cdv A' outer s H vs Q E hr h => ?_)
  · obtain ⟨a, l, rfl, _⟩ := h
    rfl
  · obtain ⟨a, l, rfl, hS, k⟩ := h
    refine ⟨_, (pss_cons (ps_set (i := 1) sc_check_of.nd rfl (Or.inl rfl) (pe_gint rfl T.gi_ONES))
      (pss_cons (ps_for PassesOwn.never rfl (pi_list (pv 0)) (pg_name (i := 2) sc_check_of.nd rfl (Or.inl rfl))
      (pss_cons (ps_set (i := 1) sc_check_of.nd rfl (Or.inl rfl) (pe_op op_xor (pv 1) (pv 2)))
      (pss_one (ps_for PassesOwn.never rfl (pi_range1 rfl T.mg_range (pa_cons pe_int pa_nil)) (pg_name (i := 3) sc_check_of.nd rfl (Or.inl rfl))
      (pss_cons (ps_set (i := 4) sc_check_of.nd rfl (Or.inl rfl) (pe_op op_and (pv 1) pe_int))
      (pss_cons (ps_set (i := 1) sc_check_of.nd rfl (Or.inl rfl) (pe_op op_shr (pv 1) pe_int))
      (pss_one (ps_if (pt_cmpR op_eq (pv 4) pe_int (nomark _))
      (pss_one (ps_set (i := 1) sc_check_of.nd rfl (Or.inl rfl) (pe_op op_xor (pv 1) (pe_gint rfl T.gi_POLYNOMIAL))))
      pss_nil))))))))
      (pss_one (ps_ret (pe_op op_xor (pv 1) (pe_gint rfl T.gi_ONES)))))), ?_⟩
    refine ⟨_, rfl, a, rfl, ⟨_, hS⟩, for_list (K := K) (a := a) (xs := vNats l) (fun i σ H2 => ∃ v2 v3 v4 : Option V, σ = [some (.ref a), some (.int ((l.take i).foldl Km264.crcByte 0xFFFFFFFF : Nat)), v2, v3, v4] ∧ H2 = H) ⟨none, none, none, rfl, rfl⟩ ?_ ?_ ?_⟩
    · rintro i σ H2 _ ⟨_, _, _, _, rfl⟩
      exact hS
    · rintro i x σ H2 hx ⟨v2, v3, v4, rfl, rfl⟩
      obtain ⟨b, hb, rfl⟩ : ∃ b, l[i]? = some b ∧ x = V.int (b : Nat) := by
        rw [List.getElem?_map] at hx
        cases e : l[i]? with
        | none => rw [e] at hx; cases hx
        | some b => rw [e] at hx; exact ⟨b, rfl, (Option.some.inj hx).symm⟩
      generalize hc : (l.take i).foldl Km264.crcByte 0xFFFFFFFF = c
      have hn : (l.take (i + 1)).foldl Km264.crcByte 0xFFFFFFFF = MX.bits 8 (c ^^^ b) := by
        rw [List.take_add_one, hb, List.foldl_append, hc]
        rfl
      refine ⟨_, rfl, _, rfl, _, _, rfl, rfl, 8, rfl, by decide, by decide, for_range (n := 8) (fun j σ H3 => ∃ v3 v4 : Option V, σ = [some (.ref a), some (.int (MX.bits j (c ^^^ b) : Nat)), some (.int (b : Nat)), v3, v4] ∧ H3 = H2) ⟨v3, v4, ?_, rfl⟩ ?_ ?_⟩
      · show ([some (V.ref a), some (V.int (Builtin.bitXor (c : Int) (b : Int))), some (V.int (b : Nat)), v3, v4] : St) = _
        rw [MX.xor_nat]
        rfl
      · rintro j σ H3 hj ⟨v3, v4, rfl, rfl⟩
        refine ⟨_, rfl, _, _, rfl, rfl, _, rfl, _, _, rfl, rfl, (by show (0 : Int) ≤ 1; decide), _, rfl, rfl, _, rfl, ?_⟩
        have st := MX.bit_step (MX.bits j (c ^^^ b))
        rw [← MX.bits_succ] at st
        refine ite2 (fun h => ?_) (fun h => ?_)
        · have h' : decide (Builtin.bitAnd ((MX.bits j (c ^^^ b) : Nat) : Int) 1 = 1) = true := by
            have h1 := of_decide_eq_true h
            injection h1 with h1
            exact decide_eq_true h1
          rw [if_pos h'] at st
          refine ⟨_, rfl, _, _, rfl, rfl, ?_⟩
          exact ⟨_, _, by rw [← st]; rfl, rfl⟩
        · have h' : ¬ decide (Builtin.bitAnd ((MX.bits j (c ^^^ b) : Nat) : Int) 1 = 1) = true := by
            intro z
            exact h (decide_eq_true (congrArg V.int (of_decide_eq_true z)))
          rw [if_neg h'] at st
          exact ⟨_, _, by rw [← st]; rfl, rfl⟩
      · rintro σ H3 ⟨v3, v4, rfl, rfl⟩
        exact ⟨_, _, _, by rw [hn], rfl⟩
    · rintro σ H2 ⟨v2, v3, v4, rfl, rfl⟩
      refine ⟨_, rfl, _, _, rfl, rfl, ?_⟩
      rw [List.take_of_length_le (by rw [List.length_map]; exact Nat.le_refl _)]
      show Q (.int (Builtin.bitXor ((l.foldl Km264.crcByte 0xFFFFFFFF : Nat) : Int) (4294967295 : Nat))) H2
      rw [MX.xor_nat]
      exact k

inductive iMsg (vs : List V) (H : Hp) (Q : VK) : Prop
  | mk (kd of tn ct : Nat) : (vs = [.int kd, .int of, .int tn, .int ct]) → (∀ (l : Addr) (H' : Hp), H l = none → H' l = some (.lst (vNats (Km264.Msg.bytes ⟨kd, of, tn, ct⟩))) → L2.Same H H' → Q (.ref l) H') → iMsg vs H Q
noncomputable def spMsg : Sp := fun vs H Q _ => iMsg vs H Q

theorem ok_msg (T : Tx K mg A) : FnOk P w K mg base CX0 2 A.f_made_message A.d_made_message ["kind", "sender", "turn", "count"] spMsg := by
  have G_low_bytes_first : FnOk P w K mg base CX0 1 A.f_low_bytes_first A.d_low_bytes_first ["number"] spLow := ok_low T
  have G_check_of : FnOk P w K mg base CX0 1 A.f_check_of A.d_check_of ["numbers"] (spCheck K) := ok_check T
  refine T.fn_made_message.ok sc_made_message (fun vs H Q E h => ?_) (fun cdv A' outer s H vs Q E hr h => ?_)
  · obtain ⟨kd, of, tn, ct, rfl, _⟩ := h
    rfl
  · obtain ⟨kd, of, tn, ct, rfl, k⟩ := h
    refine ⟨_, (pss_cons (ps_set (i := 4) sc_made_message.nd rfl (Or.inl rfl) (pe_op op_cat (pe_op op_cat (pe_lst (pa_cons (pv 0) (pa_cons (pv 1) (pa_cons pe_int (pa_cons pe_int pa_nil))))) (pe_call G_low_bytes_first (hr.mono (by decide)) rfl T.mg_low_bytes_first T.fn_low_bytes_first.kp T.bd_low_bytes_first .nil pass0 (pa_cons (pv 2) pa_nil))) (pe_call G_low_bytes_first (hr.mono (by decide)) rfl T.mg_low_bytes_first T.fn_low_bytes_first.kp T.bd_low_bytes_first .nil pass0 (pa_cons (pv 3) pa_nil))))
      (pss_one (ps_ret (pe_op op_cat (pv 4) (pe_call G_low_bytes_first (hr.mono (by decide)) rfl T.mg_low_bytes_first T.fn_low_bytes_first.kp T.bd_low_bytes_first .nil pass0 (pa_cons (pe_call G_check_of (hr.mono (by decide)) rfl T.mg_check_of T.fn_check_of.kp T.bd_check_of .nil pass0 (pa_cons (pv 4) pa_nil)) pa_nil)))))), ?_⟩
    have l4 : ∀ n, (vNats (Km264.le 4 n)).length = 4 := fun n => by rw [List.length_map, MX.le4]; rfl
    refine ⟨_, rfl, _, rfl, by show 4 ≤ sizeLine; decide, fun l1 e1 => ?_⟩
    refine ⟨_, rfl, tn, rfl, fun l2 H2 n2 c2 s2 => ?_⟩
    have a1 : H2 l1 = some (.lst [.int kd, .int of, .int 0, .int 0]) := s2 _ _ upd_same
    have s2' : L2.Same H H2 := fun b o e => s2 b o (by rw [upd_ne (ne_of_none e e1)]; exact e)
    refine ⟨_, _, _, _, rfl, rfl, a1, c2, by rw [l4]; show 4 + 4 ≤ sizeLine; decide, fun l3 e3 => ?_⟩
    refine ⟨_, rfl, ct, rfl, fun l4' H4 n4 c4 s4 => ?_⟩
    have a3 := s4 _ _ upd_same
    have s4' : L2.Same H H4 := fun b o e => s4 b o (by rw [upd_ne (ne_of_none (s2' b o e) e3)]; exact s2' b o e)
    refine ⟨_, _, _, _, rfl, rfl, a3, c4, by rw [List.length_append, l4, l4]; show 4 + 4 + 4 ≤ sizeLine; decide, fun l5 e5 => ?_⟩
    have hf : H l5 = none := L2.Same.free s4' e5
    have body : [V.int kd, .int of, .int 0, .int 0] ++ vNats (Km264.le 4 tn) ++ vNats (Km264.le 4 ct) = vNats (Km264.Msg.half ⟨kd, of, tn, ct⟩) := by
      simp [Km264.Msg.half, vNats]
    rw [body]
    have s5 : L2.Same H (upd H4 l5 (.lst (vNats (Km264.Msg.half ⟨kd, of, tn, ct⟩)))) := same_upd2 s4' hf
    refine ⟨_, rfl, _, rfl, l5, _, rfl, SqL.of upd_same, _, rfl, fun l6 H6 n6 c6 s6 => ?_⟩
    have a5 := s6 _ _ upd_same
    refine ⟨_, _, _, _, rfl, rfl, a5, c6, by rw [l4]; simp only [List.length_map, Km264.Msg.half, List.length_append, MX.le4]; show 4 + 4 + 4 + 4 ≤ sizeLine; decide, fun l7 e7 => ?_⟩
    have s6' : L2.Same H H6 := s5.trans s6
    refine k l7 _ (L2.Same.free s6' e7) ?_ (same_upd2 s6' (L2.Same.free s6' e7))
    rw [upd_same]
    simp [Km264.Msg.bytes, vNats]
end
end Ol
namespace Ol
open PySem L2
/-! ### readings, each as one step -/
section
variable {K : PySem.W.Frag} {σ : St} {i : Nat} {H : Hp} {C dx : Addr} {fs : List (Str × V)} {v : V} {f : Str}
theorem rdF {Q : V → Prop} (a : Addr) (e : σ[i]? = some (some (.ref a))) (h : H a = some (.ins C dx fs)) (c : Cls K C) (n : NoAttr K C f) (l : fs.lookup f = some v) (q : Q v) :
    ∃ x, σ[i]? = some (some x) ∧ ∃ a C dx fs v, x = .ref a ∧ H a = some (.ins C dx fs) ∧ Cls K C ∧ NoAttr K C f ∧ fs.lookup f = some v ∧ Q v := ⟨_, e, a, C, dx, fs, v, rfl, h, c, n, l, q⟩
theorem rdA {Q : Addr → Addr → V → Prop} (a : Addr) (e : σ[i]? = some (some (.ref a))) (h : H a = some (.ins C dx fs)) (c : Cls K C) (n : NoAttr K C f) (l : fs.lookup f = some v) (q : Q a C v) :
    ∃ x, σ[i]? = some (some x) ∧ ∃ a C dx fs v, x = .ref a ∧ H a = some (.ins C dx fs) ∧ Cls K C ∧ NoAttr K C f ∧ fs.lookup f = some v ∧ Q a C v := ⟨_, e, a, C, dx, fs, v, rfl, h, c, n, l, q⟩
theorem rdG {Q : V → Prop} (a : Addr) (h : H a = some (.ins C dx fs)) (c : Cls K C) (n : NoAttr K C f) (l : fs.lookup f = some v) (q : Q v) :
    ∃ b C dx fs v, V.ref a = .ref b ∧ H b = some (.ins C dx fs) ∧ Cls K C ∧ NoAttr K C f ∧ fs.lookup f = some v ∧ Q v := ⟨a, C, dx, fs, v, rfl, h, c, n, l, q⟩
theorem rdS {Q : Hp → Prop} (y : V) (a : Addr) (e : σ[i]? = some (some (.ref a))) (h : H a = some (.ins C dx fs)) (c : Cls K C) (n : NoAttr K C f) (l : fs.length < 1000) (q : Q (upd H a (.ins C dx (putF f y fs)))) :
    ∃ x, σ[i]? = some (some x) ∧ ∃ a C dx fs, x = .ref a ∧ H a = some (.ins C dx fs) ∧ Cls K C ∧ NoAttr K C f ∧ fs.length < 1000 ∧ Q (upd H a (.ins C dx (putF f y fs))) := ⟨_, e, a, C, dx, fs, rfl, h, c, n, l, q⟩
theorem rdM {Q : V → Prop} {m : Str} (a : Addr) (e : σ[i]? = some (some (.ref a))) (h : H a = some (.ins C dx fs)) (l : fs.lookup m = none) (q : Q (.ref a)) :
    ∃ x, σ[i]? = some (some x) ∧ ∃ a dx fs, x = .ref a ∧ H a = some (.ins C dx fs) ∧ fs.lookup m = none ∧ Q x := ⟨_, e, a, dx, fs, rfl, h, l, q⟩
theorem rdN {Q : Prop} {m : Str} (a : Addr) (h : H a = some (.ins C dx fs)) (l : fs.lookup m = none) (q : Q) :
    ∃ b dx fs, V.ref a = .ref b ∧ H b = some (.ins C dx fs) ∧ fs.lookup m = none ∧ Q := ⟨a, dx, fs, rfl, h, l, q⟩
theorem rdI {Q : V → Prop} {xs : List V} {j : Int} (a : Addr) (h : SqL K H a xs) (n : atI xs j = some v) (q : Q v) :
    ∃ p xs i v, V.ref a = .ref p ∧ V.int j = .int i ∧ SqL K H p xs ∧ atI xs i = some v ∧ Q v := ⟨a, xs, j, v, rfl, rfl, h, n, q⟩
theorem rdE {α : Type} {v : α} {P Q : α → Prop} (e : P v) (q : Q v) : ∃ v, P v ∧ Q v := ⟨v, e, q⟩
theorem rdO {α β : Type} {i : α} {j : β} {P : α → Prop} {P' : β → Prop} {Q : α → β → Prop} (e : P i) (e' : P' j) (q : Q i j) : ∃ i j, P i ∧ P' j ∧ Q i j := ⟨i, j, e, e', q⟩
end
end Ol
namespace Ol
open PySem L2
/-! ### a message that is read -/
theorem sql_keep {K : PySem.W.Frag} {H H' : Hp} {a : Addr} {xs : List V} (h : SqL K H a xs) (k : ∀ o, H a = some o → H' a = some o) : SqL K H' a xs := by
  rcases h with (h | ⟨o, h⟩) | h
  · exact .inl (.inl (k _ h))
  · exact .inl (.inr ⟨o, k _ h⟩)
  · exact .inr h
theorem sq_same {K : PySem.W.Frag} {H H' : Hp} {a : Addr} {xs : List V} (h : SqL K H a xs) (s : L2.Same H H') : SqL K H' a xs := sql_keep h fun o e => s _ _ e
/-- four bytes from p on, the low one first -/
noncomputable def at4 (l : List Nat) (p : Nat) : Nat := MX.num4 (l.getD p 0) (l.getD (p + 1) 0) (l.getD (p + 2) 0) (l.getD (p + 3) 0)
noncomputable def parts (l : List Nat) (p : Nat) : List Int := (List.range 4).map fun i => ((l.getD (p + i) 0 : Nat) : Int) * 2 ^ (8 * i)
theorem parts_sum (l : List Nat) (p : Nat) : (parts l p).sum = ((at4 l p : Nat) : Int) := by
  have e : List.range 4 = [0, 1, 2, 3] := by decide
  unfold parts at4 MX.num4
  rw [e]
  show ((l.getD (p + 0) 0 : Nat) : Int) * 2 ^ 0 + (((l.getD (p + 1) 0 : Nat) : Int) * 2 ^ 8 + (((l.getD (p + 2) 0 : Nat) : Int) * 2 ^ 16 + (((l.getD (p + 3) 0 : Nat) : Int) * 2 ^ 24 + 0))) = _
  rw [Nat.add_zero]
  omega
theorem parts_at {l : List Nat} {p i : Nat} (h : i < 4) : (parts l p)[i]? = some (((l.getD (p + i) 0 : Nat) : Int) * 2 ^ (8 * i)) := by
  unfold parts
  rw [List.getElem?_map, List.getElem?_range h]
  rfl
theorem get_d {l : List Nat} {i : Nat} (h : i < l.length) : l[i]? = some (l.getD i 0) := by
  rw [List.getD_eq_getElem?_getD, List.getElem?_eq_getElem h]
  rfl
theorem byte_d {l : List Nat} (h : ∀ b ∈ l, b < 256) (i : Nat) : l.getD i 0 < 256 := by
  rw [List.getD_eq_getElem?_getD]
  cases e : l[i]? with
  | none => show 0 < 256; decide
  | some b => exact h b (List.mem_of_getElem? e)
theorem at_d {l : List Nat} {i : Nat} (h : i < l.length) : atI (vNats l) (i : Int) = some (.int (l.getD i 0 : Nat)) := by
  refine atI_nat ?_
  rw [List.getElem?_map, get_d h]
  rfl
section
variable {P : Program} {w : World} {K : PySem.W.Frag} {mg : Str → Option Value} {base : Heap} {A : Adr}
inductive iNum (K : PySem.W.Frag) (vs : List V) (H : Hp) (Q : VK) : Prop
  | mk (a : Addr) (l : List Nat) (p : Nat) : (vs = [.ref a, .int p]) → (SqL K H a (vNats l)) → ((∀ b ∈ l, b < 256)) → (p + 4 ≤ l.length) → (∀ H' : Hp, L2.Same H H' → Q (.int (at4 l p : Nat)) H') → iNum K vs H Q
noncomputable def spNum (K : PySem.W.Frag) : Sp := fun vs H Q _ => iNum K vs H Q
theorem ok_num (T : Tx K mg A) : FnOk P w K mg base CX0 1 A.f_number_at A.d_number_at ["message", "place"] (spNum K) := by
  refine T.fn_number_at.ok sc_number_at (fun vs H Q E h => ?_) (fun cdv A' outer s H vs Q E hr h => ?_)
  · obtain ⟨a, l, p, rfl, _⟩ := h
    rfl
  · obtain ⟨a, l, p, rfl, hS, hb, hp, k⟩ := h
    refine ⟨_, (pss_one (ps_ret (pe_callB (cr_sum rfl) (by rfl) T.mg_sum PyProof.Rows.boot_sum (pa_cons (pe_lc (own := [("k", 2)]) rfl sc_number_at.nd (pi_range1 rfl T.mg_range (pa_cons pe_int pa_nil)) (blkOk_by (by show blkC ["message", "place", "k"] (defScope s_number_at) _ [("k", 2)] = true; decide +kernel)) (fun _ _ _ _ _ => pg_name (i := 2) sc_number_at.nd rfl (Or.inl rfl)) (fun _ _ _ _ _ => pts_nil) (fun _ _ _ _ _ => (pe_op op_shl (pe_ix (r := rIxL K) ix_list (pv 0) (pe_op op_add (pv 1) (pv 2)) (fun _ _ => rfl)) (pe_op op_mul pe_int (pv 2))))) pa_nil)))), ?_⟩
    refine ⟨4, rfl, by decide, by decide, fun D hD => ?_⟩
    refine lc_range (lo := 0) (n := 4) (fun i H2 => H2 D = some (.lst (vInts ((parts l p).take i))) ∧ L2.Same H H2) ⟨upd_same, same_upd2 (L2.Same.refl H) hD⟩ ?_ ?_
    · rintro i H2 hi ⟨h1, h2⟩
      have ei : (p : Int) + (0 + (i : Int)) = ((p + i : Nat) : Int) := by omega
      have et : (8 * (0 + (i : Int))).toNat = 8 * i := by omega
      have hx : atI (vNats l) ((p : Int) + (0 + (i : Int))) = some (.int (l.getD (p + i) 0 : Nat)) := by
        rw [ei]
        exact at_d (by omega)
      have hl : (vInts ((parts l p).take i)).length < sizeLine := by
        rw [List.length_map, List.length_take]
        show _ < 2 ^ 24
        omega
      have h3 := byte_d hb (p + i)
      refine ⟨rfl, (rdE rfl (rdE rfl (rdE rfl (rdO rfl rfl (rdI a (sq_same hS h2) hx (rdE rfl (rdO rfl rfl ⟨.inl ⟨by decide, by decide⟩, (rdO rfl rfl ⟨⟨?_, ?_, ?_⟩, _, h1, hl, ?_, same_upd2 h2 hD⟩)⟩)))))))⟩
      · show (0 : Int) ≤ 8 * (0 + (i : Int))
        omega
      · show 8 * (0 + (i : Int)) ≤ 1000000
        omega
      · show (((l.getD (p + i) 0 : Nat) : Int)).natAbs < 2 ^ 64
        rw [Int.natAbs_natCast]
        omega
      · rw [upd_same, List.take_add_one, parts_at hi]
        dsimp only
        rw [et]
        simp [vInts]
    · rintro H2 ⟨h1, h2⟩
      refine ⟨D, parts l p, rfl, SqL.of ?_, ?_⟩
      · rw [h1, List.take_of_length_le (by unfold parts; rw [List.length_map, List.length_range]; exact Nat.le_refl 4)]
      · rw [parts_sum]
        exact k H2 h2

inductive iKind (K : PySem.W.Frag) (vs : List V) (H : Hp) (Q : VK) : Prop
  | mk (a : Addr) (l : List Nat) : (vs = [.ref a]) → (SqL K H a (vNats l)) → (0 < l.length) → (Q (.int (l.getD 0 0 : Nat)) H) → iKind K vs H Q
noncomputable def spKind (K : PySem.W.Frag) : Sp := fun vs H Q _ => iKind K vs H Q
theorem ok_kind (T : Tx K mg A) : FnOk P w K mg base CX0 1 A.f_kind_of A.d_kind_of ["message"] (spKind K) := by
  refine T.fn_kind_of.ok sc_kind_of (fun vs H Q E h => ?_) (fun cdv A' outer s H vs Q E hr h => ?_)
  · obtain ⟨a, l, rfl, _⟩ := h
    rfl
  · obtain ⟨a, l, rfl, hS, hl, k⟩ := h
    refine ⟨_, (pss_one (ps_ret (pe_ix ix_list (pv 0) pe_int (fun _ _ => rfl)))), ?_⟩
    exact (rdE rfl (rdI a hS (at_d (i := 0) hl) k))
inductive iAt (K : PySem.W.Frag) (p : Nat) (vs : List V) (H : Hp) (Q : VK) : Prop
  | mk (a : Addr) (l : List Nat) : (vs = [.ref a]) → (SqL K H a (vNats l)) → ((∀ b ∈ l, b < 256)) → (p + 4 ≤ l.length) → (∀ H' : Hp, L2.Same H H' → Q (.int (at4 l p : Nat)) H') → iAt K p vs H Q
noncomputable def spAt (K : PySem.W.Frag) (p : Nat) : Sp := fun vs H Q _ => iAt K p vs H Q
theorem ok_turn (T : Tx K mg A) : FnOk P w K mg base CX0 2 A.f_turn_of A.d_turn_of ["message"] (spAt K 4) := by
  have G_number_at : FnOk P w K mg base CX0 1 A.f_number_at A.d_number_at ["message", "place"] (spNum K) := ok_num T
  refine T.fn_turn_of.ok sc_turn_of (fun vs H Q E h => ?_) (fun cdv A' outer s H vs Q E hr h => ?_)
  · obtain ⟨a, l, rfl, _⟩ := h
    rfl
  · obtain ⟨a, l, rfl, hS, hb, hl, k⟩ := h
    refine ⟨_, (pss_one (ps_ret (pe_call G_number_at (hr.mono (by decide)) rfl T.mg_number_at T.fn_number_at.kp T.bd_number_at .nil pass0 (pa_cons (pv 0) (pa_cons (pe_gint rfl T.gi_TURN_AT) pa_nil))))), ?_⟩
    exact (rdE rfl ⟨a, l, 4, rfl, hS, hb, hl, k⟩)
theorem ok_count (T : Tx K mg A) : FnOk P w K mg base CX0 2 A.f_count_of A.d_count_of ["message"] (spAt K 8) := by
  have G_number_at : FnOk P w K mg base CX0 1 A.f_number_at A.d_number_at ["message", "place"] (spNum K) := ok_num T
  refine T.fn_count_of.ok sc_count_of (fun vs H Q E h => ?_) (fun cdv A' outer s H vs Q E hr h => ?_)
  · obtain ⟨a, l, rfl, _⟩ := h
    rfl
  · obtain ⟨a, l, rfl, hS, hb, hl, k⟩ := h
    refine ⟨_, (pss_one (ps_ret (pe_call G_number_at (hr.mono (by decide)) rfl T.mg_number_at T.fn_number_at.kp T.bd_number_at .nil pass0 (pa_cons (pv 0) (pa_cons (pe_gint rfl T.gi_COUNT_AT) pa_nil))))), ?_⟩
    exact (rdE rfl ⟨a, l, 8, rfl, hS, hb, hl, k⟩)

/-- 16 bytes whose check is right, of s, 0 where told -/
noncomputable def soundM (l : List Nat) (s : Int) : Bool := decide (l.length = 16 ∧ ((l.getD 1 0 : Nat) : Int) = s ∧ l.getD 2 0 = 0 ∧ l.getD 3 0 = 0 ∧ at4 l 12 = Km264.crc (l.take 12))
inductive iBool (K : PySem.W.Frag) (f : List Nat → Int → Bool) (vs : List V) (H : Hp) (Q : VK) : Prop
  | mk (a : Addr) (l : List Nat) (s : Int) : (vs = [.ref a, .int s]) → (SqL K H a (vNats l)) → ((∀ b ∈ l, b < 256)) → (∀ H' : Hp, L2.Same H H' → Q (.bl (f l s)) H') → iBool K f vs H Q
noncomputable def spBool (K : PySem.W.Frag) (f : List Nat → Int → Bool) : Sp := fun vs H Q _ => iBool K f vs H Q
theorem cut12 {l : List Nat} (h : l.length = 16) : cutV (vNats l) none (some 12) = vNats (l.take 12) := by
  have e : (12 : Int) = ((12 : Nat) : Int) := rfl
  unfold cutV
  rw [e, HT.sIx_nat, HT.sIx_none, List.length_map, h]
  show ((vNats l).drop 0).take 12 = _
  rw [List.drop_zero, ← List.map_take]
theorem ok_sound (T : Tx K mg A) : FnOk P w K mg base CX0 2 A.f_is_sound A.d_is_sound ["message", "sender"] (spBool K soundM) := by
  have G_number_at : FnOk P w K mg base CX0 1 A.f_number_at A.d_number_at ["message", "place"] (spNum K) := ok_num T
  have G_check_of : FnOk P w K mg base CX0 1 A.f_check_of A.d_check_of ["numbers"] (spCheck K) := ok_check T
  refine T.fn_is_sound.ok sc_is_sound (fun vs H Q E h => ?_) (fun cdv A' outer s H vs Q E hr h => ?_)
  · obtain ⟨a, l, s, rfl, _⟩ := h
    rfl
  · obtain ⟨a, l, sd, rfl, hS, hb, k⟩ := h
    refine ⟨_, (pss_cons (ps_if (pt_cmpR op_ne (pe_callB call_len_seq (by rfl) T.mg_len PySem.boot_len (pa_cons (pv 0) pa_nil)) (pe_gint rfl T.gi_LENGTH) (nomark _))
      (pss_one (ps_ret pe_bl))
      pss_nil)
      (pss_cons (ps_if (PW.pt (pw_or (pt_cmpR op_ne (pe_ix ix_list (pv 0) pe_int (fun _ _ => rfl)) (pv 1) (nomark _)) (pw_or (pt_cmpR op_ne (pe_ix ix_list (pv 0) pe_int (fun _ _ => rfl)) pe_int (nomark _)) (pw_or1 (pt_cmpR op_ne (pe_ix ix_list (pv 0) pe_int (fun _ _ => rfl)) pe_int (nomark _))))))
      (pss_one (ps_ret pe_bl))
      pss_nil)
      (pss_one (ps_ret (pe_cmpR op_eq (pe_call G_number_at (hr.mono (by decide)) rfl T.mg_number_at T.fn_number_at.kp T.bd_number_at .nil pass0 (pa_cons (pv 0) (pa_cons (pe_gint rfl T.gi_CHECK_AT) pa_nil))) (pe_call G_check_of (hr.mono (by decide)) rfl T.mg_check_of T.fn_check_of.kp T.bd_check_of .nil pass0 (pa_cons (pe_slice sl_list (pv 0) po_none (po_some (pe_gint rfl T.gi_CHECK_AT))) pa_nil)) (nomark _)))))), ?_⟩
    have no : ¬ (l.length = 16 ∧ ((l.getD 1 0 : Nat) : Int) = sd ∧ l.getD 2 0 = 0 ∧ l.getD 3 0 = 0 ∧ at4 l 12 = Km264.crc (l.take 12)) → Q (.bl false) H := fun h => by
      have z := k H (L2.Same.refl H)
      unfold soundM at z
      rw [decide_eq_false h] at z
      exact z
    refine (rdE rfl ⟨a, _, rfl, .inl hS, rfl, _, rfl, ?_⟩)
    refine ite2 (fun h => ?_) (fun h => ?_)
    · have h1 : ¬ l.length = 16 := by
        intro e
        rw [List.length_map, e] at h
        simp at h
      exact no fun z => h1 z.1
    · have h1 : l.length = 16 := by
        have h2 : ¬ ¬ V.int ((vNats l).length : Nat) = V.int 16 := by simpa using h
        have h3 : V.int ((vNats l).length : Nat) = V.int 16 := Classical.not_not.mp h2
        injection h3 with h3
        rw [List.length_map] at h3
        omega
      refine (rdE rfl (rdI a hS (at_d (i := 1) (by omega)) (rdE rfl ⟨rfl, (rdE rfl ?_)⟩)))
      refine ite2 (fun h => ?_) (fun h => ?_)
      · exact iteT (no fun z => absurd z.2.1 (by simpa using h))
      · have h2 : ((l.getD 1 0 : Nat) : Int) = sd := by simpa using h
        refine (rdE rfl (rdI a hS (at_d (i := 2) (by omega)) ⟨rfl, (rdE rfl ?_)⟩))
        refine ite2 (fun h => ?_) (fun h => ?_)
        · exact iteT (no fun z => absurd z.2.2.1 (by simpa using h))
        · have h3 : l.getD 2 0 = 0 := by simpa using h
          refine (rdE rfl (rdI a hS (at_d (i := 3) (by omega)) ⟨rfl, (rdE rfl ?_)⟩))
          refine ite2 (fun h => ?_) (fun h => ?_)
          · exact no fun z => absurd z.2.2.2.1 (by simpa using h)
          · have h4 : l.getD 3 0 = 0 := by simpa using h
            refine (rdE rfl ⟨a, l, 12, rfl, hS, hb, by omega, fun H1 s1 => ?_⟩)
            refine (rdE rfl (rdE rfl ⟨a, _, rfl, (sq_same hS s1), fun l2 hl2 => ?_⟩))
            rw [cut12 h1]
            refine ⟨l2, l.take 12, rfl, SqL.of upd_same, rfl, ?_⟩
            have e : decide (V.int ((at4 l 12 : Nat) : Int) = V.int ((Km264.crc (l.take 12) : Nat) : Int)) = soundM l sd := by
              unfold soundM
              rw [decide_eq_decide]
              constructor
              · intro z
                injection z with z
                exact ⟨h1, h2, h3, h4, by omega⟩
              · rintro ⟨_, _, _, _, z⟩
                rw [z]
            show Q (.bl (decide (V.int ((at4 l 12 : Nat) : Int) = V.int ((Km264.crc (l.take 12) : Nat) : Int)))) _
            rw [e]
            exact k _ (same_upd s1 hl2)
/-- an ask that is right -/
noncomputable def askR (l : List Nat) (s : Int) : Bool := soundM l s && (decide (l.getD 0 0 = 3) && decide (at4 l 8 = 0))
noncomputable def rightR (l : List Nat) (s : Int) : Bool := soundM l s && (!decide (at4 l 4 = 0) && (decide (l.getD 0 0 = 1) || (decide (l.getD 0 0 = 2) && decide (at4 l 8 = 0))))
theorem sound_len {l : List Nat} {s : Int} (h : soundM l s = true) : l.length = 16 := (of_decide_eq_true h).1
theorem dec_nat (m n : Nat) : decide (V.int (m : Int) = V.int (n : Int)) = decide (m = n) := by
  rw [decide_eq_decide]
  constructor
  · intro z
    injection z with z
    omega
  · intro z
    rw [z]
theorem ok_askr (T : Tx K mg A) : FnOk P w K mg base CX0 3 A.f_is_right_ask A.d_is_right_ask ["message", "sender"] (spBool K askR) := by
  have G_is_sound : FnOk P w K mg base CX0 2 A.f_is_sound A.d_is_sound ["message", "sender"] (spBool K soundM) := ok_sound T
  have G_kind_of : FnOk P w K mg base CX0 1 A.f_kind_of A.d_kind_of ["message"] (spKind K) := ok_kind T
  have G_count_of : FnOk P w K mg base CX0 2 A.f_count_of A.d_count_of ["message"] (spAt K 8) := ok_count T
  refine T.fn_is_right_ask.ok sc_is_right_ask (fun vs H Q E h => ?_) (fun cdv A' outer s H vs Q E hr h => ?_)
  · obtain ⟨a, l, s, rfl, _⟩ := h
    rfl
  · obtain ⟨a, l, sd, rfl, hS, hb, k⟩ := h
    refine ⟨_, (pss_one (ps_ret (pe_and (pe_call G_is_sound (hr.mono (by decide)) rfl T.mg_is_sound T.fn_is_sound.kp T.bd_is_sound .nil pass0 (pa_cons (pv 0) (pa_cons (pv 1) pa_nil))) (pe_and (pe_cmpR op_eq (pe_call G_kind_of (hr.mono (by decide)) rfl T.mg_kind_of T.fn_kind_of.kp T.bd_kind_of .nil pass0 (pa_cons (pv 0) pa_nil)) (pe_gint rfl T.gi_ASK) (nomark _)) (pe_one (pe_cmpR op_eq (pe_call G_count_of (hr.mono (by decide)) rfl T.mg_count_of T.fn_count_of.kp T.bd_count_of .nil pass0 (pa_cons (pv 0) pa_nil)) pe_int (nomark _))))))), ?_⟩
    unfold askR at k
    refine (rdE rfl (rdE rfl ⟨a, l, sd, rfl, hS, hb, fun H1 s1 => (rdE rfl ?_)⟩))
    refine ite2 (fun h => ?_) (fun h => ?_)
    · rw [h] at k
      have hl := sound_len h
      refine (rdE rfl ⟨a, l, rfl, (sq_same hS s1), by omega, rfl, _, rfl, ?_⟩)
      have e3 : decide (V.int ((l.getD 0 0 : Nat) : Int) = V.int 3) = decide (l.getD 0 0 = 3) := dec_nat _ 3
      refine ite2 (fun h2 => ?_) (fun h2 => ?_)
      · have h3 : decide (l.getD 0 0 = 3) = true := e3 ▸ h2
        rw [h3] at k
        refine (rdE rfl ⟨a, l, rfl, (sq_same hS s1), hb, by omega, fun H2 s2 => ⟨rfl, ?_⟩⟩)
        have e : decide (V.int ((at4 l 8 : Nat) : Int) = V.int 0) = decide (at4 l 8 = 0) := dec_nat _ 0
        have z := k H2 (s1.trans s2)
        rw [← e] at z
        exact z
      · have h3 : decide (l.getD 0 0 = 3) = false := by rw [← e3]; simpa using h2
        rw [h3] at k
        exact k H1 s1
    · have h' : soundM l sd = false := by simpa using h
      rw [h'] at k
      exact k H1 s1
theorem ok_rightr (T : Tx K mg A) : FnOk P w K mg base CX0 3 A.f_is_right A.d_is_right ["message", "sender"] (spBool K rightR) := by
  have G_is_sound : FnOk P w K mg base CX0 2 A.f_is_sound A.d_is_sound ["message", "sender"] (spBool K soundM) := ok_sound T
  have G_kind_of : FnOk P w K mg base CX0 1 A.f_kind_of A.d_kind_of ["message"] (spKind K) := ok_kind T
  have G_turn_of : FnOk P w K mg base CX0 2 A.f_turn_of A.d_turn_of ["message"] (spAt K 4) := ok_turn T
  have G_count_of : FnOk P w K mg base CX0 2 A.f_count_of A.d_count_of ["message"] (spAt K 8) := ok_count T
  refine T.fn_is_right.ok sc_is_right (fun vs H Q E h => ?_) (fun cdv A' outer s H vs Q E hr h => ?_)
  · obtain ⟨a, l, s, rfl, _⟩ := h
    rfl
  · obtain ⟨a, l, sd, rfl, hS, hb, k⟩ := h
    refine ⟨_, (pss_cons (ps_if (PW.pt (pw_or (pt_not (pt_val (pe_call G_is_sound (hr.mono (by decide)) rfl T.mg_is_sound T.fn_is_sound.kp T.bd_is_sound .nil pass0 (pa_cons (pv 0) (pa_cons (pv 1) pa_nil))))) (pw_or1 (pt_cmpR op_eq (pe_call G_turn_of (hr.mono (by decide)) rfl T.mg_turn_of T.fn_turn_of.kp T.bd_turn_of .nil pass0 (pa_cons (pv 0) pa_nil)) pe_int (nomark _)))))
      (pss_one (ps_ret pe_bl))
      pss_nil)
      (pss_one (ps_ret (pe_or (pe_cmpR op_eq (pe_call G_kind_of (hr.mono (by decide)) rfl T.mg_kind_of T.fn_kind_of.kp T.bd_kind_of .nil pass0 (pa_cons (pv 0) pa_nil)) (pe_gint rfl T.gi_GIVEN) (nomark _)) (pe_one (pe_and (pe_cmpR op_eq (pe_call G_kind_of (hr.mono (by decide)) rfl T.mg_kind_of T.fn_kind_of.kp T.bd_kind_of .nil pass0 (pa_cons (pv 0) pa_nil)) (pe_gint rfl T.gi_HAD) (nomark _)) (pe_one (pe_cmpR op_eq (pe_call G_count_of (hr.mono (by decide)) rfl T.mg_count_of T.fn_count_of.kp T.bd_count_of .nil pass0 (pa_cons (pv 0) pa_nil)) pe_int (nomark _))))))))), ?_⟩
    unfold rightR at k
    refine (rdE rfl (rdE rfl ⟨a, l, sd, rfl, hS, hb, fun H1 s1 => (rdE rfl ?_)⟩))
    refine ite2 (fun h => ?_) (fun h => ?_)
    · have h' : soundM l sd = false := by simpa using h
      rw [h'] at k
      exact iteT (k H1 s1)
    · have h' : soundM l sd = true := by simpa using h
      rw [h'] at k
      have hl := sound_len h'
      refine (rdE rfl ⟨a, l, rfl, (sq_same hS s1), hb, by omega, fun H2 s2 => ⟨rfl, (rdE rfl ?_)⟩⟩)
      have s12 := s1.trans s2
      have e0 : decide (V.int ((at4 l 4 : Nat) : Int) = V.int 0) = decide (at4 l 4 = 0) := dec_nat _ 0
      refine ite2 (fun h2 => ?_) (fun h2 => ?_)
      · have h3 : decide (at4 l 4 = 0) = true := e0 ▸ h2
        rw [h3] at k
        exact k H2 s12
      · have h3 : decide (at4 l 4 = 0) = false := by rw [← e0]; simpa using h2
        rw [h3] at k
        refine (rdE rfl ⟨a, l, rfl, (sq_same hS s12), by omega, rfl, _, rfl, ?_⟩)
        have e1 : decide (V.int ((l.getD 0 0 : Nat) : Int) = V.int 1) = decide (l.getD 0 0 = 1) := dec_nat _ 1
        have e2 : decide (V.int ((l.getD 0 0 : Nat) : Int) = V.int 2) = decide (l.getD 0 0 = 2) := dec_nat _ 2
        refine ite2 (fun h4 => ?_) (fun h4 => ?_)
        · have h5 : decide (l.getD 0 0 = 1) = true := e1 ▸ h4
          rw [h5] at k
          exact k H2 s12
        · have h5 : decide (l.getD 0 0 = 1) = false := by rw [← e1]; simpa using h4
          rw [h5] at k
          refine (rdE rfl ⟨a, l, rfl, (sq_same hS s12), by omega, rfl, _, rfl, ?_⟩)
          refine ite2 (fun h6 => ?_) (fun h6 => ?_)
          · have h7 : decide (l.getD 0 0 = 2) = true := e2 ▸ h6
            rw [h7] at k
            refine (rdE rfl ⟨a, l, rfl, (sq_same hS s12), hb, by omega, fun H3 s3 => ⟨rfl, ?_⟩⟩)
            have e : decide (V.int ((at4 l 8 : Nat) : Int) = V.int 0) = decide (at4 l 8 = 0) := dec_nat _ 0
            have z := k H3 (s12.trans s3)
            rw [← e] at z
            exact z
          · have h7 : decide (l.getD 0 0 = 2) = false := by rw [← e2]; simpa using h6
            rw [h7] at k
            exact k H2 s12
end
end Ol
namespace Ol
open PySem L2
/-! ### an instance's attributes as names beside values -/
theorem lk_zip : ∀ {ks : List Str} {vs : List V} (nd : ks.Nodup) (i : Nat) {k : Str} {v : V}, ks[i]? = some k → vs[i]? = some v → (ks.zip vs).lookup k = some v
  | [], _, _, i, _, _, h, _ => by simp at h
  | _ :: _, [], _, i, _, _, _, h => by simp at h
  | a :: ks, b :: vs, nd, 0, k, v, h1, h2 => by
    simp at h1 h2
    subst h1 h2
    simp [List.lookup]
  | a :: ks, b :: vs, nd, i + 1, k, v, h1, h2 => by
    obtain ⟨n1, n2⟩ := List.nodup_cons.mp nd
    have h1' : ks[i]? = some k := by simpa using h1
    have h2' : vs[i]? = some v := by simpa using h2
    have ne : (k == a) = false := beq_eq_false_iff_ne.mpr fun e => n1 (by rw [← e]; exact List.mem_of_getElem? h1')
    show (match k == a with | true => some b | false => (ks.zip vs).lookup k) = some v
    rw [ne]
    exact lk_zip n2 i h1' h2'
theorem no_zip : ∀ {ks : List Str} {vs : List V} {k : Str}, k ∉ ks → (ks.zip vs).lookup k = none
  | [], _, _, _ => rfl
  | _ :: _, [], _, _ => rfl
  | a :: ks, b :: vs, k, h => by
    have ne : (k == a) = false := beq_eq_false_iff_ne.mpr fun e => h (by rw [e]; exact List.mem_cons_self)
    show (match k == a with | true => some b | false => (ks.zip vs).lookup k) = none
    rw [ne]
    exact no_zip fun m => h (List.mem_cons_of_mem _ m)
theorem put_zip : ∀ {ks : List Str} {vs : List V} (nd : ks.Nodup) (i : Nat) {k : Str} {v y : V}, ks[i]? = some k → vs[i]? = some v → putF k y (ks.zip vs) = ks.zip (vs.set i y)
  | [], _, _, i, _, _, _, h, _ => by simp at h
  | _ :: _, [], _, i, _, _, _, _, h => by simp at h
  | a :: ks, b :: vs, nd, 0, k, v, y, h1, h2 => by
    simp at h1 h2
    subst h1 h2
    show (if a = a then (a, y) :: ks.zip vs else _) = _
    rw [if_pos rfl]
    rfl
  | a :: ks, b :: vs, nd, i + 1, k, v, y, h1, h2 => by
    obtain ⟨n1, n2⟩ := List.nodup_cons.mp nd
    have h1' : ks[i]? = some k := by simpa using h1
    have h2' : vs[i]? = some v := by simpa using h2
    have ne : ¬ a = k := fun e => n1 (by rw [e]; exact List.mem_of_getElem? h1')
    show (if a = k then (a, y) :: ks.zip vs else (a, b) :: putF k y (ks.zip vs)) = _
    rw [if_neg ne, put_zip n2 i h1' h2']
    rfl
/-- a name that is new goes behind all others -/
theorem put_new : ∀ {ks : List Str} {vs : List V} {k : Str} {y : V}, k ∉ ks → ks.length = vs.length → putF k y (ks.zip vs) = (ks ++ [k]).zip (vs ++ [y])
  | [], [], _, _, _, _ => rfl
  | [], _ :: _, _, _, _, h => by simp at h
  | _ :: _, [], _, _, _, h => by simp at h
  | a :: ks, b :: vs, k, y, h, hl => by
    have ne : ¬ a = k := fun e => h (by rw [e]; exact List.mem_cons_self)
    show (if a = k then (a, y) :: ks.zip vs else (a, b) :: putF k y (ks.zip vs)) = _
    rw [if_neg ne, put_new (fun m => h (List.mem_cons_of_mem _ m)) (by simpa using hl)]
    rfl
theorem len_zip {ks : List Str} {vs : List V} {n : Nat} (h : ks.length < n) : (ks.zip vs).length < n := by
  rw [List.length_zip]
  omega

theorem paired_snoc {α β : Type} {F : α → β → Prop} : ∀ {as : List α} {bs : List β} {a : α} {b : β}, Paired F as bs → F a b → Paired F (as ++ [a]) (bs ++ [b])
  | _, _, _, _, .nil, h => .cons h .nil
  | _, _, _, _, .cons r t, h => .cons r (paired_snoc t h)

/-! ### the right -/
noncomputable def kR : List Str := ["told", "me", "turn", "driven_in", "come_out", "standing", "had", "green", "other_count", "ticks"]
theorem nd_R : kR.Nodup := by decide +kernel
structure Rt where
  me : Int
  turn : Int
  ins : Int
  outs : Int
  st : Int
  had : Bool
  green : Bool
  cnt : Int
  ticks : Int
noncomputable def rf (t : Addr) (r : Rt) : List (Str × V) := kR.zip [.ref t, .int r.me, .int r.turn, .int r.ins, .int r.outs, .int r.st, .bl r.had, .bl r.green, .int r.cnt, .int r.ticks]
section
variable {t : Addr} {r : Rt}
theorem rf_told : (rf t r).lookup ("told" : Str) = some (.ref t) := lk_zip nd_R 0 rfl rfl
theorem rf_me : (rf t r).lookup ("me" : Str) = some (.int r.me) := lk_zip nd_R 1 rfl rfl
theorem rf_turn : (rf t r).lookup ("turn" : Str) = some (.int r.turn) := lk_zip nd_R 2 rfl rfl
theorem rf_ins : (rf t r).lookup ("driven_in" : Str) = some (.int r.ins) := lk_zip nd_R 3 rfl rfl
theorem rf_outs : (rf t r).lookup ("come_out" : Str) = some (.int r.outs) := lk_zip nd_R 4 rfl rfl
theorem rf_st : (rf t r).lookup ("standing" : Str) = some (.int r.st) := lk_zip nd_R 5 rfl rfl
theorem rf_had : (rf t r).lookup ("had" : Str) = some (.bl r.had) := lk_zip nd_R 6 rfl rfl
theorem rf_green : (rf t r).lookup ("green" : Str) = some (.bl r.green) := lk_zip nd_R 7 rfl rfl
theorem rf_cnt : (rf t r).lookup ("other_count" : Str) = some (.int r.cnt) := lk_zip nd_R 8 rfl rfl
theorem rf_ticks : (rf t r).lookup ("ticks" : Str) = some (.int r.ticks) := lk_zip nd_R 9 rfl rfl
theorem rp_told {y : Addr} : putF "told" (.ref y) (rf t r) = rf y r := put_zip nd_R 0 rfl rfl
theorem rp_me {y : Int} : putF "me" (.int y) (rf t r) = rf t { r with me := y } := put_zip nd_R 1 rfl rfl
theorem rp_turn {y : Int} : putF "turn" (.int y) (rf t r) = rf t { r with turn := y } := put_zip nd_R 2 rfl rfl
theorem rp_ins {y : Int} : putF "driven_in" (.int y) (rf t r) = rf t { r with ins := y } := put_zip nd_R 3 rfl rfl
theorem rp_outs {y : Int} : putF "come_out" (.int y) (rf t r) = rf t { r with outs := y } := put_zip nd_R 4 rfl rfl
theorem rp_st {y : Int} : putF "standing" (.int y) (rf t r) = rf t { r with st := y } := put_zip nd_R 5 rfl rfl
theorem rp_had {y : Bool} : putF "had" (.bl y) (rf t r) = rf t { r with had := y } := put_zip nd_R 6 rfl rfl
theorem rp_green {y : Bool} : putF "green" (.bl y) (rf t r) = rf t { r with green := y } := put_zip nd_R 7 rfl rfl
theorem rp_cnt {y : Int} : putF "other_count" (.int y) (rf t r) = rf t { r with cnt := y } := put_zip nd_R 8 rfl rfl
theorem rp_ticks {y : Int} : putF "ticks" (.int y) (rf t r) = rf t { r with ticks := y } := put_zip nd_R 9 rfl rfl
theorem rf_len : (rf t r).length < 1000 := len_zip (by decide)
theorem rf_no {m : Str} (h : m ∉ kR) : (rf t r).lookup m = none := no_zip h
end
/-- the told things, list by list, behind the list at t -/
noncomputable def TL (H : Hp) (t : Addr) : List Addr → List (List Int) → Prop := Paired fun a x => a ≠ t ∧ H a = some (.lst (vInts x))
theorem TL.keep {H H' : Hp} {t : Addr} (F : ∀ b xs, H b = some (.lst xs) → b ≠ t → H' b = some (.lst xs)) : ∀ {as : List Addr} {xs : List (List Int)}, TL H t as xs → TL H' t as xs
  | _, _, .nil => .nil
  | _, _, .cons r h => .cons ⟨r.1, F _ _ r.2 r.1⟩ (TL.keep F h)
theorem TL.length {H : Hp} {t : Addr} {as : List Addr} {xs : List (List Int)} (h : TL H t as xs) : as.length = xs.length := Paired.length h
/-- a Right stands at q, its list of told things at t -/
structure RightAt (C : Addr) (H : Hp) (q t : Addr) (r : Rt) (told : List (List Int)) : Prop where
  ex : ∃ (dx : Addr) (as : List Addr), H q = some (.ins C dx (rf t r)) ∧ H t = some (.lst (as.map V.ref)) ∧ TL H t as told
/-- all but what stands at q and t is as it was -/
noncomputable def Fr2 (q t : Addr) (H H' : Hp) : Prop := ∀ b o, H b = some o → b ≠ q → b ≠ t → H' b = some o
theorem Fr2.refl {q t : Addr} {H : Hp} : Fr2 q t H H := fun _ _ h _ _ => h
theorem Fr2.trans {q t : Addr} {H H1 H2 : Hp} (a : Fr2 q t H H1) (b : Fr2 q t H1 H2) : Fr2 q t H H2 := fun c o h h1 h2 => b c o (a c o h h1 h2) h1 h2
theorem Fr2.q {q t : Addr} {H H1 : Hp} {o : HO} (a : Fr2 q t H H1) : Fr2 q t H (upd H1 q o) := fun c u h h1 h2 => by rw [upd_ne h1]; exact a c u h h1 h2
theorem Fr2.t {q t : Addr} {H H1 : Hp} {o : HO} (a : Fr2 q t H H1) : Fr2 q t H (upd H1 t o) := fun c u h h1 h2 => by rw [upd_ne h2]; exact a c u h h1 h2
theorem Fr2.new {q t l : Addr} {H H1 : Hp} {o : HO} (a : Fr2 q t H H1) (hl : H l = none) : Fr2 q t H (upd H1 l o) := fun c u h h1 h2 => by rw [upd_ne (ne_of_none h hl)]; exact a c u h h1 h2
theorem Fr2.same {q t : Addr} {H H1 H2 : Hp} (a : Fr2 q t H H1) (s : L2.Same H1 H2) : Fr2 q t H H2 := fun c u h h1 h2 => s c u (a c u h h1 h2)
section
variable {C q t : Addr} {H H' : Hp} {r r' : Rt} {told : List (List Int)} {dx l : Addr} {as : List Addr}
theorem RightAt.mk0 (hq : H q = some (.ins C dx (rf t r))) (tl : TL H t as told) (F : Fr2 q t H H') (hq' : H' q = some (.ins C dx (rf t r'))) (ht' : H' t = some (.lst (as.map V.ref))) : RightAt C H' q t r' told :=
  ⟨dx, as, hq', ht', tl.keep fun b xs h n => F b _ h (ne_of h hq (by intro z; cases z)) n⟩
theorem RightAt.mk1 {x : List Int} (hq : H q = some (.ins C dx (rf t r))) (tl : TL H t as told) (F : Fr2 q t H H') (hq' : H' q = some (.ins C dx (rf t r'))) (ht' : H' t = some (.lst (as.map V.ref ++ [V.ref l])))
    (hl : H' l = some (.lst (vInts x))) (hlt : l ≠ t) : RightAt C H' q t r' (told ++ [x]) :=
  ⟨dx, as ++ [l], hq', by rw [ht', List.map_append]; rfl, paired_snoc (tl.keep fun b xs h n => F b _ h (ne_of h hq (by intro z; cases z)) n) ⟨hlt, hl⟩⟩
theorem RightAt.qt (R : RightAt C H q t r told) : q ≠ t := by
  obtain ⟨_, _, h1, h2, _⟩ := R.ex
  exact ne_of h1 h2 (by intro z; cases z)
theorem RightAt.keep (R : RightAt C H q t r told) (s : L2.Same H H') : RightAt C H' q t r told := by
  obtain ⟨dx, as, h1, h2, h3⟩ := R.ex
  exact ⟨dx, as, s _ _ h1, s _ _ h2, h3.keep fun b xs h _ => s _ _ h⟩
end
end Ol
namespace Ol
open PySem L2
local macro_rules | `(tactic| walk_at "ne") => `(tactic| first | assumption | exact Ne.symm (by assumption))
local macro_rules | `(tactic| walk_at "hp") => `(tactic| first | exact upd_same | with_reducible assumption | (refine Eq.trans (upd_ne (by walk_at "ne")) ?_; walk_at "hp"))
/-! ### the right's methods as functions -/
noncomputable abbrev Res := Rt × List (List Int) × Int
noncomputable def mGreen (r : Rt) : Res := if r.st = 1 then (if r.green = true then (r, [], -16) else ({ r with green := true }, [[1, 1]], 0)) else (r, [], -11)
noncomputable def mRed (r : Rt) : Res := if r.green = true then ({ r with green := false }, [[1, 0]], 0) else (r, [], -11)
noncomputable def mIn (r : Rt) : Res := if r.green = true then ({ r with ins := r.ins + 1 }, [], 0) else ({ r with ins := r.ins + 1 }, [[2, 2]], -13)
noncomputable def mOut (r : Rt) : Res := if r.st = 2 ∧ r.cnt ≤ r.outs + 1 then ({ r with outs := r.outs + 1, st := 1 }, [[2, 1]], 0) else ({ r with outs := r.outs + 1 }, [], 0)
/-- a method that turns the right, and tells -/
inductive iR (C : Addr) (f : Rt → Res) (vs : List V) (H : Hp) (Q : VK) : Prop
  | mk (q t : Addr) (r : Rt) (told : List (List Int)) : (vs = [.ref q]) → (RightAt C H q t r told) → (told.length ≤ 1000) → (∀ H' : Hp, RightAt C H' q t (f r).1 (told ++ (f r).2.1) → Fr2 q t H H' → Q (.int (f r).2.2) H') → iR C f vs H Q
noncomputable def spR (C : Addr) (f : Rt → Res) : Sp := fun vs H Q _ => iR C f vs H Q
section
variable {P : Program} {w : World} {K : PySem.W.Frag} {mg : Str → Option Value} {base : Heap} {A : Adr}
theorem len_ref {as : List Addr} {H : Hp} {t : Addr} {told : List (List Int)} (h : TL H t as told) (hl : told.length ≤ 1000) : (as.map V.ref).length < sizeLine := by
  rw [List.length_map, h.length]
  exact small1000 hl

theorem ok_green (T : Tx K mg A) : FnOk P w K mg base CX0 1 A.f_Right_rl_green A.d_Right_rl_green ["self"] (spR A.c_Right mGreen) := by
  refine T.fn_Right_rl_green.ok sc_Right_rl_green (fun vs H Q E h => ?_) (fun cdv A' outer s H vs Q E hr h => ?_)
  · obtain ⟨q, t, r, told, rfl, _⟩ := h
    rfl
  · obtain ⟨q, t, r, told, rfl, R, hl, k⟩ := h
    have nqt := R.qt
    obtain ⟨dx, as, hq, ht, tl⟩ := R.ex
    refine ⟨_, (pss_cons (ps_if (pt_cmpR op_ne (pe_fld (pv 0) rfl) (pe_gint rfl T.gi_HAS) (nomark _))
      (pss_one (ps_ret (pe_gint rfl T.gi_HAS_NOT)))
      pss_nil)
      (pss_cons (ps_if (pt_val (pe_fld (pv 0) rfl))
      (pss_one (ps_ret (pe_gint rfl T.gi_IS_GREEN)))
      pss_nil)
      (pss_cons (ps_fld (pv 0) pe_bl rfl)
      (pss_cons (ps_expr (pe_bm PySem.F.plainAttrs_list PySem.F.slot_list_append PySem.F.type_list_append mt_append (pe_fld (pv 0) rfl) (pa_cons (pe_lst (pa_cons (pe_gint rfl T.gi_LIGHT) (pa_cons pe_int pa_nil))) pa_nil)))
      (pss_one (ps_ret pe_int)))))), ?_⟩
    refine (rdF q rfl hq T.cl_Right T.na_Right_standing rf_st ⟨rfl, (rdE rfl ?_)⟩)
    unfold mGreen at k
    refine ite2 (fun h => ?_) (fun h => ?_)
    · have h1 : ¬ r.st = 1 := by simpa using h
      simp only [if_neg h1] at k
      exact k H (by simpa using R) Fr2.refl
    · have h1 : r.st = 1 := by simpa using h
      simp only [if_pos h1] at k
      refine (rdF q rfl hq T.cl_Right T.na_Right_green rf_green (rdE rfl ?_))
      refine ite2 (fun h2 => ?_) (fun h2 => ?_)
      · simp only [if_pos h2] at k
        exact k H (by simpa using R) Fr2.refl
      · simp only [if_neg h2] at k
        refine (rdS _ q rfl hq T.cl_Right T.na_Right_green rf_len ?_)
        rw [rp_green]
        refine (rdF q rfl upd_same T.cl_Right T.na_Right_told rf_told ⟨.inl ⟨rfl, _, SqL.of (by walk_at "hp")⟩, by show 2 ≤ sizeLine; decide, fun l hl' => ?_⟩)
        have nql : q ≠ l := ne_of_none upd_same hl'
        have ntl : t ≠ l := ne_of_none (show upd H q _ t = _ by walk_at "hp") hl'
        have hl0 : H l = none := by rw [upd_ne nql.symm] at hl'; exact hl'
        refine ⟨t, (rdO rfl rfl ⟨(by walk_at "hp"), len_ref tl hl, ?_⟩)⟩
        exact k _ (RightAt.mk1 (x := [1, 1]) (l := l) hq tl ((Fr2.refl.q.new hl0).t) (by walk_at "hp") upd_same (by walk_at "hp") ntl.symm) ((Fr2.refl.q.new hl0).t)

theorem ok_red (T : Tx K mg A) : FnOk P w K mg base CX0 1 A.f_Right_rl_red A.d_Right_rl_red ["self"] (spR A.c_Right mRed) := by
  refine T.fn_Right_rl_red.ok sc_Right_rl_red (fun vs H Q E h => ?_) (fun cdv A' outer s H vs Q E hr h => ?_)
  · obtain ⟨q, t, r, told, rfl, _⟩ := h
    rfl
  · obtain ⟨q, t, r, told, rfl, R, hl, k⟩ := h
    have nqt := R.qt
    obtain ⟨dx, as, hq, ht, tl⟩ := R.ex
    refine ⟨_, (pss_cons (ps_if (pt_not (pt_val (pe_fld (pv 0) rfl)))
      (pss_one (ps_ret (pe_gint rfl T.gi_HAS_NOT)))
      pss_nil)
      (pss_cons (ps_fld (pv 0) pe_bl rfl)
      (pss_cons (ps_expr (pe_bm PySem.F.plainAttrs_list PySem.F.slot_list_append PySem.F.type_list_append mt_append (pe_fld (pv 0) rfl) (pa_cons (pe_lst (pa_cons (pe_gint rfl T.gi_LIGHT) (pa_cons pe_int pa_nil))) pa_nil)))
      (pss_one (ps_ret pe_int))))), ?_⟩
    unfold mRed at k
    refine (rdF q rfl hq T.cl_Right T.na_Right_green rf_green (rdE rfl ?_))
    refine ite2 (fun h => ?_) (fun h => ?_)
    · have h1 : ¬ r.green = true := by simpa using h
      simp only [if_neg h1] at k
      exact k H (by simpa using R) Fr2.refl
    · have h1 : r.green = true := by simpa using h
      simp only [if_pos h1] at k
      refine (rdS _ q rfl hq T.cl_Right T.na_Right_green rf_len ?_)
      rw [rp_green]
      refine (rdF q rfl upd_same T.cl_Right T.na_Right_told rf_told ⟨.inl ⟨rfl, _, SqL.of (by walk_at "hp")⟩, by show 2 ≤ sizeLine; decide, fun l hl' => ?_⟩)
      have nql : q ≠ l := ne_of_none upd_same hl'
      have ntl : t ≠ l := ne_of_none (show upd H q _ t = _ by walk_at "hp") hl'
      have hl0 : H l = none := by rw [upd_ne nql.symm] at hl'; exact hl'
      refine ⟨t, (rdO rfl rfl ⟨(by walk_at "hp"), len_ref tl hl, ?_⟩)⟩
      exact k _ (RightAt.mk1 (x := [1, 0]) (l := l) hq tl ((Fr2.refl.q.new hl0).t) (by walk_at "hp") upd_same (by walk_at "hp") ntl.symm) ((Fr2.refl.q.new hl0).t)

theorem ok_in (T : Tx K mg A) : FnOk P w K mg base CX0 1 A.f_Right_rl_in A.d_Right_rl_in ["self"] (spR A.c_Right mIn) := by
  refine T.fn_Right_rl_in.ok sc_Right_rl_in (fun vs H Q E h => ?_) (fun cdv A' outer s H vs Q E hr h => ?_)
  · obtain ⟨q, t, r, told, rfl, _⟩ := h
    rfl
  · obtain ⟨q, t, r, told, rfl, R, hl, k⟩ := h
    have nqt := R.qt
    obtain ⟨dx, as, hq, ht, tl⟩ := R.ex
    refine ⟨_, (pss_cons (ps_fldaug (pv 0) pe_int in_add)
      (pss_cons (ps_if (pt_val (pe_fld (pv 0) rfl))
      (pss_one (ps_ret pe_int))
      pss_nil)
      (pss_cons (ps_expr (pe_bm PySem.F.plainAttrs_list PySem.F.slot_list_append PySem.F.type_list_append mt_append (pe_fld (pv 0) rfl) (pa_cons (pe_lst (pa_cons (pe_gint rfl T.gi_TELLS) (pa_cons (pe_gint rfl T.gi_DROVE_IN_AT_RED) pa_nil))) pa_nil)))
      (pss_one (ps_ret (pe_gint rfl T.gi_NOT_ALLOWED)))))), ?_⟩
    unfold mIn at k
    refine (rdA q rfl hq T.cl_Right T.na_Right_driven_in rf_ins (rdO rfl rfl ⟨_, _, hq, rf_len, ?_⟩))
    rw [rp_ins]
    refine (rdF q rfl upd_same T.cl_Right T.na_Right_green rf_green (rdE rfl ?_))
    refine ite2 (fun h => ?_) (fun h => ?_)
    · have h1 : r.green = true := h
      simp only [if_pos h1] at k
      exact k _ (by rw [List.append_nil]; exact RightAt.mk0 hq tl Fr2.refl.q upd_same (by walk_at "hp")) Fr2.refl.q
    · have h1 : ¬ r.green = true := h
      simp only [if_neg h1] at k
      refine (rdF q rfl upd_same T.cl_Right T.na_Right_told rf_told ⟨.inl ⟨rfl, _, SqL.of (by walk_at "hp")⟩, by show 2 ≤ sizeLine; decide, fun l hl' => ?_⟩)
      have nql : q ≠ l := ne_of_none upd_same hl'
      have ntl : t ≠ l := ne_of_none (show upd H q _ t = _ by walk_at "hp") hl'
      have hl0 : H l = none := by rw [upd_ne nql.symm] at hl'; exact hl'
      refine ⟨t, (rdO rfl rfl ⟨(by walk_at "hp"), len_ref tl hl, ?_⟩)⟩
      exact k _ (RightAt.mk1 (x := [2, 2]) (l := l) hq tl ((Fr2.refl.q.new hl0).t) (by walk_at "hp") upd_same (by walk_at "hp") ntl.symm) ((Fr2.refl.q.new hl0).t)

/-- it has the right, if all came out -/
noncomputable def mHave (r : Rt) : Rt × List (List Int) := if r.cnt ≤ r.outs then ({ r with st := 1 }, [[2, 1]]) else (r, [])
/-- a method that hands nothing back -/
noncomputable def spRV (C : Addr) (f : Rt → Rt × List (List Int)) : Sp := fun vs H Q _ => ∃ (q t : Addr) (r : Rt) (told : List (List Int)), vs = [.ref q] ∧ RightAt C H q t r told ∧ told.length ≤ 1000 ∧
  ∀ H' : Hp, RightAt C H' q t (f r).1 (told ++ (f r).2) → Fr2 q t H H' → Q .non H'
theorem ok_have (T : Tx K mg A) : FnOk P w K mg base CX0 1 A.f_Right_have_if_all_out A.d_Right_have_if_all_out ["self"] (spRV A.c_Right mHave) := by
  refine T.fn_Right_have_if_all_out.ok sc_Right_have_if_all_out (fun vs H Q E h => ?_) (fun cdv A' outer s H vs Q E hr h => ?_)
  · obtain ⟨q, t, r, told, rfl, _⟩ := h
    rfl
  · obtain ⟨q, t, r, told, rfl, R, hl, k⟩ := h
    have nqt := R.qt
    obtain ⟨dx, as, hq, ht, tl⟩ := R.ex
    refine ⟨_, (pss_one (ps_if (pt_cmpR op_ge (pe_fld (pv 0) rfl) (pe_fld (pv 0) rfl) (nomark _))
      (pss_cons (ps_fld (pv 0) (pe_gint rfl T.gi_HAS) rfl)
      (pss_one (ps_expr (pe_bm PySem.F.plainAttrs_list PySem.F.slot_list_append PySem.F.type_list_append mt_append (pe_fld (pv 0) rfl) (pa_cons (pe_lst (pa_cons (pe_gint rfl T.gi_TELLS) (pa_cons (pe_gint rfl T.gi_CAME_TO_HAVE) pa_nil))) pa_nil)))))
      pss_nil)), ?_⟩
    unfold mHave at k
    refine (rdF q rfl hq T.cl_Right T.na_Right_come_out rf_outs (rdF q rfl hq T.cl_Right T.na_Right_other_count rf_cnt (rdO rfl rfl (rdE rfl ?_))))
    refine ite2 (fun h => ?_) (fun h => ?_)
    · have h2 : r.cnt ≤ r.outs := by simpa using h
      simp only [if_pos h2] at k
      refine (rdS _ q rfl hq T.cl_Right T.na_Right_standing rf_len ?_)
      rw [rp_st]
      refine (rdF q rfl upd_same T.cl_Right T.na_Right_told rf_told ⟨.inl ⟨rfl, _, SqL.of (by walk_at "hp")⟩, by show 2 ≤ sizeLine; decide, fun l hl' => ?_⟩)
      have nql : q ≠ l := ne_of_none upd_same hl'
      have ntl : t ≠ l := ne_of_none (show upd H q _ t = _ by walk_at "hp") hl'
      have hl0 : H l = none := by rw [upd_ne nql.symm] at hl'; exact hl'
      refine ⟨t, (rdO rfl rfl ⟨(by walk_at "hp"), len_ref tl hl, ?_⟩)⟩
      exact k _ (RightAt.mk1 (x := [2, 1]) (l := l) hq tl ((Fr2.refl.q.new hl0).t) (by walk_at "hp") upd_same (by walk_at "hp") ntl.symm) ((Fr2.refl.q.new hl0).t)
    · have h2 : ¬ r.cnt ≤ r.outs := by simpa using h
      simp only [if_neg h2] at k
      exact k H (by simpa using R) Fr2.refl
theorem mOut_waits {r : Rt} (h : r.st = 2) : mOut r = ((mHave { r with outs := r.outs + 1 }).1, (mHave { r with outs := r.outs + 1 }).2, 0) := by
  unfold mOut mHave
  dsimp only
  by_cases c : r.cnt ≤ r.outs + 1
  · rw [if_pos (show r.st = 2 ∧ r.cnt ≤ r.outs + 1 from ⟨h, c⟩), if_pos c]
  · rw [if_neg (show ¬ (r.st = 2 ∧ r.cnt ≤ r.outs + 1) from fun z => c z.2), if_neg c]
theorem ok_out (T : Tx K mg A) : FnOk P w K mg base CX0 2 A.f_Right_rl_out A.d_Right_rl_out ["self"] (spR A.c_Right mOut) := by
  have G_Right_have_if_all_out : FnOk P w K mg base CX0 1 A.f_Right_have_if_all_out A.d_Right_have_if_all_out ["self"] (spRV A.c_Right mHave) := ok_have T
  refine T.fn_Right_rl_out.ok sc_Right_rl_out (fun vs H Q E h => ?_) (fun cdv A' outer s H vs Q E hr h => ?_)
  · obtain ⟨q, t, r, told, rfl, _⟩ := h
    rfl
  · obtain ⟨q, t, r, told, rfl, R, hl, k⟩ := h
    have nqt := R.qt
    obtain ⟨dx, as, hq, ht, tl⟩ := R.ex
    refine ⟨_, (pss_cons (ps_fldaug (pv 0) pe_int in_add)
      (pss_cons (ps_if (pt_cmpR op_eq (pe_fld (pv 0) rfl) (pe_gint rfl T.gi_WAITS) (nomark _))
      (pss_one (ps_expr (pe_meth0 (pv 0) T.cl_Right T.mt_Right_have_if_all_out G_Right_have_if_all_out (hr.mono (by decide)) T.bd_Right_have_if_all_out .nil pass0)))
      pss_nil)
      (pss_one (ps_ret pe_int)))), ?_⟩
    refine (rdA q rfl hq T.cl_Right T.na_Right_come_out rf_outs (rdO rfl rfl ⟨_, _, hq, rf_len, ?_⟩))
    rw [rp_outs]
    have R1 : RightAt A.c_Right (upd H q (.ins A.c_Right dx (rf t { r with outs := r.outs + 1 }))) q t { r with outs := r.outs + 1 } told := RightAt.mk0 hq tl Fr2.refl.q upd_same (by walk_at "hp")
    refine (rdF q rfl upd_same T.cl_Right T.na_Right_standing rf_st ⟨rfl, (rdE rfl ?_)⟩)
    refine ite2 (fun h => ?_) (fun h => ?_)
    · have h1 : r.st = 2 := by simpa using h
      rw [mOut_waits h1] at k
      refine (rdM q rfl upd_same (rf_no (by decide +kernel)) ⟨q, t, _, told, rfl, R1, hl, fun H2 R2 F2 => ?_⟩)
      exact k _ R2 (Fr2.refl.q.trans F2)
    · have h1 : ¬ r.st = 2 := by simpa using h
      have e : mOut r = ({ r with outs := r.outs + 1 }, [], 0) := by
        unfold mOut
        rw [if_neg (show ¬ (r.st = 2 ∧ r.cnt ≤ r.outs + 1) from fun z => h1 z.1)]
      rw [e] at k
      exact k _ (by rw [List.append_nil]; exact R1) Fr2.refl.q

/-- the bytes of a message as numbers -/
noncomputable def msgI (kd of tn ct : Int) : List Int := (Km264.Msg.bytes ⟨kd.toNat, of.toNat, tn.toNat, ct.toNat⟩).map fun n : Nat => (n : Int)
noncomputable def mGive (r : Rt) : Res := if r.st = 1 then (if r.green = true then (r, [], -16) else ({ r with turn := r.turn + 1, st := 0, had := false }, [0 :: msgI 1 r.me (r.turn + 1) r.ins], 0)) else (r, [], -11)
/-- numbers that a message can hold -/
structure Rt.Ok (r : Rt) : Prop where
  me : 0 ≤ r.me
  turn : 0 ≤ r.turn
  ins : 0 ≤ r.ins
inductive iRG (C : Addr) (f : Rt → Res) (vs : List V) (H : Hp) (Q : VK) : Prop
  | mk (q t : Addr) (r : Rt) (told : List (List Int)) : (vs = [.ref q]) → (RightAt C H q t r told) → (told.length ≤ 1000) → (r.Ok) → (∀ H' : Hp, RightAt C H' q t (f r).1 (told ++ (f r).2.1) → Fr2 q t H H' → Q (.int (f r).2.2) H') → iRG C f vs H Q
noncomputable def spRG (C : Addr) (f : Rt → Res) : Sp := fun vs H Q _ => iRG C f vs H Q
theorem len_msg (m : Km264.Msg) : m.bytes.length = 16 := by
  simp [Km264.Msg.bytes, Km264.Msg.half, MX.le4]
/-- a message is sent -/
inductive iSend (C : Addr) (vs : List V) (H : Hp) (Q : VK) : Prop
  | mk (q t : Addr) (r : Rt) (told : List (List Int)) (kd tn ct : Int) : (vs = [.ref q, .int kd, .int tn, .int ct]) → (RightAt C H q t r told) → (told.length ≤ 1000) → (0 ≤ r.me) → (0 ≤ kd) → (0 ≤ tn) → (0 ≤ ct) → (∀ H' : Hp, RightAt C H' q t r (told ++ [0 :: msgI kd r.me tn ct]) → Fr2 q t H H' → Q .non H') → iSend C vs H Q
noncomputable def spSend (C : Addr) : Sp := fun vs H Q _ => iSend C vs H Q
theorem ok_send (T : Tx K mg A) : FnOk P w K mg base CX0 3 A.f_Right_send_message A.d_Right_send_message ["self", "kind", "turn", "count"] (spSend A.c_Right) := by
  have G_made_message : FnOk P w K mg base CX0 2 A.f_made_message A.d_made_message ["kind", "sender", "turn", "count"] spMsg := ok_msg T
  refine T.fn_Right_send_message.ok sc_Right_send_message (fun vs H Q E h => ?_) (fun cdv A' outer s H vs Q E hr h => ?_)
  · obtain ⟨q, t, r, told, kd, tn, ct, rfl, _⟩ := h
    rfl
  · obtain ⟨q, t, r, told, kd, tn, ct, rfl, R, hl, o1, o2, o3, o4, k⟩ := h
    have nqt := R.qt
    obtain ⟨dx, as, hq, ht, tl⟩ := R.ex
    refine ⟨_, (pss_one (ps_expr (pe_bm PySem.F.plainAttrs_list PySem.F.slot_list_append PySem.F.type_list_append mt_append (pe_fld (pv 0) rfl) (pa_cons (pe_op op_cat (pe_lst (pa_cons (pe_gint rfl T.gi_SEND) pa_nil)) (pe_call G_made_message (hr.mono (by decide)) rfl T.mg_made_message T.fn_made_message.kp T.bd_made_message .nil pass0 (pa_cons (pv 1) (pa_cons (pe_fld (pv 0) rfl) (pa_cons (pv 2) (pa_cons (pv 3) pa_nil)))))) pa_nil)))), ?_⟩
    refine (rdF q rfl hq T.cl_Right T.na_Right_told rf_told ⟨.inl ⟨rfl, _, SqL.of ht⟩, ?_⟩)
    refine ⟨by show 1 ≤ sizeLine; decide, fun l1 e1 => ?_⟩
    have nq1 : q ≠ l1 := ne_of_none hq e1
    have nt1 : t ≠ l1 := ne_of_none ht e1
    refine (rdE rfl (rdF q rfl (by walk_at "hp") T.cl_Right T.na_Right_me rf_me (rdE rfl (rdE rfl ?_))))
    refine ⟨kd.toNat, r.me.toNat, tn.toNat, ct.toNat, ?_, fun l2 H2 n2 c2 s2 => ?_⟩
    · rw [Int.toNat_of_nonneg o1, Int.toNat_of_nonneg o2, Int.toNat_of_nonneg o3, Int.toNat_of_nonneg o4]
      rfl
    have F2 : Fr2 q t H H2 := (Fr2.refl.new e1).same s2
    refine ⟨_, _, _, _, rfl, rfl, s2 _ _ upd_same, c2, by rw [List.length_map, len_msg]; show 1 + 16 ≤ sizeLine; decide, fun l3 e3 => ?_⟩
    have q2 := s2 q _ (show upd H l1 _ q = _ by walk_at "hp")
    have t2 := s2 t _ (show upd H l1 _ t = _ by walk_at "hp")
    have nq3 : q ≠ l3 := ne_of_none q2 e3
    have nt3 : t ≠ l3 := ne_of_none t2 e3
    have F3 : Fr2 q t H (upd H2 l3 (.lst ([V.int 0] ++ vNats (Km264.Msg.bytes ⟨kd.toNat, r.me.toNat, tn.toNat, ct.toNat⟩)))) := fun c u h0 h3 h4 => by
      have z := F2 c u h0 h3 h4
      rw [upd_ne (ne_of_none z e3)]
      exact z
    refine ⟨t, (rdO rfl rfl ⟨(by walk_at "hp"), len_ref tl hl, ?_⟩)⟩
    refine k _ (RightAt.mk1 (l := l3) hq tl F3.t (by walk_at "hp") upd_same ?_ nt3.symm) F3.t
    rw [upd_ne nt3.symm, upd_same]
    simp [vInts, vNats, msgI]
theorem ok_give (T : Tx K mg A) : FnOk P w K mg base CX0 4 A.f_Right_rl_give A.d_Right_rl_give ["self"] (spRG A.c_Right mGive) := by
  have G_Right_send_message : FnOk P w K mg base CX0 3 A.f_Right_send_message A.d_Right_send_message ["self", "kind", "turn", "count"] (spSend A.c_Right) := ok_send T
  refine T.fn_Right_rl_give.ok sc_Right_rl_give (fun vs H Q E h => ?_) (fun cdv A' outer s H vs Q E hr h => ?_)
  · obtain ⟨q, t, r, told, rfl, _⟩ := h
    rfl
  · obtain ⟨q, t, r, told, rfl, R, hl, ok, k⟩ := h
    have nqt := R.qt
    obtain ⟨dx, as, hq, ht, tl⟩ := R.ex
    refine ⟨_, (pss_cons (ps_if (pt_cmpR op_ne (pe_fld (pv 0) rfl) (pe_gint rfl T.gi_HAS) (nomark _))
      (pss_one (ps_ret (pe_gint rfl T.gi_HAS_NOT)))
      pss_nil)
      (pss_cons (ps_if (pt_val (pe_fld (pv 0) rfl))
      (pss_one (ps_ret (pe_gint rfl T.gi_IS_GREEN)))
      pss_nil)
      (pss_cons (ps_fldaug (pv 0) pe_int in_add)
      (pss_cons (ps_fld (pv 0) (pe_gint rfl T.gi_GAVE) rfl)
      (pss_cons (ps_fld (pv 0) pe_bl rfl)
      (pss_cons (ps_expr (pe_meth (pv 0) T.cl_Right T.mt_Right_send_message G_Right_send_message (hr.mono (by decide)) T.bd_Right_send_message .nil pass0 (pa_cons (pe_gint rfl T.gi_GIVEN) (pa_cons (pe_fld (pv 0) rfl) (pa_cons (pe_fld (pv 0) rfl) pa_nil)))))
      (pss_one (ps_ret pe_int)))))))), ?_⟩
    refine (rdF q rfl hq T.cl_Right T.na_Right_standing rf_st ⟨rfl, (rdE rfl ?_)⟩)
    unfold mGive at k
    refine ite2 (fun h => ?_) (fun h => ?_)
    · have h1 : ¬ r.st = 1 := by simpa using h
      simp only [if_neg h1] at k
      exact k H (by simpa using R) Fr2.refl
    · have h1 : r.st = 1 := by simpa using h
      simp only [if_pos h1] at k
      refine (rdF q rfl hq T.cl_Right T.na_Right_green rf_green (rdE rfl ?_))
      refine ite2 (fun h2 => ?_) (fun h2 => ?_)
      · simp only [if_pos h2] at k
        exact k H (by simpa using R) Fr2.refl
      · simp only [if_neg h2] at k
        refine (rdA q rfl hq T.cl_Right T.na_Right_turn rf_turn (rdO rfl rfl ⟨_, _, hq, rf_len, ?_⟩))
        rw [rp_turn]
        refine (rdS _ q rfl upd_same T.cl_Right T.na_Right_standing rf_len ?_)
        rw [rp_st, upd_upd]
        refine (rdS _ q rfl upd_same T.cl_Right T.na_Right_had rf_len ?_)
        rw [rp_had, upd_upd]
        have R1 : RightAt A.c_Right (upd H q (.ins A.c_Right dx (rf t { r with turn := r.turn + 1, st := 0, had := false }))) q t { r with turn := r.turn + 1, st := 0, had := false } told := RightAt.mk0 hq tl Fr2.refl.q upd_same (by walk_at "hp")
        refine (rdM q rfl upd_same (rf_no (by decide +kernel)) (rdF q rfl upd_same T.cl_Right T.na_Right_turn rf_turn (rdF q rfl upd_same T.cl_Right T.na_Right_driven_in rf_ins ?_)))
        refine ⟨q, t, _, told, 1, r.turn + 1, r.ins, rfl, R1, hl, ok.me, by decide, by have := ok.turn; omega, ok.ins, fun H2 R2 F2 => ?_⟩
        exact k _ R2 (Fr2.refl.q.trans F2)

inductive iTake (C : Addr) (vs : List V) (H : Hp) (Q : VK) : Prop
  | mk (q t : Addr) (r : Rt) (told : List (List Int)) : (vs = [.ref q]) → (RightAt C H q t r told) → (∀ (t' : Addr) (H' : Hp), H t' = none → RightAt C H' q t' r [] → (∀ b o, H b = some o → b ≠ q → H' b = some o) → Q (.ref t) H') → iTake C vs H Q
noncomputable def spTake (C : Addr) : Sp := fun vs H Q _ => iTake C vs H Q
theorem ok_take (T : Tx K mg A) : FnOk P w K mg base CX0 1 A.f_Right_take_told A.d_Right_take_told ["self"] (spTake A.c_Right) := by
  refine T.fn_Right_take_told.ok sc_Right_take_told (fun vs H Q E h => ?_) (fun cdv A' outer s H vs Q E hr h => ?_)
  · obtain ⟨q, t, r, told, rfl, _⟩ := h
    rfl
  · obtain ⟨q, t, r, told, rfl, R, k⟩ := h
    obtain ⟨dx, as, hq, ht, tl⟩ := R.ex
    refine ⟨_, (pss_cons (ps_set (i := 1) sc_Right_take_told.nd rfl (Or.inl rfl) (pe_fld (pv 0) rfl))
      (pss_cons (ps_fld (pv 0) (pe_lst pa_nil) rfl)
      (pss_one (ps_ret (pv 1))))), ?_⟩
    refine (rdF q rfl hq T.cl_Right T.na_Right_told rf_told ⟨Nat.zero_le _, fun l hl => ?_⟩)
    have nql : q ≠ l := ne_of_none hq hl
    refine (rdS _ q rfl (by walk_at "hp") T.cl_Right T.na_Right_told rf_len ?_)
    rw [rp_told]
    refine (rdE rfl ?_)
    exact k l _ hl ⟨dx, [], upd_same, by rw [upd_ne nql.symm, upd_same]; rfl, .nil⟩ fun b o e n => by rw [upd_ne n, upd_ne (ne_of_none e hl)]; exact e

noncomputable def rt0 (me : Int) : Rt := { me := me, turn := 0, ins := 0, outs := 0, st := if me = 0 then 1 else 0, had := true, green := false, cnt := 0, ticks := 0 }
/-- begin_right: at an object with its list alone, or with all of its attributes -/
inductive iBegin (C : Addr) (vs : List V) (H : Hp) (Q : VK) : Prop
  | mk (q t dx : Addr) (fs : List (Str × V)) (me : Int) : (vs = [.ref q, .int me]) → (H q = some (.ins C dx fs)) → ((fs = [(("told" : Str), V.ref t)] ∨ ∃ r, fs = rf t r)) → (Q .non (upd H q (.ins C dx (rf t (rt0 me))))) → iBegin C vs H Q
noncomputable def spBegin (C : Addr) : Sp := fun vs H Q _ => iBegin C vs H Q
theorem begin_new (t : Addr) (me st : Int) : putF "ticks" (.int 0) (putF "other_count" (.int 0) (putF "green" (.bl false) (putF "had" (.bl true) (putF "standing" (.int st) (putF "come_out" (.int 0) (putF "driven_in" (.int 0) (putF "turn" (.int 0) (putF "me" (.int me) [(("told" : Str), V.ref t)]))))))))
    = rf t { me := me, turn := 0, ins := 0, outs := 0, st := st, had := true, green := false, cnt := 0, ticks := 0 } := by
  have e0 : ([(("told" : Str), V.ref t)] : List (Str × V)) = (["told"] : List Str).zip [V.ref t] := rfl
  rw [e0, put_new (by decide +kernel) rfl, put_new (by decide +kernel) rfl, put_new (by decide +kernel) rfl, put_new (by decide +kernel) rfl, put_new (by decide +kernel) rfl, put_new (by decide +kernel) rfl, put_new (by decide +kernel) rfl, put_new (by decide +kernel) rfl, put_new (by decide +kernel) rfl]
  rfl
theorem begin_old (t : Addr) (r : Rt) (me st : Int) : putF "ticks" (.int 0) (putF "other_count" (.int 0) (putF "green" (.bl false) (putF "had" (.bl true) (putF "standing" (.int st) (putF "come_out" (.int 0) (putF "driven_in" (.int 0) (putF "turn" (.int 0) (putF "me" (.int me) (rf t r)))))))))
    = rf t { me := me, turn := 0, ins := 0, outs := 0, st := st, had := true, green := false, cnt := 0, ticks := 0 } := by
  rw [rp_me, rp_turn, rp_ins, rp_outs, rp_st, rp_had, rp_green, rp_cnt, rp_ticks]
theorem put_len {f : Str} {v : V} {fs : List (Str × V)} {n : Nat} (h : fs.length ≤ n) : (putF f v fs).length ≤ n + 1 := Nat.le_trans (length_putF f v fs) (Nat.add_le_add_right h 1)
theorem ok_begin (T : Tx K mg A) : FnOk P w K mg base CX0 1 A.f_Right_begin_right A.d_Right_begin_right ["self", "me"] (spBegin A.c_Right) := by
  refine T.fn_Right_begin_right.ok sc_Right_begin_right (fun vs H Q E h => ?_) (fun cdv A' outer s H vs Q E hr h => ?_)
  · obtain ⟨q, t, dx, fs, me, rfl, _⟩ := h
    rfl
  · obtain ⟨q, t, dx, fs, me, rfl, hq, hfs, k⟩ := h
    have hlen : fs.length ≤ 20 := by
      rcases hfs with e | ⟨r, e⟩
      · rw [e]; show 1 ≤ 20; decide
      · rw [e]; unfold rf; rw [List.length_zip]; exact Nat.le_trans (Nat.min_le_left _ _) (by decide)
    refine ⟨_, (pss_cons (ps_fld (pv 0) (pv 1) rfl)
      (pss_cons (ps_fld (pv 0) pe_int rfl)
      (pss_cons (ps_fld (pv 0) pe_int rfl)
      (pss_cons (ps_fld (pv 0) pe_int rfl)
      (pss_cons (ps_fld (pv 0) (pe_ifExp (pt_cmpR op_eq (pv 1) pe_int (nomark _)) (pe_gint rfl T.gi_HAS) (pe_gint rfl T.gi_GAVE)) rfl)
      (pss_cons (ps_fld (pv 0) pe_bl rfl)
      (pss_cons (ps_fld (pv 0) pe_bl rfl)
      (pss_cons (ps_fld (pv 0) pe_int rfl)
      (pss_one (ps_fld (pv 0) pe_int rfl)))))))))), ?_⟩
    have h1 := put_len (f := "me") (v := .int me) hlen
    have h2 := put_len (f := "turn") (v := .int 0) h1
    have h3 := put_len (f := "driven_in") (v := .int 0) h2
    have h4 := put_len (f := "come_out") (v := .int 0) h3
    refine (rdE rfl (rdS _ q rfl hq T.cl_Right T.na_Right_me (by omega) ?_))
    refine (rdS _ q rfl upd_same T.cl_Right T.na_Right_turn (by omega) ?_)
    rw [upd_upd]
    refine (rdS _ q rfl upd_same T.cl_Right T.na_Right_driven_in (by omega) ?_)
    rw [upd_upd]
    refine (rdS _ q rfl upd_same T.cl_Right T.na_Right_come_out (by omega) ?_)
    rw [upd_upd]
    have rest : ∀ st : Int, st = (if me = 0 then 1 else 0) → putF "ticks" (.int 0) (putF "other_count" (.int 0) (putF "green" (.bl false) (putF "had" (.bl true) (putF "standing" (.int st) (putF "come_out" (.int 0) (putF "driven_in" (.int 0) (putF "turn" (.int 0) (putF "me" (.int me) fs)))))))) = rf t (rt0 me) := fun st hst => by
      subst hst
      rcases hfs with e | ⟨r, e⟩
      · rw [e, begin_new]; rfl
      · rw [e, begin_old]; rfl
    refine (rdE rfl ⟨rfl, (rdE rfl ?_)⟩)
    refine ite2 (fun h => ?_) (fun h => ?_)
    · have hm : me = 0 := by simpa using h
      have h5 := put_len (f := "standing") (v := .int 1) h4
      have h6 := put_len (f := "had") (v := .bl true) h5
      have h7 := put_len (f := "green") (v := .bl false) h6
      have h8 := put_len (f := "other_count") (v := .int 0) h7
      refine (rdS _ q rfl upd_same T.cl_Right T.na_Right_standing (by omega) ?_)
      rw [upd_upd]
      refine (rdS _ q rfl upd_same T.cl_Right T.na_Right_had (by omega) ?_)
      rw [upd_upd]
      refine (rdS _ q rfl upd_same T.cl_Right T.na_Right_green (by omega) ?_)
      rw [upd_upd]
      refine (rdS _ q rfl upd_same T.cl_Right T.na_Right_other_count (by omega) ?_)
      rw [upd_upd]
      refine (rdS _ q rfl upd_same T.cl_Right T.na_Right_ticks (by omega) ?_)
      rw [upd_upd, rest 1 (by rw [if_pos hm])]
      exact k
    · have hm : ¬ me = 0 := by simpa using h
      have h5 := put_len (f := "standing") (v := .int 0) h4
      have h6 := put_len (f := "had") (v := .bl true) h5
      have h7 := put_len (f := "green") (v := .bl false) h6
      have h8 := put_len (f := "other_count") (v := .int 0) h7
      refine (rdS _ q rfl upd_same T.cl_Right T.na_Right_standing (by omega) ?_)
      rw [upd_upd]
      refine (rdS _ q rfl upd_same T.cl_Right T.na_Right_had (by omega) ?_)
      rw [upd_upd]
      refine (rdS _ q rfl upd_same T.cl_Right T.na_Right_green (by omega) ?_)
      rw [upd_upd]
      refine (rdS _ q rfl upd_same T.cl_Right T.na_Right_other_count (by omega) ?_)
      rw [upd_upd]
      refine (rdS _ q rfl upd_same T.cl_Right T.na_Right_ticks (by omega) ?_)
      rw [upd_upd, rest 0 (by rw [if_neg hm])]
      exact k

noncomputable def mStart (me : Int) (r : Rt) : Res := if 1 < me then (r, [], -22) else (rt0 me, [[1, 0]], 0)
inductive iStart (C : Addr) (vs : List V) (H : Hp) (Q : VK) : Prop
  | mk (q t : Addr) (r : Rt) (told : List (List Int)) (me : Int) : (vs = [.ref q, .int me]) → (RightAt C H q t r told) → (told.length ≤ 1000) → (∀ H' : Hp, RightAt C H' q t (mStart me r).1 (told ++ (mStart me r).2.1) → Fr2 q t H H' → Q (.int (mStart me r).2.2) H') → iStart C vs H Q
noncomputable def spStart (C : Addr) : Sp := fun vs H Q _ => iStart C vs H Q
theorem ok_rstart (T : Tx K mg A) : FnOk P w K mg base CX0 2 A.f_Right_rl_start A.d_Right_rl_start ["self", "me"] (spStart A.c_Right) := by
  have G_Right_begin_right : FnOk P w K mg base CX0 1 A.f_Right_begin_right A.d_Right_begin_right ["self", "me"] (spBegin A.c_Right) := ok_begin T
  refine T.fn_Right_rl_start.ok sc_Right_rl_start (fun vs H Q E h => ?_) (fun cdv A' outer s H vs Q E hr h => ?_)
  · obtain ⟨q, t, r, told, me, rfl, _⟩ := h
    rfl
  · obtain ⟨q, t, r, told, me, rfl, R, hl, k⟩ := h
    have nqt := R.qt
    obtain ⟨dx, as, hq, ht, tl⟩ := R.ex
    refine ⟨_, (pss_cons (ps_if (pt_cmpR op_gt (pv 1) pe_int (nomark _))
      (pss_one (ps_ret (pe_gint rfl T.gi_WRONG_NUMBER)))
      pss_nil)
      (pss_cons (ps_expr (pe_meth (pv 0) T.cl_Right T.mt_Right_begin_right G_Right_begin_right (hr.mono (by decide)) T.bd_Right_begin_right .nil pass0 (pa_cons (pv 1) pa_nil)))
      (pss_cons (ps_expr (pe_bm PySem.F.plainAttrs_list PySem.F.slot_list_append PySem.F.type_list_append mt_append (pe_fld (pv 0) rfl) (pa_cons (pe_lst (pa_cons (pe_gint rfl T.gi_LIGHT) (pa_cons pe_int pa_nil))) pa_nil)))
      (pss_one (ps_ret pe_int))))), ?_⟩
    unfold mStart at k
    refine (rdE rfl (rdO rfl rfl (rdE rfl ?_)))
    refine ite2 (fun h => ?_) (fun h => ?_)
    · have h1 : 1 < me := by simpa using h
      simp only [if_pos h1] at k
      exact k H (by simpa using R) Fr2.refl
    · have h1 : ¬ 1 < me := by simpa using h
      simp only [if_neg h1] at k
      refine (rdM q rfl hq (rf_no (by decide +kernel)) (rdE rfl ⟨q, t, dx, _, me, rfl, hq, .inr ⟨r, rfl⟩, ?_⟩))
      refine (rdF q rfl upd_same T.cl_Right T.na_Right_told rf_told ⟨.inl ⟨rfl, _, SqL.of (by walk_at "hp")⟩, by show 2 ≤ sizeLine; decide, fun l hl' => ?_⟩)
      have nql : q ≠ l := ne_of_none upd_same hl'
      have ntl : t ≠ l := ne_of_none (show upd H q _ t = _ by walk_at "hp") hl'
      have hl0 : H l = none := by rw [upd_ne nql.symm] at hl'; exact hl'
      refine ⟨t, (rdO rfl rfl ⟨(by walk_at "hp"), len_ref tl hl, ?_⟩)⟩
      exact k _ (RightAt.mk1 (x := [1, 0]) (l := l) hq tl ((Fr2.refl.q.new hl0).t) (by walk_at "hp") upd_same (by walk_at "hp") ntl.symm) ((Fr2.refl.q.new hl0).t)

inductive iRInit (C : Addr) (vs : List V) (H : Hp) (Q : VK) : Prop
  | mk (q dx : Addr) : (vs = [.ref q]) → (H q = some (.ins C dx [])) → (∀ (t : Addr) (H' : Hp), H t = none → RightAt C H' q t (rt0 0) [] → (∀ b o, H b = some o → b ≠ q → H' b = some o) → Q .non H') → iRInit C vs H Q
noncomputable def spRInit (C : Addr) : Sp := fun vs H Q _ => iRInit C vs H Q
theorem ok_rinit (T : Tx K mg A) : FnOk P w K mg base CX0 2 A.f_Right_init A.d_Right_init ["self"] (spRInit A.c_Right) := by
  have G_Right_begin_right : FnOk P w K mg base CX0 1 A.f_Right_begin_right A.d_Right_begin_right ["self", "me"] (spBegin A.c_Right) := ok_begin T
  refine T.fn_Right_init.ok sc_Right_init (fun vs H Q E h => ?_) (fun cdv A' outer s H vs Q E hr h => ?_)
  · obtain ⟨q, dx, rfl, _⟩ := h
    rfl
  · obtain ⟨q, dx, rfl, hq, k⟩ := h
    refine ⟨_, (pss_cons (ps_fld (pv 0) (pe_lst pa_nil) rfl)
      (pss_one (ps_expr (pe_meth (pv 0) T.cl_Right T.mt_Right_begin_right G_Right_begin_right (hr.mono (by decide)) T.bd_Right_begin_right .nil pass0 (pa_cons pe_int pa_nil))))), ?_⟩
    refine ⟨Nat.zero_le _, fun l hl => ?_⟩
    have nql : q ≠ l := ne_of_none hq hl
    refine (rdS _ q rfl (by walk_at "hp") T.cl_Right T.na_Right_told (by show 0 < 1000; decide) ?_)
    refine (rdE rfl ⟨q, _, _, rfl, upd_same, ?_, q, l, dx, _, 0, rfl, upd_same, .inl rfl, ?_⟩)
    · have e0 : putF "told" (V.ref l) [] = (["told"] : List Str).zip [V.ref l] := rfl
      rw [e0]
      exact no_zip (by decide +kernel)
    · rw [upd_upd]
      exact k l _ hl ⟨dx, [], upd_same, by rw [upd_ne nql.symm, upd_same]; rfl, .nil⟩ fun b o e n => by rw [upd_ne n, upd_ne (ne_of_none e hl)]; exact e
end
end Ol
namespace Ol
open PySem L2
local macro_rules | `(tactic| walk_at "ne") => `(tactic| first | assumption | exact Ne.symm (by assumption))
local macro_rules | `(tactic| walk_at "hp") => `(tactic| first | exact upd_same | with_reducible assumption | (refine Eq.trans (upd_ne (by walk_at "ne")) ?_; walk_at "hp"))
/-! ### the right: what is heard, ticks, the state -/
noncomputable def mGiven1 (turn count : Int) (r : Rt) : Rt × List (List Int) := if r.st = 0 ∧ turn = r.turn + 1 then mHave { r with turn := turn, cnt := count, st := 2 } else (r, [])
noncomputable def mGiven (turn count : Int) (r : Rt) : Rt × List (List Int) :=
  ((mGiven1 turn count r).1, (mGiven1 turn count r).2 ++ if ¬ (mGiven1 turn count r).1.st = 0 ∧ turn = (mGiven1 turn count r).1.turn then [0 :: msgI 2 (mGiven1 turn count r).1.me turn 0] else [])
noncomputable def mHad (turn : Int) (r : Rt) : Rt := if r.st = 0 ∧ turn = r.turn then { r with had := true } else r
noncomputable def mHeard (l : List Nat) (r : Rt) : Res :=
  if rightR l (1 - r.me) = true then (if l.getD 0 0 = 1 then ((mGiven (at4 l 4 : Nat) (at4 l 8 : Nat) r).1, (mGiven (at4 l 4 : Nat) (at4 l 8 : Nat) r).2, 0) else (mHad (at4 l 4 : Nat) r, [], 0)) else (r, [], -71)
noncomputable def mTick (r : Rt) : Res := ({ r with ticks := r.ticks + 1 }, if (r.ticks + 1) % 10 = 0 ∧ r.st = 0 ∧ r.had = false then [0 :: msgI 1 r.me r.turn r.ins] else [], 0)
noncomputable def sixM (r : Rt) : List Int := [r.turn, r.ins, r.outs, r.st, if r.green = true then 1 else 0, if r.st = 2 then r.cnt else 0]
section
variable {P : Program} {w : World} {K : PySem.W.Frag} {mg : Str → Option Value} {base : Heap} {A : Adr}
theorem dec_int (m n : Int) : decide (V.int m = V.int n) = decide (m = n) := by
  rw [decide_eq_decide]
  constructor
  · intro z
    injection z
  · intro z
    rw [z]
inductive iOther (C : Addr) (vs : List V) (H : Hp) (Q : VK) : Prop
  | mk (q t : Addr) (r : Rt) (told : List (List Int)) : (vs = [.ref q]) → (RightAt C H q t r told) → (Q (.int (1 - r.me)) H) → iOther C vs H Q
noncomputable def spOther (C : Addr) : Sp := fun vs H Q _ => iOther C vs H Q
theorem ok_other (T : Tx K mg A) : FnOk P w K mg base CX0 1 A.f_Right_other_end A.d_Right_other_end ["self"] (spOther A.c_Right) := by
  refine T.fn_Right_other_end.ok sc_Right_other_end (fun vs H Q E h => ?_) (fun cdv A' outer s H vs Q E hr h => ?_)
  · obtain ⟨q, t, r, told, rfl, _⟩ := h
    rfl
  · obtain ⟨q, t, r, told, rfl, R, k⟩ := h
    obtain ⟨dx, as, hq, ht, tl⟩ := R.ex
    refine ⟨_, (pss_one (ps_ret (pe_op op_sub pe_int (pe_fld (pv 0) rfl)))), ?_⟩
    exact (rdF q rfl hq T.cl_Right T.na_Right_me rf_me (rdO rfl rfl k))
inductive iTenth (C : Addr) (vs : List V) (H : Hp) (Q : VK) : Prop
  | mk (q t : Addr) (r : Rt) (told : List (List Int)) : (vs = [.ref q]) → (RightAt C H q t r told) → (Q (.bl (decide (r.ticks % 10 = 0))) H) → iTenth C vs H Q
noncomputable def spTenth (C : Addr) : Sp := fun vs H Q _ => iTenth C vs H Q
theorem ok_tenth (T : Tx K mg A) : FnOk P w K mg base CX0 1 A.f_Right_is_tenth_tick A.d_Right_is_tenth_tick ["self"] (spTenth A.c_Right) := by
  refine T.fn_Right_is_tenth_tick.ok sc_Right_is_tenth_tick (fun vs H Q E h => ?_) (fun cdv A' outer s H vs Q E hr h => ?_)
  · obtain ⟨q, t, r, told, rfl, _⟩ := h
    rfl
  · obtain ⟨q, t, r, told, rfl, R, k⟩ := h
    obtain ⟨dx, as, hq, ht, tl⟩ := R.ex
    refine ⟨_, (pss_one (ps_ret (pe_cmpR op_eq (pe_op op_mod (pe_fld (pv 0) rfl) (pe_gint rfl T.gi_AGAIN_EVERY)) pe_int (nomark _)))), ?_⟩
    refine (rdF q rfl hq T.cl_Right T.na_Right_ticks rf_ticks (rdO rfl rfl ⟨(by show (0 : Int) < 10; decide), rfl, ?_⟩))
    show Q (.bl (decide (V.int (r.ticks % 10) = V.int 0))) H
    rw [dec_int]
    exact k
inductive iHad (C : Addr) (vs : List V) (H : Hp) (Q : VK) : Prop
  | mk (q t : Addr) (r : Rt) (told : List (List Int)) (tn : Int) : (vs = [.ref q, .int tn]) → (RightAt C H q t r told) → (∀ H' : Hp, RightAt C H' q t (mHad tn r) told → Fr2 q t H H' → Q .non H') → iHad C vs H Q
noncomputable def spHad (C : Addr) : Sp := fun vs H Q _ => iHad C vs H Q
theorem ok_had (T : Tx K mg A) : FnOk P w K mg base CX0 1 A.f_Right_heard_had A.d_Right_heard_had ["self", "turn"] (spHad A.c_Right) := by
  refine T.fn_Right_heard_had.ok sc_Right_heard_had (fun vs H Q E h => ?_) (fun cdv A' outer s H vs Q E hr h => ?_)
  · obtain ⟨q, t, r, told, tn, rfl, _⟩ := h
    rfl
  · obtain ⟨q, t, r, told, tn, rfl, R, k⟩ := h
    have nqt := R.qt
    obtain ⟨dx, as, hq, ht, tl⟩ := R.ex
    refine ⟨_, (pss_one (ps_if (PW.pt (pw_and (pt_cmpR op_eq (pe_fld (pv 0) rfl) (pe_gint rfl T.gi_GAVE) (nomark _)) (pw_and1 (pt_cmpR op_eq (pv 1) (pe_fld (pv 0) rfl) (nomark _)))))
      (pss_one (ps_fld (pv 0) pe_bl rfl))
      pss_nil)), ?_⟩
    unfold mHad at k
    refine (rdF q rfl hq T.cl_Right T.na_Right_standing rf_st ⟨rfl, (rdE rfl ?_)⟩)
    refine ite2 (fun h => ?_) (fun h => ?_)
    · have h1 : r.st = 0 := by simpa using h
      refine (rdE rfl (rdF q rfl hq T.cl_Right T.na_Right_turn rf_turn ⟨rfl, (rdE rfl ?_)⟩))
      refine ite2 (fun h => ?_) (fun h => ?_)
      · have h2 : tn = r.turn := by simpa using h
        simp only [if_pos (show r.st = 0 ∧ tn = r.turn from ⟨h1, h2⟩)] at k
        refine (rdS _ q rfl hq T.cl_Right T.na_Right_had rf_len ?_)
        rw [rp_had]
        exact k _ (RightAt.mk0 hq tl Fr2.refl.q upd_same (by walk_at "hp")) Fr2.refl.q
      · have h2 : ¬ tn = r.turn := by simpa using h
        simp only [if_neg (show ¬ (r.st = 0 ∧ tn = r.turn) from fun z => h2 z.2)] at k
        exact k H R Fr2.refl
    · have h1 : ¬ r.st = 0 := by simpa using h
      simp only [if_neg (show ¬ (r.st = 0 ∧ tn = r.turn) from fun z => h1 z.1)] at k
      exact iteF (k H R Fr2.refl)
inductive iGiven (C : Addr) (vs : List V) (H : Hp) (Q : VK) : Prop
  | mk (q t : Addr) (r : Rt) (told : List (List Int)) (tn ct : Int) : (vs = [.ref q, .int tn, .int ct]) → (RightAt C H q t r told) → (told.length ≤ 990) → (r.Ok) → (0 ≤ tn) → (∀ H' : Hp, RightAt C H' q t (mGiven tn ct r).1 (told ++ (mGiven tn ct r).2) → Fr2 q t H H' → Q .non H') → iGiven C vs H Q
noncomputable def spGiven (C : Addr) : Sp := fun vs H Q _ => iGiven C vs H Q
theorem have_me (r : Rt) : (mHave r).1.me = r.me := by
  unfold mHave
  by_cases c : r.cnt ≤ r.outs
  · rw [if_pos c]
  · rw [if_neg c]
theorem have_len (r : Rt) : (mHave r).2.length ≤ 1 := by
  unfold mHave
  by_cases c : r.cnt ≤ r.outs
  · rw [if_pos c]; exact Nat.le_refl 1
  · rw [if_neg c]; exact Nat.zero_le 1
theorem given1_me (tn ct : Int) (r : Rt) : (mGiven1 tn ct r).1.me = r.me := by
  unfold mGiven1
  by_cases c : r.st = 0 ∧ tn = r.turn + 1
  · rw [if_pos c, have_me]
  · rw [if_neg c]
theorem given1_len (tn ct : Int) (r : Rt) : (mGiven1 tn ct r).2.length ≤ 1 := by
  unfold mGiven1
  by_cases c : r.st = 0 ∧ tn = r.turn + 1
  · rw [if_pos c]; exact have_len _
  · rw [if_neg c]; exact Nat.zero_le 1
theorem ok_given (T : Tx K mg A) : FnOk P w K mg base CX0 4 A.f_Right_heard_given A.d_Right_heard_given ["self", "turn", "count"] (spGiven A.c_Right) := by
  have G_Right_have_if_all_out : FnOk P w K mg base CX0 1 A.f_Right_have_if_all_out A.d_Right_have_if_all_out ["self"] (spRV A.c_Right mHave) := ok_have T
  have G_Right_send_message : FnOk P w K mg base CX0 3 A.f_Right_send_message A.d_Right_send_message ["self", "kind", "turn", "count"] (spSend A.c_Right) := ok_send T
  refine T.fn_Right_heard_given.ok sc_Right_heard_given (fun vs H Q E h => ?_) (fun cdv A' outer s H vs Q E hr h => ?_)
  · obtain ⟨q, t, r, told, tn, ct, rfl, _⟩ := h
    rfl
  · obtain ⟨q, t, r, told, tn, ct, rfl, R, hl, ok, o1, k⟩ := h
    have nqt := R.qt
    obtain ⟨dx, as, hq, ht, tl⟩ := R.ex
    refine ⟨_, (pss_cons (ps_if (PW.pt (pw_and (pt_cmpR op_eq (pe_fld (pv 0) rfl) (pe_gint rfl T.gi_GAVE) (nomark _)) (pw_and1 (pt_cmpR op_eq (pv 1) (pe_op op_add (pe_fld (pv 0) rfl) pe_int) (nomark _)))))
      (pss_cons (ps_fld (pv 0) (pv 1) rfl)
      (pss_cons (ps_fld (pv 0) (pv 2) rfl)
      (pss_cons (ps_fld (pv 0) (pe_gint rfl T.gi_WAITS) rfl)
      (pss_one (ps_expr (pe_meth0 (pv 0) T.cl_Right T.mt_Right_have_if_all_out G_Right_have_if_all_out (hr.mono (by decide)) T.bd_Right_have_if_all_out .nil pass0))))))
      pss_nil)
      (pss_one (ps_if (PW.pt (pw_and (pt_cmpR op_ne (pe_fld (pv 0) rfl) (pe_gint rfl T.gi_GAVE) (nomark _)) (pw_and1 (pt_cmpR op_eq (pv 1) (pe_fld (pv 0) rfl) (nomark _)))))
      (pss_one (ps_expr (pe_meth (pv 0) T.cl_Right T.mt_Right_send_message G_Right_send_message (hr.mono (by decide)) T.bd_Right_send_message .nil pass0 (pa_cons (pe_gint rfl T.gi_HAD) (pa_cons (pv 1) (pa_cons pe_int pa_nil))))))
      pss_nil))), ?_⟩
    -- behind the first test
    have rest : ∀ H1 : Hp, RightAt A.c_Right H1 q t (mGiven1 tn ct r).1 (told ++ (mGiven1 tn ct r).2) → Fr2 q t H H1 →
        (tIfS (tAnd (tTest (tOp rNe (tFld K (tVar 0) "standing") (tC (.int 0)))) (tTest (tOp rEq (tVar 1) (tFld K (tVar 0) "turn"))))
          (tDrop (tMeth A.c_Right "send_message" (spSend A.c_Right) [] E0 (tVar 0) (tCons (tC (.int 2)) (tCons (tVar 1) (tCons (tC (.int 0)) tNil))))) tNext)
          { nx := fun _ H' => Q .non H', rt := Q } (start ["self", "turn", "count"] [.ref q, .int tn, .int ct]) H1 := by
      intro H1 R1 F1
      have hme := given1_me tn ct r
      have hlen := given1_len tn ct r
      unfold mGiven at k
      dsimp only at k
      generalize (mGiven1 tn ct r).1 = r1 at *
      generalize (mGiven1 tn ct r).2 = t1 at *
      obtain ⟨dx1, as1, hq1, ht1, tl1⟩ := R1.ex
      refine (rdF q rfl hq1 T.cl_Right T.na_Right_standing rf_st ⟨rfl, (rdE rfl ?_)⟩)
      refine ite2 (fun h => ?_) (fun h => ?_)
      · have h1 : ¬ r1.st = 0 := by simpa using h
        refine (rdE rfl (rdF q rfl hq1 T.cl_Right T.na_Right_turn rf_turn ⟨rfl, (rdE rfl ?_)⟩))
        refine ite2 (fun h => ?_) (fun h => ?_)
        · have h2 : tn = r1.turn := by simpa using h
          rw [if_pos (show ¬ r1.st = 0 ∧ tn = r1.turn from ⟨h1, h2⟩)] at k
          refine (rdM q rfl hq1 (rf_no (by decide +kernel)) (rdE rfl ?_))
          refine ⟨q, t, r1, _, 2, tn, 0, rfl, R1, by rw [List.length_append]; omega, by rw [hme]; exact ok.me, by decide, o1, by decide, fun H2 R2 F2 => ?_⟩
          exact k H2 (by rw [← List.append_assoc]; exact R2) (F1.trans F2)
        · have h2 : ¬ tn = r1.turn := by simpa using h
          rw [if_neg (show ¬ (¬ r1.st = 0 ∧ tn = r1.turn) from fun z => h2 z.2)] at k
          exact k H1 (by rw [List.append_nil]; exact R1) F1
      · have h1 : r1.st = 0 := by simpa using h
        rw [if_neg (show ¬ (¬ r1.st = 0 ∧ tn = r1.turn) from fun z => z.1 h1)] at k
        exact iteF (k H1 (by rw [List.append_nil]; exact R1) F1)
    have skip : ¬ (r.st = 0 ∧ tn = r.turn + 1) → mGiven1 tn ct r = (r, []) := fun h => by unfold mGiven1; rw [if_neg h]
    refine (rdF q rfl hq T.cl_Right T.na_Right_standing rf_st ⟨rfl, (rdE rfl ?_)⟩)
    refine ite2 (fun h => ?_) (fun h => ?_)
    · have h1 : r.st = 0 := by simpa using h
      refine (rdE rfl (rdF q rfl hq T.cl_Right T.na_Right_turn rf_turn (rdO rfl rfl ⟨rfl, (rdE rfl ?_)⟩)))
      refine ite2 (fun h => ?_) (fun h => ?_)
      · have h2 : tn = r.turn + 1 := by simpa using h
        have e : mGiven1 tn ct r = mHave { r with turn := tn, cnt := ct, st := 2 } := by
          unfold mGiven1
          rw [if_pos ⟨h1, h2⟩]
        refine (rdE rfl (rdS _ q rfl hq T.cl_Right T.na_Right_turn rf_len ?_))
        rw [rp_turn]
        refine (rdE rfl (rdS _ q rfl upd_same T.cl_Right T.na_Right_other_count rf_len ?_))
        rw [rp_cnt, upd_upd]
        refine (rdS _ q rfl upd_same T.cl_Right T.na_Right_standing rf_len ?_)
        rw [rp_st, upd_upd]
        have R1 : RightAt A.c_Right (upd H q (.ins A.c_Right dx (rf t { r with turn := tn, cnt := ct, st := 2 }))) q t { r with turn := tn, cnt := ct, st := 2 } told := RightAt.mk0 hq tl Fr2.refl.q upd_same (by walk_at "hp")
        refine (rdM q rfl upd_same (rf_no (by decide +kernel)) ⟨q, t, _, told, rfl, R1, by omega, fun H2 R2 F2 => ?_⟩)
        exact rest H2 (by rw [e]; exact R2) (Fr2.refl.q.trans F2)
      · have h2 : ¬ tn = r.turn + 1 := by simpa using h
        have e := skip fun z => h2 z.2
        exact rest H (by rw [e]; simpa using R) Fr2.refl
    · have h1 : ¬ r.st = 0 := by simpa using h
      have e := skip fun z => h1 z.1
      exact iteF (rest H (by rw [e]; simpa using R) Fr2.refl)
inductive iRHeard (K : PySem.W.Frag) (C : Addr) (vs : List V) (H : Hp) (Q : VK) : Prop
  | mk (q t a : Addr) (r : Rt) (told : List (List Int)) (l : List Nat) : (vs = [.ref q, .ref a]) → (RightAt C H q t r told) → (told.length ≤ 990) → (r.Ok) → (SqL K H a (vNats l)) → ((∀ b ∈ l, b < 256)) → (∀ H' : Hp, RightAt C H' q t (mHeard l r).1 (told ++ (mHeard l r).2.1) → Fr2 q t H H' → Q (.int (mHeard l r).2.2) H') → iRHeard K C vs H Q
noncomputable def spRHeard (K : PySem.W.Frag) (C : Addr) : Sp := fun vs H Q _ => iRHeard K C vs H Q
theorem right_len {l : List Nat} {s : Int} (h : rightR l s = true) : l.length = 16 := sound_len (Bool.and_eq_true_iff.mp h).1
theorem ok_rheard (T : Tx K mg A) : FnOk P w K mg base CX0 5 A.f_Right_rl_heard A.d_Right_rl_heard ["self", "message"] (spRHeard K A.c_Right) := by
  have G_is_right : FnOk P w K mg base CX0 3 A.f_is_right A.d_is_right ["message", "sender"] (spBool K rightR) := ok_rightr T
  have G_Right_other_end : FnOk P w K mg base CX0 1 A.f_Right_other_end A.d_Right_other_end ["self"] (spOther A.c_Right) := ok_other T
  have G_kind_of : FnOk P w K mg base CX0 1 A.f_kind_of A.d_kind_of ["message"] (spKind K) := ok_kind T
  have G_turn_of : FnOk P w K mg base CX0 2 A.f_turn_of A.d_turn_of ["message"] (spAt K 4) := ok_turn T
  have G_count_of : FnOk P w K mg base CX0 2 A.f_count_of A.d_count_of ["message"] (spAt K 8) := ok_count T
  have G_Right_heard_given : FnOk P w K mg base CX0 4 A.f_Right_heard_given A.d_Right_heard_given ["self", "turn", "count"] (spGiven A.c_Right) := ok_given T
  have G_Right_heard_had : FnOk P w K mg base CX0 1 A.f_Right_heard_had A.d_Right_heard_had ["self", "turn"] (spHad A.c_Right) := ok_had T
  refine T.fn_Right_rl_heard.ok sc_Right_rl_heard (fun vs H Q E h => ?_) (fun cdv A' outer s H vs Q E hr h => ?_)
  · obtain ⟨q, t, a, r, told, l, rfl, _⟩ := h
    rfl
  · obtain ⟨q, t, a, r, told, l, rfl, R, hl, ok, hS, hb, k⟩ := h
    obtain ⟨dx, as, hq, ht, tl⟩ := R.ex
    refine ⟨_, (pss_cons (ps_if (pt_not (pt_val (pe_call G_is_right (hr.mono (by decide)) rfl T.mg_is_right T.fn_is_right.kp T.bd_is_right .nil pass0 (pa_cons (pv 1) (pa_cons (pe_meth0 (pv 0) T.cl_Right T.mt_Right_other_end G_Right_other_end (hr.mono (by decide)) T.bd_Right_other_end .nil pass0) pa_nil)))))
      (pss_one (ps_ret (pe_gint rfl T.gi_NOT_RIGHT)))
      pss_nil)
      (pss_cons (ps_if (pt_cmpR op_eq (pe_call G_kind_of (hr.mono (by decide)) rfl T.mg_kind_of T.fn_kind_of.kp T.bd_kind_of .nil pass0 (pa_cons (pv 1) pa_nil)) (pe_gint rfl T.gi_GIVEN) (nomark _))
      (pss_one (ps_expr (pe_meth (pv 0) T.cl_Right T.mt_Right_heard_given G_Right_heard_given (hr.mono (by decide)) T.bd_Right_heard_given .nil pass0 (pa_cons (pe_call G_turn_of (hr.mono (by decide)) rfl T.mg_turn_of T.fn_turn_of.kp T.bd_turn_of .nil pass0 (pa_cons (pv 1) pa_nil)) (pa_cons (pe_call G_count_of (hr.mono (by decide)) rfl T.mg_count_of T.fn_count_of.kp T.bd_count_of .nil pass0 (pa_cons (pv 1) pa_nil)) pa_nil)))))
      (pss_one (ps_expr (pe_meth (pv 0) T.cl_Right T.mt_Right_heard_had G_Right_heard_had (hr.mono (by decide)) T.bd_Right_heard_had .nil pass0 (pa_cons (pe_call G_turn_of (hr.mono (by decide)) rfl T.mg_turn_of T.fn_turn_of.kp T.bd_turn_of .nil pass0 (pa_cons (pv 1) pa_nil)) pa_nil)))))
      (pss_one (ps_ret pe_int)))), ?_⟩
    unfold mHeard at k
    refine (rdE rfl (rdM q rfl hq (rf_no (by decide +kernel)) ⟨q, t, r, told, rfl, R, ?_⟩))
    refine ⟨a, l, 1 - r.me, rfl, hS, hb, fun H1 s1 => (rdE rfl ?_)⟩
    have F1 : Fr2 q t H H1 := Fr2.refl.same s1
    have R1 := R.keep s1
    refine ite2 (fun h => ?_) (fun h => ?_)
    · have h1 : ¬ rightR l (1 - r.me) = true := by simpa using h
      simp only [if_neg h1] at k
      exact k H1 (by simpa using R1) F1
    · have h1 : rightR l (1 - r.me) = true := by simpa using h
      simp only [if_pos h1] at k
      have hlen := right_len h1
      refine (rdE rfl ⟨a, l, rfl, sq_same hS s1, by omega, rfl, _, rfl, ?_⟩)
      have e1 : decide (V.int ((l.getD 0 0 : Nat) : Int) = V.int 1) = decide (l.getD 0 0 = 1) := dec_nat _ 1
      refine ite2 (fun h => ?_) (fun h => ?_)
      · have h2 : l.getD 0 0 = 1 := of_decide_eq_true (e1 ▸ h)
        simp only [if_pos h2] at k
        refine (rdM q rfl (s1 _ _ hq) (rf_no (by decide +kernel)) (rdE rfl ⟨a, l, rfl, sq_same hS s1, hb, by omega, fun H2 s2 => ?_⟩))
        refine (rdE rfl ⟨a, l, rfl, sq_same (sq_same hS s1) s2, hb, by omega, fun H3 s3 => ?_⟩)
        refine ⟨q, t, r, told, _, _, rfl, (R1.keep s2).keep s3, hl, ok, Int.natCast_nonneg _, fun H4 R4 F4 => ?_⟩
        exact k H4 R4 (((F1.same s2).same s3).trans F4)
      · have h2 : ¬ l.getD 0 0 = 1 := fun z => h (e1.trans (decide_eq_true z))
        simp only [if_neg h2] at k
        refine (rdM q rfl (s1 _ _ hq) (rf_no (by decide +kernel)) (rdE rfl ⟨a, l, rfl, sq_same hS s1, hb, by omega, fun H2 s2 => ?_⟩))
        refine ⟨q, t, r, told, _, rfl, R1.keep s2, fun H4 R4 F4 => ?_⟩
        exact k H4 (by rw [List.append_nil]; exact R4) ((F1.same s2).trans F4)
theorem ok_rtick (T : Tx K mg A) : FnOk P w K mg base CX0 4 A.f_Right_rl_tick A.d_Right_rl_tick ["self"] (spRG A.c_Right mTick) := by
  have G_Right_is_tenth_tick : FnOk P w K mg base CX0 1 A.f_Right_is_tenth_tick A.d_Right_is_tenth_tick ["self"] (spTenth A.c_Right) := ok_tenth T
  have G_Right_send_message : FnOk P w K mg base CX0 3 A.f_Right_send_message A.d_Right_send_message ["self", "kind", "turn", "count"] (spSend A.c_Right) := ok_send T
  refine T.fn_Right_rl_tick.ok sc_Right_rl_tick (fun vs H Q E h => ?_) (fun cdv A' outer s H vs Q E hr h => ?_)
  · obtain ⟨q, t, r, told, rfl, _⟩ := h
    rfl
  · obtain ⟨q, t, r, told, rfl, R, hl, ok, k⟩ := h
    have nqt := R.qt
    obtain ⟨dx, as, hq, ht, tl⟩ := R.ex
    refine ⟨_, (pss_cons (ps_fldaug (pv 0) pe_int in_add)
      (pss_cons (ps_if (PW.pt (pw_and (pt_val (pe_meth0 (pv 0) T.cl_Right T.mt_Right_is_tenth_tick G_Right_is_tenth_tick (hr.mono (by decide)) T.bd_Right_is_tenth_tick .nil pass0)) (pw_and (pt_cmpR op_eq (pe_fld (pv 0) rfl) (pe_gint rfl T.gi_GAVE) (nomark _)) (pw_and1 (pt_not (pt_val (pe_fld (pv 0) rfl)))))))
      (pss_one (ps_expr (pe_meth (pv 0) T.cl_Right T.mt_Right_send_message G_Right_send_message (hr.mono (by decide)) T.bd_Right_send_message .nil pass0 (pa_cons (pe_gint rfl T.gi_GIVEN) (pa_cons (pe_fld (pv 0) rfl) (pa_cons (pe_fld (pv 0) rfl) pa_nil))))))
      pss_nil)
      (pss_one (ps_ret pe_int)))), ?_⟩
    unfold mTick at k
    refine (rdA q rfl hq T.cl_Right T.na_Right_ticks rf_ticks (rdO rfl rfl ⟨_, _, hq, rf_len, ?_⟩))
    rw [rp_ticks]
    have R1 : RightAt A.c_Right (upd H q (.ins A.c_Right dx (rf t { r with ticks := r.ticks + 1 }))) q t { r with ticks := r.ticks + 1 } told := RightAt.mk0 hq tl Fr2.refl.q upd_same (by walk_at "hp")
    have no : ¬ ((r.ticks + 1) % 10 = 0 ∧ r.st = 0 ∧ r.had = false) → Q (.int 0) (upd H q (.ins A.c_Right dx (rf t { r with ticks := r.ticks + 1 }))) := fun h => by
      simp only [if_neg h] at k
      exact k _ (by rw [List.append_nil]; exact R1) Fr2.refl.q
    refine (rdM q rfl upd_same (rf_no (by decide +kernel)) ⟨q, t, _, told, rfl, R1, _, rfl, ?_⟩)
    refine ite2 (fun h => ?_) (fun h => ?_)
    · have h1 : (r.ticks + 1) % 10 = 0 := of_decide_eq_true h
      refine (rdF q rfl upd_same T.cl_Right T.na_Right_standing rf_st ⟨rfl, (rdE rfl ?_)⟩)
      refine ite2 (fun h => ?_) (fun h => ?_)
      · have h2 : r.st = 0 := by simpa using h
        refine (rdF q rfl upd_same T.cl_Right T.na_Right_had rf_had (rdE rfl ?_))
        refine ite2 (fun h => ?_) (fun h => ?_)
        · have h3 : r.had = false := by simpa using h
          simp only [if_pos (show (r.ticks + 1) % 10 = 0 ∧ r.st = 0 ∧ r.had = false from ⟨h1, h2, h3⟩)] at k
          refine (rdM q rfl upd_same (rf_no (by decide +kernel)) (rdF q rfl upd_same T.cl_Right T.na_Right_turn rf_turn (rdF q rfl upd_same T.cl_Right T.na_Right_driven_in rf_ins ?_)))
          refine ⟨q, t, _, told, 1, r.turn, r.ins, rfl, R1, hl, ok.me, by decide, ok.turn, ok.ins, fun H2 R2 F2 => ?_⟩
          exact k _ R2 (Fr2.refl.q.trans F2)
        · exact no fun z => h (by rw [z.2.2]; rfl)
      · have h2 : ¬ r.st = 0 := by simpa using h
        exact iteF (no fun z => h2 z.2.1)
    · exact iteF (no fun z => h (decide_eq_true z.1))
inductive iSix (C : Addr) (vs : List V) (H : Hp) (Q : VK) : Prop
  | mk (q t : Addr) (r : Rt) (told : List (List Int)) : (vs = [.ref q]) → (RightAt C H q t r told) → (∀ (l : Addr) (H' : Hp), H l = none → H' l = some (.lst (vInts (sixM r))) → L2.Same H H' → Q (.ref l) H') → iSix C vs H Q
noncomputable def spSix (C : Addr) : Sp := fun vs H Q _ => iSix C vs H Q
theorem ok_rstate (T : Tx K mg A) : FnOk P w K mg base CX0 1 A.f_Right_rl_state A.d_Right_rl_state ["self"] (spSix A.c_Right) := by
  refine T.fn_Right_rl_state.ok sc_Right_rl_state (fun vs H Q E h => ?_) (fun cdv A' outer s H vs Q E hr h => ?_)
  · obtain ⟨q, t, r, told, rfl, _⟩ := h
    rfl
  · obtain ⟨q, t, r, told, rfl, R, k⟩ := h
    obtain ⟨dx, as, hq, ht, tl⟩ := R.ex
    refine ⟨_, (pss_cons (ps_set (i := 1) sc_Right_rl_state.nd rfl (Or.inl rfl) (pe_ifExp (pt_val (pe_fld (pv 0) rfl)) pe_int pe_int))
      (pss_cons (ps_set (i := 2) sc_Right_rl_state.nd rfl (Or.inl rfl) (pe_ifExp (pt_cmpR op_eq (pe_fld (pv 0) rfl) (pe_gint rfl T.gi_WAITS) (nomark _)) (pe_fld (pv 0) rfl) pe_int))
      (pss_one (ps_ret (pe_lst (pa_cons (pe_fld (pv 0) rfl) (pa_cons (pe_fld (pv 0) rfl) (pa_cons (pe_fld (pv 0) rfl) (pa_cons (pe_fld (pv 0) rfl) (pa_cons (pv 1) (pa_cons (pv 2) pa_nil))))))))))), ?_⟩
    unfold sixM at k
    -- the list, once the two numbers are known
    have fin : ∀ g c : Int, (if r.green = true then (1 : Int) else 0) = g → (if r.st = 2 then r.cnt else 0) = c →
        (tRet (tLst (tCons (tFld K (tVar 0) "turn") (tCons (tFld K (tVar 0) "driven_in") (tCons (tFld K (tVar 0) "come_out") (tCons (tFld K (tVar 0) "standing") (tCons (tVar 1) (tCons (tVar 2) tNil))))))))
          { nx := fun _ H' => Q .non H', rt := Q } [some (.ref q), some (.int g), some (.int c)] H := by
      intro g c hg hc
      refine (rdF q rfl hq T.cl_Right T.na_Right_turn rf_turn (rdF q rfl hq T.cl_Right T.na_Right_driven_in rf_ins (rdF q rfl hq T.cl_Right T.na_Right_come_out rf_outs (rdF q rfl hq T.cl_Right T.na_Right_standing rf_st (rdE rfl (rdE rfl ⟨by show 6 ≤ sizeLine; decide, fun l hl => ?_⟩))))))
      refine k l _ hl ?_ (same_upd2 (L2.Same.refl H) hl)
      rw [upd_same, hg, hc]
      rfl
    have second : ∀ g : Int, (if r.green = true then (1 : Int) else 0) = g →
        (tSeq (tAsg (tIf (tTest (tOp rEq (tFld K (tVar 0) "standing") (tC (.int 2)))) (tFld K (tVar 0) "other_count") (tC (.int 0))) (gName 2))
          (tRet (tLst (tCons (tFld K (tVar 0) "turn") (tCons (tFld K (tVar 0) "driven_in") (tCons (tFld K (tVar 0) "come_out") (tCons (tFld K (tVar 0) "standing") (tCons (tVar 1) (tCons (tVar 2) tNil)))))))))
          { nx := fun _ H' => Q .non H', rt := Q } [some (.ref q), some (.int g), none] H := by
      intro g hg
      refine (rdF q rfl hq T.cl_Right T.na_Right_standing rf_st ⟨rfl, (rdE rfl ?_)⟩)
      refine ite2 (fun h => ?_) (fun h => ?_)
      · have h2 : r.st = 2 := by simpa using h
        exact (rdF q rfl hq T.cl_Right T.na_Right_other_count rf_cnt (fin g r.cnt hg (if_pos h2)))
      · have h2 : ¬ r.st = 2 := by simpa using h
        exact fin g 0 hg (if_neg h2)
    refine (rdF q rfl hq T.cl_Right T.na_Right_green rf_green (rdE rfl ?_))
    refine ite2 (fun h => ?_) (fun h => ?_)
    · exact second 1 (if_pos h)
    · exact second 0 (if_neg h)
end
end Ol
namespace Ol
open PySem L2
local macro_rules | `(tactic| walk_at "ne") => `(tactic| first | assumption | exact Ne.symm (by assumption))
local macro_rules | `(tactic| walk_at "hp") => `(tactic| first | exact upd_same | with_reducible assumption | (refine Eq.trans (upd_ne (by walk_at "ne")) ?_; walk_at "hp"))
noncomputable def kW : List Str := ["right", "most", "waiting", "ask", "green_ticks", "was_green"]
theorem nd_W : kW.Nodup := by decide +kernel
structure Wk where
  most : Int
  waiting : Bool
  ask : Int
  gt : Int
  wg : Bool
noncomputable def wf (q : Addr) (k : Wk) : List (Str × V) := kW.zip [.ref q, .int k.most, .bl k.waiting, .int k.ask, .int k.gt, .bl k.wg]
section
variable {q : Addr} {k : Wk}
theorem wf_right : (wf q k).lookup ("right" : Str) = some (.ref q) := lk_zip nd_W 0 rfl rfl
theorem wf_most : (wf q k).lookup ("most" : Str) = some (.int k.most) := lk_zip nd_W 1 rfl rfl
theorem wf_waiting : (wf q k).lookup ("waiting" : Str) = some (.bl k.waiting) := lk_zip nd_W 2 rfl rfl
theorem wf_ask : (wf q k).lookup ("ask" : Str) = some (.int k.ask) := lk_zip nd_W 3 rfl rfl
theorem wf_gt : (wf q k).lookup ("green_ticks" : Str) = some (.int k.gt) := lk_zip nd_W 4 rfl rfl
theorem wf_wg : (wf q k).lookup ("was_green" : Str) = some (.bl k.wg) := lk_zip nd_W 5 rfl rfl
theorem wp_most {y : Int} : putF "most" (.int y) (wf q k) = wf q { k with most := y } := put_zip nd_W 1 rfl rfl
theorem wp_waiting {y : Bool} : putF "waiting" (.bl y) (wf q k) = wf q { k with waiting := y } := put_zip nd_W 2 rfl rfl
theorem wp_ask {y : Int} : putF "ask" (.int y) (wf q k) = wf q { k with ask := y } := put_zip nd_W 3 rfl rfl
theorem wp_gt {y : Int} : putF "green_ticks" (.int y) (wf q k) = wf q { k with gt := y } := put_zip nd_W 4 rfl rfl
theorem wp_wg {y : Bool} : putF "was_green" (.bl y) (wf q k) = wf q { k with wg := y } := put_zip nd_W 5 rfl rfl
theorem wf_len : (wf q k).length < 1000 := len_zip (by decide)
theorem wf_no {m : Str} (h : m ∉ kW) : (wf q k).lookup m = none := no_zip h
end
/-- a Works stands at p, its Right at q -/
structure WorksAt (A : Adr) (H : Hp) (p q t : Addr) (k : Wk) (r : Rt) (told : List (List Int)) : Prop where
  ob : ∃ dw, H p = some (.ins A.c_Works dw (wf q k))
  rt : RightAt A.c_Right H q t r told
  ne : p ≠ q
theorem WorksAt.pt {A : Adr} {H : Hp} {p q t : Addr} {k : Wk} {r : Rt} {told : List (List Int)} (W : WorksAt A H p q t k r told) : p ≠ t := by
  obtain ⟨_, h1⟩ := W.ob
  obtain ⟨_, _, _, h2, _⟩ := W.rt.ex
  exact ne_of h1 h2 (by intro z; cases z)
noncomputable def Fr3 (p q t : Addr) (H H' : Hp) : Prop := ∀ b o, H b = some o → b ≠ p → b ≠ q → b ≠ t → H' b = some o
theorem Fr3.refl {p q t : Addr} {H : Hp} : Fr3 p q t H H := fun _ _ h _ _ _ => h
theorem Fr3.trans {p q t : Addr} {H H1 H2 : Hp} (a : Fr3 p q t H H1) (b : Fr3 p q t H1 H2) : Fr3 p q t H H2 := fun c o h h0 h1 h2 => b c o (a c o h h0 h1 h2) h0 h1 h2
theorem Fr3.of2 {p q t : Addr} {H H1 H2 : Hp} (a : Fr3 p q t H H1) (b : Fr2 q t H1 H2) : Fr3 p q t H H2 := fun c o h h0 h1 h2 => b c o (a c o h h0 h1 h2) h1 h2
theorem Fr3.p {p q t : Addr} {H H1 : Hp} {o : HO} (a : Fr3 p q t H H1) : Fr3 p q t H (upd H1 p o) := fun c u h h0 h1 h2 => by rw [upd_ne h0]; exact a c u h h0 h1 h2
section
variable {A : Adr} {H H' : Hp} {p q t : Addr} {k k' : Wk} {r r' : Rt} {told told' : List (List Int)} {dw : Addr}
/-- the Right has turned -/
theorem WorksAt.right (W : WorksAt A H p q t k r told) (R : RightAt A.c_Right H' q t r' told') (F : Fr2 q t H H') : WorksAt A H' p q t k r' told' := by
  obtain ⟨dw, h⟩ := W.ob
  exact ⟨⟨dw, F p _ h W.ne W.pt⟩, R, W.ne⟩
/-- the Works has turned -/
theorem WorksAt.works (W : WorksAt A H p q t k r told) (dw : Addr) : WorksAt A (upd H p (.ins A.c_Works dw (wf q k'))) p q t k' r told := by
  obtain ⟨dx, as, h1, h2, h3⟩ := W.rt.ex
  have npt := W.pt
  obtain ⟨dw', h0⟩ := W.ob
  refine ⟨⟨dw, upd_same⟩, ⟨dx, as, by rw [upd_ne W.ne.symm]; exact h1, by rw [upd_ne npt.symm]; exact h2, h3.keep fun b xs h n => ?_⟩, W.ne⟩
  rw [upd_ne (ne_of h h0 (by intro z; cases z))]
  exact h
theorem WorksAt.keep (W : WorksAt A H p q t k r told) (F : L2.Same H H') : WorksAt A H' p q t k r told := by
  obtain ⟨dw, hp⟩ := W.ob
  exact ⟨⟨dw, F _ _ hp⟩, W.rt.keep F, W.ne⟩
theorem Fr3.same {H1 H2 : Hp} (a : Fr3 p q t H H1) (s : L2.Same H1 H2) : Fr3 p q t H H2 := fun c u h h0 h1 h2 => s c u (a c u h h0 h1 h2)
end
noncomputable def askedM (k : Wk) (r : Rt) : Bool := decide (r.st = 1) && decide (r.turn ≤ k.ask)
section
variable {P : Program} {w : World} {K : PySem.W.Frag} {mg : Str → Option Value} {base : Heap} {A : Adr}
inductive iHas (A : Adr) (vs : List V) (H : Hp) (Q : VK) : Prop
  | mk (p q t : Addr) (k : Wk) (r : Rt) (told : List (List Int)) : (vs = [.ref p]) → (WorksAt A H p q t k r told) → (Q (.bl (decide (r.st = 1))) H) → iHas A vs H Q
noncomputable def spHas (A : Adr) : Sp := fun vs H Q _ => iHas A vs H Q
theorem ok_has (T : Tx K mg A) : FnOk P w K mg base CX0 1 A.f_Works_has_right A.d_Works_has_right ["self"] (spHas A) := by
  refine T.fn_Works_has_right.ok sc_Works_has_right (fun vs H Q E h => ?_) (fun cdv A' outer s H vs Q E hr h => ?_)
  · obtain ⟨p, q, t, k, r, told, rfl, _⟩ := h
    rfl
  · obtain ⟨p, q, t, k, r, told, rfl, W, z⟩ := h
    obtain ⟨dw, hp⟩ := W.ob
    obtain ⟨dx, as, hq, ht, tl⟩ := W.rt.ex
    refine ⟨_, (pss_one (ps_ret (pe_cmpR op_eq (pe_fld (pe_fld (pv 0) rfl) rfl) (pe_gint rfl T.gi_HAS) (nomark _)))), ?_⟩
    refine (rdF p rfl hp T.cl_Works T.na_Works_right wf_right (rdG q hq T.cl_Right T.na_Right_standing rf_st ⟨rfl, ?_⟩))
    have e : decide (V.int r.st = V.int 1) = decide (r.st = 1) := by simp
    show Q (.bl (decide (V.int r.st = V.int 1))) H
    rw [e]
    exact z
inductive iAsked (A : Adr) (vs : List V) (H : Hp) (Q : VK) : Prop
  | mk (p q t : Addr) (k : Wk) (r : Rt) (told : List (List Int)) : (vs = [.ref p]) → (WorksAt A H p q t k r told) → (Q (.bl (askedM k r)) H) → iAsked A vs H Q
noncomputable def spAsked (A : Adr) : Sp := fun vs H Q _ => iAsked A vs H Q
theorem ok_asked (T : Tx K mg A) : FnOk P w K mg base CX0 2 A.f_Works_is_asked A.d_Works_is_asked ["self"] (spAsked A) := by
  have G_Works_has_right : FnOk P w K mg base CX0 1 A.f_Works_has_right A.d_Works_has_right ["self"] (spHas A) := ok_has T
  refine T.fn_Works_is_asked.ok sc_Works_is_asked (fun vs H Q E h => ?_) (fun cdv A' outer s H vs Q E hr h => ?_)
  · obtain ⟨p, q, t, k, r, told, rfl, _⟩ := h
    rfl
  · obtain ⟨p, q, t, k, r, told, rfl, W, z⟩ := h
    obtain ⟨dw, hp⟩ := W.ob
    obtain ⟨dx, as, hq, ht, tl⟩ := W.rt.ex
    refine ⟨_, (pss_one (ps_ret (pe_and (pe_meth0 (pv 0) T.cl_Works T.mt_Works_has_right G_Works_has_right (hr.mono (by decide)) T.bd_Works_has_right .nil pass0) (pe_one (pe_cmpR op_ge (pe_fld (pv 0) rfl) (pe_fld (pe_fld (pv 0) rfl) rfl) (nomark _)))))), ?_⟩
    refine (rdM p rfl hp (wf_no (by decide +kernel)) ⟨p, q, t, k, r, told, rfl, W, _, rfl, ?_⟩)
    unfold askedM at z
    refine ite2 (fun h => ?_) (fun h => ?_)
    · rw [h] at z
      refine (rdF p rfl hp T.cl_Works T.na_Works_ask wf_ask (rdF p rfl hp T.cl_Works T.na_Works_right wf_right (rdG q hq T.cl_Right T.na_Right_turn rf_turn (rdO rfl rfl ?_))))
      exact z
    · have h' : decide (r.st = 1) = false := by simpa using h
      rw [h'] at z
      exact z

/-- a method of the Works that hands nothing back -/
noncomputable abbrev Act := Wk → Rt → Wk × Rt × List (List Int)
noncomputable def mGiveW : Act := fun k r => ({ k with wg := false }, (mGive r).1, (mGive r).2.1)
noncomputable def mGreenW : Act := fun k r => ({ k with gt := 0, wg := true }, (mGreen r).1, (mGreen r).2.1)
inductive iAct (A : Adr) (n : Nat) (f : Act) (vs : List V) (H : Hp) (Q : VK) : Prop
  | mk (p q t : Addr) (k : Wk) (r : Rt) (told : List (List Int)) : (vs = [.ref p]) → (WorksAt A H p q t k r told) → (told.length ≤ n) → (r.Ok) → (∀ H' : Hp, WorksAt A H' p q t (f k r).1 (f k r).2.1 (told ++ (f k r).2.2) → Fr3 p q t H H' → Q .non H') → iAct A n f vs H Q
noncomputable def spAct (A : Adr) (n : Nat) (f : Act) : Sp := fun vs H Q _ => iAct A n f vs H Q
theorem ok_giveW (T : Tx K mg A) : FnOk P w K mg base CX0 5 A.f_Works_give_right A.d_Works_give_right ["self"] (spAct A 950 mGiveW) := by
  have G_Right_rl_give : FnOk P w K mg base CX0 4 A.f_Right_rl_give A.d_Right_rl_give ["self"] (spRG A.c_Right mGive) := ok_give T
  refine T.fn_Works_give_right.ok sc_Works_give_right (fun vs H Q E h => ?_) (fun cdv A' outer s H vs Q E hr h => ?_)
  · obtain ⟨p, q, t, k, r, told, rfl, _⟩ := h
    rfl
  · obtain ⟨p, q, t, k, r, told, rfl, W, hl, ok, z⟩ := h
    obtain ⟨dw, hp⟩ := W.ob
    obtain ⟨dx, as, hq, ht, tl⟩ := W.rt.ex
    refine ⟨_, (pss_cons (ps_expr (pe_meth0 (pe_fld (pv 0) rfl) T.cl_Right T.mt_Right_rl_give G_Right_rl_give (hr.mono (by decide)) T.bd_Right_rl_give .nil pass0))
      (pss_one (ps_fld (pv 0) pe_bl rfl))), ?_⟩
    refine (rdF p rfl hp T.cl_Works T.na_Works_right wf_right (rdN q hq (rf_no (by decide +kernel)) ⟨q, t, r, told, rfl, W.rt, by omega, ok, fun H1 R1 F1 => ?_⟩))
    have W1 := W.right R1 F1
    obtain ⟨dw1, hp1⟩ := W1.ob
    refine (rdS _ p rfl hp1 T.cl_Works T.na_Works_was_green wf_len ?_)
    rw [wp_wg]
    exact z _ (W1.works dw1) (Fr3.refl.of2 F1).p
theorem ok_greenW (T : Tx K mg A) : FnOk P w K mg base CX0 2 A.f_Works_make_green A.d_Works_make_green ["self"] (spAct A 950 mGreenW) := by
  have G_Right_rl_green : FnOk P w K mg base CX0 1 A.f_Right_rl_green A.d_Right_rl_green ["self"] (spR A.c_Right mGreen) := ok_green T
  refine T.fn_Works_make_green.ok sc_Works_make_green (fun vs H Q E h => ?_) (fun cdv A' outer s H vs Q E hr h => ?_)
  · obtain ⟨p, q, t, k, r, told, rfl, _⟩ := h
    rfl
  · obtain ⟨p, q, t, k, r, told, rfl, W, hl, ok, z⟩ := h
    obtain ⟨dw, hp⟩ := W.ob
    obtain ⟨dx, as, hq, ht, tl⟩ := W.rt.ex
    refine ⟨_, (pss_cons (ps_expr (pe_meth0 (pe_fld (pv 0) rfl) T.cl_Right T.mt_Right_rl_green G_Right_rl_green (hr.mono (by decide)) T.bd_Right_rl_green .nil pass0))
      (pss_cons (ps_fld (pv 0) pe_int rfl)
      (pss_one (ps_fld (pv 0) pe_bl rfl)))), ?_⟩
    refine (rdF p rfl hp T.cl_Works T.na_Works_right wf_right (rdN q hq (rf_no (by decide +kernel)) ⟨q, t, r, told, rfl, W.rt, by omega, fun H1 R1 F1 => ?_⟩))
    have W1 := W.right R1 F1
    obtain ⟨dw1, hp1⟩ := W1.ob
    refine (rdS _ p rfl hp1 T.cl_Works T.na_Works_green_ticks wf_len ?_)
    rw [wp_gt]
    refine (rdS _ p rfl upd_same T.cl_Works T.na_Works_was_green wf_len ?_)
    rw [wp_wg, upd_upd]
    exact z _ (W1.works dw1) (Fr3.refl.of2 F1).p

noncomputable def look1 (k : Wk) (r : Rt) : Rt × List (List Int) := if (r.green && (askedM k r && decide (k.most ≤ k.gt))) = true then ((mRed r).1, (mRed r).2.1) else (r, [])
noncomputable def look2 (k : Wk) (r : Rt) : Wk × Rt × List (List Int) :=
  if (!decide (r.st = 1) || r.green) = true then (k, r, []) else
  if (askedM k r && (!k.waiting || k.wg)) = true then mGiveW k r else if k.waiting = true then mGreenW k r else (k, r, [])
noncomputable def mLook : Act := fun k r => ((look2 k (look1 k r).1).1, (look2 k (look1 k r).1).2.1, (look1 k r).2 ++ (look2 k (look1 k r).1).2.2)
theorem ok_look (T : Tx K mg A) : FnOk P w K mg base CX0 6 A.f_Works_look A.d_Works_look ["self"] (spAct A 900 mLook) := by
  have G_Works_has_right : FnOk P w K mg base CX0 1 A.f_Works_has_right A.d_Works_has_right ["self"] (spHas A) := ok_has T
  have G_Works_is_asked : FnOk P w K mg base CX0 2 A.f_Works_is_asked A.d_Works_is_asked ["self"] (spAsked A) := ok_asked T
  have G_Right_rl_red : FnOk P w K mg base CX0 1 A.f_Right_rl_red A.d_Right_rl_red ["self"] (spR A.c_Right mRed) := ok_red T
  have G_Works_give_right : FnOk P w K mg base CX0 5 A.f_Works_give_right A.d_Works_give_right ["self"] (spAct A 950 mGiveW) := ok_giveW T
  have G_Works_make_green : FnOk P w K mg base CX0 2 A.f_Works_make_green A.d_Works_make_green ["self"] (spAct A 950 mGreenW) := ok_greenW T
  refine T.fn_Works_look.ok sc_Works_look (fun vs H Q E h => ?_) (fun cdv A' outer s H vs Q E hr h => ?_)
  · obtain ⟨p, q, t, k, r, told, rfl, _⟩ := h
    rfl
  · obtain ⟨p, q, t, k, r, told, rfl, W, hl, ok, z⟩ := h
    refine ⟨_, (pss_cons (ps_if (PW.pt (pw_and (pt_val (pe_fld (pe_fld (pv 0) rfl) rfl)) (pw_and (pt_val (pe_meth0 (pv 0) T.cl_Works T.mt_Works_is_asked G_Works_is_asked (hr.mono (by decide)) T.bd_Works_is_asked .nil pass0)) (pw_and1 (pt_cmpR op_ge (pe_fld (pv 0) rfl) (pe_fld (pv 0) rfl) (nomark _))))))
      (pss_one (ps_expr (pe_meth0 (pe_fld (pv 0) rfl) T.cl_Right T.mt_Right_rl_red G_Right_rl_red (hr.mono (by decide)) T.bd_Right_rl_red .nil pass0)))
      pss_nil)
      (pss_cons (ps_if (PW.pt (pw_or (pt_not (pt_val (pe_meth0 (pv 0) T.cl_Works T.mt_Works_has_right G_Works_has_right (hr.mono (by decide)) T.bd_Works_has_right .nil pass0))) (pw_or1 (pt_val (pe_fld (pe_fld (pv 0) rfl) rfl)))))
      (pss_one ps_retN)
      pss_nil)
      (pss_one (ps_if (PW.pt (pw_and (pt_val (pe_meth0 (pv 0) T.cl_Works T.mt_Works_is_asked G_Works_is_asked (hr.mono (by decide)) T.bd_Works_is_asked .nil pass0)) (pw_and1 (PW.pt (pw_or (pt_not (pt_val (pe_fld (pv 0) rfl))) (pw_or1 (pt_val (pe_fld (pv 0) rfl))))))))
      (pss_one (ps_expr (pe_meth0 (pv 0) T.cl_Works T.mt_Works_give_right G_Works_give_right (hr.mono (by decide)) T.bd_Works_give_right .nil pass0)))
      (pss_one (ps_if (pt_val (pe_fld (pv 0) rfl))
      (pss_one (ps_expr (pe_meth0 (pv 0) T.cl_Works T.mt_Works_make_green G_Works_make_green (hr.mono (by decide)) T.bd_Works_make_green .nil pass0)))
      pss_nil)))))), ?_⟩
    -- behind the first test
    have rest : ∀ (H1 : Hp), WorksAt A H1 p q t k (look1 k r).1 (told ++ (look1 k r).2) → Fr3 p q t H H1 → (look1 k r).1.Ok → (look1 k r).2.length ≤ 1 →
        (tSeq (tIfS (tOr (tNot (tB (tMeth A.c_Works "has_right" (spHas A) [] E0 (tVar 0) tNil))) (tB (tFld K (tFld K (tVar 0) "right") "green"))) tRetN tNext)
          (tIfS (tAnd (tB (tMeth A.c_Works "is_asked" (spAsked A) [] E0 (tVar 0) tNil)) (tOr (tNot (tB (tFld K (tVar 0) "waiting"))) (tB (tFld K (tVar 0) "was_green"))))
            (tDrop (tMeth A.c_Works "give_right" (spAct A 950 mGiveW) [] E0 (tVar 0) tNil))
            (tIfS (tB (tFld K (tVar 0) "waiting")) (tDrop (tMeth A.c_Works "make_green" (spAct A 950 mGreenW) [] E0 (tVar 0) tNil)) tNext)))
          { nx := fun _ H' => Q .non H', rt := Q } (start ["self"] [.ref p]) H1 := by
      intro H1 W1 F1 ok1 hl1
      obtain ⟨dw, hp⟩ := W1.ob
      obtain ⟨dx, as, hq, ht, tl⟩ := W1.rt.ex
      unfold mLook at z
      generalize hr1 : (look1 k r).1 = r1 at *
      generalize ht1 : (look1 k r).2 = t1 at *
      dsimp only at z
      unfold look2 at z
      refine (rdM p rfl hp (wf_no (by decide +kernel)) ⟨p, q, t, k, r1, _, rfl, W1, _, rfl, ?_⟩)
      have leave : (!decide (r1.st = 1) || r1.green) = true → Q .non H1 := fun h => by
        rw [if_pos h] at z
        exact z H1 (by simpa using W1) F1
      refine ite2 (fun h => ?_) (fun h => ?_)
      · exact leave (by rw [h]; rfl)
      · refine (rdF p rfl hp T.cl_Works T.na_Works_right wf_right (rdG q hq T.cl_Right T.na_Right_green rf_green (rdE rfl ?_)))
        refine ite2 (fun h2 => ?_) (fun h2 => ?_)
        · exact leave (by rw [h2]; simp)
        · have hn : ¬ (!decide (r1.st = 1) || r1.green) = true := by
            intro e
            rcases Bool.or_eq_true_iff.mp e with e | e
            · exact h e
            · exact h2 e
          rw [if_neg hn] at z
          refine (rdM p rfl hp (wf_no (by decide +kernel)) ⟨p, q, t, k, r1, _, rfl, W1, _, rfl, ?_⟩)
          have give : (askedM k r1 && (!k.waiting || k.wg)) = true → tDrop (tMeth A.c_Works "give_right" (spAct A 950 mGiveW) [] E0 (tVar 0) tNil) { nx := fun _ H' => Q .non H', rt := Q } (start ["self"] [.ref p]) H1 := fun h => by
            rw [if_pos h] at z
            refine (rdM p rfl hp (wf_no (by decide +kernel)) ⟨p, q, t, k, r1, _, rfl, W1, by rw [List.length_append]; omega, ok1, fun H2 W2 F2 => ?_⟩)
            exact z H2 (by rw [← List.append_assoc]; exact W2) (F1.trans F2)
          have stay : ¬ (askedM k r1 && (!k.waiting || k.wg)) = true → tIfS (tB (tFld K (tVar 0) "waiting")) (tDrop (tMeth A.c_Works "make_green" (spAct A 950 mGreenW) [] E0 (tVar 0) tNil)) tNext { nx := fun _ H' => Q .non H', rt := Q } (start ["self"] [.ref p]) H1 := fun h => by
            rw [if_neg h] at z
            refine (rdF p rfl hp T.cl_Works T.na_Works_waiting wf_waiting (rdE rfl ?_))
            refine ite2 (fun h3 => ?_) (fun h3 => ?_)
            · rw [if_pos h3] at z
              refine (rdM p rfl hp (wf_no (by decide +kernel)) ⟨p, q, t, k, r1, _, rfl, W1, by rw [List.length_append]; omega, ok1, fun H2 W2 F2 => ?_⟩)
              exact z H2 (by rw [← List.append_assoc]; exact W2) (F1.trans F2)
            · rw [if_neg h3] at z
              exact z H1 (by simpa using W1) F1
          refine ite2 (fun h3 => ?_) (fun h3 => ?_)
          · refine (rdF p rfl hp T.cl_Works T.na_Works_waiting wf_waiting (rdE rfl ?_))
            refine ite2 (fun h4 => ?_) (fun h4 => ?_)
            · exact iteT (give (by rw [h3, h4]; rfl))
            · refine (rdF p rfl hp T.cl_Works T.na_Works_was_green wf_wg (rdE rfl ?_))
              refine ite2 (fun h5 => ?_) (fun h5 => ?_)
              · exact give (by rw [h3, h5]; simp)
              · refine stay ?_
                intro e
                obtain ⟨_, e⟩ := Bool.and_eq_true_iff.mp e
                rcases Bool.or_eq_true_iff.mp e with e | e
                · exact h4 e
                · exact h5 e
          · exact iteF (stay (fun e => h3 (Bool.and_eq_true_iff.mp e).1))
    have skip : ¬ (r.green && (askedM k r && decide (k.most ≤ k.gt))) = true → look1 k r = (r, []) := fun h => by unfold look1; rw [if_neg h]
    obtain ⟨dw, hp⟩ := W.ob
    obtain ⟨dx, as, hq, ht, tl⟩ := W.rt.ex
    refine (rdF p rfl hp T.cl_Works T.na_Works_right wf_right (rdG q hq T.cl_Right T.na_Right_green rf_green (rdE rfl ?_)))
    refine ite2 (fun h1 => ?_) (fun h1 => ?_)
    · refine (rdM p rfl hp (wf_no (by decide +kernel)) ⟨p, q, t, k, r, told, rfl, W, _, rfl, ?_⟩)
      refine ite2 (fun h2 => ?_) (fun h2 => ?_)
      · refine (rdF p rfl hp T.cl_Works T.na_Works_green_ticks wf_gt (rdF p rfl hp T.cl_Works T.na_Works_most wf_most (rdO rfl rfl (rdE rfl ?_))))
        refine ite2 (fun h3 => ?_) (fun h3 => ?_)
        · have e : look1 k r = ((mRed r).1, (mRed r).2.1) := by
            unfold look1
            rw [if_pos (by rw [h1, h2]; simpa using h3)]
          have okR : (mRed r).1.Ok := by
            unfold mRed
            rw [if_pos h1]
            exact ⟨ok.me, ok.turn, ok.ins⟩
          have lR : (mRed r).2.1.length ≤ 1 := by
            unfold mRed
            rw [if_pos h1]
            exact Nat.le_refl 1
          refine (rdF p rfl hp T.cl_Works T.na_Works_right wf_right (rdN q hq (rf_no (by decide +kernel)) ⟨q, t, r, told, rfl, W.rt, by omega, fun H1 R1 F1 => ?_⟩))
          exact rest H1 (by rw [e]; exact W.right R1 F1) (Fr3.refl.of2 F1) (by rw [e]; exact okR) (by rw [e]; exact lR)
        · have e := skip fun x => h3 (by
            have := (Bool.and_eq_true_iff.mp (Bool.and_eq_true_iff.mp x).2).2
            simpa using this)
          exact rest H (by rw [e]; simpa using W) Fr3.refl (by rw [e]; exact ok) (by rw [e]; exact Nat.zero_le 1)
      · have e := skip fun x => h2 (Bool.and_eq_true_iff.mp (Bool.and_eq_true_iff.mp x).2).1
        exact iteF (rest H (by rw [e]; simpa using W) Fr3.refl (by rw [e]; exact ok) (by rw [e]; exact Nat.zero_le 1))
    · have e := skip fun x => h1 (Bool.and_eq_true_iff.mp x).1
      exact iteF (rest H (by rw [e]; simpa using W) Fr3.refl (by rw [e]; exact ok) (by rw [e]; exact Nat.zero_le 1))
end
end Ol
namespace Ol
open PySem L2
local macro_rules | `(tactic| walk_at "ne") => `(tactic| first | assumption | exact Ne.symm (by assumption))
local macro_rules | `(tactic| walk_at "hp") => `(tactic| first | exact upd_same | with_reducible assumption | (refine Eq.trans (upd_ne (by walk_at "ne")) ?_; walk_at "hp"))
section
variable {P : Program} {w : World} {K : PySem.W.Frag} {mg : Str → Option Value} {base : Heap} {A : Adr}
noncomputable def wk0 (most : Int) : Wk := { most := most, waiting := false, ask := -1, gt := 0, wg := false }
inductive iBeginW (C : Addr) (vs : List V) (H : Hp) (Q : VK) : Prop
  | mk (p q dw : Addr) (fs : List (Str × V)) (most : Int) : (vs = [.ref p, .int most]) → (H p = some (.ins C dw fs)) → ((fs = [(("right" : Str), V.ref q)] ∨ ∃ k, fs = wf q k)) → (Q .non (upd H p (.ins C dw (wf q (wk0 most))))) → iBeginW C vs H Q
noncomputable def spBeginW (C : Addr) : Sp := fun vs H Q _ => iBeginW C vs H Q
theorem ok_beginW (T : Tx K mg A) : FnOk P w K mg base CX0 1 A.f_Works_begin_works A.d_Works_begin_works ["self", "most"] (spBeginW A.c_Works) := by
  refine T.fn_Works_begin_works.ok sc_Works_begin_works (fun vs H Q E h => ?_) (fun cdv A' outer s H vs Q E hr h => ?_)
  · obtain ⟨p, q, dw, fs, most, rfl, _⟩ := h
    rfl
  · obtain ⟨p, q, dw, fs, most, rfl, hp, hfs, z⟩ := h
    have hlen : fs.length ≤ 20 := by
      rcases hfs with e | ⟨r, e⟩
      · rw [e]; show 1 ≤ 20; decide
      · rw [e]; unfold wf; rw [List.length_zip]; exact Nat.le_trans (Nat.min_le_left _ _) (by decide)
    have all : putF "was_green" (.bl false) (putF "green_ticks" (.int 0) (putF "ask" (.int (-1)) (putF "waiting" (.bl false) (putF "most" (.int most) fs)))) = wf q (wk0 most) := by
      rcases hfs with e | ⟨r, e⟩
      · have e0 : ([(("right" : Str), V.ref q)] : List (Str × V)) = (["right"] : List Str).zip [V.ref q] := rfl
        rw [e, e0, put_new (by decide +kernel) rfl, put_new (by decide +kernel) rfl, put_new (by decide +kernel) rfl, put_new (by decide +kernel) rfl, put_new (by decide +kernel) rfl]
        rfl
      · rw [e, wp_most, wp_waiting, wp_ask, wp_gt, wp_wg]
        rfl
    refine ⟨_, (pss_cons (ps_fld (pv 0) (pv 1) rfl)
      (pss_cons (ps_fld (pv 0) pe_bl rfl)
      (pss_cons (ps_fld (pv 0) (pe_gint rfl T.gi_NEVER) rfl)
      (pss_cons (ps_fld (pv 0) pe_int rfl)
      (pss_one (ps_fld (pv 0) pe_bl rfl)))))), ?_⟩
    have h1 := put_len (f := "most") (v := .int most) hlen
    have h2 := put_len (f := "waiting") (v := .bl false) h1
    have h3 := put_len (f := "ask") (v := .int (-1)) h2
    have h4 := put_len (f := "green_ticks") (v := .int 0) h3
    refine (rdE rfl (rdS _ p rfl hp T.cl_Works T.na_Works_most (by omega) ?_))
    refine (rdS _ p rfl upd_same T.cl_Works T.na_Works_waiting (by omega) ?_)
    rw [upd_upd]
    refine (rdS _ p rfl upd_same T.cl_Works T.na_Works_ask (by omega) ?_)
    rw [upd_upd]
    refine (rdS _ p rfl upd_same T.cl_Works T.na_Works_green_ticks (by omega) ?_)
    rw [upd_upd]
    refine (rdS _ p rfl upd_same T.cl_Works T.na_Works_was_green (by omega) ?_)
    rw [upd_upd, all]
    exact z

inductive iWInit (A : Adr) (vs : List V) (H : Hp) (Q : VK) : Prop
  | mk (p dw : Addr) : (vs = [.ref p]) → (H p = some (.ins A.c_Works dw [])) → (∀ (q t : Addr) (H' : Hp), H q = none → H t = none → WorksAt A H' p q t (wk0 1) (rt0 0) [] → (∀ b o, H b = some o → b ≠ p → H' b = some o) → Q .non H') → iWInit A vs H Q
noncomputable def spWInit (A : Adr) : Sp := fun vs H Q _ => iWInit A vs H Q
theorem ok_winit (T : Tx K mg A) : FnOk P w K mg base CX0 4 A.f_Works_init A.d_Works_init ["self"] (spWInit A) := by
  have G_Right_init : FnOk P w K mg base CX0 2 A.f_Right_init A.d_Right_init ["self"] (spRInit A.c_Right) := ok_rinit T
  have G_Works_begin_works : FnOk P w K mg base CX0 1 A.f_Works_begin_works A.d_Works_begin_works ["self", "most"] (spBeginW A.c_Works) := ok_beginW T
  refine T.fn_Works_init.ok sc_Works_init (fun vs H Q E h => ?_) (fun cdv A' outer s H vs Q E hr h => ?_)
  · obtain ⟨p, dw, rfl, _⟩ := h
    rfl
  · obtain ⟨p, dw, rfl, hp, z⟩ := h
    refine ⟨_, (pss_cons (ps_fld (pv 0) (pe_make0 T.mk_Right G_Right_init (hr.mono (by decide)) rfl T.mg_Right T.bd_Right_init .nil pass0) rfl)
      (pss_one (ps_expr (pe_meth (pv 0) T.cl_Works T.mt_Works_begin_works G_Works_begin_works (hr.mono (by decide)) T.bd_Works_begin_works .nil pass0 (pa_cons pe_int pa_nil))))), ?_⟩
    intro q dq nq ndq neq
    refine ⟨q, dq, rfl, upd_same, fun t H1 nt R1 k1 => ⟨rfl, ?_⟩⟩
    have s1 : L2.Same H H1 := L2.Same.made nq ndq k1
    have npq : p ≠ q := ne_of_none hp nq
    have hp1 := s1 _ _ hp
    refine (rdS _ p rfl hp1 T.cl_Works T.na_Works_right (by show 0 < 1000; decide) ?_)
    refine (rdE rfl ⟨p, _, _, rfl, upd_same, ?_, p, q, dw, _, 1, rfl, upd_same, .inl rfl, ?_⟩)
    · have e0 : putF "right" (V.ref q) [] = (["right"] : List Str).zip [V.ref q] := rfl
      rw [e0]
      exact no_zip (by decide +kernel)
    · rw [upd_upd]
      obtain ⟨dx, as, h1, h2, h3⟩ := R1.ex
      have hte : as = [] := by cases h3; rfl
      subst hte
      have npt : p ≠ t := ne_of hp1 h2 (by intro z; cases z)
      have nt0 : H t = none := by
        cases e : H t with
        | none => rfl
        | some o =>
          rw [upd_ne (ne_of_none e nq), upd_ne (ne_of_none e ndq), e] at nt
          cases nt
      refine z q t _ nq nt0 ⟨⟨dw, upd_same⟩, ⟨dx, [], by rw [upd_ne npq.symm]; exact h1, by rw [upd_ne npt.symm]; exact h2, .nil⟩, npq⟩ fun b o e n => ?_
      rw [upd_ne n]
      exact s1 _ _ e

/-! ### the calls -/
noncomputable abbrev CRes := Wk × Rt × List (List Int) × Int
noncomputable def cStart (me most : Int) (k : Wk) (r : Rt) : CRes := if 1 < me ∨ most < 1 ∨ 1000 < most then (k, r, [], -22) else (wk0 most, (mStart me r).1, (mStart me r).2.1, (mStart me r).2.2)
noncomputable def thenLook (k : Wk) (x : Res) : CRes := ((mLook k x.1).1, (mLook k x.1).2.1, x.2.1 ++ (mLook k x.1).2.2, x.2.2)
noncomputable def cIn (k : Wk) (r : Rt) : CRes := thenLook k (mIn r)
noncomputable def cOut (k : Wk) (r : Rt) : CRes := thenLook k (mOut r)
noncomputable def cWaiting (yes : Int) (k : Wk) (r : Rt) : CRes := if 1 < yes then (k, r, [], -22) else thenLook { k with waiting := decide (yes = 1) } (r, [], 0)
/-- what a call promises: its arguments behind the object, f -/
inductive iC (A : Adr) (as : List V) (f : Wk → Rt → CRes) (vs : List V) (H : Hp) (Q : VK) : Prop
  | mk (p q t : Addr) (k : Wk) (r : Rt) : (vs = .ref p :: as) → (WorksAt A H p q t k r []) → (r.Ok) → (∀ H' : Hp, WorksAt A H' p q t (f k r).1 (f k r).2.1 (f k r).2.2.1 → Fr3 p q t H H' → Q (.int (f k r).2.2.2) H') → iC A as f vs H Q
noncomputable def spC (A : Adr) (as : List V) (f : Wk → Rt → CRes) : Sp := fun vs H Q _ => iC A as f vs H Q
noncomputable def spC1 (A : Adr) (f : Int → Wk → Rt → CRes) : Sp := fun vs H Q E => ∃ x : Int, spC A [.int x] (f x) vs H Q E
noncomputable def spC2 (A : Adr) (f : Int → Int → Wk → Rt → CRes) : Sp := fun vs H Q E => ∃ x y : Int, spC A [.int x, .int y] (f x y) vs H Q E
theorem ok_rwstart (T : Tx K mg A) : FnOk P w K mg base CX0 3 A.f_Works_rw_start A.d_Works_rw_start ["self", "me", "most"] (spC2 A cStart) := by
  have G_Right_rl_start : FnOk P w K mg base CX0 2 A.f_Right_rl_start A.d_Right_rl_start ["self", "me"] (spStart A.c_Right) := ok_rstart T
  have G_Works_begin_works : FnOk P w K mg base CX0 1 A.f_Works_begin_works A.d_Works_begin_works ["self", "most"] (spBeginW A.c_Works) := ok_beginW T
  refine T.fn_Works_rw_start.ok sc_Works_rw_start (fun vs H Q E h => ?_) (fun cdv A' outer s H vs Q E hr h => ?_)
  · obtain ⟨me, most, p, q, t, k, r, rfl, _⟩ := h
    rfl
  · obtain ⟨me, most, p, q, t, k, r, rfl, W, ok, z⟩ := h
    obtain ⟨dw, hp⟩ := W.ob
    obtain ⟨dx, as, hq, ht, tl⟩ := W.rt.ex
    refine ⟨_, (pss_cons (ps_if (PW.pt (pw_or (pt_cmpR op_gt (pv 1) pe_int (nomark _)) (pw_or (pt_cmpR op_lt (pv 2) pe_int (nomark _)) (pw_or1 (pt_cmpR op_gt (pv 2) (pe_gint rfl T.gi_MOST_TICKS) (nomark _))))))
      (pss_one (ps_ret (pe_gint rfl T.gi_WRONG_NUMBER)))
      pss_nil)
      (pss_cons (ps_expr (pe_meth (pv 0) T.cl_Works T.mt_Works_begin_works G_Works_begin_works (hr.mono (by decide)) T.bd_Works_begin_works .nil pass0 (pa_cons (pv 2) pa_nil)))
      (pss_one (ps_ret (pe_meth (pe_fld (pv 0) rfl) T.cl_Right T.mt_Right_rl_start G_Right_rl_start (hr.mono (by decide)) T.bd_Right_rl_start .nil pass0 (pa_cons (pv 1) pa_nil)))))), ?_⟩
    unfold cStart at z
    have no : (1 < me ∨ most < 1 ∨ 1000 < most) → Q (.int (-22)) H := fun h => by
      simp only [if_pos h] at z
      exact z H W Fr3.refl
    refine (rdE rfl (rdO rfl rfl (rdE rfl ?_)))
    refine ite2 (fun h => ?_) (fun h => ?_)
    · exact iteT (no (.inl (by simpa using h)))
    · refine (rdE rfl (rdO rfl rfl (rdE rfl ?_)))
      refine ite2 (fun h2 => ?_) (fun h2 => ?_)
      · exact iteT (no (.inr (.inl (by simpa using h2))))
      · refine (rdE rfl (rdO rfl rfl (rdE rfl ?_)))
        refine ite2 (fun h3 => ?_) (fun h3 => ?_)
        · exact no (.inr (.inr (by simpa using h3)))
        · have g1 : ¬ 1 < me := by simpa using h
          have g2 : ¬ most < 1 := by simpa using h2
          have g3 : ¬ 1000 < most := by simpa using h3
          have hn : ¬ (1 < me ∨ most < 1 ∨ 1000 < most) := by
            rintro (x | x | x)
            · exact g1 x
            · exact g2 x
            · exact g3 x
          simp only [if_neg hn] at z
          refine (rdM p rfl hp (wf_no (by decide +kernel)) (rdE rfl ⟨p, q, dw, _, most, rfl, hp, .inr ⟨k, rfl⟩, ?_⟩))
          have W1 : WorksAt A (upd H p (.ins A.c_Works dw (wf q (wk0 most)))) p q t (wk0 most) r [] := W.works dw
          obtain ⟨dx1, as1, hq1, ht1, tl1⟩ := W1.rt.ex
          refine (rdF p rfl upd_same T.cl_Works T.na_Works_right wf_right (rdN q hq1 (rf_no (by decide +kernel)) (rdE rfl ⟨q, t, r, [], me, rfl, W1.rt, Nat.zero_le _, fun H2 R2 F2 => ?_⟩)))
          exact z H2 (W1.right R2 F2) (Fr3.refl.p.of2 F2)

theorem ok_in_of {r : Rt} (ok : r.Ok) : (mIn r).1.Ok := by
  unfold mIn
  by_cases h : r.green = true
  · rw [if_pos h]
    exact ⟨ok.me, ok.turn, by have := ok.ins; show 0 ≤ r.ins + 1; omega⟩
  · rw [if_neg h]
    exact ⟨ok.me, ok.turn, by have := ok.ins; show 0 ≤ r.ins + 1; omega⟩
theorem ok_out_of {r : Rt} (ok : r.Ok) : (mOut r).1.Ok := by
  unfold mOut
  by_cases h : r.st = 2 ∧ r.cnt ≤ r.outs + 1
  · rw [if_pos h]
    exact ⟨ok.me, ok.turn, ok.ins⟩
  · rw [if_neg h]
    exact ⟨ok.me, ok.turn, ok.ins⟩
theorem len_in (r : Rt) : (mIn r).2.1.length ≤ 1 := by
  unfold mIn
  by_cases h : r.green = true
  · rw [if_pos h]; exact Nat.zero_le 1
  · rw [if_neg h]; exact Nat.le_refl 1
theorem len_out (r : Rt) : (mOut r).2.1.length ≤ 1 := by
  unfold mOut
  by_cases h : r.st = 2 ∧ r.cnt ≤ r.outs + 1
  · rw [if_pos h]; exact Nat.le_refl 1
  · rw [if_neg h]; exact Nat.zero_le 1
theorem ok_rwin (T : Tx K mg A) : FnOk P w K mg base CX0 7 A.f_Works_rw_in A.d_Works_rw_in ["self"] (spC A [] cIn) := by
  have G_Right_rl_in : FnOk P w K mg base CX0 1 A.f_Right_rl_in A.d_Right_rl_in ["self"] (spR A.c_Right mIn) := ok_in T
  have G_Works_look : FnOk P w K mg base CX0 6 A.f_Works_look A.d_Works_look ["self"] (spAct A 900 mLook) := ok_look T
  refine T.fn_Works_rw_in.ok sc_Works_rw_in (fun vs H Q E h => ?_) (fun cdv A' outer s H vs Q E hr h => ?_)
  · obtain ⟨p, q, t, k, r, rfl, _⟩ := h
    rfl
  · obtain ⟨p, q, t, k, r, rfl, W, ok, z⟩ := h
    obtain ⟨dw, hp⟩ := W.ob
    obtain ⟨dx, as, hq, ht, tl⟩ := W.rt.ex
    refine ⟨_, (pss_cons (ps_set (i := 1) sc_Works_rw_in.nd rfl (Or.inl rfl) (pe_meth0 (pe_fld (pv 0) rfl) T.cl_Right T.mt_Right_rl_in G_Right_rl_in (hr.mono (by decide)) T.bd_Right_rl_in .nil pass0))
      (pss_cons (ps_expr (pe_meth0 (pv 0) T.cl_Works T.mt_Works_look G_Works_look (hr.mono (by decide)) T.bd_Works_look .nil pass0))
      (pss_one (ps_ret (pv 1))))), ?_⟩
    refine (rdF p rfl hp T.cl_Works T.na_Works_right wf_right (rdN q hq (rf_no (by decide +kernel)) ⟨q, t, r, [], rfl, W.rt, Nat.zero_le _, fun H1 R1 F1 => ?_⟩))
    have W1 := W.right R1 F1
    obtain ⟨dw1, hp1⟩ := W1.ob
    refine (rdM p rfl hp1 (wf_no (by decide +kernel)) ⟨p, q, t, k, _, _, rfl, W1, by have := len_in r; rw [List.nil_append]; omega, ok_in_of ok, fun H2 W2 F2 => ?_⟩)
    exact (rdE rfl (z H2 W2 ((Fr3.refl.of2 F1).trans F2)))
theorem ok_rwout (T : Tx K mg A) : FnOk P w K mg base CX0 7 A.f_Works_rw_out A.d_Works_rw_out ["self"] (spC A [] cOut) := by
  have G_Right_rl_out : FnOk P w K mg base CX0 2 A.f_Right_rl_out A.d_Right_rl_out ["self"] (spR A.c_Right mOut) := ok_out T
  have G_Works_look : FnOk P w K mg base CX0 6 A.f_Works_look A.d_Works_look ["self"] (spAct A 900 mLook) := ok_look T
  refine T.fn_Works_rw_out.ok sc_Works_rw_out (fun vs H Q E h => ?_) (fun cdv A' outer s H vs Q E hr h => ?_)
  · obtain ⟨p, q, t, k, r, rfl, _⟩ := h
    rfl
  · obtain ⟨p, q, t, k, r, rfl, W, ok, z⟩ := h
    obtain ⟨dw, hp⟩ := W.ob
    obtain ⟨dx, as, hq, ht, tl⟩ := W.rt.ex
    refine ⟨_, (pss_cons (ps_set (i := 1) sc_Works_rw_out.nd rfl (Or.inl rfl) (pe_meth0 (pe_fld (pv 0) rfl) T.cl_Right T.mt_Right_rl_out G_Right_rl_out (hr.mono (by decide)) T.bd_Right_rl_out .nil pass0))
      (pss_cons (ps_expr (pe_meth0 (pv 0) T.cl_Works T.mt_Works_look G_Works_look (hr.mono (by decide)) T.bd_Works_look .nil pass0))
      (pss_one (ps_ret (pv 1))))), ?_⟩
    refine (rdF p rfl hp T.cl_Works T.na_Works_right wf_right (rdN q hq (rf_no (by decide +kernel)) ⟨q, t, r, [], rfl, W.rt, Nat.zero_le _, fun H1 R1 F1 => ?_⟩))
    have W1 := W.right R1 F1
    obtain ⟨dw1, hp1⟩ := W1.ob
    refine (rdM p rfl hp1 (wf_no (by decide +kernel)) ⟨p, q, t, k, _, _, rfl, W1, by have := len_out r; rw [List.nil_append]; omega, ok_out_of ok, fun H2 W2 F2 => ?_⟩)
    exact (rdE rfl (z H2 W2 ((Fr3.refl.of2 F1).trans F2)))
theorem ok_rwwaiting (T : Tx K mg A) : FnOk P w K mg base CX0 7 A.f_Works_rw_waiting A.d_Works_rw_waiting ["self", "yes"] (spC1 A cWaiting) := by
  have G_Works_look : FnOk P w K mg base CX0 6 A.f_Works_look A.d_Works_look ["self"] (spAct A 900 mLook) := ok_look T
  refine T.fn_Works_rw_waiting.ok sc_Works_rw_waiting (fun vs H Q E h => ?_) (fun cdv A' outer s H vs Q E hr h => ?_)
  · obtain ⟨yes, p, q, t, k, r, rfl, _⟩ := h
    rfl
  · obtain ⟨yes, p, q, t, k, r, rfl, W, ok, z⟩ := h
    obtain ⟨dw, hp⟩ := W.ob
    refine ⟨_, (pss_cons (ps_if (pt_cmpR op_gt (pv 1) pe_int (nomark _))
      (pss_one (ps_ret (pe_gint rfl T.gi_WRONG_NUMBER)))
      pss_nil)
      (pss_cons (ps_fld (pv 0) (pe_cmpR op_eq (pv 1) pe_int (nomark _)) rfl)
      (pss_cons (ps_expr (pe_meth0 (pv 0) T.cl_Works T.mt_Works_look G_Works_look (hr.mono (by decide)) T.bd_Works_look .nil pass0))
      (pss_one (ps_ret pe_int))))), ?_⟩
    unfold cWaiting at z
    refine (rdE rfl (rdO rfl rfl (rdE rfl ?_)))
    refine ite2 (fun h => ?_) (fun h => ?_)
    · have h1 : 1 < yes := by simpa using h
      simp only [if_pos h1] at z
      exact z H W Fr3.refl
    · have h1 : ¬ 1 < yes := by simpa using h
      simp only [if_neg h1] at z
      have e : decide (V.int yes = V.int 1) = decide (yes = 1) := by simp
      refine (rdE rfl ⟨rfl, (rdS _ p rfl hp T.cl_Works T.na_Works_waiting wf_len ?_)⟩)
      rw [wp_waiting]
      have W1 : WorksAt A (upd H p (.ins A.c_Works dw (wf q { k with waiting := decide (V.int yes = V.int 1) }))) p q t { k with waiting := decide (V.int yes = V.int 1) } r [] := W.works dw
      refine (rdM p rfl upd_same (wf_no (by decide +kernel)) ⟨p, q, t, _, r, [], rfl, W1, Nat.zero_le _, ok, fun H2 W2 F2 => ?_⟩)
      rw [e] at W2
      exact z H2 W2 (Fr3.refl.p.trans F2)
end
end Ol
namespace Ol
open PySem L2
/-! ### rw_heard, rw_tick, rw_state -/
noncomputable def maxM (i j : Int) : Int := if j > i then j else i
noncomputable def cHeard (l : List Nat) (k : Wk) (r : Rt) : CRes :=
  if askR l (1 - r.me) = true then thenLook { k with ask := maxM k.ask (at4 l 4 : Nat) } (r, [], 0)
  else if (mHeard l r).2.2 = 0 then thenLook k (mHeard l r) else (k, mHeard l r)
noncomputable def tickK (k : Wk) (r : Rt) : Wk := if r.green = true then { k with gt := k.gt + 1 } else k
noncomputable def tickAsk (k : Wk) (r : Rt) : List (List Int) := if (r.ticks + 1) % 10 = 0 ∧ k.waiting = true ∧ ¬ r.st = 1 then [0 :: msgI 3 r.me r.turn 0] else []
noncomputable def cTick (k : Wk) (r : Rt) : CRes := thenLook (tickK k r) ((mTick r).1, (mTick r).2.1 ++ tickAsk k r, 0)
noncomputable def eightM (k : Wk) (r : Rt) : List Int := sixM r ++ [if r.green = true then k.gt else 0, if askedM k r = true then 1 else 0]
section
variable {P : Program} {w : World} {K : PySem.W.Frag} {mg : Str → Option Value} {base : Heap} {A : Adr}
theorem have_ok {r : Rt} (ok : r.Ok) : (mHave r).1.Ok := by
  unfold mHave
  by_cases c : r.cnt ≤ r.outs
  · rw [if_pos c]; exact ⟨ok.me, ok.turn, ok.ins⟩
  · rw [if_neg c]; exact ok
theorem given1_ok {r : Rt} (ok : r.Ok) {tn ct : Int} (h : 0 ≤ tn) : (mGiven1 tn ct r).1.Ok := by
  unfold mGiven1
  by_cases c : r.st = 0 ∧ tn = r.turn + 1
  · rw [if_pos c]; exact have_ok ⟨ok.me, h, ok.ins⟩
  · rw [if_neg c]; exact ok
theorem had_ok {r : Rt} (ok : r.Ok) (tn : Int) : (mHad tn r).Ok := by
  unfold mHad
  by_cases c : r.st = 0 ∧ tn = r.turn
  · rw [if_pos c]; exact ⟨ok.me, ok.turn, ok.ins⟩
  · rw [if_neg c]; exact ok
theorem given_len (tn ct : Int) (r : Rt) : (mGiven tn ct r).2.length ≤ 2 := by
  have h := given1_len tn ct r
  unfold mGiven
  dsimp only
  rw [List.length_append]
  split
  · show _ + 1 ≤ 2
    omega
  · show _ + 0 ≤ 2
    omega
theorem heard_ok {r : Rt} (ok : r.Ok) (l : List Nat) : (mHeard l r).1.Ok := by
  unfold mHeard
  split
  · split
    · exact given1_ok ok (Int.natCast_nonneg _)
    · exact had_ok ok _
  · exact ok
theorem heard_len (l : List Nat) (r : Rt) : (mHeard l r).2.1.length ≤ 2 := by
  unfold mHeard
  split
  · split
    · exact given_len _ _ r
    · exact Nat.zero_le 2
  · exact Nat.zero_le 2
theorem tick_len (r : Rt) : (mTick r).2.1.length ≤ 1 := by
  unfold mTick
  dsimp only
  split
  · exact Nat.le_refl 1
  · exact Nat.zero_le 1
theorem tickAsk_len (k : Wk) (r : Rt) : (tickAsk k r).length ≤ 1 := by
  unfold tickAsk
  split
  · exact Nat.le_refl 1
  · exact Nat.zero_le 1
inductive iCH (K : PySem.W.Frag) (A : Adr) (vs : List V) (H : Hp) (Q : VK) : Prop
  | mk (p q t a : Addr) (k : Wk) (r : Rt) (l : List Nat) : (vs = [.ref p, .ref a]) → (WorksAt A H p q t k r []) → (r.Ok) → (SqL K H a (vNats l)) → ((∀ b ∈ l, b < 256)) → (∀ H' : Hp, WorksAt A H' p q t (cHeard l k r).1 (cHeard l k r).2.1 (cHeard l k r).2.2.1 → Fr3 p q t H H' → Q (.int (cHeard l k r).2.2.2) H') → iCH K A vs H Q
noncomputable def spCH (K : PySem.W.Frag) (A : Adr) : Sp := fun vs H Q _ => iCH K A vs H Q
theorem ok_rwheard (T : Tx K mg A) : FnOk P w K mg base CX0 7 A.f_Works_rw_heard A.d_Works_rw_heard ["self", "message"] (spCH K A) := by
  have G_is_right_ask : FnOk P w K mg base CX0 3 A.f_is_right_ask A.d_is_right_ask ["message", "sender"] (spBool K askR) := ok_askr T
  have G_Right_other_end : FnOk P w K mg base CX0 1 A.f_Right_other_end A.d_Right_other_end ["self"] (spOther A.c_Right) := ok_other T
  have G_turn_of : FnOk P w K mg base CX0 2 A.f_turn_of A.d_turn_of ["message"] (spAt K 4) := ok_turn T
  have G_Works_look : FnOk P w K mg base CX0 6 A.f_Works_look A.d_Works_look ["self"] (spAct A 900 mLook) := ok_look T
  have G_Right_rl_heard : FnOk P w K mg base CX0 5 A.f_Right_rl_heard A.d_Right_rl_heard ["self", "message"] (spRHeard K A.c_Right) := ok_rheard T
  refine T.fn_Works_rw_heard.ok sc_Works_rw_heard (fun vs H Q E h => ?_) (fun cdv A' outer s H vs Q E hr h => ?_)
  · obtain ⟨p, q, t, a, k, r, l, rfl, _⟩ := h
    rfl
  · obtain ⟨p, q, t, a, k, r, l, rfl, W, ok, hS, hb, z⟩ := h
    obtain ⟨dw, hp⟩ := W.ob
    obtain ⟨dx, as, hq, ht, tl⟩ := W.rt.ex
    refine ⟨_, (pss_cons (ps_if (pt_val (pe_call G_is_right_ask (hr.mono (by decide)) rfl T.mg_is_right_ask T.fn_is_right_ask.kp T.bd_is_right_ask .nil pass0 (pa_cons (pv 1) (pa_cons (pe_meth0 (pe_fld (pv 0) rfl) T.cl_Right T.mt_Right_other_end G_Right_other_end (hr.mono (by decide)) T.bd_Right_other_end .nil pass0) pa_nil))))
      (pss_cons (ps_fld (pv 0) (pe_callB (call_max2 rfl) (by rfl) T.mg_max PyProof.Rows.boot_max (pa_cons (pe_fld (pv 0) rfl) (pa_cons (pe_call G_turn_of (hr.mono (by decide)) rfl T.mg_turn_of T.fn_turn_of.kp T.bd_turn_of .nil pass0 (pa_cons (pv 1) pa_nil)) pa_nil))) rfl)
      (pss_cons (ps_expr (pe_meth0 (pv 0) T.cl_Works T.mt_Works_look G_Works_look (hr.mono (by decide)) T.bd_Works_look .nil pass0))
      (pss_one (ps_ret pe_int))))
      pss_nil)
      (pss_cons (ps_set (i := 2) sc_Works_rw_heard.nd rfl (Or.inl rfl) (pe_meth (pe_fld (pv 0) rfl) T.cl_Right T.mt_Right_rl_heard G_Right_rl_heard (hr.mono (by decide)) T.bd_Right_rl_heard .nil pass0 (pa_cons (pv 1) pa_nil)))
      (pss_cons (ps_if (pt_cmpR op_eq (pv 2) pe_int (nomark _))
      (pss_one (ps_expr (pe_meth0 (pv 0) T.cl_Works T.mt_Works_look G_Works_look (hr.mono (by decide)) T.bd_Works_look .nil pass0)))
      pss_nil)
      (pss_one (ps_ret (pv 2)))))), ?_⟩
    unfold cHeard at z
    refine (rdE rfl (rdF p rfl hp T.cl_Works T.na_Works_right wf_right (rdN q hq (rf_no (by decide +kernel)) ⟨q, t, r, [], rfl, W.rt, ?_⟩)))
    refine ⟨a, l, 1 - r.me, rfl, hS, hb, fun H1 s1 => (rdE rfl ?_)⟩
    have W1 := W.keep s1
    have F1 : Fr3 p q t H H1 := Fr3.refl.same s1
    refine ite2 (fun h => ?_) (fun h => ?_)
    · simp only [if_pos h] at z
      have hlen : l.length = 16 := sound_len (Bool.and_eq_true_iff.mp h).1
      refine (rdF p rfl (s1 _ _ hp) T.cl_Works T.na_Works_ask wf_ask (rdE rfl ⟨a, l, rfl, sq_same hS s1, hb, by omega, fun H2 s2 => ?_⟩))
      have hp2 := s2 _ _ (s1 _ _ hp)
      refine ⟨_, _, rfl, (rdS _ p rfl hp2 T.cl_Works T.na_Works_ask wf_len ?_)⟩
      rw [wp_ask]
      have W2 : WorksAt A (upd H2 p (.ins A.c_Works dw (wf q { k with ask := maxM k.ask (at4 l 4 : Nat) }))) p q t { k with ask := maxM k.ask (at4 l 4 : Nat) } r [] := (W1.keep s2).works dw
      refine (rdM p rfl upd_same (wf_no (by decide +kernel)) ⟨p, q, t, _, r, [], rfl, W2, Nat.zero_le _, ok, fun H3 W3 F3 => ?_⟩)
      exact z H3 W3 ((F1.same s2).p.trans F3)
    · simp only [if_neg h] at z
      refine (rdF p rfl (s1 _ _ hp) T.cl_Works T.na_Works_right wf_right (rdN q (s1 _ _ hq) (rf_no (by decide +kernel)) (rdE rfl ?_)))
      refine ⟨q, t, a, r, [], l, rfl, W1.rt, Nat.zero_le _, ok, sq_same hS s1, hb, fun H2 R2 F2 => ?_⟩
      rw [List.nil_append] at R2
      have W2 := W1.right R2 F2
      have F12 := F1.of2 F2
      obtain ⟨dw2, hp2⟩ := W2.ob
      refine (rdE rfl ⟨rfl, (rdE rfl ?_)⟩)
      refine ite2 (fun h2 => ?_) (fun h2 => ?_)
      · have h3 : (mHeard l r).2.2 = 0 := by simpa using h2
        simp only [if_pos h3] at z
        refine (rdM p rfl hp2 (wf_no (by decide +kernel)) ⟨p, q, t, k, _, _, rfl, W2, by have := heard_len l r; omega, heard_ok ok l, fun H3 W3 F3 => ?_⟩)
        exact (rdE rfl (z H3 W3 (F12.trans F3)))
      · have h3 : ¬ (mHeard l r).2.2 = 0 := by simpa using h2
        simp only [if_neg h3] at z
        exact (rdE rfl (z H2 W2 F12))

theorem ok_rwtick (T : Tx K mg A) : FnOk P w K mg base CX0 7 A.f_Works_rw_tick A.d_Works_rw_tick ["self"] (spC A [] cTick) := by
  have G_Right_rl_tick : FnOk P w K mg base CX0 4 A.f_Right_rl_tick A.d_Right_rl_tick ["self"] (spRG A.c_Right mTick) := ok_rtick T
  have G_Works_has_right : FnOk P w K mg base CX0 1 A.f_Works_has_right A.d_Works_has_right ["self"] (spHas A) := ok_has T
  have G_Right_is_tenth_tick : FnOk P w K mg base CX0 1 A.f_Right_is_tenth_tick A.d_Right_is_tenth_tick ["self"] (spTenth A.c_Right) := ok_tenth T
  have G_Right_send_message : FnOk P w K mg base CX0 3 A.f_Right_send_message A.d_Right_send_message ["self", "kind", "turn", "count"] (spSend A.c_Right) := ok_send T
  have G_Works_look : FnOk P w K mg base CX0 6 A.f_Works_look A.d_Works_look ["self"] (spAct A 900 mLook) := ok_look T
  refine T.fn_Works_rw_tick.ok sc_Works_rw_tick (fun vs H Q E h => ?_) (fun cdv A' outer s H vs Q E hr h => ?_)
  · obtain ⟨p, q, t, k, r, rfl, _⟩ := h
    rfl
  · obtain ⟨p, q, t, k, r, rfl, W, ok, z⟩ := h
    obtain ⟨dw, hp⟩ := W.ob
    obtain ⟨dx, as, hq, ht, tl⟩ := W.rt.ex
    refine ⟨_, (pss_cons (ps_expr (pe_meth0 (pe_fld (pv 0) rfl) T.cl_Right T.mt_Right_rl_tick G_Right_rl_tick (hr.mono (by decide)) T.bd_Right_rl_tick .nil pass0))
      (pss_cons (ps_if (pt_val (pe_fld (pe_fld (pv 0) rfl) rfl))
      (pss_one (ps_fldaug (pv 0) pe_int in_add))
      pss_nil)
      (pss_cons (ps_if (PW.pt (pw_and (pt_val (pe_meth0 (pe_fld (pv 0) rfl) T.cl_Right T.mt_Right_is_tenth_tick G_Right_is_tenth_tick (hr.mono (by decide)) T.bd_Right_is_tenth_tick .nil pass0)) (pw_and (pt_val (pe_fld (pv 0) rfl)) (pw_and1 (pt_not (pt_val (pe_meth0 (pv 0) T.cl_Works T.mt_Works_has_right G_Works_has_right (hr.mono (by decide)) T.bd_Works_has_right .nil pass0)))))))
      (pss_one (ps_expr (pe_meth (pe_fld (pv 0) rfl) T.cl_Right T.mt_Right_send_message G_Right_send_message (hr.mono (by decide)) T.bd_Right_send_message .nil pass0 (pa_cons (pe_gint rfl T.gi_ASK) (pa_cons (pe_fld (pe_fld (pv 0) rfl) rfl) (pa_cons pe_int pa_nil))))))
      pss_nil)
      (pss_cons (ps_expr (pe_meth0 (pv 0) T.cl_Works T.mt_Works_look G_Works_look (hr.mono (by decide)) T.bd_Works_look .nil pass0))
      (pss_one (ps_ret pe_int)))))), ?_⟩
    have tr : (mTick r).1 = { r with ticks := r.ticks + 1 } := rfl
    have ok1 : (mTick r).1.Ok := ⟨ok.me, ok.turn, ok.ins⟩
    have l1 := tick_len r
    have l2 := tickAsk_len k r
    have fin : ∀ H3 : Hp, WorksAt A H3 p q t (tickK k r) (mTick r).1 ((mTick r).2.1 ++ tickAsk k r) → Fr3 p q t H H3 →
        (tSeq (tDrop (tMeth A.c_Works "look" (spAct A 900 mLook) [] E0 (tVar 0) tNil)) (tRet (tC (.int 0)))) { nx := fun _ H' => Q .non H', rt := Q } (start ["self"] [.ref p]) H3 := by
      intro H3 W3 F3
      obtain ⟨dw3, hp3⟩ := W3.ob
      refine (rdM p rfl hp3 (wf_no (by decide +kernel)) ⟨p, q, t, _, _, _, rfl, W3, by rw [List.length_append]; omega, ok1, fun H4 W4 F4 => ?_⟩)
      exact z H4 W4 (F3.trans F4)
    have mid : ∀ H2 : Hp, WorksAt A H2 p q t (tickK k r) (mTick r).1 (mTick r).2.1 → Fr3 p q t H H2 →
        (tSeq (tIfS (tAnd (tB (tMeth A.c_Right "is_tenth_tick" (spTenth A.c_Right) [] E0 (tFld K (tVar 0) "right") tNil)) (tAnd (tB (tFld K (tVar 0) "waiting")) (tNot (tB (tMeth A.c_Works "has_right" (spHas A) [] E0 (tVar 0) tNil)))))
            (tDrop (tMeth A.c_Right "send_message" (spSend A.c_Right) [] E0 (tFld K (tVar 0) "right") (tCons (tC (.int 3)) (tCons (tFld K (tFld K (tVar 0) "right") "turn") (tCons (tC (.int 0)) tNil))))) tNext)
          (tSeq (tDrop (tMeth A.c_Works "look" (spAct A 900 mLook) [] E0 (tVar 0) tNil)) (tRet (tC (.int 0))))) { nx := fun _ H' => Q .non H', rt := Q } (start ["self"] [.ref p]) H2 := by
      intro H2 W2 F2
      obtain ⟨dw2, hp2⟩ := W2.ob
      obtain ⟨dx2, as2, hq2, ht2, tl2⟩ := W2.rt.ex
      have kw : (tickK k r).waiting = k.waiting := by
        unfold tickK
        split <;> rfl
      have no : ¬ ((r.ticks + 1) % 10 = 0 ∧ k.waiting = true ∧ ¬ r.st = 1) →
          (tSeq (tDrop (tMeth A.c_Works "look" (spAct A 900 mLook) [] E0 (tVar 0) tNil)) (tRet (tC (.int 0)))) { nx := fun _ H' => Q .non H', rt := Q } (start ["self"] [.ref p]) H2 := fun h => by
        refine fin H2 ?_ F2
        unfold tickAsk
        rw [if_neg h, List.append_nil]
        exact W2
      refine (rdF p rfl hp2 T.cl_Works T.na_Works_right wf_right (rdN q hq2 (rf_no (by decide +kernel)) ⟨q, t, _, _, rfl, W2.rt, _, rfl, ?_⟩))
      refine ite2 (fun h => ?_) (fun h => ?_)
      · have h1 : (r.ticks + 1) % 10 = 0 := of_decide_eq_true h
        refine (rdF p rfl hp2 T.cl_Works T.na_Works_waiting wf_waiting (rdE rfl ?_))
        refine ite2 (fun h => ?_) (fun h => ?_)
        · have h2 : k.waiting = true := kw.symm.trans h
          refine (rdM p rfl hp2 (wf_no (by decide +kernel)) ⟨p, q, t, _, _, _, rfl, W2, _, rfl, ?_⟩)
          refine ite2 (fun h => ?_) (fun h => ?_)
          · have h' : (!decide (r.st = 1)) = true := h
            have h3 : ¬ r.st = 1 := by simpa using h'
            refine (rdF p rfl hp2 T.cl_Works T.na_Works_right wf_right (rdN q hq2 (rf_no (by decide +kernel)) (rdF p rfl hp2 T.cl_Works T.na_Works_right wf_right (rdG q hq2 T.cl_Right T.na_Right_turn rf_turn ?_))))
            refine ⟨q, t, _, _, 3, _, 0, rfl, W2.rt, by omega, ok1.me, by decide, ok1.turn, by decide, fun H3 R3 F3 => ?_⟩
            refine fin H3 ?_ (F2.of2 F3)
            unfold tickAsk
            rw [if_pos (show (r.ticks + 1) % 10 = 0 ∧ k.waiting = true ∧ ¬ r.st = 1 from ⟨h1, h2, h3⟩)]
            exact W2.right R3 F3
          · have h' : ¬ (!decide (r.st = 1)) = true := h
            have h3 : r.st = 1 := by simpa using h'
            exact no fun y => y.2.2 h3
        · exact iteF (no fun y => h (kw.trans y.2.1))
      · exact iteF (no fun y => h (decide_eq_true y.1))
    refine (rdF p rfl hp T.cl_Works T.na_Works_right wf_right (rdN q hq (rf_no (by decide +kernel)) ⟨q, t, r, [], rfl, W.rt, Nat.zero_le _, ok, fun H1 R1 F1 => ?_⟩))
    rw [List.nil_append] at R1
    have W1 := W.right R1 F1
    obtain ⟨dw1, hp1⟩ := W1.ob
    obtain ⟨dx1, as1, hq1, ht1, tl1⟩ := R1.ex
    refine (rdF p rfl hp1 T.cl_Works T.na_Works_right wf_right (rdG q hq1 T.cl_Right T.na_Right_green rf_green (rdE rfl ?_)))
    refine ite2 (fun h => ?_) (fun h => ?_)
    · have e : tickK k r = { k with gt := k.gt + 1 } := by
        unfold tickK
        rw [if_pos (show r.green = true from h)]
      refine (rdA p rfl hp1 T.cl_Works T.na_Works_green_ticks wf_gt (rdO rfl rfl ⟨_, _, hp1, wf_len, ?_⟩))
      rw [wp_gt]
      exact mid _ (by rw [e]; exact W1.works dw1) ((Fr3.refl.of2 F1).p)
    · have e : tickK k r = k := by
        unfold tickK
        rw [if_neg (show ¬ r.green = true from h)]
      exact mid _ (by rw [e]; exact W1) (Fr3.refl.of2 F1)

inductive iEight (A : Adr) (vs : List V) (H : Hp) (Q : VK) : Prop
  | mk (p q t : Addr) (k : Wk) (r : Rt) (told : List (List Int)) : (vs = [.ref p]) → (WorksAt A H p q t k r told) → (∀ (l : Addr) (H' : Hp), H l = none → H' l = some (.lst (vInts (eightM k r))) → L2.Same H H' → Q (.ref l) H') → iEight A vs H Q
noncomputable def spEight (A : Adr) : Sp := fun vs H Q _ => iEight A vs H Q
theorem ok_rwstate (T : Tx K mg A) : FnOk P w K mg base CX0 3 A.f_Works_rw_state A.d_Works_rw_state ["self"] (spEight A) := by
  have G_Works_is_asked : FnOk P w K mg base CX0 2 A.f_Works_is_asked A.d_Works_is_asked ["self"] (spAsked A) := ok_asked T
  have G_Right_rl_state : FnOk P w K mg base CX0 1 A.f_Right_rl_state A.d_Right_rl_state ["self"] (spSix A.c_Right) := ok_rstate T
  refine T.fn_Works_rw_state.ok sc_Works_rw_state (fun vs H Q E h => ?_) (fun cdv A' outer s H vs Q E hr h => ?_)
  · obtain ⟨p, q, t, k, r, told, rfl, _⟩ := h
    rfl
  · obtain ⟨p, q, t, k, r, told, rfl, W, z⟩ := h
    obtain ⟨dw, hp⟩ := W.ob
    obtain ⟨dx, as, hq, ht, tl⟩ := W.rt.ex
    refine ⟨_, (pss_cons (ps_set (i := 1) sc_Works_rw_state.nd rfl (Or.inl rfl) (pe_ifExp (pt_val (pe_fld (pe_fld (pv 0) rfl) rfl)) (pe_fld (pv 0) rfl) pe_int))
      (pss_cons (ps_set (i := 2) sc_Works_rw_state.nd rfl (Or.inl rfl) (pe_ifExp (pt_val (pe_meth0 (pv 0) T.cl_Works T.mt_Works_is_asked G_Works_is_asked (hr.mono (by decide)) T.bd_Works_is_asked .nil pass0)) pe_int pe_int))
      (pss_one (ps_ret (pe_op op_cat (pe_meth0 (pe_fld (pv 0) rfl) T.cl_Right T.mt_Right_rl_state G_Right_rl_state (hr.mono (by decide)) T.bd_Right_rl_state .nil pass0) (pe_lst (pa_cons (pv 1) (pa_cons (pv 2) pa_nil)))))))), ?_⟩
    have fin : ∀ g c : Int, (if r.green = true then k.gt else 0) = g → (if askedM k r = true then (1 : Int) else 0) = c →
        (tRet (tOp rCat (tMeth A.c_Right "rl_state" (spSix A.c_Right) [] E0 (tFld K (tVar 0) "right") tNil) (tLst (tCons (tVar 1) (tCons (tVar 2) tNil)))))
          { nx := fun _ H' => Q .non H', rt := Q } [some (.ref p), some (.int g), some (.int c)] H := by
      intro g c hg hc
      refine (rdF p rfl hp T.cl_Works T.na_Works_right wf_right (rdN q hq (rf_no (by decide +kernel)) ⟨q, t, r, told, rfl, W.rt, fun l1 H1 n1 c1 s1 => ?_⟩))
      refine (rdE rfl (rdE rfl ⟨by show 2 ≤ sizeLine; decide, fun l2 e2 => ?_⟩))
      have n12 : l1 ≠ l2 := ne_of_none c1 e2
      have s2 : L2.Same H (upd H1 l2 (.lst [V.int g, V.int c])) := same_upd s1 e2
      refine ⟨_, _, _, _, rfl, rfl, by rw [upd_ne n12]; exact c1, upd_same, by show 6 + 2 ≤ sizeLine; decide, fun l3 e3 => ?_⟩
      refine z l3 _ (L2.Same.free s2 e3) ?_ (same_upd s2 e3)
      rw [upd_same]
      unfold eightM
      rw [hg, hc]
      simp [vInts]
    have second : ∀ g : Int, (if r.green = true then k.gt else 0) = g →
        (tSeq (tAsg (tIf (tB (tMeth A.c_Works "is_asked" (spAsked A) [] E0 (tVar 0) tNil)) (tC (.int 1)) (tC (.int 0))) (gName 2))
          (tRet (tOp rCat (tMeth A.c_Right "rl_state" (spSix A.c_Right) [] E0 (tFld K (tVar 0) "right") tNil) (tLst (tCons (tVar 1) (tCons (tVar 2) tNil))))))
          { nx := fun _ H' => Q .non H', rt := Q } [some (.ref p), some (.int g), none] H := by
      intro g hg
      refine (rdM p rfl hp (wf_no (by decide +kernel)) ⟨p, q, t, k, r, told, rfl, W, _, rfl, ?_⟩)
      refine ite2 (fun h => ?_) (fun h => ?_)
      · exact fin g 1 hg (if_pos h)
      · exact fin g 0 hg (if_neg h)
    refine (rdF p rfl hp T.cl_Works T.na_Works_right wf_right (rdG q hq T.cl_Right T.na_Right_green rf_green (rdE rfl ?_)))
    refine ite2 (fun h => ?_) (fun h => ?_)
    · exact (rdF p rfl hp T.cl_Works T.na_Works_green_ticks wf_gt (second k.gt (if_pos h)))
    · exact second 0 (if_neg h)
end
end Ol
/-! the mirror and the specification -/
namespace Ol
open PySem L2
noncomputable def RelRight : Km264.Right_ → Rt → Prop
  | .has g, r => r.st = 1 ∧ r.green = g
  | .gave h, r => r.st = 0 ∧ r.green = false ∧ r.had = h
  | .waits c, r => r.st = 2 ∧ r.green = false ∧ r.cnt = (c : Int)
theorem RelRight.of {x : Km264.Right_} {r r' : Rt} (h : RelRight x r) (e1 : r'.st = r.st) (e2 : r'.green = r.green) (e3 : r'.had = r.had) (e4 : r'.cnt = r.cnt) : RelRight x r' := by
  cases x with
  | has g => exact ⟨e1.trans h.1, e2.trans h.2⟩
  | gave g => exact ⟨e1.trans h.1, e2.trans h.2.1, e3.trans h.2.2⟩
  | waits c => exact ⟨e1.trans h.1, e2.trans h.2.1, e4.trans h.2.2⟩
structure RelE (e : Km264.End) (r : Rt) : Prop where
  me : r.me = (e.me : Int)
  turn : r.turn = (e.turn : Int)
  ins : r.ins = (e.ins : Int)
  outs : r.outs = (e.outs : Int)
  right : RelRight e.right r
  ticks : r.ticks % 10 = (e.ticks : Int)
  me1 : e.me ≤ 1
structure RelA (a : Km265.Abs) (k : Wk) (r : Rt) : Prop where
  e : RelE a.end_ r
  most : k.most = (a.most : Int)
  waiting : k.waiting = a.waiting
  ask : k.ask + 1 = (a.asks : Int)
  gt : a.end_.green = true → k.gt = (a.greenFor : Int)
  wg : k.wg = a.wasGreen
  wgh : a.wasGreen = true → a.end_.has = true
theorem RelE.ok {e : Km264.End} {r : Rt} (h : RelE e r) : r.Ok := ⟨by rw [h.me]; omega, by rw [h.turn]; omega, by rw [h.ins]; omega⟩
noncomputable abbrev shownAll (l : List Km264.Told) : List (List Int) := l.map Km265Neutral.shown
/-- a call of the right and its mirror -/
structure SameR (y : Km264.End × List Km264.Told × Km264.Ans) (x : Res) : Prop where
  e : RelE y.1 x.1
  told : x.2.1 = shownAll y.2.1
  ans : y.2.2 = .num x.2.2
theorem green_iff {e : Km264.End} {r : Rt} (h : RelE e r) : e.green = r.green := by
  obtain ⟨me, turn, ins, outs, right, ticks⟩ := e
  have q := h.right
  cases right with
  | has g =>
    obtain ⟨_, q2⟩ := q
    rw [q2]
    cases g <;> rfl
  | gave g =>
    obtain ⟨_, q2, _⟩ := q
    rw [q2]
    rfl
  | waits c =>
    obtain ⟨_, q2, _⟩ := q
    rw [q2]
    rfl
theorem has_iff {e : Km264.End} {r : Rt} (h : RelE e r) : e.has = decide (r.st = 1) := by
  obtain ⟨me, turn, ins, outs, right, ticks⟩ := e
  have q := h.right
  cases right with
  | has g =>
    obtain ⟨q1, _⟩ := q
    rw [q1]
    cases g <;> rfl
  | gave g =>
    obtain ⟨q1, _⟩ := q
    rw [q1]
    rfl
  | waits c =>
    obtain ⟨q1, _⟩ := q
    rw [q1]
    rfl
theorem has_of_green {e : Km264.End} (h : e.green = true) : e.has = true := by
  unfold Km264.End.has
  unfold Km264.End.green at h
  rw [h]
  simp
theorem right_has {e : Km264.End} (h : e.has = true) : e.right = .has e.green := by
  obtain ⟨me, turn, ins, outs, right, ticks⟩ := e
  cases right with
  | has g => cases g <;> rfl
  | gave g => exact absurd h (by simp [Km264.End.has])
  | waits c => exact absurd h (by simp [Km264.End.has])
theorem same_in {e : Km264.End} {r : Rt} (h : RelE e r) : SameR (e.does .in_) (mIn r) := by
  have g := green_iff h
  unfold mIn
  unfold Km264.End.does
  dsimp only
  rw [g]
  by_cases hg : r.green = true
  · simp only [if_pos hg]
    exact ⟨⟨h.me, h.turn, by show r.ins + 1 = _; rw [h.ins]; rfl, h.outs, h.right.of rfl rfl rfl rfl, h.ticks, h.me1⟩, rfl, rfl⟩
  · simp only [if_neg hg]
    exact ⟨⟨h.me, h.turn, by show r.ins + 1 = _; rw [h.ins]; rfl, h.outs, h.right.of rfl rfl rfl rfl, h.ticks, h.me1⟩, rfl, rfl⟩
theorem same_out {e : Km264.End} {r : Rt} (h : RelE e r) : SameR (e.does .out) (mOut r) := by
  obtain ⟨me, turn, ins, outs, right, ticks⟩ := e
  obtain ⟨h1, h2, h3, h4, q, h5, h6⟩ := h
  dsimp only at h1 h2 h3 h4 q h5 h6
  unfold mOut
  unfold Km264.End.does
  unfold Km264.End.settles
  dsimp only
  have ho : r.outs + 1 = ((outs + 1 : Nat) : Int) := by rw [h4]; rfl
  cases right with
  | has g =>
    obtain ⟨q1, q2⟩ := q
    rw [if_neg (by rw [q1]; simp)]
    exact ⟨⟨h1, h2, h3, ho, ⟨q1, q2⟩, h5, h6⟩, rfl, rfl⟩
  | gave g =>
    obtain ⟨q1, q2⟩ := q
    rw [if_neg (by rw [q1]; simp)]
    exact ⟨⟨h1, h2, h3, ho, ⟨q1, q2⟩, h5, h6⟩, rfl, rfl⟩
  | waits c =>
    obtain ⟨q1, q2, q3⟩ := q
    dsimp only
    by_cases hc : c ≤ outs + 1
    · rw [if_pos hc, if_pos (show r.st = 2 ∧ r.cnt ≤ r.outs + 1 from ⟨q1, by rw [q3, ho]; omega⟩)]
      exact ⟨⟨h1, h2, h3, ho, ⟨rfl, q2⟩, h5, h6⟩, rfl, rfl⟩
    · rw [if_neg hc, if_neg (show ¬ (r.st = 2 ∧ r.cnt ≤ r.outs + 1) from by rintro ⟨_, z⟩; rw [q3, ho] at z; omega)]
      exact ⟨⟨h1, h2, h3, ho, ⟨q1, q2, q3⟩, h5, h6⟩, rfl, rfl⟩
theorem same_red {e : Km264.End} {r : Rt} (h : RelE e r) : SameR (e.does .red) (mRed r) := by
  have g := green_iff h
  unfold mRed
  unfold Km264.End.does
  dsimp only
  rw [g]
  by_cases hg : r.green = true
  · simp only [hg, if_true]
    have hh : e.has = true := has_of_green (g.trans hg)
    have st : r.st = 1 := by have := has_iff h; rw [hh] at this; simpa using this.symm
    exact ⟨⟨h.me, h.turn, h.ins, h.outs, ⟨st, rfl⟩, h.ticks, h.me1⟩, rfl, rfl⟩
  · simp only [if_neg hg]
    exact ⟨h, rfl, rfl⟩
theorem same_green {e : Km264.End} {r : Rt} (h : RelE e r) : SameR (e.does .green) (mGreen r) := by
  have g := green_iff h
  have s := has_iff h
  unfold mGreen
  unfold Km264.End.does
  dsimp only
  rw [g, s]
  by_cases hs : r.st = 1
  · simp only [hs, decide_true, if_true]
    rw [if_neg (by simp)]
    by_cases hg : r.green = true
    · simp only [hg, if_true]
      exact ⟨h, rfl, rfl⟩
    · simp only [if_neg hg]
      exact ⟨⟨h.me, h.turn, h.ins, h.outs, ⟨rfl, rfl⟩, h.ticks, h.me1⟩, rfl, rfl⟩
  · simp only [hs, decide_false, if_true, if_false]
    exact ⟨h, rfl, rfl⟩
theorem msgI_of {kd of tn ct : Nat} : msgI kd of tn ct = Km265Neutral.nums (Km264.Msg.bytes ⟨kd, of, tn, ct⟩) := rfl
theorem same_give {e : Km264.End} {r : Rt} (h : RelE e r) : SameR (e.does .give) (mGive r) := by
  have g := green_iff h
  have s := has_iff h
  unfold mGive
  unfold Km264.End.does
  dsimp only
  rw [g, s]
  by_cases hs : r.st = 1
  · simp only [hs, decide_true, if_true]
    rw [if_neg (by simp)]
    by_cases hg : r.green = true
    · simp only [hg, if_true]
      exact ⟨h, rfl, rfl⟩
    · simp only [if_neg hg]
      have ht : r.turn + 1 = ((e.turn + 1 : Nat) : Int) := by rw [h.turn]; rfl
      refine ⟨⟨h.me, ht, h.ins, h.outs, ⟨rfl, by simpa using hg, rfl⟩, h.ticks, h.me1⟩, ?_, rfl⟩
      show [0 :: msgI 1 r.me (r.turn + 1) r.ins] = _
      rw [h.me, ht, h.ins]
      rfl
  · simp only [hs, decide_false, if_true, if_false]
    exact ⟨h, rfl, rfl⟩
theorem asked_iff {a : Km265.Abs} {k : Wk} {r : Rt} (h : RelA a k r) : a.asked = askedM k r := by
  unfold Km265.Abs.asked askedM
  rw [has_iff h.e]
  congr 1
  rw [decide_eq_decide]
  have h1 := h.e.turn
  have h2 := h.ask
  omega
/-! ### what the object does: its Right does it -/
theorem does_rel {a : Km265.Abs} {k : Wk} {r : Rt} {c : Km264.Call} {x : Res} (h : RelA a k r) (s : SameR (a.end_.does c) x) (hw : a.wasGreen = true → (a.end_.does c).1.has = true)
    (hg : (a.end_.does c).1.green = true → a.end_.green = true) : RelA (a.does c).1 k x.1 := by
  refine ⟨s.e, h.most, h.waiting, h.ask, fun z => ?_, ?_, fun z => ?_⟩
  · have z' : (a.end_.does c).1.green = true := z
    show k.gt = ((if (a.end_.does c).1.green = true then a.greenFor else 0 : Nat) : Int)
    rw [if_pos z']
    exact h.gt (hg z')
  · show k.wg = (a.wasGreen && (a.end_.has && (a.end_.does c).1.has))
    rw [h.wg]
    by_cases q : a.wasGreen = true
    · rw [q, h.wgh q, hw q]
      rfl
    · have q' : a.wasGreen = false := by simpa using q
      rw [q']
      rfl
  · have z' : (a.wasGreen && (a.end_.has && (a.end_.does c).1.has)) = true := z
    exact (Bool.and_eq_true_iff.mp (Bool.and_eq_true_iff.mp z').2).2
/-- looked at, with nothing told before -/
structure SameL (y : Km265.Abs × List Km264.Told) (x : Wk × Rt × List (List Int)) : Prop where
  rel : RelA y.1 x.1 x.2.1
  told : x.2.2 = shownAll y.2
theorem look_told (a : Km265.Abs) (ts : List Km264.Told) : Km265.look (a, ts) = ((Km265.look (a, [])).1, ts ++ (Km265.look (a, [])).2) := by
  unfold Km265.look Km265.then_
  dsimp only
  by_cases h1 : a.end_.green = true ∧ a.asked = true ∧ a.most ≤ a.greenFor
  · simp only [if_pos h1, List.nil_append]
    split
    · split
      · simp
      · split <;> simp
    · simp
  · simp only [if_neg h1, List.nil_append]
    split
    · split
      · simp
      · split <;> simp
    · simp
theorem red_facts {e : Km264.End} (h : e.green = true) : (e.does .red).1 = { e with right := .has false } := by
  unfold Km264.End.does
  dsimp only
  rw [if_pos h]
theorem look_same {a : Km265.Abs} {k : Wk} {r : Rt} (h : RelA a k r) : SameL (Km265.look (a, [])) (mLook k r) := by
  -- the second half, from any state
  have half : ∀ (a : Km265.Abs) (r : Rt) (ts : List Km264.Told), RelA a k r → SameL (let s := (a, ts)
      if a.end_.has = true ∧ a.end_.green = false then
        if a.asked = true ∧ (a.waiting = false ∨ a.wasGreen = true) then Km265.then_ s .give
        else if a.waiting = true then (let t := Km265.then_ s .green
          ({ t.1 with wasGreen := true, greenFor := 0 }, t.2)) else s
      else s) ((look2 k r).1, (look2 k r).2.1, shownAll ts ++ (look2 k r).2.2) := by
    intro a r ts h
    have g := green_iff h.e
    have s := has_iff h.e
    have q := asked_iff h
    unfold look2
    dsimp only
    by_cases c1 : a.end_.has = true ∧ a.end_.green = false
    · rw [if_pos c1]
      have d1 : ¬ (!decide (r.st = 1) || r.green) = true := by
        rw [← s, ← g, c1.1, c1.2]
        decide
      rw [if_neg d1]
      by_cases c2 : a.asked = true ∧ (a.waiting = false ∨ a.wasGreen = true)
      · rw [if_pos c2]
        have d2 : (askedM k r && (!k.waiting || k.wg)) = true := by
          rw [← q, h.waiting, h.wg, c2.1]
          rcases c2.2 with z | z
          · rw [z]; rfl
          · rw [z]; simp
        rw [if_pos d2]
        have sg := same_give h.e
        have hgv : (a.end_.does .give).1 = { a.end_ with turn := a.end_.turn + 1, right := .gave false } := by
          unfold Km264.End.does
          dsimp only
          rw [if_neg (by rw [c1.1]; decide), if_neg (by rw [c1.2]; decide)]
        refine ⟨⟨sg.e, h.most, h.waiting, h.ask, fun z => ?_, ?_, fun z => ?_⟩, ?_⟩
        · have z' : (a.end_.does .give).1.green = true := z
          rw [hgv] at z'
          exact absurd z' (by simp [Km264.End.green])
        · show false = (a.wasGreen && (a.end_.has && (a.end_.does .give).1.has))
          rw [hgv]
          simp [Km264.End.has]
        · have z' : (a.wasGreen && (a.end_.has && (a.end_.does .give).1.has)) = true := z
          rw [hgv] at z'
          simp [Km264.End.has] at z'
        · show shownAll ts ++ (mGive r).2.1 = shownAll (ts ++ (a.end_.does .give).2.1)
          rw [sg.told]
          simp [shownAll]
      · rw [if_neg c2]
        have d2 : ¬ (askedM k r && (!k.waiting || k.wg)) = true := by
          rw [← q, h.waiting, h.wg]
          intro z
          obtain ⟨z1, z2⟩ := Bool.and_eq_true_iff.mp z
          rcases Bool.or_eq_true_iff.mp z2 with z3 | z3
          · exact c2 ⟨z1, .inl (by simpa using z3)⟩
          · exact c2 ⟨z1, .inr z3⟩
        rw [if_neg d2]
        by_cases c3 : a.waiting = true
        · rw [if_pos c3, if_pos (show k.waiting = true by rw [h.waiting]; exact c3)]
          have sg := same_green h.e
          have hgv : (a.end_.does .green).1 = { a.end_ with right := .has true } := by
            unfold Km264.End.does
            dsimp only
            rw [if_neg (by rw [c1.1]; decide), if_neg (by rw [c1.2]; decide)]
          refine ⟨⟨sg.e, h.most, h.waiting, h.ask, fun z => rfl, rfl, fun z => ?_⟩, ?_⟩
          · show (a.end_.does .green).1.has = true
            rw [hgv]
            simp [Km264.End.has]
          · show shownAll ts ++ (mGreen r).2.1 = shownAll (ts ++ (a.end_.does .green).2.1)
            rw [sg.told]
            simp [shownAll]
        · rw [if_neg c3, if_neg (show ¬ k.waiting = true by rw [h.waiting]; exact c3)]
          exact ⟨h, by simp⟩
    · rw [if_neg c1]
      have d1 : (!decide (r.st = 1) || r.green) = true := by
        rw [← s, ← g]
        by_cases z : a.end_.has = true
        · have z2 : a.end_.green = true := by
            by_cases y : a.end_.green = true
            · exact y
            · exact absurd ⟨z, by simpa using y⟩ c1
          rw [z2]
          simp
        · have z2 : a.end_.has = false := by simpa using z
          rw [z2]
          rfl
      rw [if_pos d1]
      exact ⟨h, by simp⟩
  have g := green_iff h.e
  have q := asked_iff h
  unfold mLook
  unfold Km265.look
  dsimp only
  by_cases c : a.end_.green = true ∧ a.asked = true ∧ a.most ≤ a.greenFor
  · have d : (r.green && (askedM k r && decide (k.most ≤ k.gt))) = true := by
      rw [← g, ← q, c.1, c.2.1, h.most, h.gt c.1]
      simpa using c.2.2
    have el : look1 k r = ((mRed r).1, (mRed r).2.1) := by unfold look1; rw [if_pos d]
    rw [el]
    rw [if_pos c]
    have sr := same_red h.e
    have hh := has_of_green c.1
    have R := does_rel h sr (fun z => by rw [red_facts c.1]; simp [Km264.End.has]) (fun z => c.1)
    have := half (Km265.then_ (a, []) .red).1 (mRed r).1 (Km265.then_ (a, []) .red).2 R
    have et : shownAll (Km265.then_ (a, []) .red).2 = (mRed r).2.1 := by
      rw [sr.told]
      rfl
    rw [et] at this
    exact this
  · have d : ¬ (r.green && (askedM k r && decide (k.most ≤ k.gt))) = true := by
      rw [← g, ← q]
      intro z
      obtain ⟨z1, z2⟩ := Bool.and_eq_true_iff.mp z
      obtain ⟨z3, z4⟩ := Bool.and_eq_true_iff.mp z2
      refine c ⟨z1, z3, ?_⟩
      have z5 := of_decide_eq_true z4
      rw [h.most, h.gt z1] at z5
      omega
    have el : look1 k r = (r, []) := by unfold look1; rw [if_neg d]
    rw [el]
    rw [if_neg c]
    have := half a r [] h
    exact this
end Ol
/-! the calls of a list, the machine step by step, how long answers are -/
namespace MX
open Km264 (Told)
/-- the seven forms of a call -/
inductive Form : List (List Int) → Km265.Call → Prop
  | start (me most : Int) (h1 : 0 ≤ me) (h2 : 0 ≤ most) : Form [[0, me, most]] (.start me.toNat most.toNat)
  | in_ : Form [[1]] .in_
  | out : Form [[2]] .out
  | waiting (yes : Int) (h : 0 ≤ yes) : Form [[3, yes]] (.waiting yes.toNat)
  | heard (m : List Int) (h : ∀ z ∈ m, 0 ≤ z ∧ z < 256) : Form [[4], m] (.heard (Km265Neutral.nats m) m.length)
  | tick : Form [[5]] .tick
  | state : Form [[6]] .state
theorem natural_iff {z : Int} {b : Nat} (h : Km265Neutral.natural z b = true) : 0 ≤ z ∧ z < 2 ^ b := by
  unfold Km265Neutral.natural at h
  obtain ⟨h1, h2⟩ := Bool.and_eq_true_iff.mp h
  exact ⟨of_decide_eq_true h1, of_decide_eq_true h2⟩
theorem split7 (c : List (List Int)) : PyKm265.whole c = c ∧ (Km265Neutral.asked1 c = true → ∃ x, Form c x ∧ Km265Neutral.callOf c = some x) := by
  have no : ∀ {P : Prop}, false = true → P := fun e => absurd e Bool.false_ne_true
  rcases c with _ | ⟨_ | ⟨z, t⟩, l⟩
  · exact ⟨rfl, fun h => no h⟩
  · exact ⟨rfl, fun h => no h⟩
  · rcases z with (_ | _ | _ | _ | _ | _ | _ | n) | n <;> rcases t with _ | ⟨x, _ | ⟨y, _ | ⟨u, t⟩⟩⟩ <;> rcases l with _ | ⟨b, _ | ⟨d, l⟩⟩ <;> first | exact ⟨rfl, fun h => no h⟩ | skip
    · refine ⟨rfl, fun h => ?_⟩
      obtain ⟨h1, h2⟩ := Bool.and_eq_true_iff.mp (show (Km265Neutral.natural x 32 && Km265Neutral.natural y 32) = true from h)
      exact ⟨_, .start x y (natural_iff h1).1 (natural_iff h2).1, rfl⟩
    · exact ⟨rfl, fun _ => ⟨_, .in_, rfl⟩⟩
    · exact ⟨rfl, fun _ => ⟨_, .out, rfl⟩⟩
    · exact ⟨rfl, fun h => ⟨_, .waiting x (natural_iff (z := x) (b := 32) h).1, rfl⟩⟩
    · refine ⟨rfl, fun h => ⟨_, .heard b fun z hz => ?_, rfl⟩⟩
      have := natural_iff (List.all_eq_true.mp (show (b.all fun z => Km265Neutral.natural z 8) = true from h) z hz)
      exact ⟨this.1, by have := this.2; omega⟩
    · exact ⟨rfl, fun _ => ⟨_, .tick, rfl⟩⟩
    · exact ⟨rfl, fun _ => ⟨_, .state, rfl⟩⟩
theorem whole_id (c : List (List Int)) : PyKm265.whole c = c := (split7 c).1
theorem form_of {c : List (List Int)} (h : Km265Neutral.asked1 c = true) : ∃ x, Form c x ∧ Km265Neutral.callOf c = some x := (split7 c).2 h
theorem asked_cs {ns : List Int} (h : PyKm265.answers_asked ns = true) : ∃ cs, ns = PyFlat.put cs ∧ PyKm265.answers ns = PyFlat.told (PyFlat.played Km265Neutral.step Km265Neutral.start cs) ∧ cs.length ≤ 1000 ∧
    (∀ c ∈ cs, Km265Neutral.asked1 c = true) ∧ Km265Neutral.may Km265Neutral.start cs = true := by
  have hc : ∀ cs, PyFlat.calls PyKm265.shape ns.length ns = some cs → PyKm265.calls ns = some cs := fun cs e => by
    unfold PyKm265.calls
    rw [e]
    have e1 : cs.map PyKm265.whole = cs := by
      rw [List.map_congr_left (g := id) fun c _ => whole_id c]
      simp
    show some (cs.map PyKm265.whole) = some cs
    rw [e1]
  unfold PyKm265.answers_asked at h
  cases e : PyFlat.calls PyKm265.shape ns.length ns with
  | none =>
    have : PyKm265.calls ns = none := by
      unfold PyKm265.calls
      rw [e]
    rw [this] at h
    cases h
  | some cs =>
    have e2 := hc cs e
    rw [e2] at h
    have h' : (PyFlat.atMost 1000 cs && Km265Neutral.asked cs) = true := h
    obtain ⟨h1, h2⟩ := Bool.and_eq_true_iff.mp h'
    unfold Km265Neutral.asked at h2
    obtain ⟨h3, h4⟩ := Bool.and_eq_true_iff.mp h2
    obtain ⟨h5, h6⟩ := Bool.and_eq_true_iff.mp h4
    obtain ⟨h7, h8⟩ := Bool.and_eq_true_iff.mp h6
    refine ⟨cs, (PyFlat.put_calls _ _ _ e).1, ?_, of_decide_eq_true h5, fun c hc => List.all_eq_true.mp h7 c hc, h8⟩
    unfold PyKm265.answers
    rw [e2]
/-! ### one step of the machine, from none too -/
noncomputable def absOf (S : Km265Neutral.S) : Km265.Abs := S.getD (Km265.start 0 1)
theorem step_of {S : Km265Neutral.S} {c : List (List Int)} {x : Km265.Call} (hc : Km265Neutral.callOf c = some x) (hs : ((Km265Neutral.step S c).2.isEmpty) = false) :
    (Km265Neutral.step S c).2 = Km265Neutral.told (Km265.act (absOf S) x).2 ∧ absOf (Km265Neutral.step S c).1 = (Km265.act (absOf S) x).1 := by
  unfold Km265Neutral.step at hs ⊢
  rw [hc] at hs ⊢
  cases S with
  | some a => exact ⟨rfl, rfl⟩
  | none =>
    dsimp only at hs ⊢
    by_cases hx : Km265Neutral.isStart x = true
    · rw [if_pos hx]
      refine ⟨rfl, ?_⟩
      cases x with
      | start me most =>
        have e : Km265.act (Km265.start 0 1) (.start me most) = if 1 < me ∨ most = 0 ∨ 1000 < most then (Km265.start 0 1, [], .num (-22)) else (Km265.start me most, [.light 0], .num 0) := rfl
        show absOf (if (Km265Neutral.told (Km265.act (Km265.start 0 1) (.start me most)).2).headD 0 < 0 then none else some (Km265.act (Km265.start 0 1) (.start me most)).1) = (Km265.act (Km265.start 0 1) (.start me most)).1
        generalize Km265.act (Km265.start 0 1) (.start me most) = y at e ⊢
        by_cases q : 1 < me ∨ most = 0 ∨ 1000 < most
        · rw [if_pos q] at e
          subst e
          rfl
        · rw [if_neg q] at e
          subst e
          rfl
      | in_ => cases hx
      | out => cases hx
      | waiting y => cases hx
      | heard m n => cases hx
      | tick => cases hx
      | state => cases hx
    · rw [if_neg hx] at hs
      cases hs
theorem may_cons {S : Km265Neutral.S} {c : List (List Int)} {cs : List (List (List Int))} (h : Km265Neutral.may S (c :: cs) = true) : ((Km265Neutral.step S c).2.isEmpty) = false ∧ Km265Neutral.may (Km265Neutral.step S c).1 cs = true := by
  have h' : (!((Km265Neutral.step S c).2.isEmpty) && Km265Neutral.may (Km265Neutral.step S c).1 cs) = true := h
  obtain ⟨h1, h2⟩ := Bool.and_eq_true_iff.mp h'
  exact ⟨by simpa using h1, h2⟩
/-! ### how long an answer is -/
theorem len_bytes (m : Km264.Msg) : m.bytes.length = 16 := by
  simp [Km264.Msg.bytes, Km264.Msg.half, le4]
noncomputable def Small (t : Told) : Prop := (Km265Neutral.shown t).length ≤ 17
theorem small_send (m : Km264.Msg) : Small (.send m.bytes) := by
  show (0 :: Km265Neutral.nums m.bytes).length ≤ 17
  simp [Km265Neutral.nums, len_bytes]
theorem small_light (g : Nat) : Small (.light g) := by
  show 2 ≤ 17
  decide
theorem small_tells (g : Nat) : Small (.tells g) := by
  show 2 ≤ 17
  decide
structure Few (n : Nat) (ts : List Told) : Prop where
  len : ts.length ≤ n
  all : ∀ t ∈ ts, Small t
theorem few_nil (n : Nat) : Few n [] := ⟨Nat.zero_le _, fun t h => by cases h⟩
theorem few_one {n : Nat} {t : Told} (h : Small t) : Few (n + 1) [t] := ⟨Nat.succ_le_succ (Nat.zero_le _), fun u hu => by
  cases hu with
  | head => exact h
  | tail _ q => cases q⟩
theorem Few.app {n m : Nat} {a b : List Told} (h : Few n a) (k : Few m b) : Few (n + m) (a ++ b) := ⟨by rw [List.length_append]; exact Nat.add_le_add h.len k.len, fun t ht => (List.mem_append.mp ht).elim (h.all t) (k.all t)⟩
theorem Few.up {n m : Nat} {a : List Told} (h : Few n a) (k : n ≤ m) : Few m a := ⟨Nat.le_trans h.len k, h.all⟩
theorem few_ite {c : Prop} [Decidable c] {n : Nat} {a b : List Told} (h : Few n a) (k : Few n b) : Few n (if c then a else b) := by
  split
  · exact h
  · exact k
theorem few_settles (e : Km264.End) : Few 1 e.settles.2 := by
  unfold Km264.End.settles
  split
  · split
    · exact few_one (small_tells 1)
    · exact few_nil 1
  · exact few_nil 1
theorem few_does (e : Km264.End) (c : Km264.Call) : Few 2 (e.does c).2.1 := by
  unfold Km264.End.does
  split
  · split
    · exact few_nil 2
    · exact few_one (small_light 0)
  · split
    · exact few_nil 2
    · split
      · exact few_nil 2
      · exact few_one (small_light 1)
  · split
    · exact few_one (small_light 0)
    · exact few_nil 2
  · exact few_ite (few_nil 2) (few_one (small_tells 2))
  · exact (few_settles _).up (by decide)
  · split
    · exact few_nil 2
    · split
      · exact few_nil 2
      · exact few_one (small_send _)
  · split
    · exact few_nil 2
    · split
      · refine Few.app (n := 1) (m := 1) ?_ (few_ite (few_one (small_send _)) (few_nil 1))
        split
        · exact few_settles _
        · exact few_nil 1
      · exact few_nil 2
  · exact few_ite (few_one (small_send _)) (few_nil 2)
  · exact few_nil 2
theorem few_then {n : Nat} {s : Km265.Abs × List Told} (h : Few n s.2) (c : Km264.Call) : Few (n + 2) (Km265.then_ s c).2 := h.app (few_does s.1.end_ c)
theorem few_look {n : Nat} {s : Km265.Abs × List Told} (h : Few n s.2) : Few (n + 4) (Km265.look s).2 := by
  have half : ∀ s : Km265.Abs × List Told, Few (n + 2) s.2 → Few (n + 4) (if s.1.end_.has = true ∧ s.1.end_.green = false then
    if s.1.asked = true ∧ (s.1.waiting = false ∨ s.1.wasGreen = true) then Km265.then_ s .give
    else if s.1.waiting = true then (let t := Km265.then_ s .green
      ({ t.1 with wasGreen := true, greenFor := 0 }, t.2)) else s
    else s).2 := by
    intro s h
    split
    · split
      · exact few_then h _
      · split
        · exact few_then (c := .green) h
        · exact h.up (by omega)
    · exact h.up (by omega)
  unfold Km265.look
  dsimp only
  refine half _ ?_
  split
  · exact few_then h _
  · exact h.up (by omega)
theorem few_act (a : Km265.Abs) (x : Km265.Call) : Few 9 (Km265.act a x).2.1 := by
  unfold Km265.act
  split
  · split
    · exact few_nil 9
    · exact few_one (small_light 0)
  · exact (few_look (n := 2) (few_does _ _)).up (by decide)
  · exact (few_look (n := 2) (few_does _ _)).up (by decide)
  · split
    · exact few_nil 9
    · exact (few_look (n := 2) (few_nil _)).up (by decide)
  · split
    · exact (few_look (n := 2) (few_nil _)).up (by decide)
    · dsimp only
      split
      · exact (few_look (n := 2) (few_does _ _)).up (by decide)
      · exact few_nil 9
  · dsimp only
    exact (few_look (n := 3) ((few_does a.end_ .tick).app (few_ite (few_one (n := 0) (small_send _)) (few_nil 1)))).up (by decide)
  · exact few_nil 9
theorem flat_len : ∀ {ts : List Told}, (∀ t ∈ ts, Small t) → (ts.flatMap Km265Neutral.shown).length ≤ 17 * ts.length
  | [], _ => Nat.zero_le _
  | t :: ts, h => by
    have h1 := h t List.mem_cons_self
    have h2 := flat_len (ts := ts) fun u hu => h u (List.mem_cons_of_mem _ hu)
    unfold Small at h1
    rw [List.flatMap_cons, List.length_append, List.length_cons]
    omega
theorem six_len (e : Km264.End) : (Km265.six e).length = 6 := by
  unfold Km265.six Km264.End.does
  rfl
theorem heard_num (e : Km264.End) (l : List Nat) (n : Nat) : ∃ v, (e.does (.heard l n)).2.2 = .num v := by
  unfold Km264.End.does
  dsimp only
  split
  · exact ⟨_, rfl⟩
  · split
    · exact ⟨_, rfl⟩
    · exact ⟨_, rfl⟩
theorem ans_len (a : Km265.Abs) (x : Km265.Call) : ∀ l, (Km265.act a x).2.2 = .words l → l.length ≤ 8 := by
  intro l h
  unfold Km265.act at h
  split at h
  · split at h <;> cases h
  · cases h
  · have h' : (a.end_.does .out).2.2 = .words l := h
    cases h'
  · split at h <;> cases h
  · split at h
    · cases h
    · dsimp only at h
      split at h
      · cases h
      · rename_i l' n' _ _ _
        obtain ⟨v, hv⟩ := heard_num a.end_ l' n'
        have h' : (a.end_.does (.heard l' n')).2.2 = .words l := h
        rw [hv] at h'
        cases h'
  · cases h
  · have h' : (Km264.Ans.words (Km265.six a.end_ ++ [if a.end_.green = true then a.greenFor else 0, Km264.b2n a.asked])) = .words l := h
    injection h' with h'
    rw [← h', List.length_append, six_len]
    exact Nat.le_refl 8
theorem told_len (a : Km265.Abs) (x : Km265.Call) : (Km265Neutral.told (Km265.act a x).2).length ≤ 170 := by
  have f := few_act a x
  have h1 := flat_len f.all
  have h2 := f.len
  have h3 := ans_len a x
  unfold Km265Neutral.told
  rw [List.length_append, List.length_cons]
  cases e : (Km265.act a x).2.2 with
  | num v =>
    show 1 + _ ≤ _
    omega
  | words l =>
    have := h3 l e
    show (0 :: Km265Neutral.nums l).length + _ ≤ _
    rw [List.length_cons, Km265Neutral.nums, List.length_map]
    omega
/-! ### calls one after another -/
noncomputable def after (S : Km265Neutral.S) : List (List (List Int)) → Km265Neutral.S
  | [] => S
  | c :: r => after (Km265Neutral.step S c).1 r
theorem after_snoc : ∀ (S : Km265Neutral.S) (l : List (List (List Int))) (c : List (List Int)), after S (l ++ [c]) = (Km265Neutral.step (after S l) c).1
  | _, [], _ => rfl
  | S, d :: l, c => after_snoc (Km265Neutral.step S d).1 l c
theorem played_snoc : ∀ (S : Km265Neutral.S) (l : List (List (List Int))) (c : List (List Int)), PyFlat.played Km265Neutral.step S (l ++ [c]) = PyFlat.played Km265Neutral.step S l ++ [(Km265Neutral.step (after S l) c).2]
  | _, [], _ => rfl
  | S, d :: l, c => by
    show (Km265Neutral.step S d).2 :: PyFlat.played Km265Neutral.step (Km265Neutral.step S d).1 (l ++ [c]) = _
    rw [played_snoc (Km265Neutral.step S d).1 l c]
    rfl
theorem told_snoc (l : List (List Int)) (a : List Int) : PyFlat.told (l ++ [a]) = PyFlat.told l ++ ((a.length : Int) :: a) := by
  simp [PyFlat.told]
theorem put_append : ∀ a b : List (List (List Int)), PyFlat.put (a ++ b) = PyFlat.put a ++ PyFlat.put b
  | [], _ => rfl
  | c :: a, b => by
    show PyFlat.put1 c ++ PyFlat.put (a ++ b) = (PyFlat.put1 c ++ PyFlat.put a) ++ PyFlat.put b
    rw [put_append a b, List.append_assoc]
theorem may_after : ∀ {S : Km265Neutral.S} {l r : List (List (List Int))}, Km265Neutral.may S (l ++ r) = true → Km265Neutral.may (after S l) r = true
  | _, [], _, h => h
  | S, c :: l, r, h => may_after (l := l) (may_cons h).2
/-- all answers together, so far -/
theorem told_bound : ∀ (S : Km265Neutral.S) (l : List (List (List Int))), (∀ c ∈ l, Km265Neutral.asked1 c = true) → Km265Neutral.may S l = true → (PyFlat.told (PyFlat.played Km265Neutral.step S l)).length ≤ 171 * l.length
  | _, [], _, _ => Nat.zero_le _
  | S, c :: l, h, m => by
    obtain ⟨m1, m2⟩ := may_cons m
    obtain ⟨x, _, hx⟩ := form_of (h c List.mem_cons_self)
    have e := (step_of hx m1).1
    have b := told_len (absOf S) x
    have ih := told_bound (Km265Neutral.step S c).1 l (fun d hd => h d (List.mem_cons_of_mem _ hd)) m2
    show (PyFlat.told ((Km265Neutral.step S c).2 :: PyFlat.played Km265Neutral.step (Km265Neutral.step S c).1 l)).length ≤ _
    have e2 : PyFlat.told ((Km265Neutral.step S c).2 :: PyFlat.played Km265Neutral.step (Km265Neutral.step S c).1 l) = (((Km265Neutral.step S c).2.length : Int) :: (Km265Neutral.step S c).2) ++ PyFlat.told (PyFlat.played Km265Neutral.step (Km265Neutral.step S c).1 l) := rfl
    rw [e2, List.length_append, List.length_cons, List.length_cons, e]
    omega
end MX
/-! the calls' mirrors and the specification; what a call of the right keeps -/
namespace Ol
open PySem L2
structure SameC (y : Km265.Abs × List Km264.Told × Km264.Ans) (x : CRes) : Prop where
  rel : RelA y.1 x.1 x.2.1
  told : x.2.2.1 = shownAll y.2.1
  ans : y.2.2 = .num x.2.2.2
theorem shown_app (a b : List Km264.Told) : shownAll (a ++ b) = shownAll a ++ shownAll b := List.map_append
/-- looked at, behind what was told before -/
theorem look_then {a : Km265.Abs} {k : Wk} {r : Rt} {ts : List Km264.Told} {xs : List (List Int)} {v : Int} (h : RelA a k r) (e : xs = shownAll ts) : SameC ((Km265.look (a, ts)).1, (Km265.look (a, ts)).2, .num v) (thenLook k (r, xs, v)) := by
  have l := look_same h
  rw [look_told a ts]
  refine ⟨l.rel, ?_, rfl⟩
  show xs ++ (mLook k r).2.2 = shownAll (ts ++ (Km265.look (a, [])).2)
  rw [shown_app, ← e, l.told]
/-! ### what stays: the right, the light -/
theorem settles_has {e : Km264.End} (h : e.has = true) : e.settles = (e, []) := by
  obtain ⟨me, turn, ins, outs, right, ticks⟩ := e
  cases right with
  | has g => rfl
  | gave g => exact absurd h (by simp [Km264.End.has])
  | waits c => exact absurd h (by simp [Km264.End.has])
theorem settles_green {e : Km264.End} (h : e.settles.1.green = true) : e.green = true := by
  obtain ⟨me, turn, ins, outs, right, ticks⟩ := e
  cases right with
  | has g => exact h
  | gave g => exact h
  | waits c =>
    unfold Km264.End.settles at h
    dsimp only at h
    split at h
    · exact absurd h (by simp [Km264.End.green])
    · exact h
theorem gave_has {e : Km264.End} (h : e.has = true) : e.gaveIt = false := by
  unfold Km264.End.gaveIt
  rw [right_has h]
theorem heard_has {e : Km264.End} {l : List Nat} {n : Nat} (h : e.has = true) : (e.does (.heard l n)).1 = e := by
  have g := gave_has h
  unfold Km264.End.does
  dsimp only
  split
  · rfl
  · split
    · rw [if_neg (by rw [g]; simp)]
    · rw [if_neg (by rw [g]; simp)]
theorem heard_green {e : Km264.End} {l : List Nat} {n : Nat} (h : (e.does (.heard l n)).1.green = true) : e.green = true := by
  by_cases q : e.has = true
  · rw [heard_has q] at h
    exact h
  · exfalso
    unfold Km264.End.does at h
    dsimp only at h
    split at h
    · exact q (has_of_green h)
    · split at h
      · dsimp only at h
        split at h
        · have := settles_green h
          simp [Km264.End.green] at this
        · exact q (has_of_green h)
      · dsimp only at h
        split at h
        · simp [Km264.End.green] at h
        · exact q (has_of_green h)
theorem same_cin {a : Km265.Abs} {k : Wk} {r : Rt} (h : RelA a k r) : SameC (Km265.act a .in_) (cIn k r) := by
  have s := same_in h.e
  have R := does_rel h s (fun z => h.wgh z) (fun z => z)
  have t := look_then (v := (mIn r).2.2) R s.told
  have e : (Km264.Ans.num (mIn r).2.2) = (a.does .in_).2.2 := s.ans.symm
  rw [e] at t
  exact t
theorem same_cout {a : Km265.Abs} {k : Wk} {r : Rt} (h : RelA a k r) : SameC (Km265.act a .out) (cOut k r) := by
  have s := same_out h.e
  have R := does_rel h s (fun z => ?_) (fun z => ?_)
  · have t := look_then (v := (mOut r).2.2) R s.told
    have e : (Km264.Ans.num (mOut r).2.2) = (a.does .out).2.2 := s.ans.symm
    rw [e] at t
    exact t
  · have q : ({ a.end_ with outs := a.end_.outs + 1 } : Km264.End).has = true := h.wgh z
    show (({ a.end_ with outs := a.end_.outs + 1 } : Km264.End).settles).1.has = true
    rw [settles_has q]
    exact q
  · exact settles_green (e := { a.end_ with outs := a.end_.outs + 1 }) z
theorem same_cwaiting {a : Km265.Abs} {k : Wk} {r : Rt} {yes : Int} (h : RelA a k r) (h0 : 0 ≤ yes) : SameC (Km265.act a (.waiting yes.toNat)) (cWaiting yes k r) := by
  unfold cWaiting Km265.act
  dsimp only
  by_cases c : 1 < yes
  · rw [if_pos c, if_pos (by omega)]
    exact ⟨h, rfl, rfl⟩
  · rw [if_neg c, if_neg (by omega)]
    have e : (yes.toNat == 1) = decide (yes = 1) := by
      rw [Bool.beq_eq_decide_eq, decide_eq_decide]
      omega
    refine look_then (v := 0) (ts := []) ?_ rfl
    exact ⟨h.e, h.most, e.symm, h.ask, h.gt, h.wg, h.wgh⟩
theorem same_cstart {a : Km265.Abs} {k : Wk} {r : Rt} {me most : Int} (h : RelA a k r) (h0 : 0 ≤ me) (h1 : 0 ≤ most) : SameC (Km265.act a (.start me.toNat most.toNat)) (cStart me most k r) := by
  unfold cStart Km265.act
  dsimp only
  by_cases c : 1 < me ∨ most < 1 ∨ 1000 < most
  · rw [if_pos c, if_pos (by omega)]
    exact ⟨h, rfl, rfl⟩
  · rw [if_neg c, if_neg (by omega)]
    have n : ¬ 1 < me := fun z => c (.inl z)
    unfold mStart
    rw [if_neg n]
    refine ⟨⟨⟨by show me = ((me.toNat : Nat) : Int); omega, rfl, rfl, rfl, ?_, rfl, by show me.toNat ≤ 1; omega⟩, by show most = ((most.toNat : Nat) : Int); omega, rfl, rfl, fun _ => rfl, rfl, fun z => by cases z⟩, rfl, rfl⟩
    show RelRight (if me.toNat = 0 then .has false else .gave true) (rt0 me)
    by_cases m : me = 0
    · rw [if_pos (by omega)]
      exact ⟨by show (if me = 0 then (1 : Int) else 0) = 1; rw [if_pos m], rfl⟩
    · rw [if_neg (by omega)]
      exact ⟨by show (if me = 0 then (1 : Int) else 0) = 0; rw [if_neg m], rfl, rfl⟩
end Ol
/-! what is heard, ticks and the state: the mirrors and the specification -/
namespace Ol
open PySem L2
theorem four_iff {s0 s1 s2 s3 c : Nat} (h0 : s0 < 256) (h1 : s1 < 256) (h2 : s2 < 256) (h3 : s3 < 256) (hc : c < 2 ^ 32) : [s0, s1, s2, s3] = Km264.le 4 c ↔ MX.num4 s0 s1 s2 s3 = c := by
  constructor
  · intro e
    rw [MX.le4] at e
    injection e with e0 e
    injection e with e1 e
    injection e with e2 e
    injection e with e3 e
    rw [e0, e1, e2, e3]
    exact MX.num4_le hc
  · intro e
    rw [← e, MX.le_num4 h0 h1 h2 h3]
theorem parse_sound {l : List Nat} (hb : ∀ b ∈ l, b < 256) : Km264.parse l = if l.length = 16 ∧ l.getD 2 0 = 0 ∧ l.getD 3 0 = 0 ∧ at4 l 12 = Km264.crc (l.take 12) then some ⟨l.getD 0 0, l.getD 1 0, at4 l 4, at4 l 8⟩ else none := by
  by_cases hl : l.length = 16
  · obtain ⟨a0, a1, a2, a3, a4, a5, a6, a7, a8, a9, b0, b1, b2, b3, b4, b5, rfl⟩ := MX.of16 hl
    have g : ∀ i, [a0, a1, a2, a3, a4, a5, a6, a7, a8, a9, b0, b1, b2, b3, b4, b5].getD i 0 < 256 := byte_d hb
    have c : Km264.crc [a0, a1, a2, a3, a4, a5, a6, a7, a8, a9, b0, b1] < 2 ^ 32 := MX.crc_lt fun b h => hb b (by
      have : [a0, a1, a2, a3, a4, a5, a6, a7, a8, a9, b0, b1, b2, b3, b4, b5] = [a0, a1, a2, a3, a4, a5, a6, a7, a8, a9, b0, b1] ++ [b2, b3, b4, b5] := rfl
      rw [this]
      exact List.mem_append_left _ h)
    rw [MX.parse16 (show a4 < 256 from g 4) (show a5 < 256 from g 5) (show a6 < 256 from g 6) (show a7 < 256 from g 7) (show a8 < 256 from g 8) (show a9 < 256 from g 9) (show b0 < 256 from g 10) (show b1 < 256 from g 11)]
    have f := four_iff (show b2 < 256 from g 12) (show b3 < 256 from g 13) (show b4 < 256 from g 14) (show b5 < 256 from g 15) c
    by_cases q : [a0, a1, a2, a3, a4, a5, a6, a7, a8, a9, b0, b1, b2, b3, b4, b5].length = 16 ∧ [a0, a1, a2, a3, a4, a5, a6, a7, a8, a9, b0, b1, b2, b3, b4, b5].getD 2 0 = 0 ∧ [a0, a1, a2, a3, a4, a5, a6, a7, a8, a9, b0, b1, b2, b3, b4, b5].getD 3 0 = 0 ∧ at4 [a0, a1, a2, a3, a4, a5, a6, a7, a8, a9, b0, b1, b2, b3, b4, b5] 12 = Km264.crc ([a0, a1, a2, a3, a4, a5, a6, a7, a8, a9, b0, b1, b2, b3, b4, b5].take 12)
    · rw [if_pos q, if_pos (show a2 = 0 ∧ a3 = 0 ∧ [b2, b3, b4, b5] = Km264.le 4 (Km264.crc [a0, a1, a2, a3, a4, a5, a6, a7, a8, a9, b0, b1]) from ⟨q.2.1, q.2.2.1, f.mpr q.2.2.2⟩)]
      rfl
    · rw [if_neg q, if_neg (show ¬ (a2 = 0 ∧ a3 = 0 ∧ [b2, b3, b4, b5] = Km264.le 4 (Km264.crc [a0, a1, a2, a3, a4, a5, a6, a7, a8, a9, b0, b1])) from fun z => q ⟨rfl, z.1, z.2.1, f.mp z.2.2⟩)]
  · unfold Km264.parse
    dsimp only
    rw [if_neg (fun z => hl z.1), if_neg (fun z => hl z.1)]
theorem sound_iff {l : List Nat} {me : Nat} (hm : me ≤ 1) : soundM l (1 - (me : Int)) = true ↔ (l.length = 16 ∧ l.getD 2 0 = 0 ∧ l.getD 3 0 = 0 ∧ at4 l 12 = Km264.crc (l.take 12)) ∧ l.getD 1 0 ≤ 1 ∧ l.getD 1 0 ≠ me := by
  unfold soundM
  rw [decide_eq_true_iff]
  constructor
  · rintro ⟨h1, h2, h3, h4, h5⟩
    exact ⟨⟨h1, h3, h4, h5⟩, by omega, by omega⟩
  · rintro ⟨⟨h1, h3, h4, h5⟩, h6, h7⟩
    exact ⟨h1, by omega, h3, h4, h5⟩
theorem rightOf_eq {l : List Nat} {me : Nat} (hb : ∀ b ∈ l, b < 256) (hm : me ≤ 1) : Km264.rightOf me l l.length = if rightR l (1 - (me : Int)) = true then some ⟨l.getD 0 0, l.getD 1 0, at4 l 4, at4 l 8⟩ else none := by
  unfold Km264.rightOf
  have s := sound_iff (l := l) hm
  by_cases hl : l.length = 16
  · rw [if_neg (fun z => z hl), parse_sound hb]
    by_cases q : l.length = 16 ∧ l.getD 2 0 = 0 ∧ l.getD 3 0 = 0 ∧ at4 l 12 = Km264.crc (l.take 12)
    · rw [if_pos q]
      dsimp only
      by_cases c : ((l.getD 0 0 = 1 ∨ l.getD 0 0 = 2 ∧ at4 l 8 = 0) ∧ l.getD 1 0 ≤ 1 ∧ l.getD 1 0 ≠ me ∧ at4 l 4 ≠ 0)
      · have so := s.mpr ⟨q, c.2.1, c.2.2.1⟩
        have e : rightR l (1 - (me : Int)) = true := by
          unfold rightR
          rw [so]
          have c4 := c.2.2.2
          rcases c.1 with c1 | c1
          · rw [decide_eq_false c4, decide_eq_true c1]
            rfl
          · rw [decide_eq_false c4, decide_eq_true c1.1, decide_eq_true c1.2]
            simp only [Bool.true_and, Bool.not_false, Bool.or_true, Bool.and_self]
        rw [if_pos c, if_pos e]
      · have e : ¬ rightR l (1 - (me : Int)) = true := by
          intro z
          unfold rightR at z
          obtain ⟨z1, z2⟩ := Bool.and_eq_true_iff.mp z
          obtain ⟨z3, z4⟩ := Bool.and_eq_true_iff.mp z2
          obtain ⟨_, y1, y2⟩ := s.mp z1
          refine c ⟨?_, y1, y2, by simpa using z3⟩
          rcases Bool.or_eq_true_iff.mp z4 with z5 | z5
          · exact .inl (of_decide_eq_true z5)
          · obtain ⟨z6, z7⟩ := Bool.and_eq_true_iff.mp z5
            exact .inr ⟨of_decide_eq_true z6, of_decide_eq_true z7⟩
        rw [if_neg c, if_neg e]
    · have e : ¬ rightR l (1 - (me : Int)) = true := fun z => q (s.mp (Bool.and_eq_true_iff.mp z).1).1
      rw [if_neg q, if_neg e]
  · have e : ¬ rightR l (1 - (me : Int)) = true := fun z => hl (right_len z)
    rw [if_pos hl, if_neg e]
theorem rightAsk_eq {l : List Nat} {me : Nat} (hb : ∀ b ∈ l, b < 256) (hm : me ≤ 1) : Km265.rightAsk me l l.length = if askR l (1 - (me : Int)) = true then some (at4 l 4) else none := by
  unfold Km265.rightAsk
  have s := sound_iff (l := l) hm
  by_cases hl : l.length = 16
  · rw [if_neg (fun z => z hl), parse_sound hb]
    by_cases q : l.length = 16 ∧ l.getD 2 0 = 0 ∧ l.getD 3 0 = 0 ∧ at4 l 12 = Km264.crc (l.take 12)
    · rw [if_pos q]
      dsimp only
      by_cases c : (l.getD 0 0 = 3 ∧ l.getD 1 0 ≤ 1 ∧ l.getD 1 0 ≠ me ∧ at4 l 8 = 0)
      · have e : askR l (1 - (me : Int)) = true := by
          unfold askR
          rw [s.mpr ⟨q, c.2.1, c.2.2.1⟩, decide_eq_true c.1, decide_eq_true c.2.2.2]
          rfl
        rw [if_pos c, if_pos e]
      · have e : ¬ askR l (1 - (me : Int)) = true := by
          intro z
          unfold askR at z
          obtain ⟨z1, z2⟩ := Bool.and_eq_true_iff.mp z
          obtain ⟨z3, z4⟩ := Bool.and_eq_true_iff.mp z2
          obtain ⟨_, y1, y2⟩ := s.mp z1
          exact c ⟨of_decide_eq_true z3, y1, y2, of_decide_eq_true z4⟩
        rw [if_neg c, if_neg e]
    · have e : ¬ askR l (1 - (me : Int)) = true := fun z => q (s.mp (Bool.and_eq_true_iff.mp z).1).1
      rw [if_neg q, if_neg e]
  · have e : ¬ askR l (1 - (me : Int)) = true := fun z => hl (sound_len (Bool.and_eq_true_iff.mp z).1)
    rw [if_pos hl, if_neg e]
theorem gave_iff {e : Km264.End} {r : Rt} (h : RelE e r) : e.gaveIt = decide (r.st = 0) := by
  have q := h.right
  unfold Km264.End.gaveIt
  cases er : e.right with
  | has g =>
    rw [er] at q
    rw [q.1]
    rfl
  | gave g =>
    rw [er] at q
    rw [q.1]
    rfl
  | waits c =>
    rw [er] at q
    rw [q.1]
    rfl
theorem same_settles {me turn ins outs c ticks : Nat} {r : Rt} (h : RelE ⟨me, turn, ins, outs, .waits c, ticks⟩ r) :
    RelE (Km264.End.settles ⟨me, turn, ins, outs, .waits c, ticks⟩).1 (mHave r).1 ∧ (mHave r).2 = shownAll (Km264.End.settles ⟨me, turn, ins, outs, .waits c, ticks⟩).2 := by
  obtain ⟨h1, h2, h3, h4, ⟨q1, q2, q3⟩, h5, h6⟩ := h
  dsimp only at h1 h2 h3 h4 q1 q2 q3 h5 h6
  unfold mHave Km264.End.settles
  dsimp only
  by_cases hc : c ≤ outs
  · rw [if_pos hc, if_pos (show r.cnt ≤ r.outs by rw [q3, h4]; omega)]
    exact ⟨⟨h1, h2, h3, h4, ⟨rfl, q2⟩, h5, h6⟩, rfl⟩
  · rw [if_neg hc, if_neg (show ¬ r.cnt ≤ r.outs by rw [q3, h4]; omega)]
    exact ⟨⟨h1, h2, h3, h4, ⟨q1, q2, q3⟩, h5, h6⟩, rfl⟩
theorem same_given1 {e : Km264.End} {r : Rt} (h : RelE e r) (tn ct : Nat) :
    RelE (if e.gaveIt = true ∧ tn = e.turn + 1 then ({ e with turn := tn, right := .waits ct } : Km264.End).settles else (e, [])).1 (mGiven1 tn ct r).1 ∧
    (mGiven1 tn ct r).2 = shownAll (if e.gaveIt = true ∧ tn = e.turn + 1 then ({ e with turn := tn, right := .waits ct } : Km264.End).settles else (e, [])).2 := by
  have g := gave_iff h
  have ht := h.turn
  unfold mGiven1
  by_cases c : e.gaveIt = true ∧ tn = e.turn + 1
  · have d : r.st = 0 ∧ (tn : Int) = r.turn + 1 := by
      refine ⟨?_, by rw [ht]; omega⟩
      have := c.1
      rw [g] at this
      exact of_decide_eq_true this
    rw [if_pos c, if_pos d]
    have gr : r.green = false := by
      have q := green_iff h
      rw [← q]
      cases er : e.green with
      | false => rfl
      | true =>
        have := gave_has (has_of_green er)
        rw [c.1] at this
        cases this
    exact same_settles ⟨h.me, rfl, h.ins, h.outs, ⟨rfl, gr, rfl⟩, h.ticks, h.me1⟩
  · have d : ¬ (r.st = 0 ∧ (tn : Int) = r.turn + 1) := by
      rintro ⟨d1, d2⟩
      refine c ⟨by rw [g]; exact decide_eq_true d1, ?_⟩
      rw [ht] at d2
      omega
    rw [if_neg c, if_neg d]
    exact ⟨h, rfl⟩
theorem same_heard {e : Km264.End} {r : Rt} (h : RelE e r) {l : List Nat} (hb : ∀ b ∈ l, b < 256) : SameR (e.does (.heard l l.length)) (mHeard l r) := by
  unfold mHeard
  unfold Km264.End.does
  dsimp only
  rw [rightOf_eq hb h.me1, h.me]
  by_cases c : rightR l (1 - (e.me : Int)) = true
  · rw [if_pos c, if_pos c]
    dsimp only
    by_cases k1 : l.getD 0 0 = 1
    · rw [if_pos k1, if_pos k1]
      obtain ⟨r1, t1⟩ := same_given1 h (at4 l 4) (at4 l 8)
      unfold mGiven
      generalize (if e.gaveIt = true ∧ at4 l 4 = e.turn + 1 then ({ e with turn := at4 l 4, right := .waits (at4 l 8) } : Km264.End).settles else (e, [])) = s at *
      generalize mGiven1 (at4 l 4 : Nat) (at4 l 8 : Nat) r = x at *
      refine ⟨r1, ?_, rfl⟩
      dsimp only
      rw [t1, shown_app]
      congr 1
      have g := gave_iff r1
      have ht := r1.turn
      by_cases d : s.1.gaveIt = false ∧ at4 l 4 = s.1.turn
      · rw [if_pos d, if_pos (show ¬ x.1.st = 0 ∧ ((at4 l 4 : Nat) : Int) = x.1.turn from ⟨by have := d.1; rw [g] at this; exact of_decide_eq_false this, by rw [ht, d.2]⟩)]
        rw [r1.me]
        rfl
      · rw [if_neg d, if_neg (show ¬ (¬ x.1.st = 0 ∧ ((at4 l 4 : Nat) : Int) = x.1.turn) from fun z => d ⟨by rw [g]; exact decide_eq_false z.1, by have := z.2; rw [ht] at this; omega⟩)]
        rfl
    · rw [if_neg k1, if_neg k1]
      have g := gave_iff h
      have ht := h.turn
      unfold mHad
      by_cases d : e.gaveIt = true ∧ at4 l 4 = e.turn
      · have st : r.st = 0 := by have := d.1; rw [g] at this; exact of_decide_eq_true this
        rw [if_pos d, if_pos (show r.st = 0 ∧ ((at4 l 4 : Nat) : Int) = r.turn from ⟨st, by rw [ht, d.2]⟩)]
        have gr : r.green = false := by
          have q := green_iff h
          rw [← q]
          cases er : e.green with
          | false => rfl
          | true =>
            have := gave_has (has_of_green er)
            rw [d.1] at this
            cases this
        exact ⟨⟨h.me, h.turn, h.ins, h.outs, ⟨st, gr, rfl⟩, h.ticks, h.me1⟩, rfl, rfl⟩
      · rw [if_neg d, if_neg (show ¬ (r.st = 0 ∧ ((at4 l 4 : Nat) : Int) = r.turn) from fun z => d ⟨by rw [g]; exact decide_eq_true z.1, by have := z.2; rw [ht] at this; omega⟩)]
        exact ⟨h, rfl, rfl⟩
  · rw [if_neg c, if_neg c]
    exact ⟨h, rfl, rfl⟩
theorem same_tick {e : Km264.End} {r : Rt} (h : RelE e r) : SameR (e.does .tick) (mTick r) := by
  have hk := h.ticks
  have tk : (r.ticks + 1) % 10 = (((e.ticks + 1) % 10 : Nat) : Int) := by omega
  unfold mTick
  unfold Km264.End.does
  dsimp only
  refine ⟨⟨h.me, h.turn, h.ins, h.outs, h.right.of rfl rfl rfl rfl, tk, h.me1⟩, ?_, rfl⟩
  dsimp only
  have q := h.right
  have gv : e.right = .gave false ↔ r.st = 0 ∧ r.had = false := by
    cases er : e.right with
    | has g =>
      rw [er] at q
      constructor
      · intro z; cases z
      · intro z; exact absurd (q.1.symm.trans z.1) (by decide)
    | gave g =>
      rw [er] at q
      constructor
      · intro z
        injection z with z
        exact ⟨q.1, by rw [q.2.2, z]⟩
      · intro z
        rw [← q.2.2, z.2]
    | waits c =>
      rw [er] at q
      constructor
      · intro z; cases z
      · intro z; exact absurd (q.1.symm.trans z.1) (by decide)
  by_cases c : (e.ticks + 1) % 10 = 0 ∧ e.right = .gave false
  · have d : (r.ticks + 1) % 10 = 0 ∧ r.st = 0 ∧ r.had = false := ⟨by rw [tk, c.1]; rfl, gv.mp c.2⟩
    rw [if_pos c, if_pos d, h.me, h.turn, h.ins]
    rfl
  · have d : ¬ ((r.ticks + 1) % 10 = 0 ∧ r.st = 0 ∧ r.had = false) := fun z => c ⟨by have := z.1; rw [tk] at this; omega, gv.mpr z.2⟩
    rw [if_neg c, if_neg d]
    rfl
theorem same_cheard {a : Km265.Abs} {k : Wk} {r : Rt} {l : List Nat} (h : RelA a k r) (hb : ∀ b ∈ l, b < 256) : SameC (Km265.act a (.heard l l.length)) (cHeard l k r) := by
  unfold cHeard Km265.act
  dsimp only
  rw [rightAsk_eq hb h.e.me1, h.e.me]
  by_cases c : askR l (1 - (a.end_.me : Int)) = true
  · rw [if_pos c, if_pos c]
    dsimp only
    refine look_then (v := 0) (ts := []) ?_ rfl
    refine ⟨h.e, h.most, h.waiting, ?_, h.gt, h.wg, h.wgh⟩
    have q := h.ask
    show maxM k.ask ((at4 l 4 : Nat) : Int) + 1 = ((max a.asks (at4 l 4 + 1) : Nat) : Int)
    unfold maxM
    split
    · omega
    · omega
  · rw [if_neg c, if_neg c]
    dsimp only
    have s := same_heard h.e hb
    have ea : (a.does (.heard l l.length)).2.2 = .num (mHeard l r).2.2 := s.ans
    by_cases d : (mHeard l r).2.2 = 0
    · rw [if_pos d, if_pos (show (a.does (.heard l l.length)).2.2 = .num 0 by rw [ea, d])]
      have R := does_rel h s (fun z => by rw [heard_has (h.wgh z)]; exact h.wgh z) heard_green
      have t := look_then (v := (mHeard l r).2.2) R s.told
      rw [d] at t
      have e : (mHeard l r) = ((mHeard l r).1, (mHeard l r).2.1, 0) := by
        have : (mHeard l r) = ((mHeard l r).1, (mHeard l r).2.1, (mHeard l r).2.2) := rfl
        rw [d] at this
        exact this
      rw [e]
      exact t
    · rw [if_neg d, if_neg (show ¬ (a.does (.heard l l.length)).2.2 = .num 0 by rw [ea]; intro z; injection z with z; exact d z)]
      have e : mHeard l r = (r, [], -71) := by
        unfold mHeard at d ⊢
        by_cases c1 : rightR l (1 - r.me) = true
        · rw [if_pos c1] at d
          exfalso
          apply d
          split <;> rfl
        · rw [if_neg c1]
      rw [ea, e]
      exact ⟨h, rfl, rfl⟩
theorem same_ctick {a : Km265.Abs} {k : Wk} {r : Rt} (h : RelA a k r) : SameC (Km265.act a .tick) (cTick k r) := by
  have s := same_tick h.e
  have R := does_rel h s (fun z => h.wgh z) (fun z => z)
  have g := green_iff h.e
  have hs := has_iff h.e
  have hk := h.e.ticks
  have tk : (r.ticks + 1) % 10 = (((a.end_.ticks + 1) % 10 : Nat) : Int) := by omega
  unfold cTick
  refine look_then (v := 0) (a := { (a.does .tick).1 with greenFor := if (a.does .tick).1.end_.green = true then (a.does .tick).1.greenFor + 1 else 0 }) ?_ ?_
  · have gg : (a.does .tick).1.end_.green = r.green := g
    unfold tickK
    refine ⟨R.e, ?_, ?_, ?_, fun z => ?_, ?_, R.wgh⟩
    · split <;> exact R.most
    · split <;> exact R.waiting
    · split <;> exact R.ask
    · have z' : (a.does .tick).1.end_.green = true := z
      have y : r.green = true := gg.symm.trans z'
      rw [if_pos y]
      show k.gt + 1 = ((if (a.does .tick).1.end_.green = true then (a.does .tick).1.greenFor + 1 else 0 : Nat) : Int)
      rw [if_pos z']
      have := R.gt z'
      omega
    · split <;> exact R.wg
  · rw [s.told, shown_app]
    congr 1
    unfold tickAsk
    by_cases c : ((a.end_.ticks + 1) % 10 = 0 ∧ a.waiting = true ∧ a.end_.has = false)
    · rw [if_pos (show (r.ticks + 1) % 10 = 0 ∧ k.waiting = true ∧ ¬ r.st = 1 from ⟨by rw [tk, c.1]; rfl, h.waiting.trans c.2.1, by have := c.2.2; rw [hs] at this; exact of_decide_eq_false this⟩)]
      rw [h.e.me, h.e.turn]
      refine Eq.trans ?_ (congrArg shownAll (if_pos c).symm)
      rfl
    · rw [if_neg (show ¬ ((r.ticks + 1) % 10 = 0 ∧ k.waiting = true ∧ ¬ r.st = 1) from fun z => c ⟨by have := z.1; rw [tk] at this; omega, h.waiting.symm.trans z.2.1, by rw [hs]; exact decide_eq_false z.2.2⟩)]
      refine Eq.trans ?_ (congrArg shownAll (if_neg c).symm)
      rfl
theorem six_eq {e : Km264.End} {r : Rt} (h : RelE e r) : Km265Neutral.nums (Km265.six e) = sixM r := by
  have g := green_iff h
  have q := h.right
  have e6 : Km265.six e = [e.turn, e.ins, e.outs, match e.right with
      | .has _ => 1
      | .waits _ => 2
      | .gave _ => 0, Km264.b2n e.green, match e.right with
      | .waits c => c
      | _ => 0] := rfl
  rw [e6, g]
  unfold sixM
  rw [h.turn, h.ins, h.outs]
  have gb : ((Km264.b2n r.green : Nat) : Int) = if r.green = true then 1 else 0 := by
    unfold Km264.b2n
    cases r.green <;> rfl
  show [(e.turn : Int), (e.ins : Int), (e.outs : Int), _, ((Km264.b2n r.green : Nat) : Int), _] = _
  rw [gb]
  cases er : e.right with
  | has b =>
    rw [er] at q
    rw [q.1]
    rfl
  | gave b =>
    rw [er] at q
    rw [q.1]
    rfl
  | waits c =>
    rw [er] at q
    rw [q.1, q.2.2]
    rfl
theorem eight_eq {a : Km265.Abs} {k : Wk} {r : Rt} (h : RelA a k r) : Km265Neutral.nums (Km265.six a.end_ ++ [if a.end_.green = true then a.greenFor else 0, Km264.b2n a.asked]) = eightM k r := by
  have e1 : Km265Neutral.nums (Km265.six a.end_ ++ [if a.end_.green = true then a.greenFor else 0, Km264.b2n a.asked]) = Km265Neutral.nums (Km265.six a.end_) ++ [((if a.end_.green = true then a.greenFor else 0 : Nat) : Int), ((Km264.b2n a.asked : Nat) : Int)] := by
    simp [Km265Neutral.nums]
  rw [e1, six_eq h.e]
  unfold eightM
  have g := green_iff h.e
  have q := asked_iff h
  have e2 : ((if a.end_.green = true then a.greenFor else 0 : Nat) : Int) = if r.green = true then k.gt else 0 := by
    by_cases c : a.end_.green = true
    · rw [if_pos c, if_pos (g.symm.trans c)]
      exact (h.gt c).symm
    · rw [if_neg c, if_neg (fun z => c (g.trans z))]
      rfl
  have e3 : ((Km264.b2n a.asked : Nat) : Int) = if askedM k r = true then 1 else 0 := by
    rw [q]
    unfold Km264.b2n
    cases askedM k r <;> rfl
  rw [e2, e3]
end Ol
namespace Ol
open PySem L2
section
variable {P : Program} {w : World} {K : PySem.W.Frag} {mg : Str → Option Value} {base : Heap} {A : Adr}
theorem tl_get {H : Hp} {t : Addr} : ∀ {as : List Addr} {xs : List (List Int)} {i : Nat} {a : Addr}, TL H t as xs → as[i]? = some a → ∃ x, xs[i]? = some x ∧ H a = some (.lst (vInts x))
  | _, _, _, _, .nil, h => by simp at h
  | _, _, 0, _, .cons r _, h => by
    simp at h
    subst h
    exact (rdE rfl r.2)
  | _, _, i + 1, _, .cons _ tl, h => by
    obtain ⟨x, h1, h2⟩ := tl_get (i := i) tl (by simpa using h)
    exact ⟨x, by simpa using h1, h2⟩
theorem flat_take {xs : List (List Int)} {i : Nat} {x : List Int} (h : xs[i]? = some x) : (xs.take (i + 1)).flatten = (xs.take i).flatten ++ x := by
  rw [List.take_add_one, h, List.flatten_append]
  simp
theorem take_flat_le : ∀ (xs : List (List Int)) (i : Nat), (xs.take i).flatten.length ≤ xs.flatten.length
  | [], i => by simp
  | x :: xs, 0 => by simp
  | x :: xs, i + 1 => by
    have := take_flat_le xs i
    simp
    simp at this
    exact this
/-- what a call answers at the desk: the numbers ahead of what is told -/
noncomputable abbrev DRes := Wk × Rt × List (List Int) × List Int
inductive iTold (K : PySem.W.Frag) (vs : List V) (H : Hp) (Q : VK) : Prop
  | mk (b t : Addr) (ans : List Int) (as : List Addr) (told : List (List Int)) : (vs = [.ref b, .ref t]) → (H b = some (.lst (vInts ans))) → (ans.length ≤ 1000) → (H t = some (.lst (as.map V.ref))) → (TL H t as told) → (told.flatten.length ≤ 1000) → (∀ (l : Addr) (H' : Hp), H l = none → H' l = some (.lst (vInts (ans ++ ((told.length : Int) :: told.flatten)))) → L2.Same H H' → Q (.ref l) H') → iTold K vs H Q
noncomputable def spTold (K : PySem.W.Frag) : Sp := fun vs H Q _ => iTold K vs H Q
theorem ok_told (T : Tx K mg A) : FnOk P w K mg base CX0 1 A.f_with_told A.d_with_told ["answered", "told"] (spTold K) := by
  refine T.fn_with_told.ok sc_with_told (fun vs H Q E h => ?_) (fun cdv A' outer s H vs Q E hr h => ?_)
  · obtain ⟨b, t, ans, as, told, rfl, _⟩ := h
    rfl
  · obtain ⟨b, t, ans, as, told, rfl, hb, hn, ht, tl, hl, k⟩ := h
    refine ⟨_, (pss_cons (ps_set (i := 2) sc_with_told.nd rfl (Or.inl rfl) (pe_op op_cat (pv 0) (pe_lst (pa_cons (pe_callB call_len_seq (by rfl) T.mg_len PySem.boot_len (pa_cons (pv 1) pa_nil)) pa_nil))))
      (pss_cons (ps_for PassesOwn.never rfl (pi_list (pv 1)) (pg_name (i := 3) sc_with_told.nd rfl (Or.inl rfl))
      (pss_one (ps_expr (pe_bm PySem.F.plainAttrs_list PySem.F.slot_list_extend PySem.F.type_list_extend mt_extend (pv 2) (pa_cons (pv 3) pa_nil)))))
      (pss_one (ps_ret (pv 2))))), ?_⟩
    refine (rdE rfl (rdE rfl ⟨t, _, rfl, .inl (SqL.of ht), by show 1 ≤ sizeLine; decide, fun l0 hl0 => ?_⟩))
    have nb0 : b ≠ l0 := ne_of_none hb hl0
    have nt0 : t ≠ l0 := ne_of_none ht hl0
    have s0 : L2.Same H (upd H l0 (.lst [V.int ((as.map V.ref).length : Nat)])) := same_upd2 (L2.Same.refl H) hl0
    refine ⟨_, _, _, _, rfl, rfl, by rw [upd_ne nb0]; exact hb, upd_same, ?_, fun l hl1 => ?_⟩
    · rw [List.length_map]
      show _ + 1 ≤ 2 ^ 24
      omega
    have hl' : H l = none := L2.Same.free s0 hl1
    have ntl : t ≠ l := ne_of_none ht hl'
    have el : ((as.map V.ref).length : Int) = (told.length : Int) := by rw [List.length_map, tl.length]
    have s1 := same_upd (o := .lst (vInts ans ++ [V.int ((as.map V.ref).length : Nat)])) s0 hl1
    refine (rdE rfl ⟨t, rfl, ⟨_, SqL.of (s1 _ _ ht)⟩, for_list (K := K) (a := t) (xs := as.map V.ref) (fun i σ H2 => ∃ v3 : Option V, σ = [some (.ref b), some (.ref t), some (.ref l), v3] ∧ H2 l = some (.lst (vInts (ans ++ ((told.length : Int) :: (told.take i).flatten)))) ∧ L2.Same H H2) ⟨none, rfl, ?_, s1⟩ ?_ ?_ ?_⟩)
    · rw [upd_same, el]
      simp [vInts]
    · rintro i σ H2 _ ⟨v3, _, _, s2⟩
      exact SqL.of (s2 _ _ ht)
    · rintro i x σ H2 hx ⟨v3, rfl, h2, s2⟩
      obtain ⟨a, ha, rfl⟩ : ∃ a, as[i]? = some a ∧ x = V.ref a := by
        rw [List.getElem?_map] at hx
        cases e : as[i]? with
        | none => rw [e] at hx; cases hx
        | some b => rw [e] at hx; exact ⟨b, rfl, (Option.some.inj hx).symm⟩
      obtain ⟨y, hy, hay⟩ := tl_get tl ha
      refine (rdE rfl ⟨.inl ⟨rfl, _, SqL.of h2⟩, _, rfl, l, a, (rdO rfl rfl ⟨h2, s2 _ _ hay, ?_, ?_⟩)⟩)
      · have e1 := flat_take hy
        have e2 := take_flat_le told (i + 1)
        rw [e1, List.length_append] at e2
        simp only [List.length_map, List.length_append, List.length_cons]
        show _ + (_ + 1) + _ ≤ 2 ^ 24
        omega
      · refine (rdE rfl ⟨?_, same_upd2 s2 hl'⟩)
        rw [upd_same, flat_take hy]
        simp [vInts]
    · rintro σ H2 ⟨v3, rfl, h2, s2⟩
      refine (rdE rfl (k l H2 hl' ?_ s2))
      rw [h2, List.take_of_length_le (by rw [List.length_map, tl.length]; exact Nat.le_refl _)]
end
end Ol
namespace Ol
open PySem L2
noncomputable def one (f : Wk → Rt → CRes) (k : Wk) (r : Rt) : DRes := ((f k r).1, (f k r).2.1, (f k r).2.2.1, [(f k r).2.2.2])
noncomputable def dState (k : Wk) (r : Rt) : DRes := (k, r, [], 0 :: eightM k r)
noncomputable def numsI (l : List Nat) : List Int := l.map fun n : Nat => (n : Int)
theorem vInts_nums (l : List Nat) : vInts (numsI l) = vNats l := by
  unfold vInts vNats numsI
  rw [List.map_map]
  rfl
/-- a call by its number, its whole numbers and its row, with its mirror -/
inductive Cl : Int → List Int → List Int → (Wk → Rt → DRes) → Prop
  | start (me most : Int) : Cl 0 [me, most] [] (one (cStart me most))
  | in_ : Cl 1 [] [] (one cIn)
  | out : Cl 2 [] [] (one cOut)
  | waiting (yes : Int) : Cl 3 [yes] [] (one (cWaiting yes))
  | heard (l : List Nat) (hb : ∀ b ∈ l, b < 256) : Cl 4 [(l.length : Int)] (numsI l) (one (cHeard l))
  | tick : Cl 5 [] [] (one cTick)
  | state : Cl 6 [] [] dState
section
variable {P : Program} {w : World} {K : PySem.W.Frag} {mg : Str → Option Value} {base : Heap} {A : Adr}
inductive iRow (K : PySem.W.Frag) (vs : List V) (H : Hp) (Q : VK) : Prop
  | mk (a : Addr) (cs : List Int) (i pl n : Int) : (vs = [.ref a, .int i]) → (SqL K H a (vInts cs)) → (atI (vInts cs) i = some (.int pl)) → ((pl = 4 → atI (vInts cs) (i + 1) = some (.int n))) → ((¬ pl = 4 → n = 0)) → (Q (.int n) H) → iRow K vs H Q
noncomputable def spRow (K : PySem.W.Frag) : Sp := fun vs H Q _ => iRow K vs H Q
theorem ok_row (T : Tx K mg A) : FnOk P w K mg base CX0 1 A.f_row_length A.d_row_length ["calls", "place"] (spRow K) := by
  refine T.fn_row_length.ok sc_row_length (fun vs H Q E h => ?_) (fun cdv A' outer s H vs Q E hr h => ?_)
  · obtain ⟨a, cs, i, pl, n, rfl, _⟩ := h
    rfl
  · obtain ⟨a, cs, i, pl, n, rfl, hS, h0, h1, h2, k⟩ := h
    refine ⟨_, (pss_one (ps_ret (pe_ifExp (pt_cmpR op_eq (pe_ix ix_list (pv 0) (pv 1) (fun _ _ => rfl)) (pe_gint rfl T.gi_RW_HEARD) (nomark _)) (pe_ix ix_list (pv 0) (pe_op op_add (pv 1) pe_int) (fun _ _ => rfl)) pe_int))), ?_⟩
    refine (rdE rfl (rdE rfl (rdI a hS h0 ⟨rfl, (rdE rfl ?_)⟩)))
    refine ite2 (fun h => ?_) (fun h => ?_)
    · have e : pl = 4 := by simpa using h
      exact (rdE rfl (rdE rfl (rdO rfl rfl (rdI a hS (h1 e) k))))
    · have e : ¬ pl = 4 := by simpa using h
      rw [h2 e] at k
      exact k
theorem fr3_free {H H1 : Hp} {p q t l : Addr} {k : Wk} {r : Rt} {told : List (List Int)} (W : WorksAt A H1 p q t k r told) (F : Fr3 p q t H H1) (h : H1 l = none) : H l = none := by
  obtain ⟨dw, hp⟩ := W.ob
  obtain ⟨dx, as, hq, ht, tl⟩ := W.rt.ex
  cases e : H l with
  | none => rfl
  | some o =>
    have := F l o e (ne_of_none hp h).symm (ne_of_none hq h).symm (ne_of_none ht h).symm
    rw [h] at this
    cases this
theorem fr3_new {H H1 : Hp} {p q t l : Addr} {o : HO} (F : Fr3 p q t H H1) (h : H1 l = none) : Fr3 p q t H (upd H1 l o) := fun c u e h0 h1 h2 => by
  have z := F c u e h0 h1 h2
  rw [upd_ne (ne_of_none z h)]
  exact z
inductive iCalled (A : Adr) (K : PySem.W.Frag) (vs : List V) (H : Hp) (Q : VK) : Prop
  | mk (p q t b c : Addr) (k : Wk) (r : Rt) (pl : Int) (as row : List Int) (f : Wk → Rt → DRes) : (vs = [.ref p, .int pl, .ref b, .ref c]) → (WorksAt A H p q t k r []) → (r.Ok) → (SqL K H b (vInts as)) → (SqL K H c (vInts row)) → (Cl pl as row f) → (∀ (l : Addr) (H' : Hp), H l = none → H' l = some (.lst (vInts (f k r).2.2.2)) → WorksAt A H' p q t (f k r).1 (f k r).2.1 (f k r).2.2.1 → Fr3 p q t H H' → Q (.ref l) H') → iCalled A K vs H Q
noncomputable def spCalled (A : Adr) (K : PySem.W.Frag) : Sp := fun vs H Q _ => iCalled A K vs H Q
theorem ok_called (T : Tx K mg A) : FnOk P w K mg base CX0 8 A.f_called A.d_called ["works", "call", "handed", "row"] (spCalled A K) := by
  have G_Works_rw_start : FnOk P w K mg base CX0 3 A.f_Works_rw_start A.d_Works_rw_start ["self", "me", "most"] (spC2 A cStart) := ok_rwstart T
  have G_Works_rw_in : FnOk P w K mg base CX0 7 A.f_Works_rw_in A.d_Works_rw_in ["self"] (spC A [] cIn) := ok_rwin T
  have G_Works_rw_out : FnOk P w K mg base CX0 7 A.f_Works_rw_out A.d_Works_rw_out ["self"] (spC A [] cOut) := ok_rwout T
  have G_Works_rw_waiting : FnOk P w K mg base CX0 7 A.f_Works_rw_waiting A.d_Works_rw_waiting ["self", "yes"] (spC1 A cWaiting) := ok_rwwaiting T
  have G_Works_rw_heard : FnOk P w K mg base CX0 7 A.f_Works_rw_heard A.d_Works_rw_heard ["self", "message"] (spCH K A) := ok_rwheard T
  have G_Works_rw_tick : FnOk P w K mg base CX0 7 A.f_Works_rw_tick A.d_Works_rw_tick ["self"] (spC A [] cTick) := ok_rwtick T
  have G_Works_rw_state : FnOk P w K mg base CX0 3 A.f_Works_rw_state A.d_Works_rw_state ["self"] (spEight A) := ok_rwstate T
  refine T.fn_called.ok sc_called (fun vs H Q E h => ?_) (fun cdv A' outer s H vs Q E hr h => ?_)
  · obtain ⟨p, q, t, b, c, k, r, pl, as, row, f, rfl, _⟩ := h
    rfl
  · obtain ⟨p, q, t, b, c, k, r, pl, as, row, f, rfl, W, ok, hb, hc, cl, z⟩ := h
    obtain ⟨dw, hp⟩ := W.ob
    refine ⟨_, (pss_cons (ps_if (pt_cmpR op_eq (pv 1) (pe_gint rfl T.gi_RW_START) (nomark _))
      (pss_one (ps_ret (pe_lst (pa_cons (pe_meth (pv 0) T.cl_Works T.mt_Works_rw_start G_Works_rw_start (hr.mono (by decide)) T.bd_Works_rw_start .nil pass0 (pa_cons (pe_ix ix_list (pv 2) pe_int (fun _ _ => rfl)) (pa_cons (pe_ix ix_list (pv 2) pe_int (fun _ _ => rfl)) pa_nil))) pa_nil))))
      pss_nil)
      (pss_cons (ps_if (pt_cmpR op_eq (pv 1) (pe_gint rfl T.gi_RW_IN) (nomark _))
      (pss_one (ps_ret (pe_lst (pa_cons (pe_meth0 (pv 0) T.cl_Works T.mt_Works_rw_in G_Works_rw_in (hr.mono (by decide)) T.bd_Works_rw_in .nil pass0) pa_nil))))
      pss_nil)
      (pss_cons (ps_if (pt_cmpR op_eq (pv 1) (pe_gint rfl T.gi_RW_OUT) (nomark _))
      (pss_one (ps_ret (pe_lst (pa_cons (pe_meth0 (pv 0) T.cl_Works T.mt_Works_rw_out G_Works_rw_out (hr.mono (by decide)) T.bd_Works_rw_out .nil pass0) pa_nil))))
      pss_nil)
      (pss_cons (ps_if (pt_cmpR op_eq (pv 1) (pe_gint rfl T.gi_RW_WAITING) (nomark _))
      (pss_one (ps_ret (pe_lst (pa_cons (pe_meth (pv 0) T.cl_Works T.mt_Works_rw_waiting G_Works_rw_waiting (hr.mono (by decide)) T.bd_Works_rw_waiting .nil pass0 (pa_cons (pe_ix ix_list (pv 2) pe_int (fun _ _ => rfl)) pa_nil)) pa_nil))))
      pss_nil)
      (pss_cons (ps_if (pt_cmpR op_eq (pv 1) (pe_gint rfl T.gi_RW_HEARD) (nomark _))
      (pss_one (ps_ret (pe_lst (pa_cons (pe_meth (pv 0) T.cl_Works T.mt_Works_rw_heard G_Works_rw_heard (hr.mono (by decide)) T.bd_Works_rw_heard .nil pass0 (pa_cons (pv 3) pa_nil)) pa_nil))))
      pss_nil)
      (pss_cons (ps_if (pt_cmpR op_eq (pv 1) (pe_gint rfl T.gi_RW_TICK) (nomark _))
      (pss_one (ps_ret (pe_lst (pa_cons (pe_meth0 (pv 0) T.cl_Works T.mt_Works_rw_tick G_Works_rw_tick (hr.mono (by decide)) T.bd_Works_rw_tick .nil pass0) pa_nil))))
      pss_nil)
      (pss_one (ps_ret (pe_op op_cat (pe_lst (pa_cons pe_int pa_nil)) (pe_meth0 (pv 0) T.cl_Works T.mt_Works_rw_state G_Works_rw_state (hr.mono (by decide)) T.bd_Works_rw_state .nil pass0)))))))))), ?_⟩
    -- the list of one number
    have fin : ∀ (g : Wk → Rt → CRes), f = one g → ∀ H1 : Hp, WorksAt A H1 p q t (g k r).1 (g k r).2.1 (g k r).2.2.1 → Fr3 p q t H H1 →
        (1 ≤ sizeLine ∧ ∀ l, H1 l = none → Q (.ref l) (upd H1 l (.lst [V.int (g k r).2.2.2]))) := by
      intro g e H1 W1 F1
      refine ⟨by decide, fun l hl => ?_⟩
      subst e
      refine z l _ (fr3_free W1 F1 hl) ?_ (W1.keep (same_upd (L2.Same.refl H1) hl)) (fr3_new F1 hl)
      rw [upd_same]
      rfl
    refine (rdE rfl ⟨rfl, (rdE rfl ?_)⟩)
    cases cl with
    | start me most =>
      refine iteT ?_
      refine (rdM p rfl hp (wf_no (by decide +kernel)) (rdE rfl (rdI b hb (atI_nat (j := 0) rfl) (rdE rfl (rdI b hb (atI_nat (j := 1) rfl) ?_)))))
      exact ⟨me, most, p, q, t, k, r, rfl, W, ok, fun H1 W1 F1 => fin _ rfl H1 W1 F1⟩
    | in_ =>
      refine iteF ?_
      refine (rdE rfl ⟨rfl, (rdE rfl (iteT ?_))⟩)
      refine (rdM p rfl hp (wf_no (by decide +kernel)) ?_)
      exact ⟨p, q, t, k, r, rfl, W, ok, fun H1 W1 F1 => fin _ rfl H1 W1 F1⟩
    | out =>
      refine iteF (rdE rfl ⟨rfl, (rdE rfl (iteF (rdE rfl ⟨rfl, (rdE rfl (iteT ?_))⟩)))⟩)
      refine (rdM p rfl hp (wf_no (by decide +kernel)) ?_)
      exact ⟨p, q, t, k, r, rfl, W, ok, fun H1 W1 F1 => fin _ rfl H1 W1 F1⟩
    | waiting yes =>
      refine iteF (rdE rfl ⟨rfl, (rdE rfl (iteF (rdE rfl ⟨rfl, (rdE rfl (iteF (rdE rfl ⟨rfl, (rdE rfl (iteT ?_))⟩)))⟩)))⟩)
      refine (rdM p rfl hp (wf_no (by decide +kernel)) (rdE rfl (rdI b hb (atI_nat (j := 0) rfl) ?_)))
      exact ⟨yes, p, q, t, k, r, rfl, W, ok, fun H1 W1 F1 => fin _ rfl H1 W1 F1⟩
    | heard l hl =>
      refine iteF (rdE rfl ⟨rfl, (rdE rfl (iteF (rdE rfl ⟨rfl, (rdE rfl (iteF (rdE rfl ⟨rfl, (rdE rfl (iteF (rdE rfl ⟨rfl, (rdE rfl (iteT ?_))⟩)))⟩)))⟩)))⟩)
      refine (rdM p rfl hp (wf_no (by decide +kernel)) (rdE rfl ?_))
      rw [vInts_nums] at hc
      exact ⟨p, q, t, c, k, r, l, rfl, W, ok, hc, hl, fun H1 W1 F1 => fin _ rfl H1 W1 F1⟩
    | tick =>
      refine iteF (rdE rfl ⟨rfl, (rdE rfl (iteF (rdE rfl ⟨rfl, (rdE rfl (iteF (rdE rfl ⟨rfl, (rdE rfl (iteF (rdE rfl ⟨rfl, (rdE rfl (iteF (rdE rfl ⟨rfl, (rdE rfl (iteT ?_))⟩)))⟩)))⟩)))⟩)))⟩)
      refine (rdM p rfl hp (wf_no (by decide +kernel)) ?_)
      exact ⟨p, q, t, k, r, rfl, W, ok, fun H1 W1 F1 => fin _ rfl H1 W1 F1⟩
    | state =>
      refine iteF (rdE rfl ⟨rfl, (rdE rfl (iteF (rdE rfl ⟨rfl, (rdE rfl (iteF (rdE rfl ⟨rfl, (rdE rfl (iteF (rdE rfl ⟨rfl, (rdE rfl (iteF (rdE rfl ⟨rfl, (rdE rfl (iteF ?_))⟩)))⟩)))⟩)))⟩)))⟩)
      refine ⟨by show 1 ≤ sizeLine; decide, fun l1 e1 => ?_⟩
      have s1 : L2.Same H (upd H l1 (.lst [V.int 0])) := same_upd2 (L2.Same.refl H) e1
      refine (rdM p rfl (s1 _ _ hp) (wf_no (by decide +kernel)) ⟨p, q, t, k, r, [], rfl, W.keep s1, fun l2 H2 n2 c2 s2 => ?_⟩)
      have s12 := s1.trans s2
      refine ⟨_, _, _, _, rfl, rfl, s2 _ _ upd_same, c2, by rw [List.length_map]; show 1 + 8 ≤ sizeLine; decide, fun l3 e3 => ?_⟩
      have s3 := same_upd (o := .lst ([V.int 0] ++ vInts (eightM k r))) s12 e3
      refine z l3 _ (L2.Same.free s12 e3) ?_ (W.keep s3) (Fr3.refl.same s3)
      rw [upd_same]
      rfl
end
end Ol
namespace Ol
open PySem L2
open MX (absOf after)
section
variable {P : Program} {w : World} {K : PySem.W.Frag} {mg : Str → Option Value} {base : Heap} {A : Adr}
theorem rel0 : RelA (absOf Km265Neutral.start) (wk0 1) (rt0 0) :=
  ⟨⟨rfl, rfl, rfl, rfl, ⟨rfl, rfl⟩, rfl, by decide⟩, rfl, rfl, rfl, fun _ => rfl, rfl, fun z => by cases z⟩
theorem may_left : ∀ {S : Km265Neutral.S} {l r : List (List (List Int))}, Km265Neutral.may S (l ++ r) = true → Km265Neutral.may S l = true
  | _, [], _, _ => rfl
  | S, c :: l, r, h => by
    obtain ⟨h1, h2⟩ := MX.may_cons (S := S) (c := c) (cs := l ++ r) h
    show (!((Km265Neutral.step S c).2.isEmpty) && Km265Neutral.may (Km265Neutral.step S c).1 l) = true
    rw [h1, may_left (l := l) h2]
    rfl
noncomputable def ansL : Km264.Ans → List Int
  | .num v => [v]
  | .words l => 0 :: Km265Neutral.nums l
structure SameD (y : Km265.Abs × List Km264.Told × Km264.Ans) (x : DRes) : Prop where
  rel : RelA y.1 x.1 x.2.1
  told : x.2.2.1 = shownAll y.2.1
  ans : ansL y.2.2 = x.2.2.2
theorem same_one {y : Km265.Abs × List Km264.Told × Km264.Ans} {f : Wk → Rt → CRes} {k : Wk} {r : Rt} (s : SameC y (f k r)) : SameD y (one f k r) := ⟨s.rel, s.told, by rw [s.ans]; rfl⟩
theorem same_state {a : Km265.Abs} {k : Wk} {r : Rt} (h : RelA a k r) : SameD (Km265.act a .state) (dState k r) := ⟨h, rfl, by
  show 0 :: Km265Neutral.nums _ = 0 :: eightM k r
  rw [← eight_eq h]⟩
structure Good (c : List (List Int)) (x : Km265.Call) (pl : Int) (as row : List Int) (f : Wk → Rt → DRes) : Prop where
  call : Km265Neutral.callOf c = some x
  put : PyFlat.put1 c = pl :: (as ++ row)
  cl : Cl pl as row f
  same : ∀ a k r, RelA a k r → SameD (Km265.act a x) (f k r)
theorem cl_len {pl : Int} {as row : List Int} {f : Wk → Rt → DRes} (h : Cl pl as row f) : atI (([2, 0, 0, 1, 1, 0, 0] : List Int).map V.int) pl = some (.int (as.length : Nat)) := by
  cases h with
  | start me most => exact atI_nat (j := 0) rfl
  | in_ => exact atI_nat (j := 1) rfl
  | out => exact atI_nat (j := 2) rfl
  | waiting yes => exact atI_nat (j := 3) rfl
  | heard l hb => exact atI_nat (j := 4) rfl
  | tick => exact atI_nat (j := 5) rfl
  | state => exact atI_nat (j := 6) rfl
/-- the row's length, as the list tells it -/
theorem cl_row {pl : Int} {as row : List Int} {f : Wk → Rt → DRes} (h : Cl pl as row f) : (pl = 4 → as = [(row.length : Int)]) ∧ (¬ pl = 4 → ((row.length : Nat) : Int) = 0) := by
  cases h with
  | start me most => exact ⟨fun z => absurd z (by decide), fun _ => rfl⟩
  | in_ => exact ⟨fun z => absurd z (by decide), fun _ => rfl⟩
  | out => exact ⟨fun z => absurd z (by decide), fun _ => rfl⟩
  | waiting yes => exact ⟨fun z => absurd z (by decide), fun _ => rfl⟩
  | heard l hb => exact ⟨fun _ => by unfold numsI; rw [List.length_map], fun z => absurd rfl z⟩
  | tick => exact ⟨fun z => absurd z (by decide), fun _ => rfl⟩
  | state => exact ⟨fun z => absurd z (by decide), fun _ => rfl⟩
theorem cut_mid (l m r : List Int) {i j : Int} (hi : i = ((l.length : Nat) : Int)) (hj : j = ((l.length + m.length : Nat) : Int)) : cutV (vInts (l ++ m ++ r)) (some i) (some j) = vInts m := by
  unfold cutV
  rw [hi, hj, HT.sIx_nat, HT.sIx_nat]
  have n : (vInts (l ++ m ++ r)).length = l.length + m.length + r.length := by simp; omega
  rw [n, Nat.min_eq_left (by omega), Nat.min_eq_left (by omega)]
  have e3 : l.length + m.length - l.length = m.length := by omega
  rw [e3, ← List.map_drop, ← List.map_take, List.append_assoc, List.drop_left' rfl, List.take_left' rfl]
/-- the answer's numbers -/
theorem told_of {y : Km265.Abs × List Km264.Told × Km264.Ans} {x : DRes} (s : SameD y x) : Km265Neutral.told y.2 = x.2.2.2 ++ ((x.2.2.1.length : Int) :: x.2.2.1.flatten) := by
  have h := s.ans
  unfold Km265Neutral.told
  rw [s.told, ← h]
  cases e : y.2.2 with
  | num v => simp [List.flatMap, ansL]
  | words l => simp [List.flatMap, ansL]
inductive iAnswers (K : PySem.W.Frag) (vs : List V) (H : Hp) (Q : VK) : Prop
  | mk (a : Addr) (cs : List (List (List Int))) : (vs = [.ref a]) → (SqL K H a (vInts (PyFlat.put cs))) → ((∀ c ∈ cs, Km265Neutral.asked1 c = true ∧ ∃ x pl as row f, Good c x pl as row f)) → (cs.length ≤ 1000) → (Km265Neutral.may Km265Neutral.start cs = true) → (∀ (l : Addr) (H' : Hp), H' l = some (.lst (vInts (PyFlat.told (PyFlat.played Km265Neutral.step Km265Neutral.start cs)))) → Q (.ref l) H') → iAnswers K vs H Q
noncomputable def spAnswers (K : PySem.W.Frag) : Sp := fun vs H Q _ => iAnswers K vs H Q
theorem WorksAt.other {H : Hp} {p q t g : Addr} {k : Wk} {r : Rt} {o : HO} (W : WorksAt A H p q t k r []) (h1 : g ≠ p) (h2 : g ≠ q) (h3 : g ≠ t) : WorksAt A (upd H g o) p q t k r [] := by
  obtain ⟨dw, hp⟩ := W.ob
  obtain ⟨dx, as, hq, ht, tl⟩ := W.rt.ex
  cases tl
  exact ⟨⟨dw, by rw [upd_ne h1.symm]; exact hp⟩, ⟨dx, [], by rw [upd_ne h2.symm]; exact hq, by rw [upd_ne h3.symm]; exact ht, .nil⟩, W.ne⟩
structure Loop (K : PySem.W.Frag) (A : Adr) (H0 H : Hp) (done : List (List (List Int))) (p q t g : Addr) (k : Wk) (r : Rt) : Prop where
  same : L2.Same H0 H
  np : H0 p = none
  nq : H0 q = none
  nt : H0 t = none
  ng : H0 g = none
  gt : g ≠ t
  W : WorksAt A H p q t k r []
  hg : H g = some (.lst (vInts (PyFlat.told (PyFlat.played Km265Neutral.step Km265Neutral.start done))))
  rel : RelA (absOf (after Km265Neutral.start done)) k r
theorem ok_answers (T : Tx K mg A) : FnOk P w K mg base CX0 9 A.f_answers A.d_answers ["calls"] (spAnswers K) := by
  have G_Works_init : FnOk P w K mg base CX0 4 A.f_Works_init A.d_Works_init ["self"] (spWInit A) := ok_winit T
  have G_row_length : FnOk P w K mg base CX0 1 A.f_row_length A.d_row_length ["calls", "place"] (spRow K) := ok_row T
  have G_called : FnOk P w K mg base CX0 8 A.f_called A.d_called ["works", "call", "handed", "row"] (spCalled A K) := ok_called T
  have G_with_told : FnOk P w K mg base CX0 1 A.f_with_told A.d_with_told ["answered", "told"] (spTold K) := ok_told T
  have G_Right_take_told : FnOk P w K mg base CX0 1 A.f_Right_take_told A.d_Right_take_told ["self"] (spTake A.c_Right) := ok_take T
  refine T.fn_answers.ok sc_answers (fun vs H Q E h => ?_) (fun cdv A' outer s H vs Q E hr h => ?_)
  · obtain ⟨a, cs, rfl, _⟩ := h
    rfl
  · obtain ⟨a, cs, rfl, ha, hc, hn, hm, z⟩ := h
    refine ⟨_, (pss_cons (ps_set (i := 1) sc_answers.nd rfl (Or.inl rfl) (pe_make0 T.mk_Works G_Works_init (hr.mono (by decide)) rfl T.mg_Works T.bd_Works_init .nil pass0))
      (pss_cons (ps_set (i := 2) sc_answers.nd rfl (Or.inl rfl) (pe_lst pa_nil))
      (pss_cons (ps_set (i := 3) sc_answers.nd rfl (Or.inl rfl) pe_int)
      (pss_cons (ps_while PassesOwn.never (pt_cmpR op_lt (pv 3) (pe_callB call_len_seq (by rfl) T.mg_len PySem.boot_len (pa_cons (pv 0) pa_nil)) (nomark _))
      (pss_cons (ps_set (i := 4) sc_answers.nd rfl (Or.inl rfl) (pe_op op_add (pv 3) pe_int))
      (pss_cons (ps_set (i := 5) sc_answers.nd rfl (Or.inl rfl) (pe_op op_add (pv 4) (pe_ix ix_tup (pe_gref rfl T.mg_WHOLE_NUMBERS) (pe_ix ix_list (pv 0) (pv 3) (fun _ _ => rfl)) (fun _ _ => rfl))))
      (pss_cons (ps_set (i := 6) sc_answers.nd rfl (Or.inl rfl) (pe_op op_add (pv 5) (pe_call G_row_length (hr.mono (by decide)) rfl T.mg_row_length T.fn_row_length.kp T.bd_row_length .nil pass0 (pa_cons (pv 0) (pa_cons (pv 3) pa_nil)))))
      (pss_cons (ps_set (i := 7) sc_answers.nd rfl (Or.inl rfl) (pe_call G_called (hr.mono (by decide)) rfl T.mg_called T.fn_called.kp T.bd_called .nil pass0 (pa_cons (pv 1) (pa_cons (pe_ix ix_list (pv 0) (pv 3) (fun _ _ => rfl)) (pa_cons (pe_slice sl_list (pv 0) (po_some (pv 4)) (po_some (pv 5))) (pa_cons (pe_slice sl_list (pv 0) (po_some (pv 5)) (po_some (pv 6))) pa_nil))))))
      (pss_cons (ps_set (i := 8) sc_answers.nd rfl (Or.inl rfl) (pe_call G_with_told (hr.mono (by decide)) rfl T.mg_with_told T.fn_with_told.kp T.bd_with_told .nil pass0 (pa_cons (pv 7) (pa_cons (pe_meth0 (pe_fld (pv 1) rfl) T.cl_Right T.mt_Right_take_told G_Right_take_told (hr.mono (by decide)) T.bd_Right_take_told .nil pass0) pa_nil))))
      (pss_cons (ps_expr (pe_bm PySem.F.plainAttrs_list PySem.F.slot_list_append PySem.F.type_list_append mt_append (pv 2) (pa_cons (pe_callB call_len_seq (by rfl) T.mg_len PySem.boot_len (pa_cons (pv 8) pa_nil)) pa_nil)))
      (pss_cons (ps_expr (pe_bm PySem.F.plainAttrs_list PySem.F.slot_list_extend PySem.F.type_list_extend mt_extend (pv 2) (pa_cons (pv 8) pa_nil)))
      (pss_one (ps_set (i := 3) sc_answers.nd rfl (Or.inl rfl) (pv 6)))))))))))
      (pss_one (ps_ret (pv 2))))))), ?_⟩
    intro p dw np ndw nep
    refine ⟨p, dw, rfl, upd_same, fun q t H1 nq nt W1 k1 => ⟨rfl, ?_⟩⟩
    have s1 : L2.Same H H1 := L2.Same.made np ndw k1
    have old : ∀ {b : Addr} {G : Hp}, L2.Same H G → G b = none → H b = none := fun {b G} sm e => by
      cases e' : H b with
      | none => rfl
      | some o => rw [sm _ _ e'] at e; cases e
    have nq0 : H q = none := by
      cases e : H q with
      | none => rfl
      | some o => rw [upd_ne (ne_of_none e np), upd_ne (ne_of_none e ndw), e] at nq; cases nq
    have nt0 : H t = none := by
      cases e : H t with
      | none => rfl
      | some o => rw [upd_ne (ne_of_none e np), upd_ne (ne_of_none e ndw), e] at nt; cases nt
    refine ⟨by show 0 ≤ sizeLine; decide, fun g hg => ?_⟩
    have W1' : WorksAt A (upd H1 g (.lst [])) p q t (wk0 1) (rt0 0) [] := W1.keep (same_upd (L2.Same.refl H1) hg)
    obtain ⟨dx1, as1, hq1, ht1, tl1⟩ := W1.rt.ex
    refine while_by (fun σ H2 => ∃ (done rest : List (List (List Int))) (p q t g : Addr) (k : Wk) (r : Rt) (v4 v5 v6 v7 v8 : Option V), cs = done ++ rest ∧
        σ = [some (.ref a), some (.ref p), some (.ref g), some (.int ((PyFlat.put done).length : Nat)), v4, v5, v6, v7, v8] ∧ Loop K A H H2 done p q t g k r)
      (fun σ _ => match σ with
        | [_, _, _, some (.int n), _, _, _, _, _] => (((PyFlat.put cs).length : Int) - n).toNat
        | _ => 0)
      ⟨[], cs, p, q, t, g, wk0 1, rt0 0, none, none, none, none, none, rfl, rfl, ⟨same_upd s1 hg, np, nq0, nt0, old s1 hg, (ne_of_none ht1 hg).symm, W1', upd_same, rel0⟩⟩ ?_ ?_
    · rintro σ H2 ⟨done, rest, p, q, t, g, k, r, v4, v5, v6, v7, v8, rfl, rfl, L⟩
      have ha2 : SqL K H2 a (vInts (PyFlat.put (done ++ rest))) := sql_keep ha (fun o e => L.same _ _ e)
      refine (rdE rfl (rdE rfl ⟨a, _, rfl, .inl ha2, (rdO rfl rfl (rdE rfl ?_))⟩))
      cases rest with
      | nil =>
        refine ite2 (fun h => ?_) (fun h => ?_)
        · exfalso
          have h1 := of_decide_eq_true h
          rw [List.append_nil, List.length_map] at h1
          omega
        · refine (rdE rfl (z g H2 ?_))
          rw [List.append_nil]
          exact L.hg
      | cons c rest =>
        obtain ⟨ask, x, pl, as, row, f, G⟩ := hc c (List.mem_append_right _ List.mem_cons_self)
        have ep : PyFlat.put (done ++ c :: rest) = PyFlat.put done ++ (pl :: (as ++ row)) ++ PyFlat.put rest := by
          rw [MX.put_append]
          show _ ++ (PyFlat.put1 c ++ PyFlat.put rest) = _
          rw [G.put, List.append_assoc]
        have el : (PyFlat.put (done ++ c :: rest)).length = (PyFlat.put done).length + 1 + as.length + row.length + (PyFlat.put rest).length := by
          rw [ep]
          simp
          omega
        have at0 : atI (vInts (PyFlat.put (done ++ c :: rest))) ((PyFlat.put done).length : Int) = some (.int pl) := by
          refine atI_nat ?_
          rw [ep, List.getElem?_map, List.append_assoc, List.getElem?_append_right (Nat.le_refl _), Nat.sub_self]
          rfl
        have at1 : pl = 4 → atI (vInts (PyFlat.put (done ++ c :: rest))) (((PyFlat.put done).length : Int) + 1) = some (.int (row.length : Nat)) := by
          intro e4
          have e5 := (cl_row G.cl).1 e4
          have e6 : ((PyFlat.put done).length : Int) + 1 = (((PyFlat.put done).length + 1 : Nat) : Int) := rfl
          rw [e6]
          refine atI_nat ?_
          rw [ep, e5, List.getElem?_map, List.append_assoc, List.getElem?_append_right (by omega)]
          have e7 : (PyFlat.put done).length + 1 - (PyFlat.put done).length = 1 := by omega
          rw [e7]
          rfl
        refine ite2 (fun h => ?_) (fun h => ?_)
        case refine_2 =>
          exfalso
          refine h (decide_eq_true ?_)
          rw [List.length_map]
          omega
        refine (rdE rfl (rdO rfl rfl ?_))
        refine (rdE rfl (rdE rfl (rdE rfl (rdI a ha2 at0 ⟨_, _, _, _, rfl, rfl, T.tu_WHOLE_NUMBERS.at _, cl_len G.cl, (rdO rfl rfl ?_)⟩))))
        refine (rdE rfl (rdE rfl (rdE rfl ⟨a, _, _, pl, (row.length : Nat), rfl, ha2, at0, at1, (cl_row G.cl).2, (rdO rfl rfl ?_)⟩)))
        refine (rdE rfl (rdE rfl (rdE rfl (rdI a ha2 at0 (rdE rfl (rdE rfl (rdE rfl (rdE rfl (rdE rfl ⟨a, _, rfl, ha2, fun l1 hl1 => ?_⟩)))))))))
        have sl1 : L2.Same H2 (upd H2 l1 (.lst (cutV (vInts (PyFlat.put (done ++ c :: rest))) (some (((PyFlat.put done).length : Int) + 1)) (some (((PyFlat.put done).length : Int) + 1 + (as.length : Nat)))))) := same_upd (L2.Same.refl H2) hl1
        have ha3 := sq_same ha2 sl1
        refine (rdE rfl (rdE rfl (rdE rfl (rdE rfl (rdE rfl ⟨a, _, rfl, ha3, fun l2 hl2 => ?_⟩)))))
        have cut1 : cutV (vInts (PyFlat.put (done ++ c :: rest))) (some (((PyFlat.put done).length : Int) + 1)) (some (((PyFlat.put done).length : Int) + 1 + (as.length : Nat))) = vInts as := by
          have e : PyFlat.put (done ++ c :: rest) = (PyFlat.put done ++ [pl]) ++ as ++ (row ++ PyFlat.put rest) := by rw [ep]; simp
          rw [e]
          exact cut_mid _ _ _ (by rw [List.length_append, List.length_singleton]; omega) (by rw [List.length_append, List.length_singleton]; omega)
        have cut2 : cutV (vInts (PyFlat.put (done ++ c :: rest))) (some (((PyFlat.put done).length : Int) + 1 + (as.length : Nat))) (some (((PyFlat.put done).length : Int) + 1 + (as.length : Nat) + (row.length : Nat))) = vInts row := by
          have e : PyFlat.put (done ++ c :: rest) = (PyFlat.put done ++ (pl :: as)) ++ row ++ PyFlat.put rest := by rw [ep]; simp
          rw [e]
          exact cut_mid _ _ _ (by rw [List.length_append, List.length_cons]; omega) (by rw [List.length_append, List.length_cons]; omega)
        have n12 : l1 ≠ l2 := ne_of_none upd_same hl2
        have sl2 := same_upd (o := .lst (cutV (vInts (PyFlat.put (done ++ c :: rest))) (some (((PyFlat.put done).length : Int) + 1 + (as.length : Nat))) (some (((PyFlat.put done).length : Int) + 1 + (as.length : Nat) + (row.length : Nat))))) sl1 hl2
        have ok := L.rel.e.ok
        have S := G.same _ _ _ L.rel
        refine ⟨p, q, t, l1, l2, k, r, pl, as, row, f, rfl, L.W.keep sl2, ok, SqL.of (by rw [upd_ne n12, upd_same, cut1]), SqL.of (by rw [upd_same, cut2]), G.cl, fun l6 H3 nl6 c6 W3 F3 => ?_⟩
        obtain ⟨dw3, hp3⟩ := W3.ob
        obtain ⟨dx3, as3, hq3, ht3, tl3⟩ := W3.rt.ex
        have old2 : ∀ {b : Addr} {o : HO}, H b = some o → H3 b = some o := fun {b o} e =>
          F3 b o (sl2 _ _ (L.same _ _ e)) (ne_of_none e L.np) (ne_of_none e L.nq) (ne_of_none e L.nt)
        refine (rdE rfl (rdF p rfl hp3 T.cl_Works T.na_Works_right wf_right (rdN q hq3 (rf_no (by decide +kernel)) ?_)))
        refine ⟨q, t, _, _, rfl, W3.rt, fun t4 H4 nt4 R4 F4 => ?_⟩
        have nqt : q ≠ t := W3.rt.qt
        have ht4 := F4 _ _ ht3 nqt.symm
        have hp4 := F4 _ _ hp3 W3.ne
        have h64 := F4 _ _ c6 (ne_of c6 hq3 (by intro z; cases z))
        have tl4 : TL H4 t as3 (f k r).2.2.1 := tl3.keep fun b xs h _ => F4 _ _ h (ne_of h hq3 (by intro z; cases z))
        have tol := told_of S
        have len := MX.told_len (absOf (after Km265Neutral.start done)) x
        have flen : (f k r).2.2.2.length + ((f k r).2.2.1.flatten.length + 1) ≤ 170 := by
          rw [tol, List.length_append, List.length_cons] at len
          exact len
        refine ⟨l6, t, _, as3, _, rfl, h64, by omega, ht4, tl4, by omega, fun l5 H5 nl5 h5 s5 => ?_⟩
        rw [← tol] at h5
        have W4 : WorksAt A H4 p q t4 (f k r).1 (f k r).2.1 [] := ⟨⟨dw3, hp4⟩, R4, W3.ne⟩
        have W5 := W4.keep s5
        have hgp : g ≠ p := by
          obtain ⟨_, hp2⟩ := L.W.ob
          exact ne_of L.hg hp2 (by intro z; cases z)
        have hgq : g ≠ q := by
          obtain ⟨_, _, hq2, _⟩ := L.W.rt.ex
          exact ne_of L.hg hq2 (by intro z; cases z)
        have hg3 := F3 _ _ (sl2 _ _ L.hg) hgp hgq L.gt
        have hg4 := F4 _ _ hg3 hgq
        have hg5 := s5 _ _ hg4
        have ngl : g ≠ l5 := ne_of_none hg4 nl5
        have ngt4 : g ≠ t4 := ne_of_none hg3 nt4
        have hmay : Km265Neutral.may (after Km265Neutral.start done) (c :: rest) = true := MX.may_after hm
        have st := MX.step_of G.call (MX.may_cons hmay).1
        have bd : (PyFlat.told (PyFlat.played Km265Neutral.step Km265Neutral.start done)).length ≤ 171000 := by
          have b1 := MX.told_bound Km265Neutral.start done (fun d hd => (hc d (List.mem_append_left _ hd)).1) (may_left hm)
          have b2 : done.length ≤ 1000 := by
            rw [List.length_append] at hn
            omega
          omega
        refine (rdE rfl ⟨.inl ⟨rfl, _, SqL.of hg5⟩, _, rfl, l5, _, rfl, .inl (SqL.of h5), g, (rdO rfl rfl ⟨hg5, ?_, ?_⟩)⟩)
        · rw [List.length_map]
          show _ < 2 ^ 24
          omega
        refine (rdE rfl ⟨.inl ⟨rfl, _, SqL.of upd_same⟩, _, rfl, g, l5, (rdO rfl rfl ⟨upd_same, by rw [upd_ne ngl.symm]; exact h5, ?_, ?_⟩)⟩)
        · rw [List.length_append, List.length_map, List.length_map]
          show _ + 1 + _ ≤ 2 ^ 24
          omega
        have epl : ((PyFlat.put done).length : Int) + 1 + (as.length : Nat) + (row.length : Nat) = ((PyFlat.put (done ++ [c])).length : Nat) := by
          rw [MX.put_append]
          show _ = (((PyFlat.put done) ++ (PyFlat.put1 c ++ [])).length : Int)
          rw [G.put]
          simp
          omega
        refine (rdE rfl ⟨⟨done ++ [c], rest, p, q, t4, g, (f k r).1, (f k r).2.1, some (.int (((PyFlat.put done).length : Int) + 1)), some (.int (((PyFlat.put done).length : Int) + 1 + (as.length : Nat))), some (.int (((PyFlat.put done).length : Int) + 1 + (as.length : Nat) + (row.length : Nat))), some (.ref l6), some (.ref l5), by simp, ?_, ?_⟩, ?_⟩)
        · rw [← epl]
          rfl
        · rw [upd_upd]
          refine ⟨?_, L.np, L.nq, ?_, L.ng, ngt4, W5.other hgp hgq ngt4, ?_, ?_⟩
          · intro b o e
            rw [upd_ne (ne_of_none e L.ng)]
            exact s5 _ _ (F4 _ _ (old2 e) (ne_of_none e L.nq))
          · cases e : H t4 with
            | none => rfl
            | some o => rw [old2 e] at nt4; cases nt4
          · rw [upd_same, MX.played_snoc, MX.told_snoc, st.1]
            simp
          · rw [MX.after_snoc, st.2]
            exact S.rel
        · show (((PyFlat.put (done ++ c :: rest)).length : Int) - (((PyFlat.put done).length : Int) + 1 + (as.length : Nat) + (row.length : Nat))).toNat < (((PyFlat.put (done ++ c :: rest)).length : Int) - ((PyFlat.put done).length : Nat)).toNat
          omega
    · rintro σ H Q Q' m ⟨x, h1, y, h2, a2, ys, e1, h3, i, j, e2, e3, b, e4, h4⟩
      exact ⟨x, h1, y, h2, a2, ys, e1, h3, i, j, e2, e3, b, e4, m _ _ h4⟩
theorem nums_nats {m : List Int} (h : ∀ z ∈ m, 0 ≤ z ∧ z < 256) : numsI (Km265Neutral.nats m) = m := by
  unfold numsI Km265Neutral.nats
  rw [List.map_map]
  refine Eq.trans (List.map_congr_left (g := id) fun z hz => ?_) (by simp)
  show ((z.toNat : Nat) : Int) = z
  have := h z hz
  omega
theorem good_of {c : List (List Int)} (h : Km265Neutral.asked1 c = true) : ∃ x pl as row f, Good c x pl as row f := by
  obtain ⟨x, fm, hx⟩ := MX.form_of h
  cases fm with
  | start me most h1 h2 => exact ⟨_, _, _, _, _, hx, rfl, .start me most, fun a k r R => same_one (same_cstart R h1 h2)⟩
  | in_ => exact ⟨_, _, _, _, _, hx, rfl, .in_, fun a k r R => same_one (same_cin R)⟩
  | out => exact ⟨_, _, _, _, _, hx, rfl, .out, fun a k r R => same_one (same_cout R)⟩
  | waiting yes h1 => exact ⟨_, _, _, _, _, hx, rfl, .waiting yes, fun a k r R => same_one (same_cwaiting R h1)⟩
  | heard m hm =>
    have hb : ∀ b ∈ Km265Neutral.nats m, b < 256 := fun b hb => by
      obtain ⟨z, hz, rfl⟩ := List.mem_map.mp hb
      have := hm z hz
      omega
    have el : (Km265Neutral.nats m).length = m.length := List.length_map _
    refine ⟨_, _, _, _, _, hx, ?_, .heard (Km265Neutral.nats m) hb, fun a k r R => ?_⟩
    · rw [nums_nats hm, el]
      simp [PyFlat.put1, PyFlat.putRows, PyFlat.putRow]
    · rw [← el]
      exact same_one (same_cheard R hb)
  | tick => exact ⟨_, _, _, _, _, hx, rfl, .tick, fun a k r R => same_one (same_ctick R)⟩
  | state => exact ⟨_, _, _, _, _, hx, rfl, .state, fun a k r R => same_state R⟩
end
end Ol
namespace Ol
open PySem L2
set_option maxHeartbeats 0 in
theorem tx_mk {K : PySem.W.Frag} {h : Heap} {mg : Str → Option Value} (X : K.In h) (G : h.Ns mainGlobals mg)
    {c_Right : Addr}
    {c_Works : Addr}
    {f_low_bytes_first : Addr} {od_low_bytes_first an_low_bytes_first : Option Addr} {sl_low_bytes_first : Array (Option Value)} {oc_low_bytes_first kV_low_bytes_first dc_low_bytes_first pm_low_bytes_first cd_low_bytes_first ct_low_bytes_first : Value}
    {f_number_at : Addr} {od_number_at an_number_at : Option Addr} {sl_number_at : Array (Option Value)} {oc_number_at kV_number_at dc_number_at pm_number_at cd_number_at ct_number_at : Value}
    {f_check_of : Addr} {od_check_of an_check_of : Option Addr} {sl_check_of : Array (Option Value)} {oc_check_of kV_check_of dc_check_of pm_check_of cd_check_of ct_check_of : Value}
    {f_made_message : Addr} {od_made_message an_made_message : Option Addr} {sl_made_message : Array (Option Value)} {oc_made_message kV_made_message dc_made_message pm_made_message cd_made_message ct_made_message : Value}
    {f_kind_of : Addr} {od_kind_of an_kind_of : Option Addr} {sl_kind_of : Array (Option Value)} {oc_kind_of kV_kind_of dc_kind_of pm_kind_of cd_kind_of ct_kind_of : Value}
    {f_turn_of : Addr} {od_turn_of an_turn_of : Option Addr} {sl_turn_of : Array (Option Value)} {oc_turn_of kV_turn_of dc_turn_of pm_turn_of cd_turn_of ct_turn_of : Value}
    {f_count_of : Addr} {od_count_of an_count_of : Option Addr} {sl_count_of : Array (Option Value)} {oc_count_of kV_count_of dc_count_of pm_count_of cd_count_of ct_count_of : Value}
    {f_is_sound : Addr} {od_is_sound an_is_sound : Option Addr} {sl_is_sound : Array (Option Value)} {oc_is_sound kV_is_sound dc_is_sound pm_is_sound cd_is_sound ct_is_sound : Value}
    {f_is_right_ask : Addr} {od_is_right_ask an_is_right_ask : Option Addr} {sl_is_right_ask : Array (Option Value)} {oc_is_right_ask kV_is_right_ask dc_is_right_ask pm_is_right_ask cd_is_right_ask ct_is_right_ask : Value}
    {f_is_right : Addr} {od_is_right an_is_right : Option Addr} {sl_is_right : Array (Option Value)} {oc_is_right kV_is_right dc_is_right pm_is_right cd_is_right ct_is_right : Value}
    {f_Right_init : Addr} {od_Right_init an_Right_init : Option Addr} {sl_Right_init : Array (Option Value)} {oc_Right_init kV_Right_init dc_Right_init pm_Right_init cd_Right_init ct_Right_init : Value}
    {f_Right_begin_right : Addr} {od_Right_begin_right an_Right_begin_right : Option Addr} {sl_Right_begin_right : Array (Option Value)} {oc_Right_begin_right kV_Right_begin_right dc_Right_begin_right pm_Right_begin_right cd_Right_begin_right ct_Right_begin_right : Value}
    {f_Right_take_told : Addr} {od_Right_take_told an_Right_take_told : Option Addr} {sl_Right_take_told : Array (Option Value)} {oc_Right_take_told kV_Right_take_told dc_Right_take_told pm_Right_take_told cd_Right_take_told ct_Right_take_told : Value}
    {f_Right_send_message : Addr} {od_Right_send_message an_Right_send_message : Option Addr} {sl_Right_send_message : Array (Option Value)} {oc_Right_send_message kV_Right_send_message dc_Right_send_message pm_Right_send_message cd_Right_send_message ct_Right_send_message : Value}
    {f_Right_other_end : Addr} {od_Right_other_end an_Right_other_end : Option Addr} {sl_Right_other_end : Array (Option Value)} {oc_Right_other_end kV_Right_other_end dc_Right_other_end pm_Right_other_end cd_Right_other_end ct_Right_other_end : Value}
    {f_Right_rl_start : Addr} {od_Right_rl_start an_Right_rl_start : Option Addr} {sl_Right_rl_start : Array (Option Value)} {oc_Right_rl_start kV_Right_rl_start dc_Right_rl_start pm_Right_rl_start cd_Right_rl_start ct_Right_rl_start : Value}
    {f_Right_rl_green : Addr} {od_Right_rl_green an_Right_rl_green : Option Addr} {sl_Right_rl_green : Array (Option Value)} {oc_Right_rl_green kV_Right_rl_green dc_Right_rl_green pm_Right_rl_green cd_Right_rl_green ct_Right_rl_green : Value}
    {f_Right_rl_red : Addr} {od_Right_rl_red an_Right_rl_red : Option Addr} {sl_Right_rl_red : Array (Option Value)} {oc_Right_rl_red kV_Right_rl_red dc_Right_rl_red pm_Right_rl_red cd_Right_rl_red ct_Right_rl_red : Value}
    {f_Right_rl_in : Addr} {od_Right_rl_in an_Right_rl_in : Option Addr} {sl_Right_rl_in : Array (Option Value)} {oc_Right_rl_in kV_Right_rl_in dc_Right_rl_in pm_Right_rl_in cd_Right_rl_in ct_Right_rl_in : Value}
    {f_Right_rl_out : Addr} {od_Right_rl_out an_Right_rl_out : Option Addr} {sl_Right_rl_out : Array (Option Value)} {oc_Right_rl_out kV_Right_rl_out dc_Right_rl_out pm_Right_rl_out cd_Right_rl_out ct_Right_rl_out : Value}
    {f_Right_have_if_all_out : Addr} {od_Right_have_if_all_out an_Right_have_if_all_out : Option Addr} {sl_Right_have_if_all_out : Array (Option Value)} {oc_Right_have_if_all_out kV_Right_have_if_all_out dc_Right_have_if_all_out pm_Right_have_if_all_out cd_Right_have_if_all_out ct_Right_have_if_all_out : Value}
    {f_Right_rl_give : Addr} {od_Right_rl_give an_Right_rl_give : Option Addr} {sl_Right_rl_give : Array (Option Value)} {oc_Right_rl_give kV_Right_rl_give dc_Right_rl_give pm_Right_rl_give cd_Right_rl_give ct_Right_rl_give : Value}
    {f_Right_rl_heard : Addr} {od_Right_rl_heard an_Right_rl_heard : Option Addr} {sl_Right_rl_heard : Array (Option Value)} {oc_Right_rl_heard kV_Right_rl_heard dc_Right_rl_heard pm_Right_rl_heard cd_Right_rl_heard ct_Right_rl_heard : Value}
    {f_Right_heard_given : Addr} {od_Right_heard_given an_Right_heard_given : Option Addr} {sl_Right_heard_given : Array (Option Value)} {oc_Right_heard_given kV_Right_heard_given dc_Right_heard_given pm_Right_heard_given cd_Right_heard_given ct_Right_heard_given : Value}
    {f_Right_heard_had : Addr} {od_Right_heard_had an_Right_heard_had : Option Addr} {sl_Right_heard_had : Array (Option Value)} {oc_Right_heard_had kV_Right_heard_had dc_Right_heard_had pm_Right_heard_had cd_Right_heard_had ct_Right_heard_had : Value}
    {f_Right_is_tenth_tick : Addr} {od_Right_is_tenth_tick an_Right_is_tenth_tick : Option Addr} {sl_Right_is_tenth_tick : Array (Option Value)} {oc_Right_is_tenth_tick kV_Right_is_tenth_tick dc_Right_is_tenth_tick pm_Right_is_tenth_tick cd_Right_is_tenth_tick ct_Right_is_tenth_tick : Value}
    {f_Right_rl_tick : Addr} {od_Right_rl_tick an_Right_rl_tick : Option Addr} {sl_Right_rl_tick : Array (Option Value)} {oc_Right_rl_tick kV_Right_rl_tick dc_Right_rl_tick pm_Right_rl_tick cd_Right_rl_tick ct_Right_rl_tick : Value}
    {f_Right_rl_state : Addr} {od_Right_rl_state an_Right_rl_state : Option Addr} {sl_Right_rl_state : Array (Option Value)} {oc_Right_rl_state kV_Right_rl_state dc_Right_rl_state pm_Right_rl_state cd_Right_rl_state ct_Right_rl_state : Value}
    {f_Works_init : Addr} {od_Works_init an_Works_init : Option Addr} {sl_Works_init : Array (Option Value)} {oc_Works_init kV_Works_init dc_Works_init pm_Works_init cd_Works_init ct_Works_init : Value}
    {f_Works_begin_works : Addr} {od_Works_begin_works an_Works_begin_works : Option Addr} {sl_Works_begin_works : Array (Option Value)} {oc_Works_begin_works kV_Works_begin_works dc_Works_begin_works pm_Works_begin_works cd_Works_begin_works ct_Works_begin_works : Value}
    {f_Works_rw_start : Addr} {od_Works_rw_start an_Works_rw_start : Option Addr} {sl_Works_rw_start : Array (Option Value)} {oc_Works_rw_start kV_Works_rw_start dc_Works_rw_start pm_Works_rw_start cd_Works_rw_start ct_Works_rw_start : Value}
    {f_Works_rw_in : Addr} {od_Works_rw_in an_Works_rw_in : Option Addr} {sl_Works_rw_in : Array (Option Value)} {oc_Works_rw_in kV_Works_rw_in dc_Works_rw_in pm_Works_rw_in cd_Works_rw_in ct_Works_rw_in : Value}
    {f_Works_rw_out : Addr} {od_Works_rw_out an_Works_rw_out : Option Addr} {sl_Works_rw_out : Array (Option Value)} {oc_Works_rw_out kV_Works_rw_out dc_Works_rw_out pm_Works_rw_out cd_Works_rw_out ct_Works_rw_out : Value}
    {f_Works_rw_waiting : Addr} {od_Works_rw_waiting an_Works_rw_waiting : Option Addr} {sl_Works_rw_waiting : Array (Option Value)} {oc_Works_rw_waiting kV_Works_rw_waiting dc_Works_rw_waiting pm_Works_rw_waiting cd_Works_rw_waiting ct_Works_rw_waiting : Value}
    {f_Works_rw_heard : Addr} {od_Works_rw_heard an_Works_rw_heard : Option Addr} {sl_Works_rw_heard : Array (Option Value)} {oc_Works_rw_heard kV_Works_rw_heard dc_Works_rw_heard pm_Works_rw_heard cd_Works_rw_heard ct_Works_rw_heard : Value}
    {f_Works_rw_tick : Addr} {od_Works_rw_tick an_Works_rw_tick : Option Addr} {sl_Works_rw_tick : Array (Option Value)} {oc_Works_rw_tick kV_Works_rw_tick dc_Works_rw_tick pm_Works_rw_tick cd_Works_rw_tick ct_Works_rw_tick : Value}
    {f_Works_rw_state : Addr} {od_Works_rw_state an_Works_rw_state : Option Addr} {sl_Works_rw_state : Array (Option Value)} {oc_Works_rw_state kV_Works_rw_state dc_Works_rw_state pm_Works_rw_state cd_Works_rw_state ct_Works_rw_state : Value}
    {f_Works_has_right : Addr} {od_Works_has_right an_Works_has_right : Option Addr} {sl_Works_has_right : Array (Option Value)} {oc_Works_has_right kV_Works_has_right dc_Works_has_right pm_Works_has_right cd_Works_has_right ct_Works_has_right : Value}
    {f_Works_is_asked : Addr} {od_Works_is_asked an_Works_is_asked : Option Addr} {sl_Works_is_asked : Array (Option Value)} {oc_Works_is_asked kV_Works_is_asked dc_Works_is_asked pm_Works_is_asked cd_Works_is_asked ct_Works_is_asked : Value}
    {f_Works_look : Addr} {od_Works_look an_Works_look : Option Addr} {sl_Works_look : Array (Option Value)} {oc_Works_look kV_Works_look dc_Works_look pm_Works_look cd_Works_look ct_Works_look : Value}
    {f_Works_give_right : Addr} {od_Works_give_right an_Works_give_right : Option Addr} {sl_Works_give_right : Array (Option Value)} {oc_Works_give_right kV_Works_give_right dc_Works_give_right pm_Works_give_right cd_Works_give_right ct_Works_give_right : Value}
    {f_Works_make_green : Addr} {od_Works_make_green an_Works_make_green : Option Addr} {sl_Works_make_green : Array (Option Value)} {oc_Works_make_green kV_Works_make_green dc_Works_make_green pm_Works_make_green cd_Works_make_green ct_Works_make_green : Value}
    {f_row_length : Addr} {od_row_length an_row_length : Option Addr} {sl_row_length : Array (Option Value)} {oc_row_length kV_row_length dc_row_length pm_row_length cd_row_length ct_row_length : Value}
    {f_called : Addr} {od_called an_called : Option Addr} {sl_called : Array (Option Value)} {oc_called kV_called dc_called pm_called cd_called ct_called : Value}
    {f_with_told : Addr} {od_with_told an_with_told : Option Addr} {sl_with_told : Array (Option Value)} {oc_with_told kV_with_told dc_with_told pm_with_told cd_with_told ct_with_told : Value}
    {f_answers : Addr} {od_answers an_answers : Option Addr} {sl_answers : Array (Option Value)} {oc_answers kV_answers dc_answers pm_answers cd_answers ct_answers : Value}
    {t_GIVEN : Tok}
    {t_HAD : Tok}
    {t_ASK : Tok}
    {t_LENGTH : Tok}
    {t_TURN_AT : Tok}
    {t_COUNT_AT : Tok}
    {t_CHECK_AT : Tok}
    {t_POLYNOMIAL : Tok}
    {t_ONES : Tok}
    {t_SEND : Tok}
    {t_LIGHT : Tok}
    {t_TELLS : Tok}
    {t_CAME_TO_HAVE : Tok}
    {t_DROVE_IN_AT_RED : Tok}
    {t_GAVE : Tok}
    {t_HAS : Tok}
    {t_WAITS : Tok}
    {t_HAS_NOT : Tok}
    {t_NOT_ALLOWED : Tok}
    {t_IS_GREEN : Tok}
    {t_WRONG_NUMBER : Tok}
    {t_NOT_RIGHT : Tok}
    {t_AGAIN_EVERY : Tok}
    {t_NEVER : Tok}
    {t_MOST_TICKS : Tok}
    {t_RW_START : Tok}
    {t_RW_IN : Tok}
    {t_RW_OUT : Tok}
    {t_RW_WAITING : Tok}
    {t_RW_HEARD : Tok}
    {t_RW_TICK : Tok}
    {o_WHOLE_NUMBERS : Addr} {ep_WHOLE_NUMBERS : Nat} {t0_WHOLE_NUMBERS t1_WHOLE_NUMBERS t2_WHOLE_NUMBERS t3_WHOLE_NUMBERS t4_WHOLE_NUMBERS t5_WHOLE_NUMBERS t6_WHOLE_NUMBERS : Tok} {od_WHOLE_NUMBERS : Option Addr} {sl_WHOLE_NUMBERS : Array (Option Value)}
    (a_Right : PySem.W.nsIn K mainGlobals "Right" = some (some (.ref c_Right)))
    (a_Works : PySem.W.nsIn K mainGlobals "Works" = some (some (.ref c_Works)))
    (a_low_bytes_first : PySem.W.nsIn K mainGlobals "low_bytes_first" = some (some (.ref f_low_bytes_first)))
    (l_low_bytes_first : K.lookup f_low_bytes_first = some ⟨oc_low_bytes_first, od_low_bytes_first, .func (PySem.W.fnOf "low_bytes_first" "low_bytes_first" (defArgs s_low_bytes_first) (defBody s_low_bytes_first) (defScope s_low_bytes_first) .none kV_low_bytes_first dc_low_bytes_first pm_low_bytes_first an_low_bytes_first cd_low_bytes_first ct_low_bytes_first), sl_low_bytes_first⟩)
    (co_low_bytes_first : PySem.W.codeIn K cd_low_bytes_first "low_bytes_first" = true)
    (k_low_bytes_first : PySem.W.keepIn K (.ref f_low_bytes_first) = true)
    (a_number_at : PySem.W.nsIn K mainGlobals "number_at" = some (some (.ref f_number_at)))
    (l_number_at : K.lookup f_number_at = some ⟨oc_number_at, od_number_at, .func (PySem.W.fnOf "number_at" "number_at" (defArgs s_number_at) (defBody s_number_at) (defScope s_number_at) .none kV_number_at dc_number_at pm_number_at an_number_at cd_number_at ct_number_at), sl_number_at⟩)
    (co_number_at : PySem.W.codeIn K cd_number_at "number_at" = true)
    (k_number_at : PySem.W.keepIn K (.ref f_number_at) = true)
    (a_check_of : PySem.W.nsIn K mainGlobals "check_of" = some (some (.ref f_check_of)))
    (l_check_of : K.lookup f_check_of = some ⟨oc_check_of, od_check_of, .func (PySem.W.fnOf "check_of" "check_of" (defArgs s_check_of) (defBody s_check_of) (defScope s_check_of) .none kV_check_of dc_check_of pm_check_of an_check_of cd_check_of ct_check_of), sl_check_of⟩)
    (co_check_of : PySem.W.codeIn K cd_check_of "check_of" = true)
    (k_check_of : PySem.W.keepIn K (.ref f_check_of) = true)
    (a_made_message : PySem.W.nsIn K mainGlobals "made_message" = some (some (.ref f_made_message)))
    (l_made_message : K.lookup f_made_message = some ⟨oc_made_message, od_made_message, .func (PySem.W.fnOf "made_message" "made_message" (defArgs s_made_message) (defBody s_made_message) (defScope s_made_message) .none kV_made_message dc_made_message pm_made_message an_made_message cd_made_message ct_made_message), sl_made_message⟩)
    (co_made_message : PySem.W.codeIn K cd_made_message "made_message" = true)
    (k_made_message : PySem.W.keepIn K (.ref f_made_message) = true)
    (a_kind_of : PySem.W.nsIn K mainGlobals "kind_of" = some (some (.ref f_kind_of)))
    (l_kind_of : K.lookup f_kind_of = some ⟨oc_kind_of, od_kind_of, .func (PySem.W.fnOf "kind_of" "kind_of" (defArgs s_kind_of) (defBody s_kind_of) (defScope s_kind_of) .none kV_kind_of dc_kind_of pm_kind_of an_kind_of cd_kind_of ct_kind_of), sl_kind_of⟩)
    (co_kind_of : PySem.W.codeIn K cd_kind_of "kind_of" = true)
    (k_kind_of : PySem.W.keepIn K (.ref f_kind_of) = true)
    (a_turn_of : PySem.W.nsIn K mainGlobals "turn_of" = some (some (.ref f_turn_of)))
    (l_turn_of : K.lookup f_turn_of = some ⟨oc_turn_of, od_turn_of, .func (PySem.W.fnOf "turn_of" "turn_of" (defArgs s_turn_of) (defBody s_turn_of) (defScope s_turn_of) .none kV_turn_of dc_turn_of pm_turn_of an_turn_of cd_turn_of ct_turn_of), sl_turn_of⟩)
    (co_turn_of : PySem.W.codeIn K cd_turn_of "turn_of" = true)
    (k_turn_of : PySem.W.keepIn K (.ref f_turn_of) = true)
    (a_count_of : PySem.W.nsIn K mainGlobals "count_of" = some (some (.ref f_count_of)))
    (l_count_of : K.lookup f_count_of = some ⟨oc_count_of, od_count_of, .func (PySem.W.fnOf "count_of" "count_of" (defArgs s_count_of) (defBody s_count_of) (defScope s_count_of) .none kV_count_of dc_count_of pm_count_of an_count_of cd_count_of ct_count_of), sl_count_of⟩)
    (co_count_of : PySem.W.codeIn K cd_count_of "count_of" = true)
    (k_count_of : PySem.W.keepIn K (.ref f_count_of) = true)
    (a_is_sound : PySem.W.nsIn K mainGlobals "is_sound" = some (some (.ref f_is_sound)))
    (l_is_sound : K.lookup f_is_sound = some ⟨oc_is_sound, od_is_sound, .func (PySem.W.fnOf "is_sound" "is_sound" (defArgs s_is_sound) (defBody s_is_sound) (defScope s_is_sound) .none kV_is_sound dc_is_sound pm_is_sound an_is_sound cd_is_sound ct_is_sound), sl_is_sound⟩)
    (co_is_sound : PySem.W.codeIn K cd_is_sound "is_sound" = true)
    (k_is_sound : PySem.W.keepIn K (.ref f_is_sound) = true)
    (a_is_right_ask : PySem.W.nsIn K mainGlobals "is_right_ask" = some (some (.ref f_is_right_ask)))
    (l_is_right_ask : K.lookup f_is_right_ask = some ⟨oc_is_right_ask, od_is_right_ask, .func (PySem.W.fnOf "is_right_ask" "is_right_ask" (defArgs s_is_right_ask) (defBody s_is_right_ask) (defScope s_is_right_ask) .none kV_is_right_ask dc_is_right_ask pm_is_right_ask an_is_right_ask cd_is_right_ask ct_is_right_ask), sl_is_right_ask⟩)
    (co_is_right_ask : PySem.W.codeIn K cd_is_right_ask "is_right_ask" = true)
    (k_is_right_ask : PySem.W.keepIn K (.ref f_is_right_ask) = true)
    (a_is_right : PySem.W.nsIn K mainGlobals "is_right" = some (some (.ref f_is_right)))
    (l_is_right : K.lookup f_is_right = some ⟨oc_is_right, od_is_right, .func (PySem.W.fnOf "is_right" "is_right" (defArgs s_is_right) (defBody s_is_right) (defScope s_is_right) .none kV_is_right dc_is_right pm_is_right an_is_right cd_is_right ct_is_right), sl_is_right⟩)
    (co_is_right : PySem.W.codeIn K cd_is_right "is_right" = true)
    (k_is_right : PySem.W.keepIn K (.ref f_is_right) = true)
    (a_Right_init : PySem.W.findIn K (.ref c_Right) "__init__" = some (some (.ref f_Right_init)))
    (i_Right_init : PySem.W.isFn K (.ref f_Right_init) = true)
    (l_Right_init : K.lookup f_Right_init = some ⟨oc_Right_init, od_Right_init, .func (PySem.W.fnOf "__init__" "Right.__init__" (defArgs s_Right_init) (defBody s_Right_init) (defScope s_Right_init) .none kV_Right_init dc_Right_init pm_Right_init an_Right_init cd_Right_init ct_Right_init), sl_Right_init⟩)
    (co_Right_init : PySem.W.codeIn K cd_Right_init "Right.__init__" = true)
    (k_Right_init : PySem.W.keepIn K (.ref f_Right_init) = true)
    (a_Right_begin_right : PySem.W.findIn K (.ref c_Right) "begin_right" = some (some (.ref f_Right_begin_right)))
    (i_Right_begin_right : PySem.W.isFn K (.ref f_Right_begin_right) = true)
    (l_Right_begin_right : K.lookup f_Right_begin_right = some ⟨oc_Right_begin_right, od_Right_begin_right, .func (PySem.W.fnOf "begin_right" "Right.begin_right" (defArgs s_Right_begin_right) (defBody s_Right_begin_right) (defScope s_Right_begin_right) .none kV_Right_begin_right dc_Right_begin_right pm_Right_begin_right an_Right_begin_right cd_Right_begin_right ct_Right_begin_right), sl_Right_begin_right⟩)
    (co_Right_begin_right : PySem.W.codeIn K cd_Right_begin_right "Right.begin_right" = true)
    (k_Right_begin_right : PySem.W.keepIn K (.ref f_Right_begin_right) = true)
    (a_Right_take_told : PySem.W.findIn K (.ref c_Right) "take_told" = some (some (.ref f_Right_take_told)))
    (i_Right_take_told : PySem.W.isFn K (.ref f_Right_take_told) = true)
    (l_Right_take_told : K.lookup f_Right_take_told = some ⟨oc_Right_take_told, od_Right_take_told, .func (PySem.W.fnOf "take_told" "Right.take_told" (defArgs s_Right_take_told) (defBody s_Right_take_told) (defScope s_Right_take_told) .none kV_Right_take_told dc_Right_take_told pm_Right_take_told an_Right_take_told cd_Right_take_told ct_Right_take_told), sl_Right_take_told⟩)
    (co_Right_take_told : PySem.W.codeIn K cd_Right_take_told "Right.take_told" = true)
    (k_Right_take_told : PySem.W.keepIn K (.ref f_Right_take_told) = true)
    (a_Right_send_message : PySem.W.findIn K (.ref c_Right) "send_message" = some (some (.ref f_Right_send_message)))
    (i_Right_send_message : PySem.W.isFn K (.ref f_Right_send_message) = true)
    (l_Right_send_message : K.lookup f_Right_send_message = some ⟨oc_Right_send_message, od_Right_send_message, .func (PySem.W.fnOf "send_message" "Right.send_message" (defArgs s_Right_send_message) (defBody s_Right_send_message) (defScope s_Right_send_message) .none kV_Right_send_message dc_Right_send_message pm_Right_send_message an_Right_send_message cd_Right_send_message ct_Right_send_message), sl_Right_send_message⟩)
    (co_Right_send_message : PySem.W.codeIn K cd_Right_send_message "Right.send_message" = true)
    (k_Right_send_message : PySem.W.keepIn K (.ref f_Right_send_message) = true)
    (a_Right_other_end : PySem.W.findIn K (.ref c_Right) "other_end" = some (some (.ref f_Right_other_end)))
    (i_Right_other_end : PySem.W.isFn K (.ref f_Right_other_end) = true)
    (l_Right_other_end : K.lookup f_Right_other_end = some ⟨oc_Right_other_end, od_Right_other_end, .func (PySem.W.fnOf "other_end" "Right.other_end" (defArgs s_Right_other_end) (defBody s_Right_other_end) (defScope s_Right_other_end) .none kV_Right_other_end dc_Right_other_end pm_Right_other_end an_Right_other_end cd_Right_other_end ct_Right_other_end), sl_Right_other_end⟩)
    (co_Right_other_end : PySem.W.codeIn K cd_Right_other_end "Right.other_end" = true)
    (k_Right_other_end : PySem.W.keepIn K (.ref f_Right_other_end) = true)
    (a_Right_rl_start : PySem.W.findIn K (.ref c_Right) "rl_start" = some (some (.ref f_Right_rl_start)))
    (i_Right_rl_start : PySem.W.isFn K (.ref f_Right_rl_start) = true)
    (l_Right_rl_start : K.lookup f_Right_rl_start = some ⟨oc_Right_rl_start, od_Right_rl_start, .func (PySem.W.fnOf "rl_start" "Right.rl_start" (defArgs s_Right_rl_start) (defBody s_Right_rl_start) (defScope s_Right_rl_start) .none kV_Right_rl_start dc_Right_rl_start pm_Right_rl_start an_Right_rl_start cd_Right_rl_start ct_Right_rl_start), sl_Right_rl_start⟩)
    (co_Right_rl_start : PySem.W.codeIn K cd_Right_rl_start "Right.rl_start" = true)
    (k_Right_rl_start : PySem.W.keepIn K (.ref f_Right_rl_start) = true)
    (a_Right_rl_green : PySem.W.findIn K (.ref c_Right) "rl_green" = some (some (.ref f_Right_rl_green)))
    (i_Right_rl_green : PySem.W.isFn K (.ref f_Right_rl_green) = true)
    (l_Right_rl_green : K.lookup f_Right_rl_green = some ⟨oc_Right_rl_green, od_Right_rl_green, .func (PySem.W.fnOf "rl_green" "Right.rl_green" (defArgs s_Right_rl_green) (defBody s_Right_rl_green) (defScope s_Right_rl_green) .none kV_Right_rl_green dc_Right_rl_green pm_Right_rl_green an_Right_rl_green cd_Right_rl_green ct_Right_rl_green), sl_Right_rl_green⟩)
    (co_Right_rl_green : PySem.W.codeIn K cd_Right_rl_green "Right.rl_green" = true)
    (k_Right_rl_green : PySem.W.keepIn K (.ref f_Right_rl_green) = true)
    (a_Right_rl_red : PySem.W.findIn K (.ref c_Right) "rl_red" = some (some (.ref f_Right_rl_red)))
    (i_Right_rl_red : PySem.W.isFn K (.ref f_Right_rl_red) = true)
    (l_Right_rl_red : K.lookup f_Right_rl_red = some ⟨oc_Right_rl_red, od_Right_rl_red, .func (PySem.W.fnOf "rl_red" "Right.rl_red" (defArgs s_Right_rl_red) (defBody s_Right_rl_red) (defScope s_Right_rl_red) .none kV_Right_rl_red dc_Right_rl_red pm_Right_rl_red an_Right_rl_red cd_Right_rl_red ct_Right_rl_red), sl_Right_rl_red⟩)
    (co_Right_rl_red : PySem.W.codeIn K cd_Right_rl_red "Right.rl_red" = true)
    (k_Right_rl_red : PySem.W.keepIn K (.ref f_Right_rl_red) = true)
    (a_Right_rl_in : PySem.W.findIn K (.ref c_Right) "rl_in" = some (some (.ref f_Right_rl_in)))
    (i_Right_rl_in : PySem.W.isFn K (.ref f_Right_rl_in) = true)
    (l_Right_rl_in : K.lookup f_Right_rl_in = some ⟨oc_Right_rl_in, od_Right_rl_in, .func (PySem.W.fnOf "rl_in" "Right.rl_in" (defArgs s_Right_rl_in) (defBody s_Right_rl_in) (defScope s_Right_rl_in) .none kV_Right_rl_in dc_Right_rl_in pm_Right_rl_in an_Right_rl_in cd_Right_rl_in ct_Right_rl_in), sl_Right_rl_in⟩)
    (co_Right_rl_in : PySem.W.codeIn K cd_Right_rl_in "Right.rl_in" = true)
    (k_Right_rl_in : PySem.W.keepIn K (.ref f_Right_rl_in) = true)
    (a_Right_rl_out : PySem.W.findIn K (.ref c_Right) "rl_out" = some (some (.ref f_Right_rl_out)))
    (i_Right_rl_out : PySem.W.isFn K (.ref f_Right_rl_out) = true)
    (l_Right_rl_out : K.lookup f_Right_rl_out = some ⟨oc_Right_rl_out, od_Right_rl_out, .func (PySem.W.fnOf "rl_out" "Right.rl_out" (defArgs s_Right_rl_out) (defBody s_Right_rl_out) (defScope s_Right_rl_out) .none kV_Right_rl_out dc_Right_rl_out pm_Right_rl_out an_Right_rl_out cd_Right_rl_out ct_Right_rl_out), sl_Right_rl_out⟩)
    (co_Right_rl_out : PySem.W.codeIn K cd_Right_rl_out "Right.rl_out" = true)
    (k_Right_rl_out : PySem.W.keepIn K (.ref f_Right_rl_out) = true)
    (a_Right_have_if_all_out : PySem.W.findIn K (.ref c_Right) "have_if_all_out" = some (some (.ref f_Right_have_if_all_out)))
    (i_Right_have_if_all_out : PySem.W.isFn K (.ref f_Right_have_if_all_out) = true)
    (l_Right_have_if_all_out : K.lookup f_Right_have_if_all_out = some ⟨oc_Right_have_if_all_out, od_Right_have_if_all_out, .func (PySem.W.fnOf "have_if_all_out" "Right.have_if_all_out" (defArgs s_Right_have_if_all_out) (defBody s_Right_have_if_all_out) (defScope s_Right_have_if_all_out) .none kV_Right_have_if_all_out dc_Right_have_if_all_out pm_Right_have_if_all_out an_Right_have_if_all_out cd_Right_have_if_all_out ct_Right_have_if_all_out), sl_Right_have_if_all_out⟩)
    (co_Right_have_if_all_out : PySem.W.codeIn K cd_Right_have_if_all_out "Right.have_if_all_out" = true)
    (k_Right_have_if_all_out : PySem.W.keepIn K (.ref f_Right_have_if_all_out) = true)
    (a_Right_rl_give : PySem.W.findIn K (.ref c_Right) "rl_give" = some (some (.ref f_Right_rl_give)))
    (i_Right_rl_give : PySem.W.isFn K (.ref f_Right_rl_give) = true)
    (l_Right_rl_give : K.lookup f_Right_rl_give = some ⟨oc_Right_rl_give, od_Right_rl_give, .func (PySem.W.fnOf "rl_give" "Right.rl_give" (defArgs s_Right_rl_give) (defBody s_Right_rl_give) (defScope s_Right_rl_give) .none kV_Right_rl_give dc_Right_rl_give pm_Right_rl_give an_Right_rl_give cd_Right_rl_give ct_Right_rl_give), sl_Right_rl_give⟩)
    (co_Right_rl_give : PySem.W.codeIn K cd_Right_rl_give "Right.rl_give" = true)
    (k_Right_rl_give : PySem.W.keepIn K (.ref f_Right_rl_give) = true)
    (a_Right_rl_heard : PySem.W.findIn K (.ref c_Right) "rl_heard" = some (some (.ref f_Right_rl_heard)))
    (i_Right_rl_heard : PySem.W.isFn K (.ref f_Right_rl_heard) = true)
    (l_Right_rl_heard : K.lookup f_Right_rl_heard = some ⟨oc_Right_rl_heard, od_Right_rl_heard, .func (PySem.W.fnOf "rl_heard" "Right.rl_heard" (defArgs s_Right_rl_heard) (defBody s_Right_rl_heard) (defScope s_Right_rl_heard) .none kV_Right_rl_heard dc_Right_rl_heard pm_Right_rl_heard an_Right_rl_heard cd_Right_rl_heard ct_Right_rl_heard), sl_Right_rl_heard⟩)
    (co_Right_rl_heard : PySem.W.codeIn K cd_Right_rl_heard "Right.rl_heard" = true)
    (k_Right_rl_heard : PySem.W.keepIn K (.ref f_Right_rl_heard) = true)
    (a_Right_heard_given : PySem.W.findIn K (.ref c_Right) "heard_given" = some (some (.ref f_Right_heard_given)))
    (i_Right_heard_given : PySem.W.isFn K (.ref f_Right_heard_given) = true)
    (l_Right_heard_given : K.lookup f_Right_heard_given = some ⟨oc_Right_heard_given, od_Right_heard_given, .func (PySem.W.fnOf "heard_given" "Right.heard_given" (defArgs s_Right_heard_given) (defBody s_Right_heard_given) (defScope s_Right_heard_given) .none kV_Right_heard_given dc_Right_heard_given pm_Right_heard_given an_Right_heard_given cd_Right_heard_given ct_Right_heard_given), sl_Right_heard_given⟩)
    (co_Right_heard_given : PySem.W.codeIn K cd_Right_heard_given "Right.heard_given" = true)
    (k_Right_heard_given : PySem.W.keepIn K (.ref f_Right_heard_given) = true)
    (a_Right_heard_had : PySem.W.findIn K (.ref c_Right) "heard_had" = some (some (.ref f_Right_heard_had)))
    (i_Right_heard_had : PySem.W.isFn K (.ref f_Right_heard_had) = true)
    (l_Right_heard_had : K.lookup f_Right_heard_had = some ⟨oc_Right_heard_had, od_Right_heard_had, .func (PySem.W.fnOf "heard_had" "Right.heard_had" (defArgs s_Right_heard_had) (defBody s_Right_heard_had) (defScope s_Right_heard_had) .none kV_Right_heard_had dc_Right_heard_had pm_Right_heard_had an_Right_heard_had cd_Right_heard_had ct_Right_heard_had), sl_Right_heard_had⟩)
    (co_Right_heard_had : PySem.W.codeIn K cd_Right_heard_had "Right.heard_had" = true)
    (k_Right_heard_had : PySem.W.keepIn K (.ref f_Right_heard_had) = true)
    (a_Right_is_tenth_tick : PySem.W.findIn K (.ref c_Right) "is_tenth_tick" = some (some (.ref f_Right_is_tenth_tick)))
    (i_Right_is_tenth_tick : PySem.W.isFn K (.ref f_Right_is_tenth_tick) = true)
    (l_Right_is_tenth_tick : K.lookup f_Right_is_tenth_tick = some ⟨oc_Right_is_tenth_tick, od_Right_is_tenth_tick, .func (PySem.W.fnOf "is_tenth_tick" "Right.is_tenth_tick" (defArgs s_Right_is_tenth_tick) (defBody s_Right_is_tenth_tick) (defScope s_Right_is_tenth_tick) .none kV_Right_is_tenth_tick dc_Right_is_tenth_tick pm_Right_is_tenth_tick an_Right_is_tenth_tick cd_Right_is_tenth_tick ct_Right_is_tenth_tick), sl_Right_is_tenth_tick⟩)
    (co_Right_is_tenth_tick : PySem.W.codeIn K cd_Right_is_tenth_tick "Right.is_tenth_tick" = true)
    (k_Right_is_tenth_tick : PySem.W.keepIn K (.ref f_Right_is_tenth_tick) = true)
    (a_Right_rl_tick : PySem.W.findIn K (.ref c_Right) "rl_tick" = some (some (.ref f_Right_rl_tick)))
    (i_Right_rl_tick : PySem.W.isFn K (.ref f_Right_rl_tick) = true)
    (l_Right_rl_tick : K.lookup f_Right_rl_tick = some ⟨oc_Right_rl_tick, od_Right_rl_tick, .func (PySem.W.fnOf "rl_tick" "Right.rl_tick" (defArgs s_Right_rl_tick) (defBody s_Right_rl_tick) (defScope s_Right_rl_tick) .none kV_Right_rl_tick dc_Right_rl_tick pm_Right_rl_tick an_Right_rl_tick cd_Right_rl_tick ct_Right_rl_tick), sl_Right_rl_tick⟩)
    (co_Right_rl_tick : PySem.W.codeIn K cd_Right_rl_tick "Right.rl_tick" = true)
    (k_Right_rl_tick : PySem.W.keepIn K (.ref f_Right_rl_tick) = true)
    (a_Right_rl_state : PySem.W.findIn K (.ref c_Right) "rl_state" = some (some (.ref f_Right_rl_state)))
    (i_Right_rl_state : PySem.W.isFn K (.ref f_Right_rl_state) = true)
    (l_Right_rl_state : K.lookup f_Right_rl_state = some ⟨oc_Right_rl_state, od_Right_rl_state, .func (PySem.W.fnOf "rl_state" "Right.rl_state" (defArgs s_Right_rl_state) (defBody s_Right_rl_state) (defScope s_Right_rl_state) .none kV_Right_rl_state dc_Right_rl_state pm_Right_rl_state an_Right_rl_state cd_Right_rl_state ct_Right_rl_state), sl_Right_rl_state⟩)
    (co_Right_rl_state : PySem.W.codeIn K cd_Right_rl_state "Right.rl_state" = true)
    (k_Right_rl_state : PySem.W.keepIn K (.ref f_Right_rl_state) = true)
    (a_Works_init : PySem.W.findIn K (.ref c_Works) "__init__" = some (some (.ref f_Works_init)))
    (i_Works_init : PySem.W.isFn K (.ref f_Works_init) = true)
    (l_Works_init : K.lookup f_Works_init = some ⟨oc_Works_init, od_Works_init, .func (PySem.W.fnOf "__init__" "Works.__init__" (defArgs s_Works_init) (defBody s_Works_init) (defScope s_Works_init) .none kV_Works_init dc_Works_init pm_Works_init an_Works_init cd_Works_init ct_Works_init), sl_Works_init⟩)
    (co_Works_init : PySem.W.codeIn K cd_Works_init "Works.__init__" = true)
    (k_Works_init : PySem.W.keepIn K (.ref f_Works_init) = true)
    (a_Works_begin_works : PySem.W.findIn K (.ref c_Works) "begin_works" = some (some (.ref f_Works_begin_works)))
    (i_Works_begin_works : PySem.W.isFn K (.ref f_Works_begin_works) = true)
    (l_Works_begin_works : K.lookup f_Works_begin_works = some ⟨oc_Works_begin_works, od_Works_begin_works, .func (PySem.W.fnOf "begin_works" "Works.begin_works" (defArgs s_Works_begin_works) (defBody s_Works_begin_works) (defScope s_Works_begin_works) .none kV_Works_begin_works dc_Works_begin_works pm_Works_begin_works an_Works_begin_works cd_Works_begin_works ct_Works_begin_works), sl_Works_begin_works⟩)
    (co_Works_begin_works : PySem.W.codeIn K cd_Works_begin_works "Works.begin_works" = true)
    (k_Works_begin_works : PySem.W.keepIn K (.ref f_Works_begin_works) = true)
    (a_Works_rw_start : PySem.W.findIn K (.ref c_Works) "rw_start" = some (some (.ref f_Works_rw_start)))
    (i_Works_rw_start : PySem.W.isFn K (.ref f_Works_rw_start) = true)
    (l_Works_rw_start : K.lookup f_Works_rw_start = some ⟨oc_Works_rw_start, od_Works_rw_start, .func (PySem.W.fnOf "rw_start" "Works.rw_start" (defArgs s_Works_rw_start) (defBody s_Works_rw_start) (defScope s_Works_rw_start) .none kV_Works_rw_start dc_Works_rw_start pm_Works_rw_start an_Works_rw_start cd_Works_rw_start ct_Works_rw_start), sl_Works_rw_start⟩)
    (co_Works_rw_start : PySem.W.codeIn K cd_Works_rw_start "Works.rw_start" = true)
    (k_Works_rw_start : PySem.W.keepIn K (.ref f_Works_rw_start) = true)
    (a_Works_rw_in : PySem.W.findIn K (.ref c_Works) "rw_in" = some (some (.ref f_Works_rw_in)))
    (i_Works_rw_in : PySem.W.isFn K (.ref f_Works_rw_in) = true)
    (l_Works_rw_in : K.lookup f_Works_rw_in = some ⟨oc_Works_rw_in, od_Works_rw_in, .func (PySem.W.fnOf "rw_in" "Works.rw_in" (defArgs s_Works_rw_in) (defBody s_Works_rw_in) (defScope s_Works_rw_in) .none kV_Works_rw_in dc_Works_rw_in pm_Works_rw_in an_Works_rw_in cd_Works_rw_in ct_Works_rw_in), sl_Works_rw_in⟩)
    (co_Works_rw_in : PySem.W.codeIn K cd_Works_rw_in "Works.rw_in" = true)
    (k_Works_rw_in : PySem.W.keepIn K (.ref f_Works_rw_in) = true)
    (a_Works_rw_out : PySem.W.findIn K (.ref c_Works) "rw_out" = some (some (.ref f_Works_rw_out)))
    (i_Works_rw_out : PySem.W.isFn K (.ref f_Works_rw_out) = true)
    (l_Works_rw_out : K.lookup f_Works_rw_out = some ⟨oc_Works_rw_out, od_Works_rw_out, .func (PySem.W.fnOf "rw_out" "Works.rw_out" (defArgs s_Works_rw_out) (defBody s_Works_rw_out) (defScope s_Works_rw_out) .none kV_Works_rw_out dc_Works_rw_out pm_Works_rw_out an_Works_rw_out cd_Works_rw_out ct_Works_rw_out), sl_Works_rw_out⟩)
    (co_Works_rw_out : PySem.W.codeIn K cd_Works_rw_out "Works.rw_out" = true)
    (k_Works_rw_out : PySem.W.keepIn K (.ref f_Works_rw_out) = true)
    (a_Works_rw_waiting : PySem.W.findIn K (.ref c_Works) "rw_waiting" = some (some (.ref f_Works_rw_waiting)))
    (i_Works_rw_waiting : PySem.W.isFn K (.ref f_Works_rw_waiting) = true)
    (l_Works_rw_waiting : K.lookup f_Works_rw_waiting = some ⟨oc_Works_rw_waiting, od_Works_rw_waiting, .func (PySem.W.fnOf "rw_waiting" "Works.rw_waiting" (defArgs s_Works_rw_waiting) (defBody s_Works_rw_waiting) (defScope s_Works_rw_waiting) .none kV_Works_rw_waiting dc_Works_rw_waiting pm_Works_rw_waiting an_Works_rw_waiting cd_Works_rw_waiting ct_Works_rw_waiting), sl_Works_rw_waiting⟩)
    (co_Works_rw_waiting : PySem.W.codeIn K cd_Works_rw_waiting "Works.rw_waiting" = true)
    (k_Works_rw_waiting : PySem.W.keepIn K (.ref f_Works_rw_waiting) = true)
    (a_Works_rw_heard : PySem.W.findIn K (.ref c_Works) "rw_heard" = some (some (.ref f_Works_rw_heard)))
    (i_Works_rw_heard : PySem.W.isFn K (.ref f_Works_rw_heard) = true)
    (l_Works_rw_heard : K.lookup f_Works_rw_heard = some ⟨oc_Works_rw_heard, od_Works_rw_heard, .func (PySem.W.fnOf "rw_heard" "Works.rw_heard" (defArgs s_Works_rw_heard) (defBody s_Works_rw_heard) (defScope s_Works_rw_heard) .none kV_Works_rw_heard dc_Works_rw_heard pm_Works_rw_heard an_Works_rw_heard cd_Works_rw_heard ct_Works_rw_heard), sl_Works_rw_heard⟩)
    (co_Works_rw_heard : PySem.W.codeIn K cd_Works_rw_heard "Works.rw_heard" = true)
    (k_Works_rw_heard : PySem.W.keepIn K (.ref f_Works_rw_heard) = true)
    (a_Works_rw_tick : PySem.W.findIn K (.ref c_Works) "rw_tick" = some (some (.ref f_Works_rw_tick)))
    (i_Works_rw_tick : PySem.W.isFn K (.ref f_Works_rw_tick) = true)
    (l_Works_rw_tick : K.lookup f_Works_rw_tick = some ⟨oc_Works_rw_tick, od_Works_rw_tick, .func (PySem.W.fnOf "rw_tick" "Works.rw_tick" (defArgs s_Works_rw_tick) (defBody s_Works_rw_tick) (defScope s_Works_rw_tick) .none kV_Works_rw_tick dc_Works_rw_tick pm_Works_rw_tick an_Works_rw_tick cd_Works_rw_tick ct_Works_rw_tick), sl_Works_rw_tick⟩)
    (co_Works_rw_tick : PySem.W.codeIn K cd_Works_rw_tick "Works.rw_tick" = true)
    (k_Works_rw_tick : PySem.W.keepIn K (.ref f_Works_rw_tick) = true)
    (a_Works_rw_state : PySem.W.findIn K (.ref c_Works) "rw_state" = some (some (.ref f_Works_rw_state)))
    (i_Works_rw_state : PySem.W.isFn K (.ref f_Works_rw_state) = true)
    (l_Works_rw_state : K.lookup f_Works_rw_state = some ⟨oc_Works_rw_state, od_Works_rw_state, .func (PySem.W.fnOf "rw_state" "Works.rw_state" (defArgs s_Works_rw_state) (defBody s_Works_rw_state) (defScope s_Works_rw_state) .none kV_Works_rw_state dc_Works_rw_state pm_Works_rw_state an_Works_rw_state cd_Works_rw_state ct_Works_rw_state), sl_Works_rw_state⟩)
    (co_Works_rw_state : PySem.W.codeIn K cd_Works_rw_state "Works.rw_state" = true)
    (k_Works_rw_state : PySem.W.keepIn K (.ref f_Works_rw_state) = true)
    (a_Works_has_right : PySem.W.findIn K (.ref c_Works) "has_right" = some (some (.ref f_Works_has_right)))
    (i_Works_has_right : PySem.W.isFn K (.ref f_Works_has_right) = true)
    (l_Works_has_right : K.lookup f_Works_has_right = some ⟨oc_Works_has_right, od_Works_has_right, .func (PySem.W.fnOf "has_right" "Works.has_right" (defArgs s_Works_has_right) (defBody s_Works_has_right) (defScope s_Works_has_right) .none kV_Works_has_right dc_Works_has_right pm_Works_has_right an_Works_has_right cd_Works_has_right ct_Works_has_right), sl_Works_has_right⟩)
    (co_Works_has_right : PySem.W.codeIn K cd_Works_has_right "Works.has_right" = true)
    (k_Works_has_right : PySem.W.keepIn K (.ref f_Works_has_right) = true)
    (a_Works_is_asked : PySem.W.findIn K (.ref c_Works) "is_asked" = some (some (.ref f_Works_is_asked)))
    (i_Works_is_asked : PySem.W.isFn K (.ref f_Works_is_asked) = true)
    (l_Works_is_asked : K.lookup f_Works_is_asked = some ⟨oc_Works_is_asked, od_Works_is_asked, .func (PySem.W.fnOf "is_asked" "Works.is_asked" (defArgs s_Works_is_asked) (defBody s_Works_is_asked) (defScope s_Works_is_asked) .none kV_Works_is_asked dc_Works_is_asked pm_Works_is_asked an_Works_is_asked cd_Works_is_asked ct_Works_is_asked), sl_Works_is_asked⟩)
    (co_Works_is_asked : PySem.W.codeIn K cd_Works_is_asked "Works.is_asked" = true)
    (k_Works_is_asked : PySem.W.keepIn K (.ref f_Works_is_asked) = true)
    (a_Works_look : PySem.W.findIn K (.ref c_Works) "look" = some (some (.ref f_Works_look)))
    (i_Works_look : PySem.W.isFn K (.ref f_Works_look) = true)
    (l_Works_look : K.lookup f_Works_look = some ⟨oc_Works_look, od_Works_look, .func (PySem.W.fnOf "look" "Works.look" (defArgs s_Works_look) (defBody s_Works_look) (defScope s_Works_look) .none kV_Works_look dc_Works_look pm_Works_look an_Works_look cd_Works_look ct_Works_look), sl_Works_look⟩)
    (co_Works_look : PySem.W.codeIn K cd_Works_look "Works.look" = true)
    (k_Works_look : PySem.W.keepIn K (.ref f_Works_look) = true)
    (a_Works_give_right : PySem.W.findIn K (.ref c_Works) "give_right" = some (some (.ref f_Works_give_right)))
    (i_Works_give_right : PySem.W.isFn K (.ref f_Works_give_right) = true)
    (l_Works_give_right : K.lookup f_Works_give_right = some ⟨oc_Works_give_right, od_Works_give_right, .func (PySem.W.fnOf "give_right" "Works.give_right" (defArgs s_Works_give_right) (defBody s_Works_give_right) (defScope s_Works_give_right) .none kV_Works_give_right dc_Works_give_right pm_Works_give_right an_Works_give_right cd_Works_give_right ct_Works_give_right), sl_Works_give_right⟩)
    (co_Works_give_right : PySem.W.codeIn K cd_Works_give_right "Works.give_right" = true)
    (k_Works_give_right : PySem.W.keepIn K (.ref f_Works_give_right) = true)
    (a_Works_make_green : PySem.W.findIn K (.ref c_Works) "make_green" = some (some (.ref f_Works_make_green)))
    (i_Works_make_green : PySem.W.isFn K (.ref f_Works_make_green) = true)
    (l_Works_make_green : K.lookup f_Works_make_green = some ⟨oc_Works_make_green, od_Works_make_green, .func (PySem.W.fnOf "make_green" "Works.make_green" (defArgs s_Works_make_green) (defBody s_Works_make_green) (defScope s_Works_make_green) .none kV_Works_make_green dc_Works_make_green pm_Works_make_green an_Works_make_green cd_Works_make_green ct_Works_make_green), sl_Works_make_green⟩)
    (co_Works_make_green : PySem.W.codeIn K cd_Works_make_green "Works.make_green" = true)
    (k_Works_make_green : PySem.W.keepIn K (.ref f_Works_make_green) = true)
    (a_row_length : PySem.W.nsIn K mainGlobals "row_length" = some (some (.ref f_row_length)))
    (l_row_length : K.lookup f_row_length = some ⟨oc_row_length, od_row_length, .func (PySem.W.fnOf "row_length" "row_length" (defArgs s_row_length) (defBody s_row_length) (defScope s_row_length) .none kV_row_length dc_row_length pm_row_length an_row_length cd_row_length ct_row_length), sl_row_length⟩)
    (co_row_length : PySem.W.codeIn K cd_row_length "row_length" = true)
    (k_row_length : PySem.W.keepIn K (.ref f_row_length) = true)
    (a_called : PySem.W.nsIn K mainGlobals "called" = some (some (.ref f_called)))
    (l_called : K.lookup f_called = some ⟨oc_called, od_called, .func (PySem.W.fnOf "called" "called" (defArgs s_called) (defBody s_called) (defScope s_called) .none kV_called dc_called pm_called an_called cd_called ct_called), sl_called⟩)
    (co_called : PySem.W.codeIn K cd_called "called" = true)
    (k_called : PySem.W.keepIn K (.ref f_called) = true)
    (a_with_told : PySem.W.nsIn K mainGlobals "with_told" = some (some (.ref f_with_told)))
    (l_with_told : K.lookup f_with_told = some ⟨oc_with_told, od_with_told, .func (PySem.W.fnOf "with_told" "with_told" (defArgs s_with_told) (defBody s_with_told) (defScope s_with_told) .none kV_with_told dc_with_told pm_with_told an_with_told cd_with_told ct_with_told), sl_with_told⟩)
    (co_with_told : PySem.W.codeIn K cd_with_told "with_told" = true)
    (k_with_told : PySem.W.keepIn K (.ref f_with_told) = true)
    (a_answers : PySem.W.nsIn K mainGlobals "answers" = some (some (.ref f_answers)))
    (l_answers : K.lookup f_answers = some ⟨oc_answers, od_answers, .func (PySem.W.fnOf "answers" "answers" (defArgs s_answers) (defBody s_answers) (defScope s_answers) .none kV_answers dc_answers pm_answers an_answers cd_answers ct_answers), sl_answers⟩)
    (co_answers : PySem.W.codeIn K cd_answers "answers" = true)
    (k_answers : PySem.W.keepIn K (.ref f_answers) = true)
    (pg_Right : PySem.W.plainGet K c_Right Str.empty = true)
    (hd_Right : PySem.W.hasDictIn K c_Right = true)
    (po_Right : PySem.W.plainOver K c_Right = true)
    (sa_Right : PySem.W.findIn K (.ref c_Right) "__setattr__" = some (some (.builtin "object.__setattr__")))
    (mk_Right : PySem.W.makesIn K c_Right = true)
    (kc_Right : PySem.W.keepIn K (.ref c_Right) = true)
    (na_Right_told : PySem.W.findIn K (.ref c_Right) "told" = some none)
    (na_Right_me : PySem.W.findIn K (.ref c_Right) "me" = some none)
    (na_Right_turn : PySem.W.findIn K (.ref c_Right) "turn" = some none)
    (na_Right_driven_in : PySem.W.findIn K (.ref c_Right) "driven_in" = some none)
    (na_Right_come_out : PySem.W.findIn K (.ref c_Right) "come_out" = some none)
    (na_Right_standing : PySem.W.findIn K (.ref c_Right) "standing" = some none)
    (na_Right_had : PySem.W.findIn K (.ref c_Right) "had" = some none)
    (na_Right_green : PySem.W.findIn K (.ref c_Right) "green" = some none)
    (na_Right_other_count : PySem.W.findIn K (.ref c_Right) "other_count" = some none)
    (na_Right_ticks : PySem.W.findIn K (.ref c_Right) "ticks" = some none)
    (pg_Works : PySem.W.plainGet K c_Works Str.empty = true)
    (hd_Works : PySem.W.hasDictIn K c_Works = true)
    (po_Works : PySem.W.plainOver K c_Works = true)
    (sa_Works : PySem.W.findIn K (.ref c_Works) "__setattr__" = some (some (.builtin "object.__setattr__")))
    (mk_Works : PySem.W.makesIn K c_Works = true)
    (kc_Works : PySem.W.keepIn K (.ref c_Works) = true)
    (na_Works_right : PySem.W.findIn K (.ref c_Works) "right" = some none)
    (na_Works_most : PySem.W.findIn K (.ref c_Works) "most" = some none)
    (na_Works_waiting : PySem.W.findIn K (.ref c_Works) "waiting" = some none)
    (na_Works_ask : PySem.W.findIn K (.ref c_Works) "ask" = some none)
    (na_Works_green_ticks : PySem.W.findIn K (.ref c_Works) "green_ticks" = some none)
    (na_Works_was_green : PySem.W.findIn K (.ref c_Works) "was_green" = some none)
    (g_GIVEN : PySem.W.nsIn K mainGlobals "GIVEN" = some (some (.int (1) t_GIVEN)))
    (g_HAD : PySem.W.nsIn K mainGlobals "HAD" = some (some (.int (2) t_HAD)))
    (g_ASK : PySem.W.nsIn K mainGlobals "ASK" = some (some (.int (3) t_ASK)))
    (g_LENGTH : PySem.W.nsIn K mainGlobals "LENGTH" = some (some (.int (16) t_LENGTH)))
    (g_TURN_AT : PySem.W.nsIn K mainGlobals "TURN_AT" = some (some (.int (4) t_TURN_AT)))
    (g_COUNT_AT : PySem.W.nsIn K mainGlobals "COUNT_AT" = some (some (.int (8) t_COUNT_AT)))
    (g_CHECK_AT : PySem.W.nsIn K mainGlobals "CHECK_AT" = some (some (.int (12) t_CHECK_AT)))
    (g_POLYNOMIAL : PySem.W.nsIn K mainGlobals "POLYNOMIAL" = some (some (.int (2197175160) t_POLYNOMIAL)))
    (g_ONES : PySem.W.nsIn K mainGlobals "ONES" = some (some (.int (4294967295) t_ONES)))
    (g_SEND : PySem.W.nsIn K mainGlobals "SEND" = some (some (.int (0) t_SEND)))
    (g_LIGHT : PySem.W.nsIn K mainGlobals "LIGHT" = some (some (.int (1) t_LIGHT)))
    (g_TELLS : PySem.W.nsIn K mainGlobals "TELLS" = some (some (.int (2) t_TELLS)))
    (g_CAME_TO_HAVE : PySem.W.nsIn K mainGlobals "CAME_TO_HAVE" = some (some (.int (1) t_CAME_TO_HAVE)))
    (g_DROVE_IN_AT_RED : PySem.W.nsIn K mainGlobals "DROVE_IN_AT_RED" = some (some (.int (2) t_DROVE_IN_AT_RED)))
    (g_GAVE : PySem.W.nsIn K mainGlobals "GAVE" = some (some (.int (0) t_GAVE)))
    (g_HAS : PySem.W.nsIn K mainGlobals "HAS" = some (some (.int (1) t_HAS)))
    (g_WAITS : PySem.W.nsIn K mainGlobals "WAITS" = some (some (.int (2) t_WAITS)))
    (g_HAS_NOT : PySem.W.nsIn K mainGlobals "HAS_NOT" = some (some (.int (-11) t_HAS_NOT)))
    (g_NOT_ALLOWED : PySem.W.nsIn K mainGlobals "NOT_ALLOWED" = some (some (.int (-13) t_NOT_ALLOWED)))
    (g_IS_GREEN : PySem.W.nsIn K mainGlobals "IS_GREEN" = some (some (.int (-16) t_IS_GREEN)))
    (g_WRONG_NUMBER : PySem.W.nsIn K mainGlobals "WRONG_NUMBER" = some (some (.int (-22) t_WRONG_NUMBER)))
    (g_NOT_RIGHT : PySem.W.nsIn K mainGlobals "NOT_RIGHT" = some (some (.int (-71) t_NOT_RIGHT)))
    (g_AGAIN_EVERY : PySem.W.nsIn K mainGlobals "AGAIN_EVERY" = some (some (.int (10) t_AGAIN_EVERY)))
    (g_NEVER : PySem.W.nsIn K mainGlobals "NEVER" = some (some (.int (-1) t_NEVER)))
    (g_MOST_TICKS : PySem.W.nsIn K mainGlobals "MOST_TICKS" = some (some (.int (1000) t_MOST_TICKS)))
    (g_RW_START : PySem.W.nsIn K mainGlobals "RW_START" = some (some (.int (0) t_RW_START)))
    (g_RW_IN : PySem.W.nsIn K mainGlobals "RW_IN" = some (some (.int (1) t_RW_IN)))
    (g_RW_OUT : PySem.W.nsIn K mainGlobals "RW_OUT" = some (some (.int (2) t_RW_OUT)))
    (g_RW_WAITING : PySem.W.nsIn K mainGlobals "RW_WAITING" = some (some (.int (3) t_RW_WAITING)))
    (g_RW_HEARD : PySem.W.nsIn K mainGlobals "RW_HEARD" = some (some (.int (4) t_RW_HEARD)))
    (g_RW_TICK : PySem.W.nsIn K mainGlobals "RW_TICK" = some (some (.int (5) t_RW_TICK)))
    (a_WHOLE_NUMBERS : PySem.W.nsIn K mainGlobals "WHOLE_NUMBERS" = some (some (.ref o_WHOLE_NUMBERS)))
    (l_WHOLE_NUMBERS : K.lookup o_WHOLE_NUMBERS = some ⟨.type "tuple", od_WHOLE_NUMBERS, .seq #[.int (2) t0_WHOLE_NUMBERS, .int (0) t1_WHOLE_NUMBERS, .int (0) t2_WHOLE_NUMBERS, .int (1) t3_WHOLE_NUMBERS, .int (1) t4_WHOLE_NUMBERS, .int (0) t5_WHOLE_NUMBERS, .int (0) t6_WHOLE_NUMBERS] ep_WHOLE_NUMBERS, sl_WHOLE_NUMBERS⟩)
    (z_len : PySem.W.nsIn K mainGlobals "len" = some none)
    (z_range : PySem.W.nsIn K mainGlobals "range" = some none)
    (z_sum : PySem.W.nsIn K mainGlobals "sum" = some none)
    (z_max : PySem.W.nsIn K mainGlobals "max" = some none) :
    ∃ A : Adr, Tx K mg A := by
  have F_low_bytes_first := fun_mk (st := s_low_bytes_first) l_low_bytes_first co_low_bytes_first k_low_bytes_first
  have b_low_bytes_first := F_low_bytes_first.binds (ps := ["number"]) fun _ _ _ _ _ _ => ar1 fun _ => rfl
  have F_number_at := fun_mk (st := s_number_at) l_number_at co_number_at k_number_at
  have b_number_at := F_number_at.binds (ps := ["message", "place"]) fun _ _ _ _ _ _ => ar2 fun _ _ => rfl
  have F_check_of := fun_mk (st := s_check_of) l_check_of co_check_of k_check_of
  have b_check_of := F_check_of.binds (ps := ["numbers"]) fun _ _ _ _ _ _ => ar1 fun _ => rfl
  have F_made_message := fun_mk (st := s_made_message) l_made_message co_made_message k_made_message
  have b_made_message := F_made_message.binds (ps := ["kind", "sender", "turn", "count"]) fun _ _ _ _ _ _ => ar4 fun _ _ _ _ => rfl
  have F_kind_of := fun_mk (st := s_kind_of) l_kind_of co_kind_of k_kind_of
  have b_kind_of := F_kind_of.binds (ps := ["message"]) fun _ _ _ _ _ _ => ar1 fun _ => rfl
  have F_turn_of := fun_mk (st := s_turn_of) l_turn_of co_turn_of k_turn_of
  have b_turn_of := F_turn_of.binds (ps := ["message"]) fun _ _ _ _ _ _ => ar1 fun _ => rfl
  have F_count_of := fun_mk (st := s_count_of) l_count_of co_count_of k_count_of
  have b_count_of := F_count_of.binds (ps := ["message"]) fun _ _ _ _ _ _ => ar1 fun _ => rfl
  have F_is_sound := fun_mk (st := s_is_sound) l_is_sound co_is_sound k_is_sound
  have b_is_sound := F_is_sound.binds (ps := ["message", "sender"]) fun _ _ _ _ _ _ => ar2 fun _ _ => rfl
  have F_is_right_ask := fun_mk (st := s_is_right_ask) l_is_right_ask co_is_right_ask k_is_right_ask
  have b_is_right_ask := F_is_right_ask.binds (ps := ["message", "sender"]) fun _ _ _ _ _ _ => ar2 fun _ _ => rfl
  have F_is_right := fun_mk (st := s_is_right) l_is_right co_is_right k_is_right
  have b_is_right := F_is_right.binds (ps := ["message", "sender"]) fun _ _ _ _ _ _ => ar2 fun _ _ => rfl
  have F_Right_init := fun_mk (st := s_Right_init) l_Right_init co_Right_init k_Right_init
  have b_Right_init := F_Right_init.binds (ps := ["self"]) fun _ _ _ _ _ _ => ar1 fun _ => rfl
  have F_Right_begin_right := fun_mk (st := s_Right_begin_right) l_Right_begin_right co_Right_begin_right k_Right_begin_right
  have b_Right_begin_right := F_Right_begin_right.binds (ps := ["self", "me"]) fun _ _ _ _ _ _ => ar2 fun _ _ => rfl
  have F_Right_take_told := fun_mk (st := s_Right_take_told) l_Right_take_told co_Right_take_told k_Right_take_told
  have b_Right_take_told := F_Right_take_told.binds (ps := ["self"]) fun _ _ _ _ _ _ => ar1 fun _ => rfl
  have F_Right_send_message := fun_mk (st := s_Right_send_message) l_Right_send_message co_Right_send_message k_Right_send_message
  have b_Right_send_message := F_Right_send_message.binds (ps := ["self", "kind", "turn", "count"]) fun _ _ _ _ _ _ => ar4 fun _ _ _ _ => rfl
  have F_Right_other_end := fun_mk (st := s_Right_other_end) l_Right_other_end co_Right_other_end k_Right_other_end
  have b_Right_other_end := F_Right_other_end.binds (ps := ["self"]) fun _ _ _ _ _ _ => ar1 fun _ => rfl
  have F_Right_rl_start := fun_mk (st := s_Right_rl_start) l_Right_rl_start co_Right_rl_start k_Right_rl_start
  have b_Right_rl_start := F_Right_rl_start.binds (ps := ["self", "me"]) fun _ _ _ _ _ _ => ar2 fun _ _ => rfl
  have F_Right_rl_green := fun_mk (st := s_Right_rl_green) l_Right_rl_green co_Right_rl_green k_Right_rl_green
  have b_Right_rl_green := F_Right_rl_green.binds (ps := ["self"]) fun _ _ _ _ _ _ => ar1 fun _ => rfl
  have F_Right_rl_red := fun_mk (st := s_Right_rl_red) l_Right_rl_red co_Right_rl_red k_Right_rl_red
  have b_Right_rl_red := F_Right_rl_red.binds (ps := ["self"]) fun _ _ _ _ _ _ => ar1 fun _ => rfl
  have F_Right_rl_in := fun_mk (st := s_Right_rl_in) l_Right_rl_in co_Right_rl_in k_Right_rl_in
  have b_Right_rl_in := F_Right_rl_in.binds (ps := ["self"]) fun _ _ _ _ _ _ => ar1 fun _ => rfl
  have F_Right_rl_out := fun_mk (st := s_Right_rl_out) l_Right_rl_out co_Right_rl_out k_Right_rl_out
  have b_Right_rl_out := F_Right_rl_out.binds (ps := ["self"]) fun _ _ _ _ _ _ => ar1 fun _ => rfl
  have F_Right_have_if_all_out := fun_mk (st := s_Right_have_if_all_out) l_Right_have_if_all_out co_Right_have_if_all_out k_Right_have_if_all_out
  have b_Right_have_if_all_out := F_Right_have_if_all_out.binds (ps := ["self"]) fun _ _ _ _ _ _ => ar1 fun _ => rfl
  have F_Right_rl_give := fun_mk (st := s_Right_rl_give) l_Right_rl_give co_Right_rl_give k_Right_rl_give
  have b_Right_rl_give := F_Right_rl_give.binds (ps := ["self"]) fun _ _ _ _ _ _ => ar1 fun _ => rfl
  have F_Right_rl_heard := fun_mk (st := s_Right_rl_heard) l_Right_rl_heard co_Right_rl_heard k_Right_rl_heard
  have b_Right_rl_heard := F_Right_rl_heard.binds (ps := ["self", "message"]) fun _ _ _ _ _ _ => ar2 fun _ _ => rfl
  have F_Right_heard_given := fun_mk (st := s_Right_heard_given) l_Right_heard_given co_Right_heard_given k_Right_heard_given
  have b_Right_heard_given := F_Right_heard_given.binds (ps := ["self", "turn", "count"]) fun _ _ _ _ _ _ => ar3 fun _ _ _ => rfl
  have F_Right_heard_had := fun_mk (st := s_Right_heard_had) l_Right_heard_had co_Right_heard_had k_Right_heard_had
  have b_Right_heard_had := F_Right_heard_had.binds (ps := ["self", "turn"]) fun _ _ _ _ _ _ => ar2 fun _ _ => rfl
  have F_Right_is_tenth_tick := fun_mk (st := s_Right_is_tenth_tick) l_Right_is_tenth_tick co_Right_is_tenth_tick k_Right_is_tenth_tick
  have b_Right_is_tenth_tick := F_Right_is_tenth_tick.binds (ps := ["self"]) fun _ _ _ _ _ _ => ar1 fun _ => rfl
  have F_Right_rl_tick := fun_mk (st := s_Right_rl_tick) l_Right_rl_tick co_Right_rl_tick k_Right_rl_tick
  have b_Right_rl_tick := F_Right_rl_tick.binds (ps := ["self"]) fun _ _ _ _ _ _ => ar1 fun _ => rfl
  have F_Right_rl_state := fun_mk (st := s_Right_rl_state) l_Right_rl_state co_Right_rl_state k_Right_rl_state
  have b_Right_rl_state := F_Right_rl_state.binds (ps := ["self"]) fun _ _ _ _ _ _ => ar1 fun _ => rfl
  have F_Works_init := fun_mk (st := s_Works_init) l_Works_init co_Works_init k_Works_init
  have b_Works_init := F_Works_init.binds (ps := ["self"]) fun _ _ _ _ _ _ => ar1 fun _ => rfl
  have F_Works_begin_works := fun_mk (st := s_Works_begin_works) l_Works_begin_works co_Works_begin_works k_Works_begin_works
  have b_Works_begin_works := F_Works_begin_works.binds (ps := ["self", "most"]) fun _ _ _ _ _ _ => ar2 fun _ _ => rfl
  have F_Works_rw_start := fun_mk (st := s_Works_rw_start) l_Works_rw_start co_Works_rw_start k_Works_rw_start
  have b_Works_rw_start := F_Works_rw_start.binds (ps := ["self", "me", "most"]) fun _ _ _ _ _ _ => ar3 fun _ _ _ => rfl
  have F_Works_rw_in := fun_mk (st := s_Works_rw_in) l_Works_rw_in co_Works_rw_in k_Works_rw_in
  have b_Works_rw_in := F_Works_rw_in.binds (ps := ["self"]) fun _ _ _ _ _ _ => ar1 fun _ => rfl
  have F_Works_rw_out := fun_mk (st := s_Works_rw_out) l_Works_rw_out co_Works_rw_out k_Works_rw_out
  have b_Works_rw_out := F_Works_rw_out.binds (ps := ["self"]) fun _ _ _ _ _ _ => ar1 fun _ => rfl
  have F_Works_rw_waiting := fun_mk (st := s_Works_rw_waiting) l_Works_rw_waiting co_Works_rw_waiting k_Works_rw_waiting
  have b_Works_rw_waiting := F_Works_rw_waiting.binds (ps := ["self", "yes"]) fun _ _ _ _ _ _ => ar2 fun _ _ => rfl
  have F_Works_rw_heard := fun_mk (st := s_Works_rw_heard) l_Works_rw_heard co_Works_rw_heard k_Works_rw_heard
  have b_Works_rw_heard := F_Works_rw_heard.binds (ps := ["self", "message"]) fun _ _ _ _ _ _ => ar2 fun _ _ => rfl
  have F_Works_rw_tick := fun_mk (st := s_Works_rw_tick) l_Works_rw_tick co_Works_rw_tick k_Works_rw_tick
  have b_Works_rw_tick := F_Works_rw_tick.binds (ps := ["self"]) fun _ _ _ _ _ _ => ar1 fun _ => rfl
  have F_Works_rw_state := fun_mk (st := s_Works_rw_state) l_Works_rw_state co_Works_rw_state k_Works_rw_state
  have b_Works_rw_state := F_Works_rw_state.binds (ps := ["self"]) fun _ _ _ _ _ _ => ar1 fun _ => rfl
  have F_Works_has_right := fun_mk (st := s_Works_has_right) l_Works_has_right co_Works_has_right k_Works_has_right
  have b_Works_has_right := F_Works_has_right.binds (ps := ["self"]) fun _ _ _ _ _ _ => ar1 fun _ => rfl
  have F_Works_is_asked := fun_mk (st := s_Works_is_asked) l_Works_is_asked co_Works_is_asked k_Works_is_asked
  have b_Works_is_asked := F_Works_is_asked.binds (ps := ["self"]) fun _ _ _ _ _ _ => ar1 fun _ => rfl
  have F_Works_look := fun_mk (st := s_Works_look) l_Works_look co_Works_look k_Works_look
  have b_Works_look := F_Works_look.binds (ps := ["self"]) fun _ _ _ _ _ _ => ar1 fun _ => rfl
  have F_Works_give_right := fun_mk (st := s_Works_give_right) l_Works_give_right co_Works_give_right k_Works_give_right
  have b_Works_give_right := F_Works_give_right.binds (ps := ["self"]) fun _ _ _ _ _ _ => ar1 fun _ => rfl
  have F_Works_make_green := fun_mk (st := s_Works_make_green) l_Works_make_green co_Works_make_green k_Works_make_green
  have b_Works_make_green := F_Works_make_green.binds (ps := ["self"]) fun _ _ _ _ _ _ => ar1 fun _ => rfl
  have F_row_length := fun_mk (st := s_row_length) l_row_length co_row_length k_row_length
  have b_row_length := F_row_length.binds (ps := ["calls", "place"]) fun _ _ _ _ _ _ => ar2 fun _ _ => rfl
  have F_called := fun_mk (st := s_called) l_called co_called k_called
  have b_called := F_called.binds (ps := ["works", "call", "handed", "row"]) fun _ _ _ _ _ _ => ar4 fun _ _ _ _ => rfl
  have F_with_told := fun_mk (st := s_with_told) l_with_told co_with_told k_with_told
  have b_with_told := F_with_told.binds (ps := ["answered", "told"]) fun _ _ _ _ _ _ => ar2 fun _ _ => rfl
  have F_answers := fun_mk (st := s_answers) l_answers co_answers k_answers
  have b_answers := F_answers.binds (ps := ["calls"]) fun _ _ _ _ _ _ => ar1 fun _ => rfl
  exact ⟨⟨c_Right, c_Works, f_low_bytes_first, PySem.W.fnOf "low_bytes_first" "low_bytes_first" (defArgs s_low_bytes_first) (defBody s_low_bytes_first) (defScope s_low_bytes_first) .none kV_low_bytes_first dc_low_bytes_first pm_low_bytes_first an_low_bytes_first cd_low_bytes_first ct_low_bytes_first, f_number_at, PySem.W.fnOf "number_at" "number_at" (defArgs s_number_at) (defBody s_number_at) (defScope s_number_at) .none kV_number_at dc_number_at pm_number_at an_number_at cd_number_at ct_number_at, f_check_of, PySem.W.fnOf "check_of" "check_of" (defArgs s_check_of) (defBody s_check_of) (defScope s_check_of) .none kV_check_of dc_check_of pm_check_of an_check_of cd_check_of ct_check_of, f_made_message, PySem.W.fnOf "made_message" "made_message" (defArgs s_made_message) (defBody s_made_message) (defScope s_made_message) .none kV_made_message dc_made_message pm_made_message an_made_message cd_made_message ct_made_message, f_kind_of, PySem.W.fnOf "kind_of" "kind_of" (defArgs s_kind_of) (defBody s_kind_of) (defScope s_kind_of) .none kV_kind_of dc_kind_of pm_kind_of an_kind_of cd_kind_of ct_kind_of, f_turn_of, PySem.W.fnOf "turn_of" "turn_of" (defArgs s_turn_of) (defBody s_turn_of) (defScope s_turn_of) .none kV_turn_of dc_turn_of pm_turn_of an_turn_of cd_turn_of ct_turn_of, f_count_of, PySem.W.fnOf "count_of" "count_of" (defArgs s_count_of) (defBody s_count_of) (defScope s_count_of) .none kV_count_of dc_count_of pm_count_of an_count_of cd_count_of ct_count_of, f_is_sound, PySem.W.fnOf "is_sound" "is_sound" (defArgs s_is_sound) (defBody s_is_sound) (defScope s_is_sound) .none kV_is_sound dc_is_sound pm_is_sound an_is_sound cd_is_sound ct_is_sound, f_is_right_ask, PySem.W.fnOf "is_right_ask" "is_right_ask" (defArgs s_is_right_ask) (defBody s_is_right_ask) (defScope s_is_right_ask) .none kV_is_right_ask dc_is_right_ask pm_is_right_ask an_is_right_ask cd_is_right_ask ct_is_right_ask, f_is_right, PySem.W.fnOf "is_right" "is_right" (defArgs s_is_right) (defBody s_is_right) (defScope s_is_right) .none kV_is_right dc_is_right pm_is_right an_is_right cd_is_right ct_is_right, f_Right_init, PySem.W.fnOf "__init__" "Right.__init__" (defArgs s_Right_init) (defBody s_Right_init) (defScope s_Right_init) .none kV_Right_init dc_Right_init pm_Right_init an_Right_init cd_Right_init ct_Right_init, f_Right_begin_right, PySem.W.fnOf "begin_right" "Right.begin_right" (defArgs s_Right_begin_right) (defBody s_Right_begin_right) (defScope s_Right_begin_right) .none kV_Right_begin_right dc_Right_begin_right pm_Right_begin_right an_Right_begin_right cd_Right_begin_right ct_Right_begin_right, f_Right_take_told, PySem.W.fnOf "take_told" "Right.take_told" (defArgs s_Right_take_told) (defBody s_Right_take_told) (defScope s_Right_take_told) .none kV_Right_take_told dc_Right_take_told pm_Right_take_told an_Right_take_told cd_Right_take_told ct_Right_take_told, f_Right_send_message, PySem.W.fnOf "send_message" "Right.send_message" (defArgs s_Right_send_message) (defBody s_Right_send_message) (defScope s_Right_send_message) .none kV_Right_send_message dc_Right_send_message pm_Right_send_message an_Right_send_message cd_Right_send_message ct_Right_send_message, f_Right_other_end, PySem.W.fnOf "other_end" "Right.other_end" (defArgs s_Right_other_end) (defBody s_Right_other_end) (defScope s_Right_other_end) .none kV_Right_other_end dc_Right_other_end pm_Right_other_end an_Right_other_end cd_Right_other_end ct_Right_other_end, f_Right_rl_start, PySem.W.fnOf "rl_start" "Right.rl_start" (defArgs s_Right_rl_start) (defBody s_Right_rl_start) (defScope s_Right_rl_start) .none kV_Right_rl_start dc_Right_rl_start pm_Right_rl_start an_Right_rl_start cd_Right_rl_start ct_Right_rl_start, f_Right_rl_green, PySem.W.fnOf "rl_green" "Right.rl_green" (defArgs s_Right_rl_green) (defBody s_Right_rl_green) (defScope s_Right_rl_green) .none kV_Right_rl_green dc_Right_rl_green pm_Right_rl_green an_Right_rl_green cd_Right_rl_green ct_Right_rl_green, f_Right_rl_red, PySem.W.fnOf "rl_red" "Right.rl_red" (defArgs s_Right_rl_red) (defBody s_Right_rl_red) (defScope s_Right_rl_red) .none kV_Right_rl_red dc_Right_rl_red pm_Right_rl_red an_Right_rl_red cd_Right_rl_red ct_Right_rl_red, f_Right_rl_in, PySem.W.fnOf "rl_in" "Right.rl_in" (defArgs s_Right_rl_in) (defBody s_Right_rl_in) (defScope s_Right_rl_in) .none kV_Right_rl_in dc_Right_rl_in pm_Right_rl_in an_Right_rl_in cd_Right_rl_in ct_Right_rl_in, f_Right_rl_out, PySem.W.fnOf "rl_out" "Right.rl_out" (defArgs s_Right_rl_out) (defBody s_Right_rl_out) (defScope s_Right_rl_out) .none kV_Right_rl_out dc_Right_rl_out pm_Right_rl_out an_Right_rl_out cd_Right_rl_out ct_Right_rl_out, f_Right_have_if_all_out, PySem.W.fnOf "have_if_all_out" "Right.have_if_all_out" (defArgs s_Right_have_if_all_out) (defBody s_Right_have_if_all_out) (defScope s_Right_have_if_all_out) .none kV_Right_have_if_all_out dc_Right_have_if_all_out pm_Right_have_if_all_out an_Right_have_if_all_out cd_Right_have_if_all_out ct_Right_have_if_all_out, f_Right_rl_give, PySem.W.fnOf "rl_give" "Right.rl_give" (defArgs s_Right_rl_give) (defBody s_Right_rl_give) (defScope s_Right_rl_give) .none kV_Right_rl_give dc_Right_rl_give pm_Right_rl_give an_Right_rl_give cd_Right_rl_give ct_Right_rl_give, f_Right_rl_heard, PySem.W.fnOf "rl_heard" "Right.rl_heard" (defArgs s_Right_rl_heard) (defBody s_Right_rl_heard) (defScope s_Right_rl_heard) .none kV_Right_rl_heard dc_Right_rl_heard pm_Right_rl_heard an_Right_rl_heard cd_Right_rl_heard ct_Right_rl_heard, f_Right_heard_given, PySem.W.fnOf "heard_given" "Right.heard_given" (defArgs s_Right_heard_given) (defBody s_Right_heard_given) (defScope s_Right_heard_given) .none kV_Right_heard_given dc_Right_heard_given pm_Right_heard_given an_Right_heard_given cd_Right_heard_given ct_Right_heard_given, f_Right_heard_had, PySem.W.fnOf "heard_had" "Right.heard_had" (defArgs s_Right_heard_had) (defBody s_Right_heard_had) (defScope s_Right_heard_had) .none kV_Right_heard_had dc_Right_heard_had pm_Right_heard_had an_Right_heard_had cd_Right_heard_had ct_Right_heard_had, f_Right_is_tenth_tick, PySem.W.fnOf "is_tenth_tick" "Right.is_tenth_tick" (defArgs s_Right_is_tenth_tick) (defBody s_Right_is_tenth_tick) (defScope s_Right_is_tenth_tick) .none kV_Right_is_tenth_tick dc_Right_is_tenth_tick pm_Right_is_tenth_tick an_Right_is_tenth_tick cd_Right_is_tenth_tick ct_Right_is_tenth_tick, f_Right_rl_tick, PySem.W.fnOf "rl_tick" "Right.rl_tick" (defArgs s_Right_rl_tick) (defBody s_Right_rl_tick) (defScope s_Right_rl_tick) .none kV_Right_rl_tick dc_Right_rl_tick pm_Right_rl_tick an_Right_rl_tick cd_Right_rl_tick ct_Right_rl_tick, f_Right_rl_state, PySem.W.fnOf "rl_state" "Right.rl_state" (defArgs s_Right_rl_state) (defBody s_Right_rl_state) (defScope s_Right_rl_state) .none kV_Right_rl_state dc_Right_rl_state pm_Right_rl_state an_Right_rl_state cd_Right_rl_state ct_Right_rl_state, f_Works_init, PySem.W.fnOf "__init__" "Works.__init__" (defArgs s_Works_init) (defBody s_Works_init) (defScope s_Works_init) .none kV_Works_init dc_Works_init pm_Works_init an_Works_init cd_Works_init ct_Works_init, f_Works_begin_works, PySem.W.fnOf "begin_works" "Works.begin_works" (defArgs s_Works_begin_works) (defBody s_Works_begin_works) (defScope s_Works_begin_works) .none kV_Works_begin_works dc_Works_begin_works pm_Works_begin_works an_Works_begin_works cd_Works_begin_works ct_Works_begin_works, f_Works_rw_start, PySem.W.fnOf "rw_start" "Works.rw_start" (defArgs s_Works_rw_start) (defBody s_Works_rw_start) (defScope s_Works_rw_start) .none kV_Works_rw_start dc_Works_rw_start pm_Works_rw_start an_Works_rw_start cd_Works_rw_start ct_Works_rw_start, f_Works_rw_in, PySem.W.fnOf "rw_in" "Works.rw_in" (defArgs s_Works_rw_in) (defBody s_Works_rw_in) (defScope s_Works_rw_in) .none kV_Works_rw_in dc_Works_rw_in pm_Works_rw_in an_Works_rw_in cd_Works_rw_in ct_Works_rw_in, f_Works_rw_out, PySem.W.fnOf "rw_out" "Works.rw_out" (defArgs s_Works_rw_out) (defBody s_Works_rw_out) (defScope s_Works_rw_out) .none kV_Works_rw_out dc_Works_rw_out pm_Works_rw_out an_Works_rw_out cd_Works_rw_out ct_Works_rw_out, f_Works_rw_waiting, PySem.W.fnOf "rw_waiting" "Works.rw_waiting" (defArgs s_Works_rw_waiting) (defBody s_Works_rw_waiting) (defScope s_Works_rw_waiting) .none kV_Works_rw_waiting dc_Works_rw_waiting pm_Works_rw_waiting an_Works_rw_waiting cd_Works_rw_waiting ct_Works_rw_waiting, f_Works_rw_heard, PySem.W.fnOf "rw_heard" "Works.rw_heard" (defArgs s_Works_rw_heard) (defBody s_Works_rw_heard) (defScope s_Works_rw_heard) .none kV_Works_rw_heard dc_Works_rw_heard pm_Works_rw_heard an_Works_rw_heard cd_Works_rw_heard ct_Works_rw_heard, f_Works_rw_tick, PySem.W.fnOf "rw_tick" "Works.rw_tick" (defArgs s_Works_rw_tick) (defBody s_Works_rw_tick) (defScope s_Works_rw_tick) .none kV_Works_rw_tick dc_Works_rw_tick pm_Works_rw_tick an_Works_rw_tick cd_Works_rw_tick ct_Works_rw_tick, f_Works_rw_state, PySem.W.fnOf "rw_state" "Works.rw_state" (defArgs s_Works_rw_state) (defBody s_Works_rw_state) (defScope s_Works_rw_state) .none kV_Works_rw_state dc_Works_rw_state pm_Works_rw_state an_Works_rw_state cd_Works_rw_state ct_Works_rw_state, f_Works_has_right, PySem.W.fnOf "has_right" "Works.has_right" (defArgs s_Works_has_right) (defBody s_Works_has_right) (defScope s_Works_has_right) .none kV_Works_has_right dc_Works_has_right pm_Works_has_right an_Works_has_right cd_Works_has_right ct_Works_has_right, f_Works_is_asked, PySem.W.fnOf "is_asked" "Works.is_asked" (defArgs s_Works_is_asked) (defBody s_Works_is_asked) (defScope s_Works_is_asked) .none kV_Works_is_asked dc_Works_is_asked pm_Works_is_asked an_Works_is_asked cd_Works_is_asked ct_Works_is_asked, f_Works_look, PySem.W.fnOf "look" "Works.look" (defArgs s_Works_look) (defBody s_Works_look) (defScope s_Works_look) .none kV_Works_look dc_Works_look pm_Works_look an_Works_look cd_Works_look ct_Works_look, f_Works_give_right, PySem.W.fnOf "give_right" "Works.give_right" (defArgs s_Works_give_right) (defBody s_Works_give_right) (defScope s_Works_give_right) .none kV_Works_give_right dc_Works_give_right pm_Works_give_right an_Works_give_right cd_Works_give_right ct_Works_give_right, f_Works_make_green, PySem.W.fnOf "make_green" "Works.make_green" (defArgs s_Works_make_green) (defBody s_Works_make_green) (defScope s_Works_make_green) .none kV_Works_make_green dc_Works_make_green pm_Works_make_green an_Works_make_green cd_Works_make_green ct_Works_make_green, f_row_length, PySem.W.fnOf "row_length" "row_length" (defArgs s_row_length) (defBody s_row_length) (defScope s_row_length) .none kV_row_length dc_row_length pm_row_length an_row_length cd_row_length ct_row_length, f_called, PySem.W.fnOf "called" "called" (defArgs s_called) (defBody s_called) (defScope s_called) .none kV_called dc_called pm_called an_called cd_called ct_called, f_with_told, PySem.W.fnOf "with_told" "with_told" (defArgs s_with_told) (defBody s_with_told) (defScope s_with_told) .none kV_with_told dc_with_told pm_with_told an_with_told cd_with_told ct_with_told, f_answers, PySem.W.fnOf "answers" "answers" (defArgs s_answers) (defBody s_answers) (defScope s_answers) .none kV_answers dc_answers pm_answers an_answers cd_answers ct_answers, o_WHOLE_NUMBERS⟩,
    ⟨⟨pg_Right, hd_Right, po_Right, sa_Right⟩, PySem.W.mg_of X G a_Right, ⟨mk_Right, a_Right_init, i_Right_init, kc_Right⟩, na_Right_told, na_Right_me, na_Right_turn, na_Right_driven_in, na_Right_come_out, na_Right_standing, na_Right_had, na_Right_green, na_Right_other_count, na_Right_ticks, ⟨pg_Works, hd_Works, po_Works, sa_Works⟩, PySem.W.mg_of X G a_Works, ⟨mk_Works, a_Works_init, i_Works_init, kc_Works⟩, na_Works_right, na_Works_most, na_Works_waiting, na_Works_ask, na_Works_green_ticks, na_Works_was_green, F_low_bytes_first, b_low_bytes_first, PySem.W.mg_of X G a_low_bytes_first, F_number_at, b_number_at, PySem.W.mg_of X G a_number_at, F_check_of, b_check_of, PySem.W.mg_of X G a_check_of, F_made_message, b_made_message, PySem.W.mg_of X G a_made_message, F_kind_of, b_kind_of, PySem.W.mg_of X G a_kind_of, F_turn_of, b_turn_of, PySem.W.mg_of X G a_turn_of, F_count_of, b_count_of, PySem.W.mg_of X G a_count_of, F_is_sound, b_is_sound, PySem.W.mg_of X G a_is_sound, F_is_right_ask, b_is_right_ask, PySem.W.mg_of X G a_is_right_ask, F_is_right, b_is_right, PySem.W.mg_of X G a_is_right, F_Right_init, b_Right_init, ⟨a_Right_init, i_Right_init, k_Right_init⟩, F_Right_begin_right, b_Right_begin_right, ⟨a_Right_begin_right, i_Right_begin_right, k_Right_begin_right⟩, F_Right_take_told, b_Right_take_told, ⟨a_Right_take_told, i_Right_take_told, k_Right_take_told⟩, F_Right_send_message, b_Right_send_message, ⟨a_Right_send_message, i_Right_send_message, k_Right_send_message⟩, F_Right_other_end, b_Right_other_end, ⟨a_Right_other_end, i_Right_other_end, k_Right_other_end⟩, F_Right_rl_start, b_Right_rl_start, ⟨a_Right_rl_start, i_Right_rl_start, k_Right_rl_start⟩, F_Right_rl_green, b_Right_rl_green, ⟨a_Right_rl_green, i_Right_rl_green, k_Right_rl_green⟩, F_Right_rl_red, b_Right_rl_red, ⟨a_Right_rl_red, i_Right_rl_red, k_Right_rl_red⟩, F_Right_rl_in, b_Right_rl_in, ⟨a_Right_rl_in, i_Right_rl_in, k_Right_rl_in⟩, F_Right_rl_out, b_Right_rl_out, ⟨a_Right_rl_out, i_Right_rl_out, k_Right_rl_out⟩, F_Right_have_if_all_out, b_Right_have_if_all_out, ⟨a_Right_have_if_all_out, i_Right_have_if_all_out, k_Right_have_if_all_out⟩, F_Right_rl_give, b_Right_rl_give, ⟨a_Right_rl_give, i_Right_rl_give, k_Right_rl_give⟩, F_Right_rl_heard, b_Right_rl_heard, ⟨a_Right_rl_heard, i_Right_rl_heard, k_Right_rl_heard⟩, F_Right_heard_given, b_Right_heard_given, ⟨a_Right_heard_given, i_Right_heard_given, k_Right_heard_given⟩, F_Right_heard_had, b_Right_heard_had, ⟨a_Right_heard_had, i_Right_heard_had, k_Right_heard_had⟩, F_Right_is_tenth_tick, b_Right_is_tenth_tick, ⟨a_Right_is_tenth_tick, i_Right_is_tenth_tick, k_Right_is_tenth_tick⟩, F_Right_rl_tick, b_Right_rl_tick, ⟨a_Right_rl_tick, i_Right_rl_tick, k_Right_rl_tick⟩, F_Right_rl_state, b_Right_rl_state, ⟨a_Right_rl_state, i_Right_rl_state, k_Right_rl_state⟩, F_Works_init, b_Works_init, ⟨a_Works_init, i_Works_init, k_Works_init⟩, F_Works_begin_works, b_Works_begin_works, ⟨a_Works_begin_works, i_Works_begin_works, k_Works_begin_works⟩, F_Works_rw_start, b_Works_rw_start, ⟨a_Works_rw_start, i_Works_rw_start, k_Works_rw_start⟩, F_Works_rw_in, b_Works_rw_in, ⟨a_Works_rw_in, i_Works_rw_in, k_Works_rw_in⟩, F_Works_rw_out, b_Works_rw_out, ⟨a_Works_rw_out, i_Works_rw_out, k_Works_rw_out⟩, F_Works_rw_waiting, b_Works_rw_waiting, ⟨a_Works_rw_waiting, i_Works_rw_waiting, k_Works_rw_waiting⟩, F_Works_rw_heard, b_Works_rw_heard, ⟨a_Works_rw_heard, i_Works_rw_heard, k_Works_rw_heard⟩, F_Works_rw_tick, b_Works_rw_tick, ⟨a_Works_rw_tick, i_Works_rw_tick, k_Works_rw_tick⟩, F_Works_rw_state, b_Works_rw_state, ⟨a_Works_rw_state, i_Works_rw_state, k_Works_rw_state⟩, F_Works_has_right, b_Works_has_right, ⟨a_Works_has_right, i_Works_has_right, k_Works_has_right⟩, F_Works_is_asked, b_Works_is_asked, ⟨a_Works_is_asked, i_Works_is_asked, k_Works_is_asked⟩, F_Works_look, b_Works_look, ⟨a_Works_look, i_Works_look, k_Works_look⟩, F_Works_give_right, b_Works_give_right, ⟨a_Works_give_right, i_Works_give_right, k_Works_give_right⟩, F_Works_make_green, b_Works_make_green, ⟨a_Works_make_green, i_Works_make_green, k_Works_make_green⟩, F_row_length, b_row_length, PySem.W.mg_of X G a_row_length, F_called, b_called, PySem.W.mg_of X G a_called, F_with_told, b_with_told, PySem.W.mg_of X G a_with_told, F_answers, b_answers, PySem.W.mg_of X G a_answers, ⟨_, PySem.W.mg_of X G g_GIVEN⟩, ⟨_, PySem.W.mg_of X G g_HAD⟩, ⟨_, PySem.W.mg_of X G g_ASK⟩, ⟨_, PySem.W.mg_of X G g_LENGTH⟩, ⟨_, PySem.W.mg_of X G g_TURN_AT⟩, ⟨_, PySem.W.mg_of X G g_COUNT_AT⟩, ⟨_, PySem.W.mg_of X G g_CHECK_AT⟩, ⟨_, PySem.W.mg_of X G g_POLYNOMIAL⟩, ⟨_, PySem.W.mg_of X G g_ONES⟩, ⟨_, PySem.W.mg_of X G g_SEND⟩, ⟨_, PySem.W.mg_of X G g_LIGHT⟩, ⟨_, PySem.W.mg_of X G g_TELLS⟩, ⟨_, PySem.W.mg_of X G g_CAME_TO_HAVE⟩, ⟨_, PySem.W.mg_of X G g_DROVE_IN_AT_RED⟩, ⟨_, PySem.W.mg_of X G g_GAVE⟩, ⟨_, PySem.W.mg_of X G g_HAS⟩, ⟨_, PySem.W.mg_of X G g_WAITS⟩, ⟨_, PySem.W.mg_of X G g_HAS_NOT⟩, ⟨_, PySem.W.mg_of X G g_NOT_ALLOWED⟩, ⟨_, PySem.W.mg_of X G g_IS_GREEN⟩, ⟨_, PySem.W.mg_of X G g_WRONG_NUMBER⟩, ⟨_, PySem.W.mg_of X G g_NOT_RIGHT⟩, ⟨_, PySem.W.mg_of X G g_AGAIN_EVERY⟩, ⟨_, PySem.W.mg_of X G g_NEVER⟩, ⟨_, PySem.W.mg_of X G g_MOST_TICKS⟩, ⟨_, PySem.W.mg_of X G g_RW_START⟩, ⟨_, PySem.W.mg_of X G g_RW_IN⟩, ⟨_, PySem.W.mg_of X G g_RW_OUT⟩, ⟨_, PySem.W.mg_of X G g_RW_WAITING⟩, ⟨_, PySem.W.mg_of X G g_RW_HEARD⟩, ⟨_, PySem.W.mg_of X G g_RW_TICK⟩, PySem.W.mg_of X G a_WHOLE_NUMBERS, ⟨_, _, _, l_WHOLE_NUMBERS, rfl, rfl, by show 7 ≤ sizeLine; decide, .cons ⟨_, rfl⟩ (.cons ⟨_, rfl⟩ (.cons ⟨_, rfl⟩ (.cons ⟨_, rfl⟩ (.cons ⟨_, rfl⟩ (.cons ⟨_, rfl⟩ (.cons ⟨_, rfl⟩ (.nil)))))))⟩, PySem.W.mg_none_of X G z_len, PySem.W.mg_none_of X G z_range, PySem.W.mg_none_of X G z_sum, PySem.W.mg_none_of X G z_max⟩⟩

theorem with_tx {K : PySem.W.Frag} {h : Heap} {mg : Str → Option Value} (_ : K.In h) {Q : Prop} (h1 : ∃ A : Adr, Tx K mg A) (h2 : ∀ A : Adr, Tx K mg A → Q) : Q := h1.elim h2
theorem said : PySem.Challenge.rw_onelane_s01_answers.wellSaid = true := by decide +kernel
end Ol
open PySem PySem.W PyProof.Rows L2
set_option maxRecDepth 100000 in
set_option maxHeartbeats 0 in
theorem PySem.Challenge.cw_onelane_s01_answers_holds : PySem.Challenge.rw_onelane_s01_answers.Holds := by
  w_on
  k_headS
  (case hw => exact ⟨[.list [.int 0, .int 0, .int 1]], by decide +kernel, by decide +kernel⟩)
  k_fillS
  refine SH.spec_walk (r := PySem.Challenge.rw_onelane_s01_answers) rfl Ol.said (k := 40) (x := "calls") (CX := fun _ => L2.CX0) (sp := fun w => Ol.spAnswers (PySem.Challenge.cw_onelane_s01_answers_holds.heap_1 w.params)) (by decide) rfl ⟨rfl, by decide, by decide⟩ (fun w h Y => PySem.W.kIn_of Y) ?F ?S ?C
  case F =>
    intro w mg fa h KX G hmg
    refine Ol.with_tx (mg := mg) KX ?tx ?go
    case tx =>
      refine' Ol.tx_mk KX G ?a_Right ?a_Works ?a_low_bytes_first ?l_low_bytes_first ?co_low_bytes_first ?k_low_bytes_first ?a_number_at ?l_number_at ?co_number_at ?k_number_at ?a_check_of ?l_check_of ?co_check_of ?k_check_of ?a_made_message ?l_made_message ?co_made_message ?k_made_message ?a_kind_of ?l_kind_of ?co_kind_of ?k_kind_of ?a_turn_of ?l_turn_of ?co_turn_of ?k_turn_of ?a_count_of ?l_count_of ?co_count_of ?k_count_of ?a_is_sound ?l_is_sound ?co_is_sound ?k_is_sound ?a_is_right_ask ?l_is_right_ask ?co_is_right_ask ?k_is_right_ask ?a_is_right ?l_is_right ?co_is_right ?k_is_right ?a_Right_init ?i_Right_init ?l_Right_init ?co_Right_init ?k_Right_init ?a_Right_begin_right ?i_Right_begin_right ?l_Right_begin_right ?co_Right_begin_right ?k_Right_begin_right ?a_Right_take_told ?i_Right_take_told ?l_Right_take_told ?co_Right_take_told ?k_Right_take_told ?a_Right_send_message ?i_Right_send_message ?l_Right_send_message ?co_Right_send_message ?k_Right_send_message ?a_Right_other_end ?i_Right_other_end ?l_Right_other_end ?co_Right_other_end ?k_Right_other_end ?a_Right_rl_start ?i_Right_rl_start ?l_Right_rl_start ?co_Right_rl_start ?k_Right_rl_start ?a_Right_rl_green ?i_Right_rl_green ?l_Right_rl_green ?co_Right_rl_green ?k_Right_rl_green ?a_Right_rl_red ?i_Right_rl_red ?l_Right_rl_red ?co_Right_rl_red ?k_Right_rl_red ?a_Right_rl_in ?i_Right_rl_in ?l_Right_rl_in ?co_Right_rl_in ?k_Right_rl_in ?a_Right_rl_out ?i_Right_rl_out ?l_Right_rl_out ?co_Right_rl_out ?k_Right_rl_out ?a_Right_have_if_all_out ?i_Right_have_if_all_out ?l_Right_have_if_all_out ?co_Right_have_if_all_out ?k_Right_have_if_all_out ?a_Right_rl_give ?i_Right_rl_give ?l_Right_rl_give ?co_Right_rl_give ?k_Right_rl_give ?a_Right_rl_heard ?i_Right_rl_heard ?l_Right_rl_heard ?co_Right_rl_heard ?k_Right_rl_heard ?a_Right_heard_given ?i_Right_heard_given ?l_Right_heard_given ?co_Right_heard_given ?k_Right_heard_given ?a_Right_heard_had ?i_Right_heard_had ?l_Right_heard_had ?co_Right_heard_had ?k_Right_heard_had ?a_Right_is_tenth_tick ?i_Right_is_tenth_tick ?l_Right_is_tenth_tick ?co_Right_is_tenth_tick ?k_Right_is_tenth_tick ?a_Right_rl_tick ?i_Right_rl_tick ?l_Right_rl_tick ?co_Right_rl_tick ?k_Right_rl_tick ?a_Right_rl_state ?i_Right_rl_state ?l_Right_rl_state ?co_Right_rl_state ?k_Right_rl_state ?a_Works_init ?i_Works_init ?l_Works_init ?co_Works_init ?k_Works_init ?a_Works_begin_works ?i_Works_begin_works ?l_Works_begin_works ?co_Works_begin_works ?k_Works_begin_works ?a_Works_rw_start ?i_Works_rw_start ?l_Works_rw_start ?co_Works_rw_start ?k_Works_rw_start ?a_Works_rw_in ?i_Works_rw_in ?l_Works_rw_in ?co_Works_rw_in ?k_Works_rw_in ?a_Works_rw_out ?i_Works_rw_out ?l_Works_rw_out ?co_Works_rw_out ?k_Works_rw_out ?a_Works_rw_waiting ?i_Works_rw_waiting ?l_Works_rw_waiting ?co_Works_rw_waiting ?k_Works_rw_waiting ?a_Works_rw_heard ?i_Works_rw_heard ?l_Works_rw_heard ?co_Works_rw_heard ?k_Works_rw_heard ?a_Works_rw_tick ?i_Works_rw_tick ?l_Works_rw_tick ?co_Works_rw_tick ?k_Works_rw_tick ?a_Works_rw_state ?i_Works_rw_state ?l_Works_rw_state ?co_Works_rw_state ?k_Works_rw_state ?a_Works_has_right ?i_Works_has_right ?l_Works_has_right ?co_Works_has_right ?k_Works_has_right ?a_Works_is_asked ?i_Works_is_asked ?l_Works_is_asked ?co_Works_is_asked ?k_Works_is_asked ?a_Works_look ?i_Works_look ?l_Works_look ?co_Works_look ?k_Works_look ?a_Works_give_right ?i_Works_give_right ?l_Works_give_right ?co_Works_give_right ?k_Works_give_right ?a_Works_make_green ?i_Works_make_green ?l_Works_make_green ?co_Works_make_green ?k_Works_make_green ?a_row_length ?l_row_length ?co_row_length ?k_row_length ?a_called ?l_called ?co_called ?k_called ?a_with_told ?l_with_told ?co_with_told ?k_with_told ?a_answers ?l_answers ?co_answers ?k_answers ?pg_Right ?hd_Right ?po_Right ?sa_Right ?mk_Right ?kc_Right ?na_Right_told ?na_Right_me ?na_Right_turn ?na_Right_driven_in ?na_Right_come_out ?na_Right_standing ?na_Right_had ?na_Right_green ?na_Right_other_count ?na_Right_ticks ?pg_Works ?hd_Works ?po_Works ?sa_Works ?mk_Works ?kc_Works ?na_Works_right ?na_Works_most ?na_Works_waiting ?na_Works_ask ?na_Works_green_ticks ?na_Works_was_green ?g_GIVEN ?g_HAD ?g_ASK ?g_LENGTH ?g_TURN_AT ?g_COUNT_AT ?g_CHECK_AT ?g_POLYNOMIAL ?g_ONES ?g_SEND ?g_LIGHT ?g_TELLS ?g_CAME_TO_HAVE ?g_DROVE_IN_AT_RED ?g_GAVE ?g_HAS ?g_WAITS ?g_HAS_NOT ?g_NOT_ALLOWED ?g_IS_GREEN ?g_WRONG_NUMBER ?g_NOT_RIGHT ?g_AGAIN_EVERY ?g_NEVER ?g_MOST_TICKS ?g_RW_START ?g_RW_IN ?g_RW_OUT ?g_RW_WAITING ?g_RW_HEARD ?g_RW_TICK ?a_WHOLE_NUMBERS ?l_WHOLE_NUMBERS ?z_len ?z_range ?z_sum ?z_max
      (case a_Right => k_is)
      (case a_Works => k_is)
      (case a_low_bytes_first => k_is)
      (case l_low_bytes_first => k_is)
      (case co_low_bytes_first => k_is)
      (case k_low_bytes_first => k_is)
      (case a_number_at => k_is)
      (case l_number_at => k_is)
      (case co_number_at => k_is)
      (case k_number_at => k_is)
      (case a_check_of => k_is)
      (case l_check_of => k_is)
      (case co_check_of => k_is)
      (case k_check_of => k_is)
      (case a_made_message => k_is)
      (case l_made_message => k_is)
      (case co_made_message => k_is)
      (case k_made_message => k_is)
      (case a_kind_of => k_is)
      (case l_kind_of => k_is)
      (case co_kind_of => k_is)
      (case k_kind_of => k_is)
      (case a_turn_of => k_is)
      (case l_turn_of => k_is)
      (case co_turn_of => k_is)
      (case k_turn_of => k_is)
      (case a_count_of => k_is)
      (case l_count_of => k_is)
      (case co_count_of => k_is)
      (case k_count_of => k_is)
      (case a_is_sound => k_is)
      (case l_is_sound => k_is)
      (case co_is_sound => k_is)
      (case k_is_sound => k_is)
      (case a_is_right_ask => k_is)
      (case l_is_right_ask => k_is)
      (case co_is_right_ask => k_is)
      (case k_is_right_ask => k_is)
      (case a_is_right => k_is)
      (case l_is_right => k_is)
      (case co_is_right => k_is)
      (case k_is_right => k_is)
      (case a_Right_init => k_is)
      (case i_Right_init => k_is)
      (case l_Right_init => k_is)
      (case co_Right_init => k_is)
      (case k_Right_init => k_is)
      (case a_Right_begin_right => k_is)
      (case i_Right_begin_right => k_is)
      (case l_Right_begin_right => k_is)
      (case co_Right_begin_right => k_is)
      (case k_Right_begin_right => k_is)
      (case a_Right_take_told => k_is)
      (case i_Right_take_told => k_is)
      (case l_Right_take_told => k_is)
      (case co_Right_take_told => k_is)
      (case k_Right_take_told => k_is)
      (case a_Right_send_message => k_is)
      (case i_Right_send_message => k_is)
      (case l_Right_send_message => k_is)
      (case co_Right_send_message => k_is)
      (case k_Right_send_message => k_is)
      (case a_Right_other_end => k_is)
      (case i_Right_other_end => k_is)
      (case l_Right_other_end => k_is)
      (case co_Right_other_end => k_is)
      (case k_Right_other_end => k_is)
      (case a_Right_rl_start => k_is)
      (case i_Right_rl_start => k_is)
      (case l_Right_rl_start => k_is)
      (case co_Right_rl_start => k_is)
      (case k_Right_rl_start => k_is)
      (case a_Right_rl_green => k_is)
      (case i_Right_rl_green => k_is)
      (case l_Right_rl_green => k_is)
      (case co_Right_rl_green => k_is)
      (case k_Right_rl_green => k_is)
      (case a_Right_rl_red => k_is)
      (case i_Right_rl_red => k_is)
      (case l_Right_rl_red => k_is)
      (case co_Right_rl_red => k_is)
      (case k_Right_rl_red => k_is)
      (case a_Right_rl_in => k_is)
      (case i_Right_rl_in => k_is)
      (case l_Right_rl_in => k_is)
      (case co_Right_rl_in => k_is)
      (case k_Right_rl_in => k_is)
      (case a_Right_rl_out => k_is)
      (case i_Right_rl_out => k_is)
      (case l_Right_rl_out => k_is)
      (case co_Right_rl_out => k_is)
      (case k_Right_rl_out => k_is)
      (case a_Right_have_if_all_out => k_is)
      (case i_Right_have_if_all_out => k_is)
      (case l_Right_have_if_all_out => k_is)
      (case co_Right_have_if_all_out => k_is)
      (case k_Right_have_if_all_out => k_is)
      (case a_Right_rl_give => k_is)
      (case i_Right_rl_give => k_is)
      (case l_Right_rl_give => k_is)
      (case co_Right_rl_give => k_is)
      (case k_Right_rl_give => k_is)
      (case a_Right_rl_heard => k_is)
      (case i_Right_rl_heard => k_is)
      (case l_Right_rl_heard => k_is)
      (case co_Right_rl_heard => k_is)
      (case k_Right_rl_heard => k_is)
      (case a_Right_heard_given => k_is)
      (case i_Right_heard_given => k_is)
      (case l_Right_heard_given => k_is)
      (case co_Right_heard_given => k_is)
      (case k_Right_heard_given => k_is)
      (case a_Right_heard_had => k_is)
      (case i_Right_heard_had => k_is)
      (case l_Right_heard_had => k_is)
      (case co_Right_heard_had => k_is)
      (case k_Right_heard_had => k_is)
      (case a_Right_is_tenth_tick => k_is)
      (case i_Right_is_tenth_tick => k_is)
      (case l_Right_is_tenth_tick => k_is)
      (case co_Right_is_tenth_tick => k_is)
      (case k_Right_is_tenth_tick => k_is)
      (case a_Right_rl_tick => k_is)
      (case i_Right_rl_tick => k_is)
      (case l_Right_rl_tick => k_is)
      (case co_Right_rl_tick => k_is)
      (case k_Right_rl_tick => k_is)
      (case a_Right_rl_state => k_is)
      (case i_Right_rl_state => k_is)
      (case l_Right_rl_state => k_is)
      (case co_Right_rl_state => k_is)
      (case k_Right_rl_state => k_is)
      (case a_Works_init => k_is)
      (case i_Works_init => k_is)
      (case l_Works_init => k_is)
      (case co_Works_init => k_is)
      (case k_Works_init => k_is)
      (case a_Works_begin_works => k_is)
      (case i_Works_begin_works => k_is)
      (case l_Works_begin_works => k_is)
      (case co_Works_begin_works => k_is)
      (case k_Works_begin_works => k_is)
      (case a_Works_rw_start => k_is)
      (case i_Works_rw_start => k_is)
      (case l_Works_rw_start => k_is)
      (case co_Works_rw_start => k_is)
      (case k_Works_rw_start => k_is)
      (case a_Works_rw_in => k_is)
      (case i_Works_rw_in => k_is)
      (case l_Works_rw_in => k_is)
      (case co_Works_rw_in => k_is)
      (case k_Works_rw_in => k_is)
      (case a_Works_rw_out => k_is)
      (case i_Works_rw_out => k_is)
      (case l_Works_rw_out => k_is)
      (case co_Works_rw_out => k_is)
      (case k_Works_rw_out => k_is)
      (case a_Works_rw_waiting => k_is)
      (case i_Works_rw_waiting => k_is)
      (case l_Works_rw_waiting => k_is)
      (case co_Works_rw_waiting => k_is)
      (case k_Works_rw_waiting => k_is)
      (case a_Works_rw_heard => k_is)
      (case i_Works_rw_heard => k_is)
      (case l_Works_rw_heard => k_is)
      (case co_Works_rw_heard => k_is)
      (case k_Works_rw_heard => k_is)
      (case a_Works_rw_tick => k_is)
      (case i_Works_rw_tick => k_is)
      (case l_Works_rw_tick => k_is)
      (case co_Works_rw_tick => k_is)
      (case k_Works_rw_tick => k_is)
      (case a_Works_rw_state => k_is)
      (case i_Works_rw_state => k_is)
      (case l_Works_rw_state => k_is)
      (case co_Works_rw_state => k_is)
      (case k_Works_rw_state => k_is)
      (case a_Works_has_right => k_is)
      (case i_Works_has_right => k_is)
      (case l_Works_has_right => k_is)
      (case co_Works_has_right => k_is)
      (case k_Works_has_right => k_is)
      (case a_Works_is_asked => k_is)
      (case i_Works_is_asked => k_is)
      (case l_Works_is_asked => k_is)
      (case co_Works_is_asked => k_is)
      (case k_Works_is_asked => k_is)
      (case a_Works_look => k_is)
      (case i_Works_look => k_is)
      (case l_Works_look => k_is)
      (case co_Works_look => k_is)
      (case k_Works_look => k_is)
      (case a_Works_give_right => k_is)
      (case i_Works_give_right => k_is)
      (case l_Works_give_right => k_is)
      (case co_Works_give_right => k_is)
      (case k_Works_give_right => k_is)
      (case a_Works_make_green => k_is)
      (case i_Works_make_green => k_is)
      (case l_Works_make_green => k_is)
      (case co_Works_make_green => k_is)
      (case k_Works_make_green => k_is)
      (case a_row_length => k_is)
      (case l_row_length => k_is)
      (case co_row_length => k_is)
      (case k_row_length => k_is)
      (case a_called => k_is)
      (case l_called => k_is)
      (case co_called => k_is)
      (case k_called => k_is)
      (case a_with_told => k_is)
      (case l_with_told => k_is)
      (case co_with_told => k_is)
      (case k_with_told => k_is)
      (case a_answers => k_is)
      (case l_answers => k_is)
      (case co_answers => k_is)
      (case k_answers => k_is)
      (case pg_Right => k_is)
      (case hd_Right => k_is)
      (case po_Right => k_is)
      (case sa_Right => k_is)
      (case mk_Right => k_is)
      (case kc_Right => k_is)
      (case na_Right_told => k_is)
      (case na_Right_me => k_is)
      (case na_Right_turn => k_is)
      (case na_Right_driven_in => k_is)
      (case na_Right_come_out => k_is)
      (case na_Right_standing => k_is)
      (case na_Right_had => k_is)
      (case na_Right_green => k_is)
      (case na_Right_other_count => k_is)
      (case na_Right_ticks => k_is)
      (case pg_Works => k_is)
      (case hd_Works => k_is)
      (case po_Works => k_is)
      (case sa_Works => k_is)
      (case mk_Works => k_is)
      (case kc_Works => k_is)
      (case na_Works_right => k_is)
      (case na_Works_most => k_is)
      (case na_Works_waiting => k_is)
      (case na_Works_ask => k_is)
      (case na_Works_green_ticks => k_is)
      (case na_Works_was_green => k_is)
      (case g_GIVEN => k_is)
      (case g_HAD => k_is)
      (case g_ASK => k_is)
      (case g_LENGTH => k_is)
      (case g_TURN_AT => k_is)
      (case g_COUNT_AT => k_is)
      (case g_CHECK_AT => k_is)
      (case g_POLYNOMIAL => k_is)
      (case g_ONES => k_is)
      (case g_SEND => k_is)
      (case g_LIGHT => k_is)
      (case g_TELLS => k_is)
      (case g_CAME_TO_HAVE => k_is)
      (case g_DROVE_IN_AT_RED => k_is)
      (case g_GAVE => k_is)
      (case g_HAS => k_is)
      (case g_WAITS => k_is)
      (case g_HAS_NOT => k_is)
      (case g_NOT_ALLOWED => k_is)
      (case g_IS_GREEN => k_is)
      (case g_WRONG_NUMBER => k_is)
      (case g_NOT_RIGHT => k_is)
      (case g_AGAIN_EVERY => k_is)
      (case g_NEVER => k_is)
      (case g_MOST_TICKS => k_is)
      (case g_RW_START => k_is)
      (case g_RW_IN => k_is)
      (case g_RW_OUT => k_is)
      (case g_RW_WAITING => k_is)
      (case g_RW_HEARD => k_is)
      (case g_RW_TICK => k_is)
      (case a_WHOLE_NUMBERS => k_is)
      (case l_WHOLE_NUMBERS => k_is)
      (case z_len => k_is)
      (case z_range => k_is)
      (case z_sum => k_is)
      (case z_max => k_is)

    case go =>
      intro A T
      have e : fa = A.f_answers := by
        have h1 := T.mg_answers
        have h2 : mg "answers" = some (.ref fa) := hmg
        rw [h2] at h1
        injection h1 with h1
        injection h1
      subst e
      exact ⟨A.d_answers, fun s u hk => T.bd_answers s [u] hk rfl, fun base _ _ => (Ol.ok_answers T).mono (by decide)⟩
  case S =>
    intro w H a ns _ _ hask _ hS
    obtain ⟨cs, e1, e2, e3, e4, e5⟩ := MX.asked_cs hask
    subst e1
    refine ⟨a, cs, rfl, hS, fun c hc => ⟨e4 c hc, Ol.good_of (e4 c hc)⟩, e3, e5, fun l H' h => ⟨l, rfl, ?_⟩⟩
    rw [h]
    show _ = some (HO.lst ((PyKm265.answers (PyFlat.put cs)).map V.int))
    rw [e2]
  case C =>
    intro w H s e s' h
    exact h

