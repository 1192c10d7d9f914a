import PyProof.Rows.All
import Wide.All
import OpenK.AllK
import Wide.FinOn
import Lean
import PyProof.EqAt
import PyProof.EqKinds
import PyProof.TupleCall
import PySem.Challenge.RW_atleast_k07_whole_written_and_read
-- CHANGE: your row's module here, as the last of these rows
set_option Elab.async false
set_option linter.all false
set_option maxRecDepth 100000
/-! THE HAND LAYER, for ints, bools, texts, own classes, LISTS and tuples (index, slices, in, append, pop ..), calls, loops. Paste it whole ahead of your own text; what your proof does not reach may be deleted. -/

namespace L2
open PySem PySem.Spec PyProof.Rows

/-- a key: an int or a str -/
abbrev Key := Sum Int Str
def keyIs : Key → Value → Bool
  | .inl k, v => Value.isInt k v
  | .inr x, v => Value.isStrOf x v
def keyH (w : World) : Key → Int
  | .inl k => hashInt k
  | .inr x => hashStr w x
theorem keyIs_shape : ∀ {k : Key} {v : Value}, keyIs k v = true → (∃ i t, k = Sum.inl i ∧ v = Value.int i t) ∨ (∃ x t, k = Sum.inr x ∧ v = Value.str x t)
  | .inl i, v, h => by
    obtain ⟨t, e⟩ := Value.isInt_shape (k := i) (v := v) h
    exact .inl ⟨i, t, rfl, e⟩
  | .inr x, v, h => by
    obtain ⟨t, e⟩ := Value.isStrOf_shape (x := x) (v := v) h
    exact .inr ⟨x, t, rfl, e⟩
theorem key_ll (a b : Int) : decide ((Sum.inl a : Key) = Sum.inl b) = (a == b) := by
  by_cases e : a = b
  · subst e; simp
  · have h : ¬ (Sum.inl a : Key) = Sum.inl b := fun q => e (Sum.inl.inj q)
    rw [decide_eq_false h]
    exact (beq_eq_false_iff_ne.mpr e).symm
theorem key_rr (a b : Str) : decide ((Sum.inr a : Key) = Sum.inr b) = decide (a = b) := by
  by_cases e : a = b
  · subst e; simp
  · have h : ¬ (Sum.inr a : Key) = Sum.inr b := fun q => e (Sum.inr.inj q)
    rw [decide_eq_false h, decide_eq_false e]
theorem key_lr (a : Int) (b : Str) : decide ((Sum.inl a : Key) = Sum.inr b) = false := decide_eq_false (fun q => nomatch q)
theorem key_rl (a : Str) (b : Int) : decide ((Sum.inr a : Key) = Sum.inl b) = false := decide_eq_false (fun q => nomatch q)

def mixKind (prog : Program) (w : World) : PySem.KeyKind prog w Key where
  is := keyIs
  hash := keyH w
  inj := fun v a b ha hb => by
    rcases keyIs_shape ha with ⟨i, t, rfl, rfl⟩ | ⟨x, t, rfl, rfl⟩
    · rcases keyIs_shape hb with ⟨j, u, rfl, e⟩ | ⟨y, u, rfl, e⟩
      · injection e with e1 _; rw [e1]
      · exact nomatch e
    · rcases keyIs_shape hb with ⟨j, u, rfl, e⟩ | ⟨y, u, rfl, e⟩
      · exact nomatch e
      · injection e with e1 _; rw [e1]
  byValue := fun k v h => by
    rcases keyIs_shape h with ⟨i, t, rfl, rfl⟩ | ⟨x, t, rfl, rfl⟩ <;> rfl
  pyHash := fun hv h => by
    rcases keyIs_shape hv with ⟨i, t, rfl, rfl⟩ | ⟨x, t, rfl, rfl⟩
    · exact wpAny_pyHash_int h
    · exact wpAny_pyHash_str h
  eqBool := fun hu hv h => by
    rcases keyIs_shape hu with ⟨i, t, rfl, rfl⟩ | ⟨x, t, rfl, rfl⟩
    · rcases keyIs_shape hv with ⟨j, u, rfl, rfl⟩ | ⟨y, u, rfl, rfl⟩
      · rw [key_ll] at h; exact wpAny_eqBool_int h
      · rw [key_lr] at h; exact SeqAt.EqAt.int_str i t y u _ _ _ _ h
    · rcases keyIs_shape hv with ⟨j, u, rfl, rfl⟩ | ⟨y, u, rfl, rfl⟩
      · rw [key_rl] at h; exact SeqAt.EqAt.str_int x t j u _ _ _ _ h
      · rw [key_rr] at h; exact wpAny_eqBool_str h
  «strs» := fun k x t v h => by
    rcases keyIs_shape h with ⟨i, u, rfl, e⟩ | ⟨y, u, rfl, e⟩
    · exact nomatch e
    · injection e with e1 _
      subst e1
      cases v <;> rfl

end L2

namespace L2
open PySem PySem.Spec PyProof.Rows

/-- a value, without the heap -/
inductive V where
  | non | bl (b : Bool) | int (i : Int) | str (x : Str) | byt (b : Array UInt8) | flt (b : UInt64) | ref (a : Addr) | ty (n : String)
  deriving DecidableEq

def RelV : V → Value → Prop
  | .non, u => u = Value.none
  | .bl b, u => u = Value.bool b
  | .int i, u => ∃ t, u = Value.int i t
  | .str x, u => ∃ t, u = Value.str x t
  | .byt b, u => ∃ t, u = Value.bytes b t
  | .flt b, u => ∃ t, u = Value.float b t
  | .ref a, u => u = Value.ref a
  | .ty n, u => u = Value.type n

abbrev Vals : List V → List Value → Prop := Paired RelV
theorem Vals.length {xs : List V} {us : List Value} (r : Vals xs us) : xs.length = us.length := Paired.length r
theorem Vals.get : ∀ {xs : List V} {us : List Value} {i : Nat} {x : V}, Vals xs us → xs[i]? = some x → ∃ u, us[i]? = some u ∧ RelV x u
  | _, _, _, _, .nil, e => by simp at e
  | _, _, 0, _, .cons r _, e => by simp at e; subst e; exact ⟨_, rfl, r⟩
  | _, _, i + 1, x, .cons _ t, e => by
    obtain ⟨u, h1, h2⟩ := Vals.get (i := i) (x := x) t (by simpa using e)
    exact ⟨u, by simpa using h1, h2⟩
theorem Vals.set {x : V} {u : Value} (r : RelV x u) : ∀ {xs : List V} {us : List Value} (i : Nat), Vals xs us → Vals (xs.set i x) (us.set i u)
  | _, _, _, .nil => .nil
  | _, _, 0, .cons _ t => .cons r t
  | _, _, i + 1, .cons q t => .cons q (Vals.set r i t)
theorem Vals.append : ∀ {xs ys : List V} {us ws : List Value}, Vals xs us → Vals ys ws → Vals (xs ++ ys) (us ++ ws)
  | _, _, _, _, .nil, s => s
  | _, _, _, _, .cons r t, s => .cons r (Vals.append t s)
theorem Vals.take : ∀ {xs : List V} {us : List Value} (n : Nat), Vals xs us → Vals (xs.take n) (us.take n)
  | _, _, 0, _ => .nil
  | _, _, _ + 1, .nil => .nil
  | _, _, n + 1, .cons r t => .cons r (Vals.take n t)
theorem Vals.drop : ∀ {xs : List V} {us : List Value} (n : Nat), Vals xs us → Vals (xs.drop n) (us.drop n)
  | _, _, 0, r => r
  | _, _, _ + 1, .nil => .nil
  | _, _, n + 1, .cons _ t => Vals.drop n t
def RelO : Option V → Option Value → Prop
  | some v, some u => RelV v u
  | none, none => True
  | _, _ => False
def KV {κ : Type} : List (κ × V) → List (κ × Value) → Prop := Paired fun (p : κ × V) (q : κ × Value) => p.1 = q.1 ∧ RelV p.2 q.2

/-- a key of a dict (00_mix): an int or a text -/
def kV : Key → V
  | .inl i => .int i
  | .inr x => .str x

/-- what stands at a tracked address -/
inductive HO where
  /-- a list -/
  | lst (xs : List V)
  /-- a tuple (never changes) -/
  | tup (xs : List V)
  /-- a dict whose keys are ints and texts; one whose keys are tuples of ints and texts (the empty one is both) -/
  | dK (kvs : List (Key × V)) | dT (kvs : List (List Key × V))
  /-- a set of ints: its members, its size -/
  | set (S : Int → Bool) (n : Nat)
  /-- an instance of the class at C, its dict at dx, its attributes -/
  | ins (C dx : Addr) (fs : List (Str × V))
  /-- the dict of the instance at x -/
  | own (x : Addr)
  /-- the dict of an exception -/
  | xd (fs : List (Str × V))
  /-- a bound method, f of x -/
  | met (f x : Addr)
  /-- a range object lo, lo + 1, .. below hi -/
  | rng (lo hi : Int)
  /-- a thing that is known to the object (the script; a dict while a loop walks it): read, never written while it is so -/
  | frz (o : Obj) (u : HO)
  /-- a code object's table -/
  | tbl (ps : Array Value)
  /-- any other thing, by what is true of its one object (a def of one's own: SetO a S n := HO.ext fun h => ..) -/
  | ext (φ : Heap → Prop)

abbrev Hp := Addr → Option HO
def upd (H : Hp) (a : Addr) (o : HO) : Hp := fun b => if b = a then some o else H b
theorem upd_same {H : Hp} {a : Addr} {o : HO} : upd H a o a = some o := by unfold upd; rw [if_pos rfl]
theorem upd_ne {H : Hp} {a b : Addr} {o : HO} (h : b ≠ a) : upd H a o b = H b := by unfold upd; rw [if_neg h]
theorem ne_of_none {H : Hp} {a b : Addr} {o : HO} (h : H a = some o) (h' : H b = none) : a ≠ b := by
  intro e; subst e; rw [h] at h'; cases h'

section
variable (P : Program) (w : World)
def ObjOk (H : Hp) (h : Heap) (a : Addr) : HO → Prop
  | .lst xs => xs.length ≤ sizeLine ∧ ∃ (its : List Value) (n : Nat), Vals xs its ∧ h.get? a = some { cls := .type "list", data := .seq its.toArray n }
  | .tup xs => xs.length ≤ sizeLine ∧ ∃ its : List Value, Vals xs its ∧ IsTup h a its.toArray
  | .dK kvs => kvs.length ≤ sizeLine ∧ (a == sysModules) = false ∧ ∃ vs, KV kvs vs ∧ h.DictOf (mixKind P w) a vs
  | .dT kvs => kvs.length ≤ sizeLine ∧ (a == sysModules) = false ∧ ∃ xs : List (List Key × Addr × Value),
      Paired (fun (p : List Key × V) (q : List Key × Addr × Value) => p.1 = q.1 ∧ H q.2.1 = some (.tup (p.1.map kV)) ∧ RelV p.2 q.2.2) kvs xs ∧
      ∃ o es ep, h.get? a = some o ∧ o.ExactDict ∧ o.data = .dict es ep ∧ es.toList = xs.map (entryOfKey (tupleKind (mixKind P w))) ∧ (xs.map (·.1)).Nodup
  | .set S n => h.SetOf (intKind P w) a S n
  | .ins C dx fs => H dx = some (.own a) ∧ fs.length ≤ 1000 ∧ dx ≠ a ∧ h.get? a = some (PySem.W.instObj C dx) ∧
      ∃ mA, h.Ns1 dx mA ∧ (∀ f, RelO (fs.lookup f) (mA f)) ∧ PySem.Within mA (fs.map (·.1))
  | .own _ => ∃ o, h.get? a = some o
  | .xd fs => ∃ mA, h.Ns1 a mA ∧ ∀ f, RelO (fs.lookup f) (mA f)
  | .rng lo hi => ∃ t u v, h.get? a = some { cls := .type "range", data := .fields #[.int lo t, .int hi u, .int 1 v] }
  | .frz o u => h.get? a = some o ∧ ObjOk H h a u
  | .tbl ps => h.get? a = some { cls := .none, data := .fields ps }
  | .met f x => h.get? a = some (PySem.W.methodObj (.ref f) (.ref x))
  | .ext φ => φ h ∧ (∃ o, h.get? a = some o) ∧ ∀ h1 h2 : Heap, φ h1 → (∀ o, h1.get? a = some o → h2.get? a = some o) → φ h2
/-- the abstract heap is held -/
def HOk (H : Hp) (h : Heap) : Prop := ∀ a o, H a = some o → ObjOk P w H h a o
end

section
variable {P : Program} {w : World} {H H' : Hp} {h h' : Heap} {a : Addr} {o : HO}
theorem ObjOk.lt (x : ObjOk P w H h a o) : a < h.objs.size := by
  cases o with
  | lst xs => obtain ⟨_, _, _, _, e⟩ := x; exact Heap.lt_size e
  | tup xs => obtain ⟨_, _, _, p⟩ := x; exact p.lt
  | dK kvs => obtain ⟨_, _, _, _, o, _, _, e, _⟩ := x; exact Heap.lt_size e
  | dT kvs => obtain ⟨_, _, _, _, o, _, _, e, _⟩ := x; exact Heap.lt_size e
  | set S n => obtain ⟨o, _, _, _, e, _⟩ := x; exact Heap.lt_size e
  | ins C dx fs => obtain ⟨_, _, _, e, _⟩ := x; exact Heap.lt_size e
  | own y => obtain ⟨_, e⟩ := x; exact Heap.lt_size e
  | xd fs => obtain ⟨_, ⟨_, _, _, e, _⟩, _⟩ := x; exact Heap.lt_size e
  | rng lo hi => obtain ⟨_, _, _, e⟩ := x; exact Heap.lt_size e
  | frz ob u => obtain ⟨e, _⟩ := x; exact Heap.lt_size e
  | tbl ps => exact Heap.lt_size (show h.get? a = some _ from x)
  | met f y => exact Heap.lt_size (show h.get? a = some _ from x)
  | ext φ => obtain ⟨_, ⟨_, e⟩, _⟩ := x; exact Heap.lt_size e
theorem Paired.mapP {α β : Type} {F G : α → β → Prop} : ∀ {l₁ : List α} {l₂ : List β}, Paired F l₁ l₂ → (∀ a b, F a b → G a b) → Paired G l₁ l₂
  | _, _, .nil, _ => .nil
  | _, _, .cons r t, f => .cons (f _ _ r) (Paired.mapP t f)
/-- what an object's description leans on: its own object, its own dict, the tuples -/
theorem ObjOk.stay (x : ObjOk P w H h a o) (k : ∀ b u, (b = a ∨ H b = some (.own a)) → h.get? b = some u → h'.get? b = some u)
    (ho : ∀ b, H b = some (.own a) → H' b = some (.own a)) (ht : ∀ b xs, H b = some (.tup xs) → H' b = some (.tup xs)) : ObjOk P w H' h' a o := by
  induction o with
  | lst xs => obtain ⟨z, its, n, r, e⟩ := x; exact ⟨z, its, n, r, k _ _ (.inl rfl) e⟩
  | tup xs => obtain ⟨z, its, r, ob, e, c⟩ := x; exact ⟨z, its, r, ob, k _ _ (.inl rfl) e, c⟩
  | dK kvs => obtain ⟨z, y, vs, r, ob, es, ep, e, c⟩ := x; exact ⟨z, y, vs, r, ob, es, ep, k _ _ (.inl rfl) e, c⟩
  | dT kvs =>
    obtain ⟨z, y, xs, r, ob, es, ep, e, c⟩ := x
    exact ⟨z, y, xs, Paired.mapP r fun p q z => ⟨z.1, ht _ _ z.2.1, z.2.2⟩, ob, es, ep, k _ _ (.inl rfl) e, c⟩
  | set S n => obtain ⟨ob, es, ep, t, e, c⟩ := x; exact ⟨ob, es, ep, t, k _ _ (.inl rfl) e, c⟩
  | ins C dx fs =>
    obtain ⟨d, z, ne, e, mA, ⟨od, es, ep, e2, c⟩, r⟩ := x
    exact ⟨ho _ d, z, ne, k _ _ (.inl rfl) e, mA, ⟨od, es, ep, k _ _ (.inr d) e2, c⟩, r⟩
  | own y => obtain ⟨ob, e⟩ := x; exact ⟨ob, k _ _ (.inl rfl) e⟩
  | xd fs => obtain ⟨mA, ⟨od, es, ep, e, c⟩, r⟩ := x; exact ⟨mA, ⟨od, es, ep, k _ _ (.inl rfl) e, c⟩, r⟩
  | rng lo hi => obtain ⟨t, u, v, e⟩ := x; exact ⟨t, u, v, k _ _ (.inl rfl) e⟩
  | frz ob u ih => obtain ⟨e, q⟩ := x; exact ⟨k _ _ (.inl rfl) e, ih q⟩
  | tbl ps =>
    have e : h.get? a = some { cls := .none, data := .fields ps } := x
    show h'.get? a = some { cls := .none, data := .fields ps }
    exact k a _ (.inl rfl) e
  | met f y =>
    have e : h.get? a = some (PySem.W.methodObj (.ref f) (.ref y)) := x
    show h'.get? a = some (PySem.W.methodObj (.ref f) (.ref y))
    exact k a _ (.inl rfl) e
  | ext φ => obtain ⟨p, ⟨o, e⟩, st⟩ := x; exact ⟨st _ _ p fun o q => k _ _ (.inl rfl) q, ⟨o, k _ _ (.inl rfl) e⟩, st⟩
theorem HOk.lt (x : HOk P w H h) (e : H a = some o) : a < h.objs.size := (x a o e).lt
theorem HOk.fresh (x : HOk P w H h) (e : h.objs.size ≤ a) : H a = none := by
  cases q : H a with
  | none => rfl
  | some u => exact absurd (Nat.lt_of_lt_of_le (x.lt q) e) (Nat.lt_irrefl _)
/-- every object of the heap is kept -/
theorem HOk.kept (x : HOk P w H h) (k : ∀ b u, h.get? b = some u → h'.get? b = some u) : HOk P w H h' := fun a o e =>
  (x a o e).stay (fun b u _ q => k b u q) (fun _ q => q) fun _ _ q => q
/-- a new object is laid and tracked -/
theorem HOk.laid (x : HOk P w H h) (k : ∀ b u, h.get? b = some u → h'.get? b = some u) (hp : h.objs.size ≤ a) (new : ObjOk P w (upd H a o) h' a o) : HOk P w (upd H a o) h' := fun b u e => by
  have hn := x.fresh hp
  by_cases hb : b = a
  · subst hb; rw [upd_same] at e; cases e; exact new
  · rw [upd_ne hb] at e
    exact (x b u e).stay (fun c v _ q => k c v q) (fun c q => by rw [upd_ne (ne_of_none q hn)]; exact q) fun c xs q => by rw [upd_ne (ne_of_none q hn)]; exact q
end

/-- what may be read as u: it is u, or a known u -/
def Rd (H : Hp) (a : Addr) (u : HO) : Prop := H a = some u ∨ ∃ o, H a = some (.frz o u)
theorem Rd.ok {P : Program} {w : World} {H : Hp} {h : Heap} {a : Addr} {u : HO} (r : Rd H a u) (x : HOk P w H h) : ObjOk P w H h a u := by
  rcases r with r | ⟨o, r⟩
  · exact x a u r
  · obtain ⟨_, q⟩ := x a _ r
    exact q
/-- what may be written -/
def Mut : Option HO → Prop
  | some (.lst _) => True
  | some (.dK _) => True
  | some (.dT _) => True
  | some (.set _ _) => True
  | some (.ins _ _ _) => True
  | some (.ext _) => True
  | _ => False
section
variable {P : Program} {w : World} {H : Hp} {h h' : Heap} {x e : Addr} {o' : HO}
/-- the object at e is changed: x itself, or the dict of the instance x -/
theorem HOk.write (ok : HOk P w H h) (mu : Mut (H x)) (he : e = x ∨ H e = some (.own x)) (k : ∀ b u, b ≠ e → h.get? b = some u → h'.get? b = some u) (heo : ∃ u, h'.get? e = some u)
    (new : ObjOk P w (upd H x o') h' x o') : HOk P w (upd H x o') h' := fun b u q => by
  have nown : ∀ c y, H c = some (.own y) → c ≠ x := fun c y r z => by subst z; rw [r] at mu; exact mu
  have ntup : ∀ c xs, H c = some (.tup xs) → c ≠ x := fun c xs r z => by subst z; rw [r] at mu; exact mu
  by_cases hb : b = x
  · subst hb; rw [upd_same] at q; cases q; exact new
  · rw [upd_ne hb] at q
    by_cases hbe : b = e
    · have q' : H b = some (.own x) := by
        rcases he with z | z
        · exact absurd (hbe.trans z) hb
        · rw [hbe]; exact z
      rw [q] at q'; cases q'
      obtain ⟨v, hv⟩ := heo
      exact ⟨v, by rw [hbe]; exact hv⟩
    · refine (ok b u q).stay (fun c v hc r => k c v ?_ r) (fun c r => by rw [upd_ne (nown c b r)]; exact r) fun c xs r => by rw [upd_ne (ntup c xs r)]; exact r
      rcases hc with rfl | hc
      · exact hbe
      · rintro rfl
        rcases he with z | z
        · exact nown c b hc z
        · rw [hc] at z; cases z; exact hb rfl
end

/-! ### kept unless tracked; of the frames at fs (the callers') the slots may change (an exception that passes writes there); of the records at ex (iterators) nothing is said -/
structure Un (fs ex : List Addr) (H H' : Hp) (h h' : Heap) : Prop where
  keep : ∀ b o, h.get? b = some o → H b = none → b ∉ fs → b ∉ ex → h'.get? b = some o
  slot : ∀ b o, h.get? b = some o → H b = none → b ∈ fs → b ∉ ex → ∃ sl, h'.get? b = some { o with slots := sl }
  free : ∀ b o, h.get? b = some o → H b = none → b ∉ ex → H' b = none
  there : ∀ b o, h.get? b = some o → b ∉ ex → ∃ o', h'.get? b = some o'
  tups : ∀ b xs, H b = some (.tup xs) → H' b = some (.tup xs)
  frzs : ∀ b o u, H b = some (.frz o u) → H' b = some (.frz o u)
  tbls : ∀ b ps, H b = some (.tbl ps) → ∃ more, H' b = some (.tbl (ps ++ more))
section
variable {fs fs' ex ex' : List Addr} {H H1 H2 : Hp} {h h1 h2 h' : Heap} {a x e : Addr} {o : HO}
theorem Un.any (u : Un fs ex H H1 h h1) {b : Addr} {ob : Obj} (q : h.get? b = some ob) (n : H b = none) (hx : b ∉ ex) : ∃ sl, h1.get? b = some { ob with slots := sl } := by
  by_cases hb : b ∈ fs
  · exact u.slot b ob q n hb hx
  · exact ⟨ob.slots, u.keep b ob q n hb hx⟩
theorem Un.kept (k : ∀ b u, h.get? b = some u → h'.get? b = some u) : Un fs ex H H h h' :=
  ⟨fun b ob q _ _ _ => k b ob q, fun b ob q _ _ _ => ⟨ob.slots, k b ob q⟩, fun _ _ _ n _ => n, fun b ob q _ => ⟨ob, k b ob q⟩, fun _ _ q => q, fun _ _ _ q => q, fun _ ps q => ⟨#[], by rw [q]; simp⟩⟩
theorem Un.refl : Un fs ex H H h h := Un.kept fun _ _ q => q
theorem Un.laid (k : ∀ b u, h.get? b = some u → h'.get? b = some u) (hp : h.objs.size ≤ a) (hn : H a = none) : Un fs ex H (upd H a o) h h' where
  keep := fun b u q _ _ _ => k b u q
  slot := fun b u q _ _ _ => ⟨u.slots, k b u q⟩
  free := fun b u q n _ => by rw [upd_ne (Nat.ne_of_lt (Nat.lt_of_lt_of_le (Heap.lt_size q) hp))]; exact n
  there := fun b u q _ => ⟨u, k b u q⟩
  tups := fun b xs q => by rw [upd_ne (ne_of_none q hn)]; exact q
  frzs := fun b u xs q => by rw [upd_ne (ne_of_none q hn)]; exact q
  tbls := fun b ps q => ⟨#[], by rw [upd_ne (ne_of_none q hn), q]; simp⟩
theorem Un.write (mu : Mut (H x)) (he : e = x ∨ H e = some (.own x)) (k : ∀ b u, b ≠ e → h.get? b = some u → h'.get? b = some u) (heo : ∃ u, h'.get? e = some u) : Un fs ex H (upd H x o) h h' := by
  have hx : ∀ b, H b = none → b ≠ x := fun b n z => by subst z; rw [n] at mu; exact mu
  have hb : ∀ b, H b = none → b ≠ e := fun b n z => by
    subst z
    rcases he with r | r
    · exact hx b n r
    · rw [n] at r; cases r
  have hm : ∀ b u, H b = some u → ¬ Mut (some u) → b ≠ x := fun b u q nm z => by subst z; rw [q] at mu; exact nm mu
  refine ⟨fun b u q n _ _ => k b u (hb b n) q, fun b u q n _ _ => ⟨u.slots, k b u (hb b n) q⟩, fun b u q n _ => by rw [upd_ne (hx b n)]; exact n, fun b u q _ => ?_,
    fun b xs q => by rw [upd_ne (hm b _ q fun z => z)]; exact q, fun b u xs q => by rw [upd_ne (hm b _ q fun z => z)]; exact q, fun b ps q => ⟨#[], by rw [upd_ne (hm b _ q fun z => z), q]; simp⟩⟩
  by_cases hbe : b = e
  · subst hbe; exact heo
  · exact ⟨u, k b u hbe q⟩
end

/-! ### the heap without what is tracked -/
def trk (h : Heap) (H : Hp) : List Addr := (List.range h.objs.size).filter fun a => (H a).isSome
def hidT (h : Heap) (H : Hp) : Heap := PySem.W.hideAll h (trk h H)
theorem hidT_size (h : Heap) (H : Hp) : (hidT h H).objs.size = h.objs.size := PySem.W.hideAll_size _ _
theorem hidT_get {h : Heap} {H : Hp} {b : Addr} {o : Obj} (e : h.get? b = some o) (n : H b = none) : (hidT h H).get? b = some o :=
  PySem.W.hideAll_get _ e fun hm => by
    have q : (H b).isSome = true := (List.mem_filter.mp hm).2
    rw [n] at q; simp at q
theorem of_hidT {h : Heap} {H : Hp} {b : Addr} {o : Obj} (e : (hidT h H).get? b = some o) : h.get? b = some o ∧ H b = none := by
  have e' : h.get? b = some o := PySem.W.of_hideAll (trk h H) e
  refine ⟨e', ?_⟩
  cases q : H b with
  | none => rfl
  | some x =>
    have hm : b ∈ trk h H := List.mem_filter.mpr ⟨List.mem_range.mpr (Heap.lt_size e'), by simp [q]⟩
    have z : (hidT h H).get? b = none := PySem.W.hideAll_none (trk h H) hm
    rw [z] at e; cases e

/-! ### OpenK's ledger, filled with every new object but one -/
end L2

namespace L2
open PySem PySem.Spec PyProof.Rows

/-- the module's facts, over the base: the heap at the law's entry without what is tracked there -/
structure Mod (K : PySem.W.Frag) (mg : Str → Option Value) (base : Heap) : Prop where
  kin : K.In base
  glob : base.Ns mainGlobals mg
  blt : ∃ mb, base.Ns builtinsNs mb ∧ ∀ x : Str, x ≠ "__name__" → mb x = bootBuiltins x
  nolimit : base.NoLimit

/-- the context: a def's body (or a comprehension's block) running. base: fixed through the whole law; s₀, H₀: the entry; outer: the frames whose slots others may change (a def's callers); stack: all frames that run;
   ex: iterators that were made ahead of the entry and are walked here (a comprehension's); fn: the names whose cells were made at the entry (a def: all; a comprehension's block: its own); calm: not within an except suite; pn: pins that every state bears; xe: what is wanted of an exception that leaves the code -/
structure Cx where
  prog : Program
  w : World
  K : PySem.W.Frag
  mg : Str → Option Value
  base : Heap
  A : Around
  N : List Str
  s₀ : Shared
  H₀ : Hp
  env : Env
  outer : List Env
  stack : List Env
  ex : List Addr
  fn : Str → Bool
  calm : Bool
  pn : List (Addr × Obj)
  xe : Value → Shared → Prop
/-- the callers' frames -/
def frs (l : List Env) : List Addr := l.filterMap (·.frame)
abbrev Cx.fs (X : Cx) : List Addr := frs X.outer

def Vis (sc : Scope) (x : Str) : Prop := sc.names.lookup x = some .local ∨ sc.names.lookup x = some .cell ∨ sc.names.lookup x = some .free
def Loc (sc : Scope) (x : Str) : Prop := sc.names.lookup x = some .local ∨ sc.names.lookup x = some .cell
def Look (env : Env) (h : Heap) (m : Str → Option Value) (x : Str) (u : Value) : Prop :=
  (env.kindOf x = some .local ∧ m x = some u) ∨ ((env.kindOf x = some .cell ∨ env.kindOf x = some .free) ∧ ∃ c, env.cells.lookup x = some c ∧ h.IsCell c (some u))

structure Cx.Ok (X : Cx) : Prop where
  mod : Mod X.K X.mg X.base
  kind : X.env.scope.kind = .function
  glob : X.env.globals = mainGlobals
  blt : X.env.builtins = builtinsNs
  above : X.s₀.heap.objs.size ≤ X.env.locals
  inj : ∀ x y c, X.env.cells.lookup x = some c → X.env.cells.lookup y = some c → x = y
  has : ∀ x, (X.env.kindOf x = some .cell ∨ X.env.kindOf x = some .free) → ∃ c, X.env.cells.lookup x = some c
  cab : ∀ x c, X.fn x = true → X.env.cells.lookup x = some c → X.s₀.heap.objs.size ≤ c
  hd : X.calm = true → X.A.handled = none
  frames : X.A.frames = some X.stack
  stk : X.stack = X.outer ∨ (X.stack = X.env :: X.outer ∧ X.env.frame = some X.env.locals)
  exf : ∀ b ∈ X.ex, b ≠ X.env.locals ∧ ∀ x c, X.env.cells.lookup x = some c → c ≠ b
  bs : ∀ b o, X.base.get? b = some o → X.s₀.heap.get? b = some o ∧ X.H₀ b = none
  bsz : X.base.objs.size ≤ X.s₀.heap.objs.size
  noex : ∀ b o, X.base.get? b = some o → b ∉ X.ex
  exfs : ∀ b ∈ X.ex, b ∉ X.fs
  funs : X.s₀.heap.FunFrames X.base X.outer
  frf : ∀ b ∈ X.fs, X.H₀ b = none

structure Inv (X : Cx) (pins : List (Addr × Obj)) (σ : List (Option V)) (H : Hp) (s : Shared) : Prop where
  ok : X.Ok
  os : s.os = X.s₀.os
  bare : AllBare s.gens
  base : Un X.fs X.ex X.H₀ H X.s₀.heap s.heap
  loc : ∃ m, s.heap.Ns X.env.locals m ∧ ∀ (i : Nat) (x : Str) (v : V), X.N[i]? = some x → σ[i]? = some (some v) → Vis X.env.scope x → ∃ u, RelV v u ∧ Look X.env s.heap m x u
  cell : ∀ x c, X.env.cells.lookup x = some c → ∃ v, s.heap.IsCell c v
  free : H X.env.locals = none
  freeC : ∀ x c, X.env.cells.lookup x = some c → H c = none
  pin : ∀ p ∈ X.pn ++ pins, s.heap.get? p.1 = some p.2 ∧ H p.1 = none ∧ p.1 ≠ X.env.locals ∧ p.1 ∉ X.fs ∧ ∀ v, p.2.data ≠ .cell v
  hok : HOk X.prog X.w H s.heap
  len : σ.length = X.N.length

section
variable {X : Cx} {pins : List (Addr × Obj)} {σ : List (Option V)} {H H' : Hp} {s : Shared} {h' : Heap}

theorem Cx.Ok.nofr (ok : X.Ok) {b : Addr} {o : Obj} (e : X.base.get? b = some o) : b ∉ X.fs := fun hb => by
  have := (ok.funs.mem hb).1
  rw [e] at this; cases this
theorem Inv.bs (I : Inv X pins σ H s) : ∀ b o, X.base.get? b = some o → s.heap.get? b = some o ∧ H b = none := fun b o e =>
  ⟨I.base.keep b o (I.ok.bs b o e).1 (I.ok.bs b o e).2 (I.ok.nofr e) (I.ok.noex b o e), I.base.free b o (I.ok.bs b o e).1 (I.ok.bs b o e).2 (I.ok.noex b o e)⟩
theorem Inv.bk (I : Inv X pins σ H s) : ∀ b o, X.base.get? b = some o → s.heap.get? b = some o := fun b o e => (I.bs b o e).1
theorem Inv.mod (I : Inv X pins σ H s) : Mod X.K X.mg X.base := I.ok.mod
theorem Inv.kIn (I : Inv X pins σ H s) : X.K.In s.heap := I.ok.mod.kin.keeps I.bk
theorem Inv.lt (I : Inv X pins σ H s) : X.env.locals < s.heap.objs.size := let ⟨_, hn, _⟩ := I.loc; hn.lt
theorem Inv.sz (I : Inv X pins σ H s) : X.s₀.heap.objs.size ≤ s.heap.objs.size := Nat.le_trans I.ok.above (Nat.le_of_lt I.lt)
theorem Inv.nofs (I : Inv X pins σ H s) {a : Addr} (h : s.heap.objs.size ≤ a) : a ∉ X.fs := fun hb => by
  obtain ⟨_, o, ho, _⟩ := I.ok.funs.mem hb
  exact absurd (Nat.lt_of_lt_of_le (Heap.lt_size ho) (Nat.le_trans I.sz h)) (Nat.lt_irrefl _)
theorem Inv.cne (I : Inv X pins σ H s) : ∀ x c, X.env.cells.lookup x = some c → c ≠ X.env.locals := fun x c e z => by
  obtain ⟨v, o, ho, hd⟩ := I.cell x c e
  obtain ⟨m, ⟨o', es, ep, ho', hd', _⟩, _⟩ := I.loc
  rw [z, ho'] at ho; cases ho; rw [hd'] at hd; cases hd
theorem Inv.funs (I : Inv X pins σ H s) : s.heap.FunFrames X.base X.outer := by
  have all : ∀ (l : List Env), (∀ b ∈ frs l, b ∈ X.fs) → X.s₀.heap.FunFrames X.base l → s.heap.FunFrames X.base l := by
    intro l
    induction l with
    | nil => intro _ _; trivial
    | cons env r ih =>
      intro hs hl
      obtain ⟨hk, ⟨L, o, hf, hn, ho, hd⟩, hr⟩ := hl
      have hL : L ∈ X.fs := hs L (by unfold frs; rw [List.filterMap_cons, hf]; exact List.mem_cons_self)
      obtain ⟨sl, e⟩ := I.base.slot L o ho (I.ok.frf L hL) hL fun z => I.ok.exfs L z hL
      exact ⟨hk, ⟨L, _, hf, hn, e, hd⟩, ih (fun b hb => hs b (by unfold frs; rw [List.filterMap_cons, hf]; exact List.mem_cons_of_mem _ hb)) hr⟩
  exact all X.outer (fun _ hb => hb) I.ok.funs

/-- the frames that run, for a call -/
theorem Inv.stack (I : Inv X pins σ H s) : s.heap.FunFrames X.base X.stack := by
  rcases I.ok.stk with e | ⟨e, hf⟩
  · rw [e]; exact I.funs
  · rw [e]
    obtain ⟨m, hn, _⟩ := I.loc
    refine .cons (by rw [I.ok.kind]; decide) hf hn ?_ I.funs
    exact Heap.get?_none_of_le (Nat.le_trans I.ok.bsz I.ok.above)
theorem Inv.stkSub (I : Inv X pins σ H s) : ∀ b ∈ frs X.stack, b ∈ X.env.locals :: X.fs := fun b hb => by
  rcases I.ok.stk with e | ⟨e, hf⟩
  · rw [e] at hb; exact List.mem_cons_of_mem _ hb
  · rw [e] at hb
    unfold frs at hb
    rw [List.filterMap_cons, hf] at hb
    exact hb
theorem Inv.stkFree (I : Inv X pins σ H s) : ∀ b ∈ frs X.stack, H b = none := fun b hb => by
  rcases List.mem_cons.mp (I.stkSub b hb) with e | hb
  · rw [e]; exact I.free
  · obtain ⟨_, o, ho, _⟩ := I.ok.funs.mem hb
    exact I.base.free b o ho (I.ok.frf b hb) fun z => I.ok.exfs b z hb

/-- THE STEP: the untracked objects but the frame and the records at ch are kept (the callers' frames up to slots), the frame's map is kept, the new abstract heap is held -/
theorem Inv.step {g' : Array GenState} {t' : Nat} {d' : Drawn} {ch : List Addr} (I : Inv X pins σ H s)
    (hch : ∀ b ∈ ch, (b ∈ X.ex ∨ X.s₀.heap.objs.size ≤ b) ∧ b ≠ X.env.locals ∧ (∀ x c, X.env.cells.lookup x = some c → c ≠ b) ∧ ∀ p ∈ X.pn ++ pins, p.1 ≠ b)
    (keep : ∀ b o, b ≠ X.env.locals → b ∉ X.fs → b ∉ ch → s.heap.get? b = some o → H b = none → h'.get? b = some o)
    (slot : ∀ b o, b ≠ X.env.locals → b ∈ X.fs → b ∉ ch → s.heap.get? b = some o → H b = none → ∃ sl, h'.get? b = some { o with slots := sl }) (free : ∀ b o, b ∉ ch → s.heap.get? b = some o → H b = none → H' b = none)
    (there : ∀ b o, b ∉ ch → s.heap.get? b = some o → ∃ o', h'.get? b = some o')
    (tups : ∀ b xs, H b = some (.tup xs) → H' b = some (.tup xs)) (frzs : ∀ b o u, H b = some (.frz o u) → H' b = some (.frz o u)) (tbls : ∀ b ps, H b = some (.tbl ps) → ∃ more, H' b = some (.tbl (ps ++ more)))
    (ns : ∀ m, s.heap.Ns X.env.locals m → h'.Ns X.env.locals m) (hok : HOk X.prog X.w H' h') (hg : AllBare g') :
    Inv X pins σ H' { s with heap := h', gens := g', drawn := d', toks := t' } := by
  have neL : ∀ b o, X.s₀.heap.get? b = some o → b ≠ X.env.locals := fun b o e => Nat.ne_of_lt (Nat.lt_of_lt_of_le (Heap.lt_size e) I.ok.above)
  have neC : ∀ b o, X.s₀.heap.get? b = some o → b ∉ X.ex → b ∉ ch := fun b o e hx hb => by
    rcases (hch b hb).1 with z | z
    · exact hx z
    · exact absurd (Nat.lt_of_lt_of_le (Heap.lt_size e) z) (Nat.lt_irrefl _)
  have cellK : ∀ x c, X.env.cells.lookup x = some c → ∀ v, s.heap.IsCell c v → h'.IsCell c v := fun x c e v ⟨o, ho, hd⟩ => by
    have nch : c ∉ ch := fun z => (hch c z).2.2.1 x c e rfl
    by_cases hc : c ∈ X.fs
    · obtain ⟨sl, q⟩ := slot c o (I.cne x c e) hc nch ho (I.freeC x c e)
      exact ⟨_, q, hd⟩
    · exact ⟨o, keep c o (I.cne x c e) hc nch ho (I.freeC x c e), hd⟩
  refine ⟨I.ok, I.os, hg, ⟨fun b o e n hb hx => ?_, fun b o e n hb hx => ?_, fun b o e n hx => ?_, fun b o e hx => ?_, fun b xs e => tups b xs (I.base.tups b xs e), fun b o xs e => frzs b o xs (I.base.frzs b o xs e), fun b ps e => ?_⟩, ?_, fun x c e => ?_, ?_, fun x c e => ?_, fun p hp => ?_, hok, I.len⟩
  · exact keep b o (neL b o e) hb (neC b o e hx) (I.base.keep b o e n hb hx) (I.base.free b o e n hx)
  · obtain ⟨sl, e1⟩ := I.base.slot b o e n hb hx
    obtain ⟨sl', e2⟩ := slot b _ (neL b o e) hb (neC b o e hx) e1 (I.base.free b o e n hx)
    exact ⟨sl', e2⟩
  · obtain ⟨o', e1⟩ := I.base.there b o e hx
    exact free b o' (neC b o e hx) e1 (I.base.free b o e n hx)
  · obtain ⟨o', e1⟩ := I.base.there b o e hx
    exact there b o' (neC b o e hx) e1
  · obtain ⟨m1, e1⟩ := I.base.tbls b ps e
    obtain ⟨m2, e2⟩ := tbls b _ e1
    exact ⟨m1 ++ m2, by rw [e2, Array.append_assoc]⟩
  · obtain ⟨m, hn, hl⟩ := I.loc
    refine ⟨m, ns m hn, fun i x v e1 e2 e3 => ?_⟩
    obtain ⟨u, r, l⟩ := hl i x v e1 e2 e3
    refine ⟨u, r, ?_⟩
    rcases l with l | ⟨k, c, e, z⟩
    · exact .inl l
    · exact .inr ⟨k, c, e, cellK x c e _ z⟩
  · obtain ⟨v, z⟩ := I.cell x c e
    exact ⟨v, cellK x c e v z⟩
  · obtain ⟨m, ⟨o, _, _, ho, _⟩, _⟩ := I.loc
    exact free _ o (fun z => (hch _ z).2.1 rfl) ho I.free
  · obtain ⟨v, o, ho, hd⟩ := I.cell x c e
    exact free c o (fun z => (hch c z).2.2.1 x c e rfl) ho (I.freeC x c e)
  · obtain ⟨e, n, ne, nf, d⟩ := I.pin p hp
    have nch : p.1 ∉ ch := fun z => (hch p.1 z).2.2.2 p hp rfl
    exact ⟨keep p.1 p.2 ne nf nch e n, free p.1 p.2 nch e n, ne, nf, d⟩
/-- .. where the frame's own object is kept too -/
theorem Inv.un {t' : Nat} (I : Inv X pins σ H s) (u : Un X.fs [] H H' s.heap h') (hok : HOk X.prog X.w H' h') : Inv X pins σ H' { s with heap := h', toks := t' } := by
  obtain ⟨m, ⟨o, es, ep, ho, r⟩, _⟩ := id I.loc
  obtain ⟨sl, hL⟩ := u.any ho I.free (by simp)
  exact I.step (g' := s.gens) (d' := s.drawn) (ch := []) (fun _ z => nomatch z) (fun b o _ hb _ e n => u.keep b o e n hb (by simp)) (fun b o _ hb _ e n => u.slot b o e n hb (by simp)) (fun b o _ e n => u.free b o e n (by simp)) (fun b o _ e => u.there b o e (by simp)) u.tups u.frzs u.tbls (fun m' hm => by
    obtain ⟨o', es', ep', ho', r'⟩ := hm
    rw [ho] at ho'; cases ho'
    exact ⟨_, es', ep', hL, r'⟩) hok I.bare
/-- behind a call (or a comprehension's block): the slots of this frame may have changed too, the records at ch may have turned -/
theorem Inv.call {g' : Array GenState} {t' : Nat} {d' : Drawn} {ch : List Addr} (I : Inv X pins σ H s) (u : Un (frs X.stack) ch H H' s.heap h') (hok : HOk X.prog X.w H' h') (hg : AllBare g')
    (hch : ∀ b ∈ ch, (b ∈ X.ex ∨ X.s₀.heap.objs.size ≤ b) ∧ b ≠ X.env.locals ∧ (∀ x c, X.env.cells.lookup x = some c → c ≠ b) ∧ ∀ p ∈ X.pn ++ pins, p.1 ≠ b) :
    Inv X pins σ H' { s with heap := h', gens := g', drawn := d', toks := t' } := by
  obtain ⟨m, ⟨o, es, ep, ho, r⟩, _⟩ := id I.loc
  obtain ⟨sl, hL⟩ := u.any ho I.free fun z => (hch _ z).2.1 rfl
  exact I.step (ch := ch) hch (fun b o hL hb hc e n => u.keep b o e n (fun z => (List.mem_cons.mp (I.stkSub b z)).elim hL hb) hc) (fun b o _ _ hc e n => u.any e n hc) (fun b o hc e n => u.free b o e n hc) (fun b o hc e => u.there b o e hc) u.tups u.frzs u.tbls (fun m' hm => by
    obtain ⟨o', es', ep', ho', r'⟩ := hm
    rw [ho] at ho'; cases ho'
    exact ⟨_, es', ep', hL, r'⟩) hok hg
/-- an untracked record of ours (an iterator) has turned -/
theorem Inv.turned {t' : Nat} {it : Addr} (I : Inv X pins σ H s) (k : ∀ b o, b ≠ it → s.heap.get? b = some o → h'.get? b = some o) (hn : H it = none) (hL : it ≠ X.env.locals)
    (h1 : it ∈ X.ex ∨ X.s₀.heap.objs.size ≤ it) (h2 : ∀ x c, X.env.cells.lookup x = some c → c ≠ it) (h3 : ∀ p ∈ X.pn ++ pins, p.1 ≠ it) : Inv X pins σ H { s with heap := h', toks := t' } := by
  have nit : ∀ b u, H b = some u → b ≠ it := fun b u e z => by rw [z, hn] at e; cases e
  refine I.step (g' := s.gens) (d' := s.drawn) (ch := [it]) (fun b hb => ?_) (fun b o _ _ hc e _ => k b o (fun z => hc (by simp [z])) e) (fun b o _ _ hc e _ => ⟨o.slots, k b o (fun z => hc (by simp [z])) e⟩) (fun _ _ _ _ n => n)
    (fun b o hc e => ⟨o, k b o (fun z => hc (by simp [z])) e⟩) (fun _ _ e => e) (fun _ _ _ e => e) (fun b ps e => ⟨#[], by rw [e]; simp⟩) (fun m hm => ?_) (fun b u e => ?_) I.bare
  · have e : b = it := by simpa using hb
    subst e
    exact ⟨h1, hL, h2, h3⟩
  · obtain ⟨o, es, ep, ho, r⟩ := hm
    exact ⟨o, es, ep, k _ o (Ne.symm hL) ho, r⟩
  · refine (I.hok b u e).stay (fun c v hc q => k c v ?_ q) (fun _ q => q) fun _ _ q => q
    rcases hc with z | z
    · rw [z]; exact nit b u e
    · exact nit c _ z
theorem Inv.tok (I : Inv X pins σ H s) (t : Nat) : Inv X pins σ H { s with toks := t } := I.un (h' := s.heap) (t' := t) Un.refl I.hok
/-- all objects kept -/
theorem Inv.kept {t' : Nat} (I : Inv X pins σ H s) (k : ∀ b u, s.heap.get? b = some u → h'.get? b = some u) : Inv X pins σ H { s with heap := h', toks := t' } := I.un (Un.kept k) (I.hok.kept k)
/-- a new object laid and tracked -/
theorem Inv.laid {a : Addr} {o : HO} {t' : Nat} (I : Inv X pins σ H s) (k : ∀ b u, s.heap.get? b = some u → h'.get? b = some u) (hp : s.heap.objs.size ≤ a) (new : ObjOk X.prog X.w (upd H a o) h' a o) :
    Inv X pins σ (upd H a o) { s with heap := h', toks := t' } := I.un (Un.laid k hp (I.hok.fresh hp)) (I.hok.laid k hp new)
/-- an object written -/
theorem Inv.write {x e : Addr} {o : HO} {t' : Nat} (I : Inv X pins σ H s) (mu : Mut (H x)) (he : e = x ∨ H e = some (.own x)) (k : ∀ b u, b ≠ e → s.heap.get? b = some u → h'.get? b = some u) (heo : ∃ u, h'.get? e = some u)
    (new : ObjOk X.prog X.w (upd H x o) h' x o) : Inv X pins σ (upd H x o) { s with heap := h', toks := t' } := I.un (Un.write mu he k heo) (I.hok.write mu he k heo new)
/-- forgetting slots, pins -/
theorem Inv.weak {σ' : List (Option V)} (I : Inv X pins σ H s) (hl : σ'.length = σ.length) (w : ∀ (i : Nat) v, σ'[i]? = some (some v) → σ[i]? = some (some v)) : Inv X pins σ' H s :=
  ⟨I.ok, I.os, I.bare, I.base, let ⟨m, hn, hl'⟩ := I.loc; ⟨m, hn, fun i x v e1 e2 e3 => hl' i x v e1 (w i v e2) e3⟩, I.cell, I.free, I.freeC, I.pin, I.hok, hl.trans I.len⟩
theorem Inv.pins_of {pins' : List (Addr × Obj)} (I : Inv X pins σ H s) (h : ∀ p ∈ pins', s.heap.get? p.1 = some p.2 ∧ H p.1 = none ∧ p.1 ≠ X.env.locals ∧ p.1 ∉ X.fs ∧ ∀ v, p.2.data ≠ .cell v) : Inv X pins' σ H s :=
  ⟨I.ok, I.os, I.bare, I.base, I.loc, I.cell, I.free, I.freeC, fun p hp => (List.mem_append.mp hp).elim (fun z => I.pin p (List.mem_append_left _ z)) (h p), I.hok, I.len⟩

theorem nodup_ix {N : List Str} (hN : N.Nodup) {i j : Nat} {x : Str} (a : N[i]? = some x) (b : N[j]? = some x) : i = j := by
  obtain ⟨h1, e1⟩ := List.getElem?_eq_some_iff.mp a
  obtain ⟨h2, e2⟩ := List.getElem?_eq_some_iff.mp b
  exact (List.getElem_inj hN).mp (e1.trans e2.symm)

/-- a name is stored; what changed -/
theorem store_ok2 {M : Model} {A : Around} {E : Value → Shared → Prop} {i : Nat} {x : Str} {v : V} {u : Value} {Q : Unit → Shared → Prop} (I : Inv X pins σ H s) (hN : X.N.Nodup) (hi : X.N[i]? = some x) (hx : Loc X.env.scope x) (r : RelV v u)
    (h : ∀ s', Inv X pins (σ.set i (some v)) H s' → (∃ a, Heap.SameBut a s.heap s'.heap ∧ (a = X.env.locals ∨ X.env.cells.lookup x = some a)) → Q () s') (hf : X.fn x = true ∨ X.env.scope.names.lookup x = some .local := by first | exact .inl rfl | exact .inr rfl | assumption) : wpAny M A (storeName X.env x u) Q E s := by
  obtain ⟨m, hn, hl⟩ := id I.loc
  have hcls : (X.env.scope.kind == .class || (X.env.scope.kind == .module && X.env.locals != X.env.globals)) = false := by rw [I.ok.kind]; rfl
  have hiσ : i < σ.length := by rw [I.len]; exact (List.getElem?_eq_some_iff.mp hi).1
  have cne := I.cne
  have tracked : ∀ {a : Addr} {h' : Heap}, (∃ o, s.heap.get? a = some o ∧ H a = none) → Heap.SameBut a s.heap h' → HOk X.prog X.w H h' := fun {a h'} ha hs b ob e => by
    obtain ⟨_, _, hfree⟩ := ha
    refine (I.hok b ob e).stay (fun c w' hc q => (hs.2 c ?_).trans q) (fun _ q => q) fun _ _ q => q
    rintro rfl
    rcases hc with rfl | hc
    · rw [hfree] at e; cases e
    · rw [hfree] at hc; cases hc
  rcases hx with hk | hk
  · refine wpAny_storeName_local hk hn (fun h' hn' hs => ?_) hcls
    obtain ⟨oL, _, _, hoL, _⟩ := id hn
    refine h _ ⟨I.ok, I.os, I.bare, ⟨fun b o e n hb hx => ?_, fun b o e n hb hx => ?_, I.base.free, fun b o e hx => ?_, I.base.tups, I.base.frzs, I.base.tbls⟩, ⟨_, hn', fun j y v' e1 e2 e3 => ?_⟩, fun y c e => ?_, I.free, I.freeC, fun p hp => ?_, tracked ⟨oL, hoL, I.free⟩ hs, by simpa using I.len⟩ ⟨_, hs, .inl rfl⟩
    · exact (hs.2 b (Nat.ne_of_lt (Nat.lt_of_lt_of_le (Heap.lt_size e) I.ok.above))).trans (I.base.keep b o e n hb hx)
    · obtain ⟨sl, e1⟩ := I.base.slot b o e n hb hx
      exact ⟨sl, (hs.2 b (Nat.ne_of_lt (Nat.lt_of_lt_of_le (Heap.lt_size e) I.ok.above))).trans e1⟩
    · obtain ⟨o', e1⟩ := I.base.there b o e hx
      exact ⟨o', (hs.2 b (Nat.ne_of_lt (Nat.lt_of_lt_of_le (Heap.lt_size e) I.ok.above))).trans e1⟩
    · by_cases hj : j = i
      · subst hj
        rw [hi] at e1; cases e1
        rw [List.getElem?_set_self hiσ] at e2
        cases e2
        exact ⟨u, r, .inl ⟨hk, by simp⟩⟩
      · rw [List.getElem?_set_ne (Ne.symm hj)] at e2
        obtain ⟨u', r', q⟩ := hl j y v' e1 e2 e3
        refine ⟨u', r', ?_⟩
        rcases q with ⟨k, e⟩ | ⟨k, c, e, z⟩
        · refine .inl ⟨k, ?_⟩
          have : y ≠ x := fun e => hj (nodup_ix hN e1 (e ▸ hi))
          simp [this, e]
        · exact .inr ⟨k, c, e, z.sameBut hs (cne y c e)⟩
    · obtain ⟨w', z⟩ := I.cell y c e
      exact ⟨w', z.sameBut hs (cne y c e)⟩
    · obtain ⟨e, n, ne, nf, d⟩ := I.pin p hp
      exact ⟨(hs.2 p.1 ne).trans e, n, ne, nf, d⟩
  · have hfn : X.fn x = true := by
      rcases hf with z | z
      · exact z
      · rw [z] at hk; cases hk
    obtain ⟨c, hc⟩ := I.ok.has x (.inl hk)
    obtain ⟨w', z⟩ := I.cell x c hc
    refine wpAny_storeName_cell I.ok.kind hk hc z (fun h' hc' hs => ?_)
    obtain ⟨oc, hoc, hocd⟩ := id z
    refine h { s with heap := h' } ⟨I.ok, I.os, I.bare, ⟨fun b o e n hb hx => ?_, fun b o e n hb hx => ?_, I.base.free, fun b o e hx => ?_, I.base.tups, I.base.frzs, I.base.tbls⟩, ⟨m, hn.sameBut hs (Ne.symm (cne x c hc)), fun j y v' e1 e2 e3 => ?_⟩, fun y c' e => ?_, I.free, I.freeC, fun p hp => ?_, tracked ⟨oc, hoc, I.freeC x c hc⟩ hs, by simpa using I.len⟩ ⟨c, hs, .inr hc⟩
    · exact (hs.2 b (Nat.ne_of_lt (Nat.lt_of_lt_of_le (Heap.lt_size e) (I.ok.cab x c hfn hc)))).trans (I.base.keep b o e n hb hx)
    · obtain ⟨sl, e1⟩ := I.base.slot b o e n hb hx
      exact ⟨sl, (hs.2 b (Nat.ne_of_lt (Nat.lt_of_lt_of_le (Heap.lt_size e) (I.ok.cab x c hfn hc)))).trans e1⟩
    · obtain ⟨o', e1⟩ := I.base.there b o e hx
      exact ⟨o', (hs.2 b (Nat.ne_of_lt (Nat.lt_of_lt_of_le (Heap.lt_size e) (I.ok.cab x c hfn hc)))).trans e1⟩
    · by_cases hj : j = i
      · subst hj
        rw [hi] at e1; cases e1
        rw [List.getElem?_set_self hiσ] at e2
        cases e2
        exact ⟨u, r, .inr ⟨.inl hk, c, hc, hc'⟩⟩
      · rw [List.getElem?_set_ne (Ne.symm hj)] at e2
        obtain ⟨u', r', q⟩ := hl j y v' e1 e2 e3
        refine ⟨u', r', ?_⟩
        rcases q with q | ⟨k, c', e, z'⟩
        · exact .inl q
        · refine .inr ⟨k, c', e, z'.sameBut hs ?_⟩
          rintro rfl
          exact hj (nodup_ix hN e1 (I.ok.inj _ _ _ e hc ▸ hi))
    · by_cases hcc : c' = c
      · subst hcc; exact ⟨_, hc'⟩
      · obtain ⟨w2, z2⟩ := I.cell y c' e
        exact ⟨w2, z2.sameBut hs hcc⟩
    · obtain ⟨e, n, ne, nf, d⟩ := I.pin p hp
      refine ⟨(hs.2 p.1 ?_).trans e, n, ne, nf, d⟩
      intro q
      rw [q, hoc] at e
      have q' : oc = p.2 := Option.some.inj e
      exact d w' (by rw [← q']; exact hocd)
theorem store_ok {M : Model} {A : Around} {E : Value → Shared → Prop} {i : Nat} {x : Str} {v : V} {u : Value} {Q : Unit → Shared → Prop} (I : Inv X pins σ H s) (hN : X.N.Nodup) (hi : X.N[i]? = some x) (hx : Loc X.env.scope x) (r : RelV v u)
    (h : ∀ s', Inv X pins (σ.set i (some v)) H s' → Q () s') (hf : X.fn x = true ∨ X.env.scope.names.lookup x = some .local := by first | exact .inl rfl | exact .inr rfl | assumption) : wpAny M A (storeName X.env x u) Q E s :=
  store_ok2 I hN hi hx r (fun s' I' _ => h s' I') hf
/-- behind a call or a block, the state as it is -/
theorem Inv.call' {s' : Shared} {ch : List Addr} (I : Inv X pins σ H s) (ho : s'.os = s.os) (u : Un (frs X.stack) ch H H' s.heap s'.heap) (hok : HOk X.prog X.w H' s'.heap) (hg : AllBare s'.gens)
    (hch : ∀ b ∈ ch, (b ∈ X.ex ∨ X.s₀.heap.objs.size ≤ b) ∧ b ≠ X.env.locals ∧ (∀ x c, X.env.cells.lookup x = some c → c ≠ b) ∧ ∀ p ∈ X.pn ++ pins, p.1 ≠ b) : Inv X pins σ H' s' := by
  obtain ⟨h', g', d', t', o'⟩ := s'
  have e : o' = s.os := ho
  subst e
  exact I.call (g' := g') (t' := t') (d' := d') u hok hg hch
end

/-! ### the judgements -/
/-- an exception: its class, its own dict's address (where it has one), the abstract heap behind it -/
abbrev XK := Value → Option Addr → Hp → Prop
abbrev St := List (Option V)
abbrev VK := V → Hp → Prop
/-- an expression's reading; a test's; an argument list's -/
abbrev TE := St → Hp → VK → Prop
abbrev TT := St → Hp → (Bool → Hp → Prop) → Prop
abbrev TA := St → Hp → (List V → Hp → Prop) → Prop
/-- what is wanted behind a statement -/
structure Ends where
  nx : St → Hp → Prop
  rt : VK
  bk : St → Hp → Prop := fun _ _ => False
  ct : St → Hp → Prop := fun _ _ => False
abbrev TS := Ends → St → Hp → Prop

def EP (X : Cx) (pins : List (Addr × Obj)) (σ : St) (Q : VK) (u : Value) (s' : Shared) : Prop := ∃ v H', Inv X pins σ H' s' ∧ RelV v u ∧ Q v H'
def TP (X : Cx) (pins : List (Addr × Obj)) (σ : St) (Q : Bool → Hp → Prop) (b : Bool) (s' : Shared) : Prop := ∃ H', Inv X pins σ H' s' ∧ Q b H'
def AP (X : Cx) (pins : List (Addr × Obj)) (σ : St) (Q : List V → Hp → Prop) (us : List Value) (s' : Shared) : Prop := ∃ vs H', Inv X pins σ H' s' ∧ Vals vs us ∧ Q vs H'
def SP (X : Cx) (pins : List (Addr × Obj)) (D : Ends) (f : Flow) (s' : Shared) : Prop :=
  match f with
  | .next => ∃ σ' H', Inv X pins σ' H' s' ∧ D.nx σ' H'
  | .brk => ∃ σ' H', Inv X pins σ' H' s' ∧ D.bk σ' H'
  | .cont => ∃ σ' H', Inv X pins σ' H' s' ∧ D.ct σ' H'
  | .ret u => ∃ v σ' H', Inv X pins σ' H' s' ∧ RelV v u ∧ D.rt v H'

def PE (X : Cx) (e : Expr) (t : TE) : Prop :=
  ∀ (pins : List (Addr × Obj)) (s : Shared) (σ : St) (H : Hp) (Q : VK), Inv X pins σ H s → t σ H Q → wpAny (model X.prog X.w) X.A (eval e X.env) (EP X pins σ Q) X.xe s
def PT (X : Cx) (e : Expr) (t : TT) : Prop :=
  ∀ (pins : List (Addr × Obj)) (s : Shared) (σ : St) (H : Hp) (Q : Bool → Hp → Prop), Inv X pins σ H s → t σ H Q → wpAny (model X.prog X.w) X.A (isTrue e X.env (eval e X.env)) (TP X pins σ Q) X.xe s
/-- a test whatever its 'whole' is (and, or) -/
def PW (X : Cx) (e : Expr) (t : TT) : Prop :=
  ∀ (whole : Sem Value) (pins : List (Addr × Obj)) (s : Shared) (σ : St) (H : Hp) (Q : Bool → Hp → Prop), Inv X pins σ H s → t σ H Q → wpAny (model X.prog X.w) X.A (isTrue e X.env whole) (TP X pins σ Q) X.xe s
theorem PW.pt {X : Cx} {e : Expr} {t : TT} (h : PW X e t) : PT X e t := h _
/-- an argument list (no star), from the left -/
def PA (X : Cx) (es : List Expr) (t : TA) : Prop :=
  ∀ (pos : Pos) (pins : List (Addr × Obj)) (s : Shared) (σ : St) (H : Hp) (Q : List V → Hp → Prop), Inv X pins σ H s → t σ H Q → wpAny (model X.prog X.w) X.A (spliced (backTo pos (starEach es X.env))) (AP X pins σ Q) X.xe s
def PS (X : Cx) (st : Stmt) (t : TS) : Prop :=
  ∀ (pins : List (Addr × Obj)) (s : Shared) (σ : St) (H : Hp) (D : Ends), Inv X pins σ H s → t D σ H → wpAny (model X.prog X.w) X.A (exec st X.env) (SP X pins D) X.xe s
def PSs (X : Cx) (st : List Stmt) (t : TS) : Prop :=
  ∀ (pins : List (Addr × Obj)) (s : Shared) (σ : St) (H : Hp) (D : Ends), Inv X pins σ H s → t D σ H → wpAny (model X.prog X.w) X.A (execs st X.env) (SP X pins D) X.xe s
/-- weaken the end -/
theorem thn {α : Type} {t : Sem α} {Q Q' : α → Shared → Prop} {M : Model} {A : Around} {E : Value → Shared → Prop} {s : Shared} (h : wpAny M A t Q E s) (hQ : ∀ a s, Q a s → Q' a s) : wpAny M A t Q' E s := wpAny_mono h hQ fun _ _ x => x
end L2

namespace L2
open PySem PySem.Spec PyProof.Rows
section
variable {X : Cx}

/-! ### names and constants -/
def tVar (i : Nat) : TE := fun σ H Q => ∃ v, σ[i]? = some (some v) ∧ Q v H
def tC (v : V) : TE := fun _ H Q => Q v H
theorem pe_var {i : Nat} {x : Str} {pos : Pos} (hN : X.N[i]? = some x) (hv : Vis X.env.scope x) (hd : (x == ("__debug__" : Str)) = false := by decide) (hcd : (x == ("__classdict__" : Str)) = false := by decide) : PE X (.Name x pos) (tVar i) := by
  intro pins s σ H Q I h
  obtain ⟨v, e, h⟩ := h
  obtain ⟨m, hn, hl⟩ := I.loc
  obtain ⟨u, r, l⟩ := hl i x v hN e hv
  have fin : EP X pins σ Q u s := ⟨v, H, I, r, h⟩
  rcases l with ⟨hk, hm⟩ | ⟨hk, c, hc, hcell⟩
  · exact wpAny_Name (wpAny_loadName_local I.ok.kind hk hn hm fin) hd
  · rcases hk with hk | hk
    · exact wpAny_Name (wpAny_loadName_cell I.ok.kind hk hc hcell fin) hd
    · exact wpAny_Name (wpAny_loadName_free I.ok.kind hk hc hcell fin hcd) hd
theorem pe_int {i j pos} : PE X (.Constant (.int i) j pos) (tC (.int i)) := fun _ _ _ H _ I h => wpAny_Constant_int ⟨.int i, H, I.tok _, ⟨_, rfl⟩, h⟩
theorem pe_bl {b j pos} : PE X (.Constant (.bool b) j pos) (tC (.bl b)) := fun _ _ _ H _ I h => Constant_bool ⟨.bl b, H, I, rfl, h⟩
theorem pe_str {x j pos} : PE X (.Constant (.str x) j pos) (tC (.str x)) := fun _ _ _ H _ I h => Calls.Constant_str ⟨.str x, H, I.tok _, ⟨_, rfl⟩, h⟩

/-- a global name of the def -/
def Gl (X : Cx) (x : Str) : Prop := X.env.kindOf x = some .globalImplicit
theorem ld_glob {E : Value → Shared → Prop} {pins : List (Addr × Obj)} {s : Shared} {σ : St} {H : Hp} {x : Str} {u : Value} {pos : Pos} {Q : Value → Shared → Prop} (I : Inv X pins σ H s) (hg : Gl X x) (hm : X.mg x = some u) (h : Q u s)
    (hd : (x == ("__debug__" : Str)) = false := by decide) : wpAny (model X.prog X.w) X.A (eval (.Name x pos) X.env) Q E s :=
  Calls.Name_function_global I.ok.kind hg (Calls.loadGlobal_global (by rw [I.ok.glob]; exact I.mod.glob.keeps I.bk) hm h) hd
theorem ld_blt {E : Value → Shared → Prop} {pins : List (Addr × Obj)} {s : Shared} {σ : St} {H : Hp} {x : Str} {u : Value} {pos : Pos} {Q : Value → Shared → Prop} (I : Inv X pins σ H s) (hg : Gl X x) (hm : X.mg x = none) (hv : bootBuiltins x = some u) (h : Q u s)
    (hn : x ≠ "__name__" := by decide) (hd : (x == ("__debug__" : Str)) = false := by decide) : wpAny (model X.prog X.w) X.A (eval (.Name x pos) X.env) Q E s := by
  obtain ⟨mb, h1, h2⟩ := I.mod.blt
  exact Calls.Name_function_global I.ok.kind hg (Calls.loadGlobal_builtin (by rw [I.ok.glob]; exact I.mod.glob.keeps I.bk) hm (by rw [I.ok.blt]; exact h1.keeps I.bk) ((h2 x hn).trans hv) h) hd
/-- a module's constant, a class, a function, as a value -/
theorem pe_glob {x : Str} {v : V} {u : Value} {pos : Pos} (hg : Gl X x) (hm : X.mg x = some u) (r : RelV v u) (hd : (x == ("__debug__" : Str)) = false := by decide) : PE X (.Name x pos) (tC v) :=
  fun _ _ _ H _ I h => ld_glob I hg hm ⟨v, H, I, r, h⟩ hd
theorem pe_bltn {x : Str} {v : V} {u : Value} {pos : Pos} (hg : Gl X x) (hm : X.mg x = none) (hv : bootBuiltins x = some u) (r : RelV v u) (hn : x ≠ "__name__" := by decide) (hd : (x == ("__debug__" : Str)) = false := by decide) : PE X (.Name x pos) (tC v) :=
  fun _ _ _ H _ I h => ld_blt I hg hm hv ⟨v, H, I, r, h⟩ hn hd

/-! ### arithmetic -/
variable {a b : Expr} {ta tb : TE} {pos : Pos}
/-! ### comparisons -/
/-- a comparison as a value, as a test -/
def tB (t : TE) : TT := fun σ H Q => t σ H fun x H1 => ∃ c, x = .bl c ∧ Q c H1
/-- an expression whose value is a bool, as a test -/
theorem pt_val {e : Expr} {t : TE} (h : PE X e t) (he : ∀ whole, isTrue e X.env whole = (do let v ← whole; standAt e.pos; holding [v] (truthy v)) := by intro _; rfl) : PT X e (tB t) := by
  intro pins s σ H Q I hw
  refine isTrue_plain (thn (h pins s σ H _ I hw) fun v s1 ⟨x, H1, I1, r1, q1⟩ => ?_) (he _)
  obtain ⟨d, rfl, q⟩ := q1
  cases r1
  exact wpAny_truthy_bool ⟨H1, I1, q⟩

/-! ### and, or, not -/
variable {tA tB' : TT} {rest : List Expr}
def tAnd (t u : TT) : TT := fun σ H Q => t σ H fun c H1 => if c = true then u σ H1 Q else Q false H1
def tOr (t u : TT) : TT := fun σ H Q => t σ H fun c H1 => if c = true then Q true H1 else u σ H1 Q
def tNot (t : TT) : TT := fun σ H Q => t σ H fun c H1 => Q (!c) H1
theorem pw_and1 (ha : PT X a tA) : PW X (.BoolOp .And [a] pos) tA := by
  intro wh pins s σ H Q I h
  refine isTrue_and (thn (ha pins s σ H Q I h) fun c s1 e => ?_)
  cases c with
  | true => exact isTrue_and_nil e
  | false => exact e
theorem pw_or1 (ha : PT X a tA) : PW X (.BoolOp .Or [a] pos) tA := by
  intro wh pins s σ H Q I h
  refine isTrue_or (thn (ha pins s σ H Q I h) fun c s1 e => ?_)
  cases c with
  | false => exact isTrue_or_nil e
  | true => exact e
theorem pw_and (ha : PT X a tA) (hb : PW X (.BoolOp .And (b :: rest) pos) tB') : PW X (.BoolOp .And (a :: b :: rest) pos) (tAnd tA tB') := by
  intro wh pins s σ H Q I h
  refine isTrue_and (thn (ha pins s σ H _ I h) fun c s1 ⟨H1, I1, q1⟩ => ?_)
  cases c with
  | true => exact hb wh pins s1 σ H1 Q I1 q1
  | false => exact ⟨H1, I1, q1⟩
theorem pw_or (ha : PT X a tA) (hb : PW X (.BoolOp .Or (b :: rest) pos) tB') : PW X (.BoolOp .Or (a :: b :: rest) pos) (tOr tA tB') := by
  intro wh pins s σ H Q I h
  refine isTrue_or (thn (ha pins s σ H _ I h) fun c s1 ⟨H1, I1, q1⟩ => ?_)
  cases c with
  | true => exact ⟨H1, I1, q1⟩
  | false => exact hb wh pins s1 σ H1 Q I1 q1
theorem pt_not (ha : PT X a tA) : PT X (.UnaryOp .Not a pos) (tNot tA) := by
  intro pins s σ H Q I h
  exact isTrue_not (ha pins s σ H (fun c H1 => Q (!c) H1) I h)
/-- .. as values (bools) -/
def tAndV (ta tb : TE) : TE := fun σ H Q => ta σ H fun x H1 => ∃ c, x = .bl c ∧ if c = true then tb σ H1 Q else Q (.bl false) H1
def tOrV (ta tb : TE) : TE := fun σ H Q => ta σ H fun x H1 => ∃ c, x = .bl c ∧ if c = true then Q (.bl true) H1 else tb σ H1 Q
def tNotV (ta : TE) : TE := fun σ H Q => ta σ H fun x H1 => ∃ c, x = .bl c ∧ Q (.bl (!c)) H1
theorem pe_one {op} {t : TE} (h : PE X a t) : PE X (.BoolOp op [a] pos) t := fun pins s σ H Q I hw => BoolOp_one (h pins s σ H Q I hw)
theorem pe_and (ha : PE X a ta) (hb : PE X (.BoolOp .And (b :: rest) pos) tb) : PE X (.BoolOp .And (a :: b :: rest) pos) (tAndV ta tb) := by
  intro pins s σ H Q I h
  refine BoolOp_and (thn (ha pins s σ H _ I h) fun v s1 ⟨x, H1, I1, r1, q1⟩ => ?_)
  obtain ⟨c, rfl, q1⟩ := q1
  cases r1
  refine wpAny_truthy_bool ?_
  cases c with
  | true => exact hb pins s1 σ H1 Q I1 q1
  | false => exact ⟨.bl false, H1, I1, rfl, q1⟩
theorem pe_or (ha : PE X a ta) (hb : PE X (.BoolOp .Or (b :: rest) pos) tb) : PE X (.BoolOp .Or (a :: b :: rest) pos) (tOrV ta tb) := by
  intro pins s σ H Q I h
  refine BoolOp_or (thn (ha pins s σ H _ I h) fun v s1 ⟨x, H1, I1, r1, q1⟩ => ?_)
  obtain ⟨c, rfl, q1⟩ := q1
  cases r1
  refine wpAny_truthy_bool ?_
  cases c with
  | false => exact hb pins s1 σ H1 Q I1 q1
  | true => exact ⟨.bl true, H1, I1, rfl, q1⟩
theorem pe_not (ha : PE X a ta) : PE X (.UnaryOp .Not a pos) (tNotV ta) := by
  intro pins s σ H Q I h
  refine UnaryOp_ (thn (ha pins s σ H _ I h) fun v s1 ⟨x, H1, I1, r1, q1⟩ => ?_)
  obtain ⟨c, rfl, q1⟩ := q1
  cases r1
  exact not_of (wpAny_truthy_bool ⟨.bl (!c), H1, I1, rfl, q1⟩)
/-- a if t else b -/
def tIf (t : TT) (ta tb : TE) : TE := fun σ H Q => t σ H fun c H1 => if c = true then ta σ H1 Q else tb σ H1 Q
theorem pe_ifExp {c : Expr} (hc : PT X c tA) (ha : PE X a ta) (hb : PE X b tb) : PE X (.IfExp c a b pos) (tIf tA ta tb) := by
  intro pins s σ H Q I h
  refine wpAny_IfExp (thn (hc pins s σ H _ I h) fun d s1 ⟨H1, I1, q1⟩ => ?_)
  cases d with
  | true => exact ha pins s1 σ H1 Q I1 q1
  | false => exact hb pins s1 σ H1 Q I1 q1
end
end L2

namespace L2
open PySem PySem.Spec PyProof.Rows

/-! ### a list, a tuple that is read: tracked, frozen, or an object of the module -/
def SqL (K : PySem.W.Frag) (H : Hp) (a : Addr) (xs : List V) : Prop :=
  Rd H a (.lst xs) ∨
    ∃ (o : Obj) (its : Array Value) (n : Nat), K.lookup a = some o ∧ o.cls = .type "list" ∧ o.dict = none ∧ o.data = .seq its n ∧ its.size ≤ sizeLine ∧ Vals xs its.toList
def SqT (K : PySem.W.Frag) (H : Hp) (a : Addr) (xs : List V) : Prop :=
  Rd H a (.tup xs) ∨
    ∃ (o : Obj) (its : Array Value) (n : Nat), K.lookup a = some o ∧ o.cls = .type "tuple" ∧ o.data = .seq its n ∧ its.size ≤ sizeLine ∧ Vals xs its.toList
def absV : Value → Option V
  | .none => some .non
  | .bool b => some (.bl b)
  | .int i _ => some (.int i)
  | .str x _ => some (.str x)
  | .bytes b _ => some (.byt b)
  | .float b _ => some (.flt b)
  | .ref a => some (.ref a)
  | .type n => some (.ty n)
  | _ => none
theorem RelV.abs {x : V} {u : Value} (r : RelV x u) : absV u = some x := by
  cases x with
  | non => cases r; rfl
  | bl _ => cases r; rfl
  | int _ => obtain ⟨t, rfl⟩ := r; rfl
  | str _ => obtain ⟨t, rfl⟩ := r; rfl
  | byt _ => obtain ⟨t, rfl⟩ := r; rfl
  | flt _ => obtain ⟨t, rfl⟩ := r; rfl
  | ref _ => cases r; rfl
  | ty _ => cases r; rfl
theorem RelV.inj {x y : V} {u : Value} (r : RelV x u) (q : RelV y u) : x = y := Option.some.inj (r.abs.symm.trans q.abs)
theorem Vals.inj : ∀ {xs ys : List V} {us : List Value}, Vals xs us → Vals ys us → xs = ys
  | _, _, _, .nil, .nil => rfl
  | _, _, _, .cons r t, .cons r' t' => by rw [r.inj r', Vals.inj t t']
section
variable {X : Cx} {pins : List (Addr × Obj)} {σ : St} {H : Hp} {s : Shared} {a : Addr} {xs ys : List V}
theorem SqL.of {K : PySem.W.Frag} (h : H a = some (.lst xs)) : SqL K H a xs := .inl (.inl h)
theorem SqT.of {K : PySem.W.Frag} (h : H a = some (.tup xs)) : SqT K H a xs := .inl (.inl h)
theorem Inv.list (I : Inv X pins σ H s) (h : SqL X.K H a xs) : ∃ its : List Value, Vals xs its ∧ PlainL s.heap a its.toArray ∧ xs.length ≤ sizeLine := by
  rcases h with h | ⟨o, its, n, hk, hc, hd, hs, hz, r⟩
  · obtain ⟨z, its, n, r, e⟩ := h.ok I.hok
    exact ⟨its, r, ⟨_, n, e, rfl, rfl, rfl⟩, z⟩
  · refine ⟨its.toList, r, ⟨o, n, I.kIn a o hk, hc, hd, by simpa using hs⟩, ?_⟩
    have e := r.length
    simp only [Array.length_toList] at e
    omega
theorem Inv.tuple (I : Inv X pins σ H s) (h : SqT X.K H a xs) : ∃ its : List Value, Vals xs its ∧ IsTup s.heap a its.toArray ∧ xs.length ≤ sizeLine := by
  rcases h with h | ⟨o, its, n, hk, hc, hs, hz, r⟩
  · obtain ⟨z, its, r, p⟩ := h.ok I.hok
    exact ⟨its, r, p, z⟩
  · refine ⟨its.toList, r, ⟨o, I.kIn a o hk, hc, n, by simpa using hs⟩, ?_⟩
    have e := r.length
    simp only [Array.length_toList] at e
    omega
theorem Inv.list_inj (I : Inv X pins σ H s) (h : SqL X.K H a xs) (h' : SqL X.K H a ys) : xs = ys := by
  obtain ⟨its, r, ⟨o, n, e, _, _, d⟩, _⟩ := I.list h
  obtain ⟨its', r', ⟨o', n', e', _, _, d'⟩, _⟩ := I.list h'
  rw [e] at e'; cases e'
  rw [d] at d'
  injection d' with d1 _
  have : its = its' := by simpa using congrArg Array.toList d1
  subst this
  exact r.inj r'
end

/-! ### another wish about exceptions -/
abbrev Cx.wish (X : Cx) (E : Value → Shared → Prop) : Cx := { X with xe := E }
/-- no exception leaves -/
abbrev Cx.nox (X : Cx) : Cx := X.wish fun _ _ => False
theorem Cx.Ok.wish {X : Cx} (ok : X.Ok) (E : Value → Shared → Prop) : (X.wish E).Ok :=
  ⟨ok.mod, ok.kind, ok.glob, ok.blt, ok.above, ok.inj, ok.has, ok.cab, ok.hd, ok.frames, ok.stk, ok.exf, ok.bs, ok.bsz, ok.noex, ok.exfs, ok.funs, ok.frf⟩
theorem Cx.Ok.unwish {X : Cx} {E : Value → Shared → Prop} (ok : (X.wish E).Ok) : X.Ok :=
  ⟨ok.mod, ok.kind, ok.glob, ok.blt, ok.above, ok.inj, ok.has, ok.cab, ok.hd, ok.frames, ok.stk, ok.exf, ok.bs, ok.bsz, ok.noex, ok.exfs, ok.funs, ok.frf⟩
section
variable {X : Cx} {pins : List (Addr × Obj)} {σ : St} {H : Hp} {s : Shared} {E : Value → Shared → Prop}
theorem Inv.wish (I : Inv X pins σ H s) (E : Value → Shared → Prop) : Inv (X.wish E) pins σ H s := ⟨I.ok.wish E, I.os, I.bare, I.base, I.loc, I.cell, I.free, I.freeC, I.pin, I.hok, I.len⟩
theorem Inv.unwish (I : Inv (X.wish E) pins σ H s) : Inv X pins σ H s := ⟨I.ok.unwish, I.os, I.bare, I.base, I.loc, I.cell, I.free, I.freeC, I.pin, I.hok, I.len⟩
theorem SP.unwish {D : Ends} {f : Flow} {s' : Shared} (h : SP (X.wish E) pins D f s') : SP X pins D f s' := by
  cases f with
  | next => obtain ⟨σ', H', I, q⟩ := h; exact ⟨σ', H', I.unwish, q⟩
  | brk => obtain ⟨σ', H', I, q⟩ := h; exact ⟨σ', H', I.unwish, q⟩
  | cont => obtain ⟨σ', H', I, q⟩ := h; exact ⟨σ', H', I.unwish, q⟩
  | ret u => obtain ⟨v, σ', H', I, r, q⟩ := h; exact ⟨v, σ', H', I.unwish, r, q⟩
theorem PSs.nox {st : List Stmt} {t : TS} (h : PSs X.nox st t) : PSs X st t := fun pins s σ H D I hw =>
  wpAny_mono (h pins s σ H D (I.wish _) hw) (fun _ _ q => q.unwish) fun _ _ z => False.elim z
end

/-! ### blocks and small statements -/
section
variable {X : Cx} {st : Stmt} {rest : List Stmt} {t u : TS} {e : Expr} {te : TE} {pos : Pos}
def tNext : TS := fun D σ H => D.nx σ H
def tSeq (t u : TS) : TS := fun D σ H => t { D with nx := u D } σ H
theorem pss_nil : PSs X [] tNext := fun _ _ σ H _ I h => wpAny_execs_nil ⟨σ, H, I, h⟩
theorem pss_cons (h1 : PS X st t) (h2 : PSs X rest u) : PSs X (st :: rest) (tSeq t u) := by
  intro pins s σ H D I h
  refine wpAny_execs_cons (thn (h1 pins s σ H { D with nx := u D } I h) fun f s1 q => ?_)
  cases f with
  | next =>
    obtain ⟨σ', H', I', q⟩ := q
    exact h2 pins s1 σ' H' D I' q
  | ret v => exact q
  | brk => exact q
  | cont => exact q
theorem pss_one (h1 : PS X st t) : PSs X [st] t := by
  intro pins s σ H D I h
  refine wpAny_execs_cons (thn (h1 pins s σ H D I h) fun f s1 q => ?_)
  cases f with
  | next => exact wpAny_execs_nil q
  | ret v => exact q
  | brk => exact q
  | cont => exact q
/-- in a def's body nothing is shown -/
theorem Inv.quiet {pins : List (Addr × Obj)} {σ : St} {H : Hp} {s : Shared} (I : Inv X pins σ H s) : interactive X.env = false := by simp [interactive, I.ok.kind]
/-- an expression whose value is dropped -/
def tDrop (te : TE) : TS := fun D σ H => te σ H fun _ H1 => D.nx σ H1
theorem ps_expr (he : PE X e te) (hs : swapsWith e none pos.line X.env = pure false := by rfl) : PS X (.Expr e pos) (tDrop te) := by
  intro pins s σ H D I h
  exact wpAny_Expr_any (thn (he pins s σ H _ I h) fun v s1 ⟨x, H1, I1, r1, q1⟩ => ⟨σ, H1, I1, q1⟩) I.quiet hs
def tRet (te : TE) : TS := fun D σ H => te σ H D.rt
theorem ps_ret (he : PE X e te) : PS X (.Return (some e) pos) (tRet te) := by
  intro pins s σ H D I h
  exact wpAny_Return_some (thn (he pins s σ H _ I h) fun v s1 ⟨x, H1, I1, r1, q1⟩ => ⟨x, σ, H1, I1, r1, q1⟩)
def tIfS (c : TT) (t u : TS) : TS := fun D σ H => c σ H fun b H1 => if b = true then t D σ H1 else u D σ H1
theorem ps_if {c : Expr} {a b : List Stmt} {tc : TT} (hc : PT X c tc) (ha : PSs X a t) (hb : PSs X b u) : PS X (.If c a b pos) (tIfS tc t u) := by
  intro pins s σ H D I h
  refine wpAny_If (thn (hc pins s σ H _ I h) fun d s1 ⟨H1, I1, q1⟩ => ?_)
  cases d with
  | true => exact ha pins s1 σ H1 D I1 q1
  | false => exact hb pins s1 σ H1 D I1 q1
/-- code that the proof never comes to -/
def tNever : TS := fun _ _ _ => False
theorem ps_never : PS X st tNever := fun _ _ _ _ _ _ h => h.elim
end

/-! ### targets -/
abbrev TG := V → St → Hp → (St → Hp → Prop) → Prop
abbrev TGs := List V → St → Hp → (St → Hp → Prop) → Prop
def PG (X : Cx) (target : Expr) (t : TG) : Prop :=
  ∀ (pins : List (Addr × Obj)) (s : Shared) (σ : St) (H : Hp) (v : V) (u : Value) (Q : St → Hp → Prop), Inv X pins σ H s → RelV v u → t v σ H Q →
    wpAny (model X.prog X.w) X.A (assign target X.env u) (fun _ s' => ∃ σ' H', Inv X pins σ' H' s' ∧ Q σ' H') X.xe s
/-- several targets, one after another -/
def PGs (X : Cx) (ts : List Expr) (t : TGs) : Prop :=
  ∀ (pins : List (Addr × Obj)) (s : Shared) (σ : St) (H : Hp) (vs : List V) (us : List Value) (Q : St → Hp → Prop), Inv X pins σ H s → Vals vs us → t vs σ H Q →
    wpAny (model X.prog X.w) X.A (assignInOrder ((assignEach ts X.env).map (·.2)) us) (fun _ s' => ∃ σ' H', Inv X pins σ' H' s' ∧ Q σ' H') X.xe s
/-- o[i] = v, by values -/
abbrev TSet := V → V → V → Hp → (Hp → Prop) → Prop
def PSet (X : Cx) (t : TSet) : Prop :=
  ∀ (pins : List (Addr × Obj)) (s : Shared) (σ : St) (H : Hp) (o i v : V) (ov iv u : Value) (Q : Hp → Prop), Inv X pins σ H s → RelV o ov → RelV i iv → RelV v u → t o i v H Q →
    wpAny (model X.prog X.w) X.A (setItem ov iv u) (fun _ s' => ∃ H', Inv X pins σ H' s' ∧ Q H') X.xe s
section
variable {X : Cx} {pos : Pos}
def gName (i : Nat) : TG := fun v σ H Q => Q (σ.set i (some v)) H
theorem pg_name {i : Nat} {x : Str} (hN : X.N.Nodup) (hi : X.N[i]? = some x) (hx : Loc X.env.scope x) (hf : X.fn x = true ∨ X.env.scope.names.lookup x = some .local := by first | exact .inl rfl | exact .inr rfl | assumption) : PG X (.Name x pos) (gName i) := by
  intro pins s σ H v u Q I r h
  exact wpAny_assign_Name (store_ok I hN hi hx r (fun s' I' => ⟨_, H, I', h⟩) hf)
def gNil : TGs := fun vs σ H Q => vs = [] ∧ Q σ H
def gCons (t : TG) (u : TGs) : TGs := fun vs σ H Q => ∃ v r, vs = v :: r ∧ t v σ H fun σ' H' => u r σ' H' Q
theorem pgs_nil : PGs X [] gNil := by
  intro pins s σ H vs us Q I r h
  obtain ⟨e, h⟩ := h
  subst e
  cases r
  exact assignInOrder_nil ⟨σ, H, I, h⟩
theorem pgs_cons {e : Expr} {es : List Expr} {t : TG} {u : TGs} (h1 : PG X e t) (h2 : PGs X es u)
    (hs : (assignEach (e :: es) X.env).map (·.2) = assign e X.env :: (assignEach es X.env).map (·.2) := by rfl) : PGs X (e :: es) (gCons t u) := by
  intro pins s σ H vs us Q I r h
  obtain ⟨v, vr, e1, h⟩ := h
  subst e1
  cases r with
  | cons r rr =>
    rw [hs]
    refine assignInOrder_cons (thn (h1 pins s σ H _ _ _ I r h) fun _ s1 ⟨σ1, H1, I1, q1⟩ => ?_)
    exact h2 pins s1 σ1 H1 _ _ Q I1 rr q1
/-- (a, b, ..) = a tuple of that length -/
def gTup (K : PySem.W.Frag) (n : Nat) (t : TGs) : TG := fun v σ H Q => ∃ a xs, v = .ref a ∧ SqT K H a xs ∧ xs.length = n ∧ t xs σ H Q
theorem pg_tup {es : List Expr} {k : Nat} {t : TGs} {n : Nat} (hc : X.calm = true) (h : PGs X es t)
    (hn : (assignEach es X.env).length = n := by rfl) (hst : (assignEach es X.env).findIdx? (·.1) = none := by rfl) : PG X (.Tuple es k pos) (gTup X.K n t) := by
  intro pins s σ H v u Q I r hw
  obtain ⟨a, xs, e1, hq, hl, hw⟩ := hw
  subst e1
  cases r
  obtain ⟨its, rv, ht, hz⟩ := I.tuple hq
  refine assign_Tuple_tuple (I.ok.hd hc) ht (by simp [hn, ← hl, rv.length]) hst fun h' hx => ?_
  have I1 : Inv X pins σ H { s with heap := h' } := I.kept (t' := s.toks) fun b o e => hx b o (Nat.ne_of_lt (Heap.lt_size e)) e
  exact h pins _ σ H xs _ Q I1 (by simpa using rv) hw
/-- o[i] = .. -/
def gSub (to ti : TE) (t : TSet) : TG := fun v σ H Q => to σ H fun o H1 => ti σ H1 fun i H2 => t o i v H2 fun H3 => Q σ H3
theorem pg_sub {o i : Expr} {to ti : TE} {t : TSet} (ho : PE X o to) (hi : PE X i ti) (hs : PSet X t)
    (ha : ∀ v, assign (.Subscript o i pos) X.env v = (do
      let ov ← holding [v] (eval o X.env)
      let iv ← holding [v, ov] (eval i X.env)
      standAt pos
      holding [v, ov, iv] (setItem ov iv v)
      release [v, ov, iv] []) := by intro _; rfl) : PG X (.Subscript o i pos) (gSub to ti t) := by
  intro pins s σ H v u Q I r h
  rw [ha]
  refine wpAny_bind (wpAny_holding (thn (ho pins s σ H _ I h) fun ov s1 ⟨x, H1, I1, r1, q1⟩ => ?_))
  refine wpAny_bind (wpAny_holding (thn (hi pins s1 σ H1 _ I1 q1) fun iv s2 ⟨y, H2, I2, r2, q2⟩ => ?_))
  refine wpAny_bind (wpAny_standAt (wpAny_bind (wpAny_holding (thn (hs pins s2 σ H2 x y v ov iv u _ I2 r1 r2 r q2) fun _ s3 ⟨H3, I3, q3⟩ => ?_))))
  exact wpAny_release ⟨σ, H3, I3, q3⟩
/-- target = value -/
def tAsg (te : TE) (g : TG) : TS := fun D σ H => te σ H fun x H1 => g x σ H1 D.nx
theorem ps_asg {tg e : Expr} {te : TE} {g : TG} (he : PE X e te) (hg : PG X tg g) (hs : swapsWithSole [tg] e pos.line X.env = pure false := by rfl) (hw : swappedStores [tg] e X.env = pure none := by rfl)
    (h1 : (assignEach [tg] X.env).map (·.2) = [assign tg X.env] := by rfl) : PS X (.Assign [tg] e pos) (tAsg te g) := by
  intro pins s σ H D I h
  refine wpAny_Assign_stores (thn (he pins s σ H _ I h) fun v s1 ⟨x, H1, I1, r1, q1⟩ => ?_) hs hw
  rw [h1]
  exact thn (hg pins s1 σ H1 x v _ I1 r1 q1) fun _ s2 q => q
/-- name = value -/
theorem ps_set {i : Nat} {x : Str} {e : Expr} {te : TE} {pos' : Pos} (hN : X.N.Nodup) (hi : X.N[i]? = some x) (hx : Loc X.env.scope x) (he : PE X e te) (hs : swapsWith e (some (.Name x pos')) pos.line X.env = pure false := by rfl) (hf : X.fn x = true ∨ X.env.scope.names.lookup x = some .local := by first | exact .inl rfl | exact .inr rfl | assumption) :
    PS X (.Assign [.Name x pos'] e pos) (tAsg te (gName i)) := by
  intro pins s σ H D I h
  refine wpAny_Assign_Name (thn (he pins s σ H _ I h) fun v s1 ⟨y, H1, I1, r1, q1⟩ => ?_) hs
  exact store_ok I1 hN hi hx r1 (fun s2 I2 => ⟨_, H1, I2, q1⟩) hf
end

/-! ### while -/
section
variable {X : Cx} {pos : Pos}
end

/-! ### what a loop or a comprehension walks -/
/-- at turn i: it yields x (the heap may grow), or it stops -/
structure It where
  go : Nat → Hp → Prop
  yld : Nat → Hp → V → Hp → Prop
  stop : Nat → Hp → Prop
/-- the iterator's own objects may turn: they are not the frame's, not pinned, younger than the entry (or a comprehension's own) -/
def FpOk (X : Cx) (pins : List (Addr × Obj)) (H : Hp) (b : Addr) : Prop :=
  H b = none ∧ b ≠ X.env.locals ∧ b ∉ X.fs ∧ (b ∈ X.ex ∨ X.s₀.heap.objs.size ≤ b) ∧ (∀ x c, X.env.cells.lookup x = some c → c ≠ b) ∧ ∀ p ∈ X.pn ++ pins, p.1 ≠ b
theorem Inv.fpOk {X : Cx} {pins : List (Addr × Obj)} {σ : St} {H H' : Hp} {s : Shared} {b : Addr} (I : Inv X pins σ H s) (hb : s.heap.objs.size ≤ b) (hn : H' b = none) : FpOk X pins H' b := by
  refine ⟨hn, Nat.ne_of_gt (Nat.lt_of_lt_of_le I.lt hb), I.nofs hb, .inr (Nat.le_trans I.sz hb), fun x c e z => ?_, fun p hp z => ?_⟩
  · obtain ⟨v, q⟩ := I.cell x c e
    exact absurd (Nat.lt_of_lt_of_le q.lt (by rw [z]; exact hb)) (Nat.lt_irrefl _)
  · exact absurd (Nat.lt_of_lt_of_le (Heap.lt_size (I.pin p hp).1) (by rw [z]; exact hb)) (Nat.lt_irrefl _)
structure Turn (P : Program) (w : World) (K : PySem.W.Frag) (tg : Expr) (J : It) (fp : List Addr) (it : Addr) (tn : Nat → Heap → Prop) : Prop where
  mem : it ∈ fp
  obj : ∀ i h, tn i h → ∀ b ∈ fp, ∃ o, h.get? b = some o ∧ ∀ v, o.data ≠ .cell v
  keep : ∀ i h h', tn i h → (∀ b ∈ fp, ∀ o, h.get? b = some o → h'.get? b = some o) → tn i h'
  item : ∀ (X : Cx), X.prog = P → X.w = w → X.K = K → X.calm = true → ∀ (i : Nat) (pins : List (Addr × Obj)) (s : Shared) (σ : St) (H : Hp) (E : Value → Shared → Prop), Inv X pins σ H s → (∀ b ∈ fp, FpOk X pins H b) → tn i s.heap → J.go i H →
    wpAny (model P w) X.A (pyNext (.ref it)) (fun r s1 => ∃ u, r = some u ∧
      wpAny (model P w) X.A (letOwnedTupleGo tg (.ref it) u) (fun _ s2 => ∃ x H', Inv X pins σ H' s2 ∧ RelV x u ∧ J.yld i H x H' ∧ tn (i + 1) s2.heap ∧ ∀ b ∈ fp, H' b = none) E s1) E s
  done : ∀ (X : Cx), X.prog = P → X.w = w → X.K = K → X.calm = true → ∀ (i : Nat) (pins : List (Addr × Obj)) (s : Shared) (σ : St) (H : Hp) (E : Value → Shared → Prop), Inv X pins σ H s → (∀ b ∈ fp, FpOk X pins H b) → tn i s.heap → J.stop i H →
    wpAny (model P w) X.A (pyNext (.ref it)) (fun r s1 => r = none ∧ Inv X pins σ H s1) E s
  self : ∀ (A : Around) (i : Nat) (s : Shared) (Q : Value → Shared → Prop) (E : Value → Shared → Prop), tn i s.heap → Q (.ref it) s → wpAny (model P w) A (pyIter (.ref it)) Q E s
abbrev TI := St → Hp → (It → Hp → Prop) → Prop
/-- an iterator has come -/
def PIE (X : Cx) (pins : List (Addr × Obj)) (σ : St) (tg : Expr) (R : It → Hp → Prop) (itv : Value) (s2 : Shared) : Prop :=
  ∃ (it : Addr) (fp : List Addr) (tn : Nat → Heap → Prop) (J : It) (H' : Hp), itv = .ref it ∧ Inv X pins σ H' s2 ∧ Turn X.prog X.w X.K tg J fp it tn ∧ tn 0 s2.heap ∧ (∀ b ∈ fp, FpOk X pins H' b) ∧ R J H'
def PI (X : Cx) (tg iter : Expr) (wi : TI) : Prop :=
  ∀ (pins : List (Addr × Obj)) (s : Shared) (σ : St) (H : Hp) (R : It → Hp → Prop), Inv X pins σ H s → wi σ H R →
    wpAny (model X.prog X.w) X.A (eval iter X.env) (fun v s1 => wpAny (model X.prog X.w) X.A (pyIter v) (PIE X pins σ tg R) X.xe s1) X.xe s

/-- the step ahead of the store is nothing for an iterator that keeps no tuple -/
theorem go_of {M : Model} {A : Around} {E : Value → Shared → Prop} {s : Shared} {tg : Expr} {it : Addr} {u : Value} {o : Obj} {n : String} {vs : Array Value} {Q : Unit → Shared → Prop} (ho : s.heap.get? it = some o) (hc : o.cls = .type n) (hd : o.data = .fields vs)
    (hn : ["enumerate", "zip", "dict_itemiterator", "dict_reverseitemiterator", "odict_iterator", "itertools.zip_longest", "itertools.pairwise"].contains n = false) (hQ : Q () s) : wpAny M A (letOwnedTupleGo tg (.ref it) u) Q E s := by
  unfold letOwnedTupleGo
  cases tg <;> first
    | exact wpAny_pure hQ
    | (cases u <;> first
        | exact wpAny_pure hQ
        | (refine wpAny_bind (wpAny_load ho ?_)
           rw [hc, hd]
           show wpAny M A (if (["enumerate", "zip", "dict_itemiterator", "dict_reverseitemiterator", "odict_iterator", "itertools.zip_longest", "itertools.pairwise"].contains n && vs[0]? == some (rawInt _)) = true then _ else _) Q E s
           rw [if_neg (by intro h; rw [hn, Bool.false_and] at h; cases h)]
           exact wpAny_pure hQ))

/-- the list at a, as it stands at each turn (a loop may append to it) -/
def Itl (K : PySem.W.Frag) (a : Addr) : It :=
  ⟨fun i H => ∃ xs x, SqL K H a xs ∧ xs[i]? = some x, fun i H x H' => H' = H ∧ ∀ xs, SqL K H a xs → xs[i]? = some x, fun i H => ∃ xs, SqL K H a xs ∧ xs.length ≤ i⟩
/-- lo, lo + 1, .. (n of them) -/
def Itr (lo : Int) (n : Nat) : It := ⟨fun i _ => i < n, fun i H x H' => H' = H ∧ x = .int (lo + i), fun i _ => n ≤ i⟩
theorem turn_list {P : Program} {w : World} {K : PySem.W.Frag} {tg : Expr} (a it : Addr) : Turn P w K tg (Itl K a) [it] it (fun i h => h.IsListIter it a i) where
  mem := by simp
  obj := fun i h st b hb => by
    have e : b = it := by simpa using hb
    subst e
    obtain ⟨o, e, c, d⟩ := st
    exact ⟨o, e, fun v z => by rw [d] at z; cases z⟩
  keep := fun i h h' st k => st.at fun o e => k it (by simp) o e
  item := by
    intro X hP hw hK hc i pins s σ H E I hf st hg
    subst hP hw hK
    obtain ⟨xs, x, hq, hx⟩ := hg
    obtain ⟨its, rv, p, hz⟩ := I.list hq
    obtain ⟨u, hu, ru⟩ := rv.get hx
    obtain ⟨f0, f1, f2, f3, f4, f5⟩ := hf it (by simp)
    refine wpAny_pyNext_list_item st p.isList (x := u) (by simpa using hu) fun h' st' sb => ?_
    have I1 : Inv X pins σ H { s with heap := h' } := I.turned (t' := s.toks) (fun b o hb e => (sb.2 b hb).trans e) f0 f1 f3 f4 f5
    obtain ⟨o, e, c, d⟩ := id st'
    exact ⟨u, rfl, go_of (s := { s with heap := h' }) e c d (by decide) ⟨x, H, I1, ru, ⟨rfl, fun ys hy => by rw [I.list_inj hy hq]; exact hx⟩, st', fun b hb => (hf b hb).1⟩⟩
  done := by
    intro X hP hw hK hc i pins s σ H E I hf st hg
    subst hP hw hK
    obtain ⟨xs, hq, hx⟩ := hg
    obtain ⟨its, rv, p, hz⟩ := I.list hq
    obtain ⟨f0, f1, f2, f3, f4, f5⟩ := hf it (by simp)
    have hl := rv.length
    exact wpAny_pyNext_list_end (I.ok.hd hc) st p.isList (by simp; omega) fun h' eb => ⟨rfl, I.turned (t' := s.toks) (fun b o hb e => eb b o hb e) f0 f1 f3 f4 f5⟩
  self := fun _ _ _ _ _ st h => wpAny_pyIter_listiter st h
theorem turn_range {P : Program} {w : World} {K : PySem.W.Frag} {tg : Expr} (it : Addr) (lo : Int) (n : Nat) : Turn P w K tg (Itr lo n) [it] it (fun i h => IsRangeIter h it (lo + (i : Nat) * 1) ((n : Int) - (i : Nat)) 1) where
  mem := by simp
  obj := fun i h st b hb => by
    have e : b = it := by simpa using hb
    subst e
    exact ⟨_, st, fun v z => by
      have z' : Data.fields _ = Data.cell v := z
      cases z'⟩
  keep := fun i h h' st k => k it (by simp) _ st
  item := by
    intro X hP hw hK hc i pins s σ H E I hf st hg
    subst hP hw hK
    obtain ⟨f0, f1, f2, f3, f4, f5⟩ := hf it (by simp)
    have W := Walks.range (prog := X.prog) (w := X.w) (I.ok.hd hc) it lo 1 n
    refine W.item i s _ _ hg st fun v h' tk hv st' kk => ?_
    obtain ⟨t, rfl⟩ := hv
    have I1 : Inv X pins σ H { s with heap := h', toks := tk } := I.turned (fun b o hb e => kk b o (by simpa using hb) e) f0 f1 f3 f4 f5
    refine ⟨_, rfl, go_of (s := { s with heap := h', toks := tk }) (n := "range_iterator") st' rfl rfl (by decide) ⟨.int (lo + i), H, I1, ⟨t, ?_⟩, ⟨rfl, rfl⟩, st', fun b hb => (hf b hb).1⟩⟩
    rw [Int.mul_one]
  done := by
    intro X hP hw hK hc i pins s σ H E I hf st hg
    subst hP hw hK
    obtain ⟨f0, f1, f2, f3, f4, f5⟩ := hf it (by simp)
    exact wpAny_pyNext_range_end (I.ok.hd hc) st (by have : n ≤ i := hg; omega) fun h' eb => ⟨rfl, I.turned (t' := s.toks) (fun b o hb e => eb b o hb e) f0 f1 f3 f4 f5⟩
  self := fun _ _ _ _ _ st h => wpAny_pyIter_rangeiter st h
end L2

namespace L2
open PySem PySem.Spec PyProof.Rows
section
variable {X : Cx} {tg : Expr}
/-- a range object just made, walked -/
theorem range_it {pins : List (Addr × Obj)} {σ : St} {H : Hp} {s : Shared} {R : It → Hp → Prop} {E : Value → Shared → Prop} {lo hi : Int} {t u v : Tok} {tk : Nat} (I : Inv X pins σ H s) (h1 : -(2 ^ 62) ≤ lo) (h2 : lo < 2 ^ 62) (h3 : -(2 ^ 62) ≤ hi) (h4 : hi < 2 ^ 62)
    (q : R (Itr lo (hi - lo).toNat) H) : wpAny (model X.prog X.w) X.A (pyIter (.ref s.heap.objs.size)) (PIE X pins σ tg R) E { s with heap := s.heap.push { cls := .type "range", data := .fields #[.int lo t, .int hi u, .int 1 v] }, toks := tk } := by
  refine wpAny_pyIter_range (IsRange.new ..) (small_one h1 h2 h3 h4) ?_
  have I1 : Inv X pins σ H { s with heap := s.heap.push { cls := .type "range", data := .fields #[.int lo t, .int hi u, .int 1 v] }, toks := tk } := I.kept fun b o e => Heap.get?_push_of_some _ e
  refine ⟨(s.heap.push { cls := .type "range", data := .fields #[.int lo t, .int hi u, .int 1 v] }).objs.size, [(s.heap.push { cls := .type "range", data := .fields #[.int lo t, .int hi u, .int 1 v] }).objs.size], _, _, H, rfl,
    I1.kept (t' := tk) fun b o e => Heap.get?_push_of_some _ e, turn_range _ lo (hi - lo).toNat, ?_, fun b hb => ?_, q⟩
  · have e1 : lo + ((0 : Nat) : Int) * 1 = lo := by simp
    have e2 : (((hi - lo).toNat : Nat) : Int) - ((0 : Nat) : Int) = Builtin.Range.rangeSize lo hi 1 := by rw [rangeSize_one]; split <;> omega
    show IsRangeIter _ _ (lo + ((0 : Nat) : Int) * 1) ((((hi - lo).toNat : Nat) : Int) - ((0 : Nat) : Int)) 1
    rw [e1, e2]
    exact Heap.get?_push_size _ rfl
  · have e : b = (s.heap.push { cls := .type "range", data := .fields #[.int lo t, .int hi u, .int 1 v] }).objs.size := by simpa using hb
    subst e
    exact I1.fpOk (Nat.le_refl _) (I1.hok.fresh (Nat.le_refl _))
def iRng1 (ta : TA) : TI := fun σ H R => ta σ H fun vs H1 => ∃ j : Int, vs = [.int j] ∧ -(2 ^ 62) ≤ j ∧ j < 2 ^ 62 ∧ R (Itr 0 j.toNat) H1
theorem pi_range1 {a : Expr} {ta : TA} {p pos : Pos} (hg : Gl X "range") (hm : X.mg "range" = none) (ha : PA X [a] ta) (hs : starEach [a] X.env = [(false, eval a X.env)] := by rfl) : PI X tg (.Call (.Name "range" p) [a] [] pos) (iRng1 ta) := by
  intro pins s σ H R I h
  refine Call_ (ld_blt I hg hm boot_range (PyProof.Rows.callWith_type1 (thn (ha pos pins s σ H _ I h) fun us s1 ⟨vs, H1, I1, r1, q1⟩ => ?_) hs rfl))
  obtain ⟨j, e, q1, q2, q⟩ := q1
  subst e
  cases r1 with
  | cons r rr =>
    cases rr
    obtain ⟨t, rfl⟩ := r
    exact call_range_1 (range_it I1 (by omega) (by omega) q1 q2 (by simpa using q))
/-! ### for -/
/-- W: the invariant by the turn and a measure; N: what the body is to reach -/
def tFor (wi : TI) (g : TG) (tb : TS) : TS := fun D σ H => wi σ H fun J H1 => ∃ W : Nat → Nat → St → Hp → Prop, (∃ m, W 0 m σ H1) ∧ ∀ i m σ H, W i m σ H →
  (J.stop i H ∧ D.nx σ H) ∨ (J.go i H ∧ ∃ N : St → Hp → Prop, (∀ σ' H', N σ' H' → ∃ m', m' < m ∧ W (i + 1) m' σ' H') ∧ ∀ x H', J.yld i H x H' → g x σ H' fun σ2 H2 => tb { D with nx := N, ct := N, bk := D.nx } σ2 H2)
/-- the records at fp as they stand -/
def pinsAt (fp : List Addr) (h : Heap) : List (Addr × Obj) := fp.filterMap fun b => (h.get? b).map fun o => (b, o)
theorem mem_pinsAt {fp : List Addr} {h : Heap} {b : Addr} {o : Obj} (hb : b ∈ fp) (e : h.get? b = some o) : (b, o) ∈ pinsAt fp h := List.mem_filterMap.mpr ⟨b, hb, by rw [e]; rfl⟩
theorem of_pinsAt {fp : List Addr} {h : Heap} {p : Addr × Obj} (hp : p ∈ pinsAt fp h) : p.1 ∈ fp ∧ h.get? p.1 = some p.2 := by
  obtain ⟨b, hb, e⟩ := List.mem_filterMap.mp hp
  cases q : h.get? b with
  | none => rw [q] at e; cases e
  | some o =>
    rw [q] at e
    have e' : (b, o) = p := Option.some.inj e
    subst e'
    exact ⟨hb, q⟩
theorem Inv.pinned {pins : List (Addr × Obj)} {σ : St} {H : Hp} {s : Shared} {fp : List Addr} (I : Inv X pins σ H s) (hf : ∀ b ∈ fp, FpOk X pins H b) (ho : ∀ b ∈ fp, ∃ o, s.heap.get? b = some o ∧ ∀ v, o.data ≠ .cell v) : Inv X (pins ++ pinsAt fp s.heap) σ H s :=
  I.pins_of fun p hp => (List.mem_append.mp hp).elim (fun z => I.pin p (List.mem_append_right _ z)) fun z => by
    obtain ⟨hb, e⟩ := of_pinsAt z
    obtain ⟨f0, f1, f2, _⟩ := hf p.1 hb
    obtain ⟨o, e', d⟩ := ho p.1 hb
    rw [e] at e'; cases e'
    exact ⟨e, f0, f1, f2, d⟩
theorem Inv.unpinned {pins pl : List (Addr × Obj)} {σ : St} {H : Hp} {s : Shared} (I : Inv X (pins ++ pl) σ H s) : Inv X pins σ H s := I.pins_of fun p hp => I.pin p (List.mem_append_right _ (List.mem_append_left _ hp))
theorem ps_for {iter : Expr} {body : List Stmt} {wi : TI} {g : TG} {tb : TS} {pos : Pos} (hp : PassesOwn (model X.prog X.w) X.A X.env X.xe) (hc : X.calm = true) (hi : PI X tg iter wi) (hg : PG X tg g) (hb : PSs X body tb)
    (hs : ∀ x, foldedSetIterable iter X.env x = pure x := by intro _; rfl) : PS X (.For tg iter body [] pos) (tFor wi g tb) := by
  intro pins s σ H D I h
  refine wpAny_For (thn (hi pins s σ H _ I h) fun v s1 h1 => thn h1 fun itv s2 h2 => ?_) hs
  obtain ⟨it, fp, tn, J, H2, e, I2, T, st2, f2, W, ⟨m0, w0⟩, turn⟩ := h2
  subst e
  -- what stays true of the iterator's objects through the loop
  have stat : ∀ {H' : Hp}, (∀ b ∈ fp, H' b = none) → ∀ b ∈ fp, FpOk X pins H' b := fun hn b hb => ⟨hn b hb, (f2 b hb).2⟩
  refine codeAny_forLoop_any (fun n s' => ∃ i σ' H', Inv X pins σ' H' s' ∧ tn i s'.heap ∧ (∀ b ∈ fp, H' b = none) ∧ W i n σ' H') ?_ m0 ⟨0, σ, H2, I2, st2, fun b hb => (f2 b hb).1, w0⟩
  rintro n s3 ⟨i, σ3, H3, I3, st3, fr3, w3⟩
  rcases turn i n σ3 H3 w3 with ⟨stop, qn⟩ | ⟨go, N, hN, step⟩
  · refine wpAny_passesOwn hp (thn (T.done X rfl rfl rfl hc i pins s3 σ3 H3 X.xe I3 (stat fr3) st3 stop) fun r s4 ⟨hr, I4⟩ => ?_)
    subst hr
    exact wpAny_execs_nil ⟨σ3, H3, I4, qn⟩
  · refine wpAny_passesOwn hp (thn (T.item X rfl rfl rfl hc i pins s3 σ3 H3 X.xe I3 (stat fr3) st3 go) fun r s4 ⟨u, hr, h4⟩ => ?_)
    subst hr
    refine wpAny_passesOwn hp (thn h4 fun _ s5 ⟨x, H5, I5, r5, y5, st5, fr5⟩ => ?_)
    have I5' := I5.pinned (stat fr5) (T.obj _ _ st5)
    refine wpAny_passesOwn hp (thn (hg _ s5 σ3 H5 x u _ I5' r5 (step x H5 y5)) fun _ s6 ⟨σ6, H6, I6, q6⟩ => ?_)
    refine wpAny_passesOwn hp (thn (hb _ s6 σ6 H6 _ I6 q6) fun f s7 q7 => ?_)
    have again : ∀ {σ7 : St} {H7 : Hp}, Inv X (pins ++ pinsAt fp s5.heap) σ7 H7 s7 → N σ7 H7 → ∃ m, m < n ∧ ∃ i σ' H', Inv X pins σ' H' s7 ∧ tn i s7.heap ∧ (∀ b ∈ fp, H' b = none) ∧ W i m σ' H' := fun {σ7 H7} I7 n7 => by
      obtain ⟨m', hm, w7⟩ := hN σ7 H7 n7
      refine ⟨m', hm, i + 1, σ7, H7, I7.unpinned, T.keep _ _ _ st5 fun b hb o e => (I7.pin (b, o) (List.mem_append_right _ (List.mem_append_right _ (mem_pinsAt hb e)))).1, fun b hb => ?_, w7⟩
      obtain ⟨o, e, d⟩ := T.obj _ _ st5 b hb
      exact (I7.pin (b, o) (List.mem_append_right _ (List.mem_append_right _ (mem_pinsAt hb e)))).2.1
    cases f with
    | next => obtain ⟨σ7, H7, I7, n7⟩ := q7; exact again I7 n7
    | cont => obtain ⟨σ7, H7, I7, n7⟩ := q7; exact again I7 n7
    | brk => obtain ⟨σ7, H7, I7, q7⟩ := q7; exact ⟨σ7, H7, I7.unpinned, q7⟩
    | ret v => obtain ⟨x7, σ7, H7, I7, r7, q7⟩ := q7; exact ⟨x7, σ7, H7, I7.unpinned, r7, q7⟩
end

/-! ### the forms one uses -/
/-- over a list that the body leaves as it is -/
theorem for_list {K : PySem.W.Frag} {a : Addr} {xs : List V} {g : TG} {tb : TS} {D : Ends} {σ : St} {H : Hp} (Pv : Nat → St → Hp → Prop) (h0 : Pv 0 σ H) (hl : ∀ i σ H, i ≤ xs.length → Pv i σ H → SqL K H a xs)
    (hs : ∀ i x σ H, xs[i]? = some x → Pv i σ H → g x σ H fun σ2 H2 => tb { D with nx := Pv (i + 1), ct := Pv (i + 1), bk := D.nx } σ2 H2) (hd : ∀ σ H, Pv xs.length σ H → D.nx σ H) :
    ∃ W : Nat → Nat → St → Hp → Prop, (∃ m, W 0 m σ H) ∧ ∀ i m σ H, W i m σ H →
      ((Itl K a).stop i H ∧ D.nx σ H) ∨ ((Itl K a).go i H ∧ ∃ N : St → Hp → Prop, (∀ σ' H', N σ' H' → ∃ m', m' < m ∧ W (i + 1) m' σ' H') ∧ ∀ x H', (Itl K a).yld i H x H' → g x σ H' fun σ2 H2 => tb { D with nx := N, ct := N, bk := D.nx } σ2 H2) := by
  refine ⟨fun i m σ H => m = xs.length - i ∧ i ≤ xs.length ∧ Pv i σ H, ⟨xs.length, by simp, Nat.zero_le _, h0⟩, ?_⟩
  rintro i m σ H ⟨rfl, hi, p⟩
  have q := hl i σ H hi p
  by_cases hlt : i < xs.length
  · refine .inr ⟨⟨xs, xs[i], q, by simp [hlt]⟩, Pv (i + 1), fun σ' H' p' => ⟨xs.length - (i + 1), by omega, rfl, hlt, p'⟩, fun x H' y => ?_⟩
    obtain ⟨e, y⟩ := y
    subst e
    exact hs i x σ _ (y xs q) p
  · have e : i = xs.length := by omega
    subst e
    exact .inl ⟨⟨xs, q, Nat.le_refl _⟩, hd σ H p⟩
theorem for_range {lo : Int} {n : Nat} {g : TG} {tb : TS} {D : Ends} {σ : St} {H : Hp} (Pv : Nat → St → Hp → Prop) (h0 : Pv 0 σ H)
    (hs : ∀ i σ H, i < n → Pv i σ H → g (.int (lo + i)) σ H fun σ2 H2 => tb { D with nx := Pv (i + 1), ct := Pv (i + 1), bk := D.nx } σ2 H2) (hd : ∀ σ H, Pv n σ H → D.nx σ H) :
    ∃ W : Nat → Nat → St → Hp → Prop, (∃ m, W 0 m σ H) ∧ ∀ i m σ H, W i m σ H →
      ((Itr lo n).stop i H ∧ D.nx σ H) ∨ ((Itr lo n).go i H ∧ ∃ N : St → Hp → Prop, (∀ σ' H', N σ' H' → ∃ m', m' < m ∧ W (i + 1) m' σ' H') ∧ ∀ x H', (Itr lo n).yld i H x H' → g x σ H' fun σ2 H2 => tb { D with nx := N, ct := N, bk := D.nx } σ2 H2) := by
  refine ⟨fun i m σ H => m = n - i ∧ i ≤ n ∧ Pv i σ H, ⟨n, by simp, Nat.zero_le _, h0⟩, ?_⟩
  rintro i m σ H ⟨rfl, hi, p⟩
  by_cases hlt : i < n
  · refine .inr ⟨hlt, Pv (i + 1), fun σ' H' p' => ⟨n - (i + 1), by omega, rfl, hlt, p'⟩, fun x H' y => ?_⟩
    obtain ⟨e, y⟩ := y
    subst e y
    exact hs i σ _ hlt p
  · have e : i = n := by omega
    subst e
    exact .inl ⟨Nat.le_refl _, hd σ H p⟩
end L2

namespace L2
open PySem PySem.Spec PyProof.Rows

abbrev R2 := V → V → Hp → VK → Prop
/-- a two-place operation on values: f is binaryOp op, inplaceOp op or compareOp op -/
def OpR (X : Cx) (f : Value → Value → Sem Value) (r : R2) : Prop :=
  ∀ (pins : List (Addr × Obj)) (s : Shared) (σ : St) (H : Hp) (x y : V) (v u : Value) (Q : VK), Inv X pins σ H s → RelV x v → RelV y u → r x y H Q →
    wpAny (model X.prog X.w) X.A (f v u) (EP X pins σ Q) X.xe s
/-- a one-place operation -/
def UnR (X : Cx) (f : Value → Sem Value) (r : V → Hp → VK → Prop) : Prop :=
  ∀ (pins : List (Addr × Obj)) (s : Shared) (σ : St) (H : Hp) (x : V) (v : Value) (Q : VK), Inv X pins σ H s → RelV x v → r x H Q →
    wpAny (model X.prog X.w) X.A (f v) (EP X pins σ Q) X.xe s
/-- a call of a value that is known (a builtin, a type) with values -/
def CallR (X : Cx) (f : Value) (r : List V → Hp → VK → Prop) : Prop :=
  ∀ (pins : List (Addr × Obj)) (s : Shared) (σ : St) (H : Hp) (xs : List V) (us : List Value) (Q : VK), Inv X pins σ H s → Vals xs us → r xs H Q →
    wpAny (model X.prog X.w) X.A (call f us) (EP X pins σ Q) X.xe s
def tOp (r : R2) (ta tb : TE) : TE := fun σ H Q => ta σ H fun x H1 => tb σ H1 fun y H2 => r x y H2 Q
def tUn (r : V → Hp → VK → Prop) (ta : TE) : TE := fun σ H Q => ta σ H fun x H1 => r x H1 Q
/-- ints in, under C, and a value out -/
def rI (C : Int → Int → Prop) (g : Int → Int → V) : R2 := fun x y H Q => ∃ i j, x = .int i ∧ y = .int j ∧ C i j ∧ Q (g i j) H
def rI0 (g : Int → Int → V) : R2 := fun x y H Q => ∃ i j, x = .int i ∧ y = .int j ∧ Q (g i j) H
def rU (g : Int → V) : V → Hp → VK → Prop := fun x H Q => ∃ i, x = .int i ∧ Q (g i) H

section
variable {X : Cx} {a b c : Expr} {ta tb tc : TE} {pos : Pos}

theorem binT (ha : PE X a ta) (hb : PE X b tb) {pins : List (Addr × Obj)} {s : Shared} {σ : St} {H : Hp} {R : V → V → Hp → Prop} (I : Inv X pins σ H s)
    (h : ta σ H fun x H1 => tb σ H1 fun y H2 => R x y H2) {Q : Value → Shared → Prop} {f : Value → Value → Sem Value}
    (hf : ∀ v u s2 x y H2, Inv X pins σ H2 s2 → RelV x v → RelV y u → R x y H2 → wpAny (model X.prog X.w) X.A (f v u) Q X.xe s2) :
    wpAny (model X.prog X.w) X.A (eval a X.env) (fun v s₁ => wpAny (model X.prog X.w) X.A (eval b X.env) (fun u s₂ => wpAny (model X.prog X.w) X.A (f v u) Q X.xe s₂) X.xe s₁) X.xe s := by
  refine thn (ha pins s σ H _ I h) fun v s1 ⟨x, H1, I1, r1, q1⟩ => ?_
  refine thn (hb pins s1 σ H1 _ I1 q1) fun u s2 ⟨y, H2, I2, r2, q2⟩ => ?_
  exact hf v u s2 x y H2 I2 r1 r2 q2

theorem pe_op {op : Operator} {r : R2} (ho : OpR X (binaryOp op) r) (ha : PE X a ta) (hb : PE X b tb) : PE X (.BinOp a op b pos) (tOp r ta tb) := by
  intro pins s σ H Q I h
  exact wpAny_BinOp (binT ha hb I h fun v u s2 x y H2 I2 rx ry q => ho pins s2 σ H2 x y v u Q I2 rx ry q)
theorem pe_un {op : UnaryOp} {r : V → Hp → VK → Prop} (ho : UnR X (unaryOp op) r) (ha : PE X a ta) : PE X (.UnaryOp op a pos) (tUn r ta) := by
  intro pins s σ H Q I h
  exact UnaryOp_ (thn (ha pins s σ H _ I h) fun v s1 ⟨x, H1, I1, r1, q1⟩ => ho pins s1 σ H1 x v Q I1 r1 q1)
/-! ### ints -/
theorem opI {f : Value → Value → Sem Value} {C : Int → Int → Prop} {g : Int → Int → Int}
    (rule : ∀ (i j : Int) (t u : Tok) (s : Shared) (Q : Value → Shared → Prop) (E : Value → Shared → Prop), C i j → Q (.int (g i j) s.toks) { s with toks := s.toks + 1 } → wpAny (model X.prog X.w) X.A (f (.int i t) (.int j u)) Q E s) :
    OpR X f (rI C fun i j => .int (g i j)) := by
  intro pins s σ H x y v u Q I rx ry h
  obtain ⟨i, j, rfl, rfl, hc, q⟩ := h
  obtain ⟨t, rfl⟩ := rx
  obtain ⟨t', rfl⟩ := ry
  exact rule i j t t' s _ _ hc ⟨.int (g i j), H, I.tok _, ⟨_, rfl⟩, q⟩
theorem opI0 {f : Value → Value → Sem Value} {g : Int → Int → Int}
    (rule : ∀ (i j : Int) (t u : Tok) (s : Shared) (Q : Value → Shared → Prop) (E : Value → Shared → Prop), Q (.int (g i j) s.toks) { s with toks := s.toks + 1 } → wpAny (model X.prog X.w) X.A (f (.int i t) (.int j u)) Q E s) :
    OpR X f (rI0 fun i j => .int (g i j)) := by
  intro pins s σ H x y v u Q I rx ry h
  obtain ⟨i, j, rfl, rfl, q⟩ := h
  obtain ⟨t, rfl⟩ := rx
  obtain ⟨t', rfl⟩ := ry
  exact rule i j t t' s _ _ ⟨.int (g i j), H, I.tok _, ⟨_, rfl⟩, q⟩
theorem opB0 {f : Value → Value → Sem Value} {g : Int → Int → Bool}
    (rule : ∀ (i j : Int) (t u : Tok) (s : Shared) (Q : Value → Shared → Prop) (E : Value → Shared → Prop), Q (.bool (g i j)) s → wpAny (model X.prog X.w) X.A (f (.int i t) (.int j u)) Q E s) :
    OpR X f (rI0 fun i j => .bl (g i j)) := by
  intro pins s σ H x y v u Q I rx ry h
  obtain ⟨i, j, rfl, rfl, q⟩ := h
  obtain ⟨t, rfl⟩ := rx
  obtain ⟨t', rfl⟩ := ry
  exact rule i j t t' s _ _ ⟨.bl (g i j), H, I, rfl, q⟩

def CPow (i j : Int) : Prop := 0 ≤ j ∧ j ≤ 1000000 ∧ i.natAbs < 2 ^ 64
theorem op_add : OpR X (binaryOp .Add) (rI0 fun i j => .int (i + j)) := opI0 fun _ _ _ _ _ _ _ q => add_int q
theorem op_sub : OpR X (binaryOp .Sub) (rI0 fun i j => .int (i - j)) := opI0 fun _ _ _ _ _ _ _ q => sub_int q
/-- % by a positive divisor of any size -/
theorem op_mod : OpR X (binaryOp .Mod) (rI (fun _ j => 0 < j) fun i j => .int (i % j)) := opI fun i j _ _ _ _ _ hc q => by
  have h1 : (0 : Int) < j := hc
  exact mod_int' (by omega) (by rw [Int.fmod_eq_emod_of_nonneg i (by omega)]; exact q)
theorem op_pow : OpR X (binaryOp .Pow) (rI CPow fun i j => .int (i ^ j.toNat)) := opI fun _ _ _ _ _ _ _ hc q => pow_int_small hc.1 hc.2.1 hc.2.2 q
theorem unI {f : Value → Sem Value} {g : Int → Int}
    (rule : ∀ (i : Int) (t : Tok) (s : Shared) (Q : Value → Shared → Prop) (E : Value → Shared → Prop), Q (.int (g i) s.toks) { s with toks := s.toks + 1 } → wpAny (model X.prog X.w) X.A (f (.int i t)) Q E s) :
    UnR X f (rU fun i => .int (g i)) := by
  intro pins s σ H x v Q I rx h
  obtain ⟨i, rfl, q⟩ := h
  obtain ⟨t, rfl⟩ := rx
  exact rule i t s _ _ ⟨.int (g i), H, I.tok _, ⟨_, rfl⟩, q⟩
theorem un_neg : UnR X (unaryOp .USub) (rU fun i => .int (-i)) := unI fun _ _ _ _ _ q => neg_int q
/-! ### bools among ints: n += (a < b) -/
end

/-! ### comparisons -/
/-- the scalars that == tells apart as data does -/
def scal : V → V → Bool
  | .non, .non => true | .non, .int _ => true | .int _, .non => true | .non, .bl _ => true | .bl _, .non => true | .non, .str _ => true | .str _, .non => true
  | .int _, .int _ => true | .bl _, .bl _ => true | .str _, .str _ => true | .byt _, .byt _ => true
  | .int _, .str _ => true | .str _, .int _ => true | .bl _, .str _ => true | .str _, .bl _ => true
  | _, _ => false
def rEq : R2 := fun x y H Q => scal x y = true ∧ Q (.bl (decide (x = y))) H
def rNe : R2 := fun x y H Q => scal x y = true ∧ Q (.bl (!decide (x = y))) H

theorem dec_int {i j : Int} : decide (V.int i = V.int j) = (i == j) := by
  rw [Bool.eq_iff_iff]
  simp
theorem dec_bl {i j : Bool} : decide (V.bl i = V.bl j) = (i == j) := by
  rw [Bool.eq_iff_iff]
  simp
theorem dec_str {i j : Str} : decide (V.str i = V.str j) = (i == j) := by
  rw [Bool.eq_iff_iff]
  simp
theorem dec_byt {i j : Array UInt8} : decide (V.byt i = V.byt j) = (i.toList == j.toList) := by
  rw [Bool.eq_iff_iff]
  cases i
  cases j
  simp

section
variable {X : Cx} {a b c : Expr} {ta tb tc : TE} {pos : Pos}
theorem fin_bl {pins : List (Addr × Obj)} {σ : St} {H : Hp} {s : Shared} {Q : VK} {k k' : Bool} (I : Inv X pins σ H s) (q : Q (.bl k) H) (e : k = k') : EP X pins σ Q (.bool k') s := by
  subst e
  exact ⟨.bl k, H, I, rfl, q⟩
theorem op_eq : OpR X (compareOp .Eq) rEq := by
  intro pins s σ H x y v u Q I rx ry h
  obtain ⟨hs, q⟩ := h
  cases x with
  | non =>
    cases rx
    cases y with
    | non => cases ry; exact PySem.EqNone.eq_none_none (fin_bl I q (by simp))
    | bl j => cases ry; exact PySem.EqNone.eq_none_bool (fin_bl I q (by simp))
    | int j => obtain ⟨t', rfl⟩ := ry; exact PySem.EqNone.eq_none_int (fin_bl I q (by simp))
    | str j => obtain ⟨t', rfl⟩ := ry; exact PySem.EqNone.eq_none_str (fin_bl I q (by simp))
    | _ => exact absurd (show false = true from hs) Bool.false_ne_true
  | bl i =>
    cases rx
    cases y with
    | non => cases ry; exact PySem.EqNone.eq_bool_none (fin_bl I q (by simp))
    | bl j => cases ry; exact eq_bool (fin_bl I q dec_bl)
    | str j => obtain ⟨t', rfl⟩ := ry; exact PySem.EqMixed.eq_bool_str (fin_bl I q (by simp))
    | _ => exact absurd (show false = true from hs) Bool.false_ne_true
  | int i =>
    obtain ⟨t, rfl⟩ := rx
    cases y with
    | non => cases ry; exact PySem.EqNone.eq_int_none (fin_bl I q (by simp))
    | int j => obtain ⟨t', rfl⟩ := ry; exact eq_int (fin_bl I q dec_int)
    | str j => obtain ⟨t', rfl⟩ := ry; exact PySem.EqMixed.eq_int_str (fin_bl I q (by simp))
    | _ => exact absurd (show false = true from hs) Bool.false_ne_true
  | str i =>
    obtain ⟨t, rfl⟩ := rx
    cases y with
    | non => cases ry; exact PySem.EqNone.eq_str_none (fin_bl I q (by simp))
    | bl j => cases ry; exact PySem.EqMixed.eq_str_bool (fin_bl I q (by simp))
    | int j => obtain ⟨t', rfl⟩ := ry; exact PySem.EqMixed.eq_str_int (fin_bl I q (by simp))
    | str j => obtain ⟨t', rfl⟩ := ry; exact eq_str (fin_bl I q dec_str)
    | _ => exact absurd (show false = true from hs) Bool.false_ne_true
  | byt i =>
    obtain ⟨t, rfl⟩ := rx
    cases y with
    | byt j => obtain ⟨t', rfl⟩ := ry; exact PySem.W.eq_bytes (fin_bl I q dec_byt)
    | _ => exact absurd (show false = true from hs) Bool.false_ne_true
  | _ => cases y <;> exact absurd (show false = true from hs) Bool.false_ne_true
theorem op_ne : OpR X (compareOp .NotEq) rNe := by
  intro pins s σ H x y v u Q I rx ry h
  obtain ⟨hs, q⟩ := h
  cases x with
  | non =>
    cases rx
    cases y with
    | non => cases ry; exact PySem.EqNone.ne_none_none (fin_bl I q (by simp))
    | bl j => cases ry; exact PySem.EqNone.ne_none_bool (fin_bl I q (by simp))
    | int j => obtain ⟨t', rfl⟩ := ry; exact PySem.EqNone.ne_none_int (fin_bl I q (by simp))
    | str j => obtain ⟨t', rfl⟩ := ry; exact PySem.EqNone.ne_none_str (fin_bl I q (by simp))
    | _ => exact absurd (show false = true from hs) Bool.false_ne_true
  | bl i =>
    cases rx
    cases y with
    | non => cases ry; exact PySem.EqNone.ne_bool_none (fin_bl I q (by simp))
    | bl j => cases ry; exact ne_bool (fin_bl I q (congrArg not dec_bl))
    | str j => obtain ⟨t', rfl⟩ := ry; exact PySem.EqMixed.ne_bool_str (fin_bl I q (by simp))
    | _ => exact absurd (show false = true from hs) Bool.false_ne_true
  | int i =>
    obtain ⟨t, rfl⟩ := rx
    cases y with
    | non => cases ry; exact PySem.EqNone.ne_int_none (fin_bl I q (by simp))
    | int j => obtain ⟨t', rfl⟩ := ry; exact ne_int (fin_bl I q (congrArg not dec_int))
    | str j => obtain ⟨t', rfl⟩ := ry; exact PySem.EqMixed.ne_int_str (fin_bl I q (by simp))
    | _ => exact absurd (show false = true from hs) Bool.false_ne_true
  | str i =>
    obtain ⟨t, rfl⟩ := rx
    cases y with
    | non => cases ry; exact PySem.EqNone.ne_str_none (fin_bl I q (by simp))
    | bl j => cases ry; exact PySem.EqMixed.ne_str_bool (fin_bl I q (by simp))
    | int j => obtain ⟨t', rfl⟩ := ry; exact PySem.EqMixed.ne_str_int (fin_bl I q (by simp))
    | str j => obtain ⟨t', rfl⟩ := ry; exact ne_str (fin_bl I q (congrArg not dec_str))
    | _ => exact absurd (show false = true from hs) Bool.false_ne_true
  | byt i =>
    obtain ⟨t, rfl⟩ := rx
    cases y with
    | byt j => obtain ⟨t', rfl⟩ := ry; exact PySem.W.ne_bytes (fin_bl I q (congrArg not dec_byt))
    | _ => exact absurd (show false = true from hs) Bool.false_ne_true
  | _ => cases y <;> exact absurd (show false = true from hs) Bool.false_ne_true

theorem op_lt : OpR X (compareOp .Lt) (rI0 fun i j => .bl (decide (i < j))) := opB0 fun _ _ _ _ _ _ _ q => lt_int q
theorem op_gt : OpR X (compareOp .Gt) (rI0 fun i j => .bl (decide (j < i))) := opB0 fun _ _ _ _ _ _ _ q => gt_int q
theorem op_ge : OpR X (compareOp .GtE) (rI0 fun i j => .bl (decide (j ≤ i))) := opB0 fun _ _ _ _ _ _ _ q => ge_int q
/-- the one string within the other -/
theorem op_in_str : OpR X (compareOp .In) (fun x y H Q => ∃ i j, x = .str i ∧ y = .str j ∧ Q (.bl (!(Builtin.Str.occurrences j i 0 j.length 1).isEmpty)) H) := by
  intro pins s σ H x y v u Q I rx ry h
  obtain ⟨i, j, rfl, rfl, q⟩ := h
  obtain ⟨t, rfl⟩ := rx
  obtain ⟨t', rfl⟩ := ry
  exact in_str (fin_bl I q rfl)

theorem op_notin_str : OpR X (compareOp .NotIn) (fun x y H Q => ∃ i j, x = .str i ∧ y = .str j ∧ Q (.bl (!(!(Builtin.Str.occurrences j i 0 j.length 1).isEmpty))) H) := by
  intro pins s σ H x y v u Q I rx ry h
  obtain ⟨i, j, rfl, rfl, q⟩ := h
  obtain ⟨t, rfl⟩ := rx
  obtain ⟨t', rfl⟩ := ry
  exact notIn_str (fin_bl I q rfl)
theorem nomark (b : Expr) {op : CmpOp} (h : op ≠ .In := by decide) (h2 : op ≠ .NotIn := by decide) : behindInMarks op b = false := by
  have e1 : (op == CmpOp.In) = false := by cases op <;> first | rfl | exact absurd rfl h
  have e2 : (op == CmpOp.NotIn) = false := by cases op <;> first | rfl | exact absurd rfl h2
  cases b <;> simp [behindInMarks, e1, e2]
/-- a comparison as a value; hm: nomark b, or (for in, not in) by with_unfolding_all rfl -/
theorem pe_cmpR {op : CmpOp} {r : R2} (ho : OpR X (compareOp op) r) (ha : PE X a ta) (hb : PE X b tb) (hm : behindInMarks op b = false) : PE X (.Compare a [op] [b] pos) (tOp r ta tb) := by
  intro pins s σ H Q I h
  exact wpAny_Compare1 (binT ha hb I h fun v u s2 x y H2 I2 rx ry q => ho pins s2 σ H2 x y v u Q I2 rx ry q) hm
/-- a reading of a value as a test -/
def tTest (t : TE) : TT := fun σ H Q => t σ H fun x H' => ∃ k, x = .bl k ∧ Q k H'
theorem pt_cmpR {op : CmpOp} {r : R2} (ho : OpR X (compareOp op) r) (ha : PE X a ta) (hb : PE X b tb) (hm : behindInMarks op b = false) : PT X (.Compare a [op] [b] pos) (tTest (tOp r ta tb)) := by
  intro pins s σ H Q I h
  refine wpAny_isTrue_Compare1 (thn (ha pins s σ H _ I h) fun v s1 ⟨x, H1, I1, r1, q1⟩ => thn (hb pins s1 σ H1 _ I1 q1) fun u s2 ⟨y, H2, I2, r2, q2⟩ =>
    thn (ho pins s2 σ H2 x y v u _ I2 r1 r2 q2) fun c s3 ⟨z, H3, I3, r3, k, e, q3⟩ => ?_) hm
  subst e
  cases r3
  exact wpAny_truthy_bool ⟨H3, I3, q3⟩
/-! ### truth -/
theorem line63 : (sizeLine : Nat) < 2 ^ 63 := by rw [sizeLine_eq]; decide
/-! ### strs and bytes -/
theorem op_add_str : OpR X (binaryOp .Add) (fun x y H Q => ∃ i j, x = .str i ∧ y = .str j ∧ i.length + j.length ≤ sizeLine ∧ Q (.str (i ++ j)) H) := by
  intro pins s σ H x y v u Q I rx ry h
  obtain ⟨i, j, rfl, rfl, hz, q⟩ := h
  obtain ⟨t, rfl⟩ := rx
  obtain ⟨t', rfl⟩ := ry
  exact add_str (fun t' tk => ⟨.str (i ++ j), H, I.tok _, ⟨_, rfl⟩, q⟩) hz
/-! ### scalar builtins, by CallR -/
theorem vals1 {x : V} {us : List Value} (r : Vals [x] us) : ∃ u, us = [u] ∧ RelV x u := by
  cases r with
  | cons r1 r2 => cases r2; exact ⟨_, rfl, r1⟩
theorem vals2 {x y : V} {us : List Value} (r : Vals [x, y] us) : ∃ u w', us = [u, w'] ∧ RelV x u ∧ RelV y w' := by
  cases r with
  | cons r1 r2 =>
    cases r2 with
    | cons r3 r4 => cases r4; exact ⟨_, _, rfl, r1, r3⟩
theorem call_abs : CallR X (.builtin "abs") (fun xs H Q => ∃ i, xs = [.int i] ∧ Q (.int (if i < 0 then -i else i)) H) := by
  intro pins s σ H xs us Q I r h
  obtain ⟨i, rfl, q⟩ := h
  obtain ⟨u, rfl, t, rfl⟩ := vals1 r
  exact call_abs_int fun u tk => ⟨.int (if i < 0 then -i else i), H, I.tok _, ⟨_, rfl⟩, q⟩
theorem call_int1 : CallR X (.type "int") (fun xs H Q => (∃ i, xs = [.int i] ∧ Q (.int i) H) ∨ ∃ k, xs = [.bl k] ∧ Q (.int (if k then 1 else 0)) H) := by
  intro pins s σ H xs us Q I r h
  rcases h with ⟨i, rfl, q⟩ | ⟨k, rfl, q⟩
  · obtain ⟨u, rfl, t, rfl⟩ := vals1 r
    exact call_int_int ⟨.int i, H, I, ⟨_, rfl⟩, q⟩
  · obtain ⟨u, rfl, r1⟩ := vals1 r
    cases r1
    exact call_int_bool ⟨.int (if k then 1 else 0), H, I.tok _, ⟨_, rfl⟩, q⟩
theorem call_str_int : CallR X (.type "str") (fun xs H Q => ∃ i, xs = [.int i] ∧ i.natAbs.log2 < 1920 ∧ Q (.str (toString i)) H) := by
  intro pins s σ H xs us Q I r h
  obtain ⟨i, rfl, hz, q⟩ := h
  obtain ⟨u, rfl, t, rfl⟩ := vals1 r
  exact PySem.P.str_of_int hz ⟨.str _, H, I.tok _, ⟨_, rfl⟩, q⟩
end
end L2

namespace L2
open PySem PySem.Spec PyProof.Rows

/-! ### an instance, its attributes a map -/
section
variable {prog : Program} {w : World} {A : Around} {E : Value → Shared → Prop} {s : Shared} {K : PySem.W.Frag} {x dx C f : Addr} {mA : Str → Option Value} {name : Str} {v : Value}

end

/-! ### the attributes as a list of pairs -/
section
variable {P : Program} {w : World} {H H' : Hp} {h h' : Heap} {a C dx : Addr} {fs fs' : List (Str × V)}
end

/-! ### what of the text a class must have -/
section
variable {X : Cx} {pins : List (Addr × Obj)} {σ : St} {H : Hp} {s : Shared} {a C dx : Addr} {fs : List (Str × V)} {f : Str} {v : V} {A : Around} {E : Value → Shared → Prop}

end

/-! ### readings and rules -/
section
variable {X : Cx} {o e value : Expr} {f : Str} {pos pos' tpos : Pos} {ta tv : TE}
end

/-! ### isinstance -/
section
variable {X : Cx} {pins : List (Addr × Obj)} {σ : St} {H : Hp} {s : Shared} {A : Around} {E : Value → Shared → Prop} {Q : Value → Shared → Prop} {c : Value} {b : Bool}
end
end L2

namespace L2
open PySem PySem.Spec PyProof.Rows

/-! ### room -/
structure Room (k : Nat) (A : Around) : Prop where
  hd : A.handled = none
  dp : A.depth + 3 * k + 5 < recursionLimit
  un : A.units + 16 * k + 200 < cLine
theorem Room.mono {j k : Nat} {A : Around} (r : Room k A) (h : j ≤ k) : Room j A := ⟨r.hd, by have := r.dp; omega, by have := r.un; omega⟩
theorem Room.deeper {k : Nat} {A : Around} (r : Room (k + 1) A) (env : Env) : Room k (A.deeper env) :=
  ⟨r.hd, by have := r.dp; show A.depth + 1 + 3 * k + 5 < _; omega, by have := r.un; show A.units + 3 + 16 * k + 200 < _; omega⟩
theorem Room.depth {k : Nat} {A : Around} (r : Room k A) : A.depth < recursionLimit := by have := r.dp; omega
theorem Room.units0 {k : Nat} {A : Around} (r : Room k A) : A.units < cLine := by have := r.un; omega

/-! ### argument lists and displays -/
def tNil : TA := fun _ H Q => Q [] H
def tCons (ta : TE) (tr : TA) : TA := fun σ H Q => ta σ H fun x H1 => tr σ H1 fun xs H2 => Q (x :: xs) H2
section
variable {X : Cx} {e : Expr} {es : List Expr} {te : TE} {t : TA} {pos : Pos}
theorem pa_nil : PA X [] tNil := fun _ _ _ _ H Q I h => Calls.spliced_nil ⟨[], H, I, .nil, h⟩
theorem pa_cons (ha : PE X e te) (hr : PA X es t) (hs : starEach (e :: es) X.env = (false, eval e X.env) :: starEach es X.env := by rfl) : PA X (e :: es) (tCons te t) := by
  intro pos pins s σ H Q I h
  rw [hs]
  show wpAny _ _ (spliced ((false, eval e X.env) :: backTo pos (starEach es X.env))) _ _ s
  refine Calls.spliced_cons (thn (ha pins s σ H _ I h) fun u s1 ⟨x, H1, I1, r1, q1⟩ => ?_)
  exact thn (hr pos pins s1 σ H1 _ I1 q1) fun us s2 ⟨xs, H2, I2, r2, q2⟩ => ⟨x :: xs, H2, I2, .cons r1 r2, q2⟩

/-- a tuple, a list of written items -/
def tTup (t : TA) : TE := fun σ H Q => t σ H fun xs H1 => xs.length ≤ sizeLine ∧ ∀ p, H1 p = none → Q (.ref p) (upd H1 p (.tup xs))
def tLst (t : TA) : TE := fun σ H Q => t σ H fun xs H1 => xs.length ≤ sizeLine ∧ ∀ p, H1 p = none → Q (.ref p) (upd H1 p (.lst xs))
theorem pe_tup {x1} (h : PA X es t) : PE X (.Tuple es x1 pos) (tTup t) := by
  intro pins s σ H Q I hq
  refine wpAny_Tuple_spliced (thn (h pos pins s σ H _ I hq) fun us s1 ⟨xs, H1, I1, r, z, q⟩ => ⟨by rw [← r.length]; exact z, ?_⟩)
  have hf : H1 s1.heap.objs.size = none := I1.hok.fresh (Nat.le_refl _)
  refine ⟨.ref s1.heap.objs.size, upd H1 s1.heap.objs.size (.tup xs), I1.laid (t' := s1.toks) (fun b u e => Heap.get?_push_of_some _ e) (Nat.le_refl _) ?_, rfl, q _ hf⟩
  exact ⟨z, us, r, ⟨_, Heap.get?_push_size _ rfl, rfl, _, rfl⟩⟩
theorem pe_lst (h : PA X es t) : PE X (.List es pos) (tLst t) := by
  intro pins s σ H Q I hq
  refine wpAny_List_spliced (thn (h pos pins s σ H _ I hq) fun us s1 ⟨xs, H1, I1, r, z, q⟩ => ⟨by rw [← r.length]; exact z, ?_⟩)
  have hf : H1 s1.heap.objs.size = none := I1.hok.fresh (Nat.le_refl _)
  refine ⟨.ref s1.heap.objs.size, upd H1 s1.heap.objs.size (.lst xs), I1.laid (t' := s1.toks) (fun b u e => Heap.get?_push_of_some _ e) (Nat.le_refl _) ?_, rfl, q _ hf⟩
  exact ⟨z, us, 0, r, Heap.get?_push_size _ rfl⟩
end

/-! ### what a def promises -/
/-- a def's promise: the bound arguments in the parameters' order, the heap, the wanted end, the wanted exception -/
abbrev Sp := List V → Hp → VK → XK → Prop
/-- how an exception lies behind a call (file 08 gives it): the callers' frames, abstract heap and state ahead of the call, the wish, the exception, the state -/
abbrev CXT := List Env → Hp → Shared → XK → Value → Shared → Prop

/-- the state at a call -/
structure Env0 (P : Program) (w : World) (K : PySem.W.Frag) (mg : Str → Option Value) (base : Heap) (A : Around) (outer : List Env) (s : Shared) (H : Hp) : Prop where
  frames : A.frames = some outer
  mod : Mod K mg base
  bs : ∀ b o, base.get? b = some o → s.heap.get? b = some o ∧ H b = none
  bsz : base.objs.size ≤ s.heap.objs.size
  funs : s.heap.FunFrames base outer
  frf : ∀ b ∈ frs outer, H b = none
  hok : HOk P w H s.heap
  bare : AllBare s.gens
/-- a call's end -/
def CE (outer : List Env) (P : Program) (w : World) (H : Hp) (s : Shared) (Q : VK) (u : Value) (s' : Shared) : Prop :=
  ∃ v H', s'.os = s.os ∧ AllBare s'.gens ∧ Un (frs outer) [] H H' s.heap s'.heap ∧ HOk P w H' s'.heap ∧ RelV v u ∧ Q v H'
def CR (CX : CXT) (outer : List Env) (P : Program) (w : World) (H : Hp) (s : Shared) (Q : VK) (E : XK) (r : Result) (s' : Shared) : Prop :=
  match r with
  | .ok (.ret u) => CE outer P w H s Q u s'
  | .ok _ => False
  | .error e => CX outer H s E e s'
structure FnOk (P : Program) (w : World) (K : PySem.W.Frag) (mg : Str → Option Value) (base : Heap) (CX : CXT) (k : Nat) (f : Addr) (fd : FuncData) (ps : List Str) (sp : Sp) : Prop where
  len : ∀ vs H Q E, sp vs H Q E → vs.length = ps.length
  run : ∀ (A : Around) (outer : List Env) (s : Shared) (H : Hp) (args : Args) (us : List Value) (vs : List V) (Q : VK) (E : XK), Room k A → Env0 P w K mg base A outer s H → BindsTo s fd args (ps.zip us) → Vals vs us → sp vs H Q E →
    codeAny (model P w) A (.call (.ref f) args) (CR CX outer P w H s Q E) s
theorem FnOk.mono {P : Program} {w : World} {K : PySem.W.Frag} {mg : Str → Option Value} {base : Heap} {CX : CXT} {j k : Nat} {f : Addr} {fd : FuncData} {ps : List Str} {sp : Sp} (F : FnOk P w K mg base CX j f fd ps sp) (h : j ≤ k) :
    FnOk P w K mg base CX k f fd ps sp := ⟨F.len, fun A outer s H args us vs Q E hr => F.run A outer s H args us vs Q E (hr.mono h)⟩
section
variable {X : Cx} {pins : List (Addr × Obj)} {σ : St} {H : Hp} {s s' : Shared}
/-- from a body: what a callee wants -/
theorem Inv.env0 (I : Inv X pins σ H s) : Env0 X.prog X.w X.K X.mg X.base X.A X.stack s H :=
  ⟨I.ok.frames, I.ok.mod, I.bs, Nat.le_trans I.ok.bsz I.sz, I.stack, I.stkFree, I.hok, I.bare⟩
/-- behind a call -/
theorem Inv.after {Q : VK} {u : Value} (I : Inv X pins σ H s) (h : CE X.stack X.prog X.w H s Q u s') : EP X pins σ Q u s' := by
  obtain ⟨v, H', os, bare, un, hok, r, q⟩ := h
  obtain ⟨hh, g, d, t, os'⟩ := s'
  obtain rfl : os' = s.os := os
  exact ⟨v, H', I.call (h' := hh) (g' := g) (d' := d) (t' := t) (ch := []) un hok bare (fun b z => absurd z (by simp)), r, q⟩
end

/-! ### calls -/
/-- f(..): the written arguments, then the defaults dvs; E: what is wanted of an exception -/
def tCall (sp : Sp) (dvs : List V) (E : XK) (t : TA) : TE := fun σ H Q => t σ H fun vs H1 => sp (vs ++ dvs) H1 Q E
/-- how the parameters are bound: us the positional arguments, kw the keywords' values by name, ds the defaults that fill up -/
def Binds (K : PySem.W.Frag) (fd : FuncData) (ps : List Str) (ds : List Value) : Prop :=
  ∀ (s : Shared) (us : List Value), K.In s.heap → (us ++ ds).length = ps.length → BindsTo s fd ⟨us, []⟩ (ps.zip (us ++ ds))
/-- every parameter is given -/
theorem Binds.all {K : PySem.W.Frag} {fd : FuncData} {ps : List Str} (h : ∀ us : List Value, us.length = ps.length → bindArgs fd ⟨us, []⟩ = pure (ps.zip us)) : Binds K fd ps [] := fun s us _ hl => by
  rw [List.append_nil] at hl ⊢
  exact .of_eq (h us hl)

/-- an exception of a callee reaches what this body wants of exceptions -/
def Passes (CX : CXT) (X : Cx) (E : XK) : Prop := ∀ (pins : List (Addr × Obj)) (σ : St) (H : Hp) (s : Shared) (e : Value) (s' : Shared), Inv X pins σ H s → CX X.stack H s E e s' → X.xe e s'

section
variable {X : Cx} {CX : CXT} {k : Nat} {f C : Addr} {fd : FuncData} {ps : List Str} {sp : Sp} {dvs : List V} {ds : List Value} {E : XK} {x m : Str} {p pos apos : Pos} {e o : Expr} {es : List Expr} {ta : TE} {t : TA}

/-- the callee runs -/
theorem run_fn {pins : List (Addr × Obj)} {σ : St} {H : Hp} {s : Shared} {Q : VK} {us : List Value} {vs : List V} (F : FnOk X.prog X.w X.K X.mg X.base CX k f fd ps sp) (hr : Room k X.A) (hb : Binds X.K fd ps ds) (hd : Vals dvs ds) (hx : Passes CX X E)
    (I : Inv X pins σ H s) (r : Vals vs us) (h : sp (vs ++ dvs) H Q E) : wpAny (model X.prog X.w) X.A (call (.ref f) us) (EP X pins σ Q) X.xe s := by
  have r2 : Vals (vs ++ dvs) (us ++ ds) := r.append hd
  have hl : (us ++ ds).length = ps.length := by rw [← r2.length]; exact F.len _ _ _ _ h
  refine wpAny_call (codeAny_mono (F.run X.A X.stack s H ⟨us, []⟩ (us ++ ds) (vs ++ dvs) Q E hr I.env0 (hb s us I.kIn hl) r2 h) fun r s' hq => ?_)
  cases r with
  | error e => exact hx pins σ H s e s' I hq
  | ok fl =>
    cases fl with
    | ret u => exact I.after hq
    | next => exact False.elim hq
    | brk => exact False.elim hq
    | cont => exact False.elim hq

theorem pe_call (F : FnOk X.prog X.w X.K X.mg X.base CX k f fd ps sp) (hr : Room k X.A) (hg : Gl X x) (hm : X.mg x = some (.ref f)) (hk : PySem.W.keepIn X.K (.ref f) = true) (hb : Binds X.K fd ps ds) (hd : Vals dvs ds) (hx : Passes CX X E)
    (ha : PA X (e :: es) t) (hdb : (x == ("__debug__" : Str)) = false := by decide) (he : starEach (e :: es) X.env = (false, eval e X.env) :: starEach es X.env := by rfl) (hpl : (backTo pos (starEach es X.env)).any (·.1) = false := by rfl) :
    PE X (.Call (.Name x p) (e :: es) [] pos) (tCall sp dvs E t) := by
  intro pins s σ H Q I h
  refine wpAny_Call_Name_kw (ld_glob I hg hm ?_ hdb)
  refine PySem.W.callWith_K (h₀ := X.base) I.ok.mod.kin hk (thn (ha pos pins s σ H _ I h) fun us s1 ⟨vs, H1, I1, r, q⟩ => ⟨I1.kIn, ?_⟩) he hpl
  exact run_fn F hr hb hd hx I1 r q
end

/-! ### keywords -/
section
variable {X : Cx} {CX : CXT} {k : Nat} {f C : Addr} {fd : FuncData} {ps ks : List Str} {sp : Sp} {E : XK} {x m : Str} {p pos apos kpos : Pos} {e o : Expr} {es : List Expr} {kws : List Keyword} {te ta : TE} {t tk : TA} {nm : Option Str}
variable {g : List Value → List Value → List Value} {gV : List V → List V → List V}
end

/-! ### a def's body keeps its promise -/
/-- names: the parameters first -/
structure FnScope (N P : List Str) (sc : Scope) : Prop where
  kind : sc.kind = .function
  co : sc.isCoroutine = false
  gen : sc.isGenerator = false
  nd : N.Nodup
  pre : N.take P.length = P
  par : ∀ x ∈ P, sc.names.lookup x = some .local ∨ sc.names.lookup x = some .cell
  nofree : ∀ y ∈ sc.names, y.2 ≠ .free

theorem bindL_out {kindOf : Str → Option NameKind} {x : Str} : ∀ {binds : List (Str × Value)} {m : Str → Option Value}, (∀ v, (x, v) ∉ binds) → bindL kindOf binds m x = m x
  | [], _, _ => rfl
  | (n, v) :: r, m, h => by
    unfold bindL
    rw [bindL_out fun w hw => h w (List.mem_cons_of_mem _ hw)]
    split
    · have : x ≠ n := by rintro rfl; exact h v List.mem_cons_self
      simp [this]
    · rfl
theorem bindC_out {kindOf : Str → Option NameKind} {x : Str} : ∀ {binds : List (Str × Value)} {m : Str → Option Value}, (∀ v, (x, v) ∉ binds) → bindC kindOf binds m x = m x
  | [], _, _ => rfl
  | (n, v) :: r, m, h => by
    unfold bindC
    rw [bindC_out fun w hw => h w (List.mem_cons_of_mem _ hw)]
    split
    · rfl
    · have : x ≠ n := by rintro rfl; exact h v List.mem_cons_self
      simp [this]
theorem bindL_get {kindOf : Str → Option NameKind} {x : Str} {v : Value} : ∀ {P : List Str} {vs : List Value} {i : Nat} {m : Str → Option Value}, P.Nodup → P[i]? = some x → vs[i]? = some v → kindOf x = some .local →
    bindL kindOf (P.zip vs) m x = some v
  | [], _, _, _, _, h, _, _ => by simp at h
  | _ :: _, [], _, _, _, _, h, _ => by simp at h
  | p :: P, w :: vs, 0, m, nd, h1, h2, hk => by
    simp at h1 h2; subst h1; subst h2
    show bindL kindOf ((p, w) :: P.zip vs) m p = _
    unfold bindL
    rw [bindL_out fun v hv => (List.nodup_cons.mp nd).1 (List.of_mem_zip hv).1, if_pos hk]
    simp
  | p :: P, w :: vs, i + 1, m, nd, h1, h2, hk => by
    show bindL kindOf ((p, w) :: P.zip vs) m x = _
    unfold bindL
    exact bindL_get (i := i) (List.nodup_cons.mp nd).2 (by simpa using h1) (by simpa using h2) hk
theorem bindC_get {kindOf : Str → Option NameKind} {x : Str} {v : Value} : ∀ {P : List Str} {vs : List Value} {i : Nat} {m : Str → Option Value}, P.Nodup → P[i]? = some x → vs[i]? = some v → kindOf x ≠ some .local →
    bindC kindOf (P.zip vs) m x = some v
  | [], _, _, _, _, h, _, _ => by simp at h
  | _ :: _, [], _, _, _, _, h, _ => by simp at h
  | p :: P, w :: vs, 0, m, nd, h1, h2, hk => by
    simp at h1 h2; subst h1; subst h2
    show bindC kindOf ((p, w) :: P.zip vs) m p = _
    unfold bindC
    rw [bindC_out fun v hv => (List.nodup_cons.mp nd).1 (List.of_mem_zip hv).1, if_neg hk]
    simp
  | p :: P, w :: vs, i + 1, m, nd, h1, h2, hk => by
    show bindC kindOf ((p, w) :: P.zip vs) m x = _
    unfold bindC
    exact bindC_get (i := i) (List.nodup_cons.mp nd).2 (by simpa using h1) (by simpa using h2) hk

/-- the names' values at the entry -/
def start (N : List Str) (vs : List V) : St := vs.map some ++ List.replicate (N.length - vs.length) none

/-- the context of a def's body, at its entry; an exception leaves the frame, then lies as CX says -/
def cxOf (CX : CXT) (P : Program) (w : World) (K : PySem.W.Frag) (mg : Str → Option Value) (base : Heap) (N : List Str) (qual : Str) (scope : Scope) (f : Addr) (cd : Value) (A : Around) (outer : List Env) (s : Shared) (H : Hp) (E : XK) : Cx where
  prog := P
  w := w
  K := K
  mg := mg
  base := base
  A := A.deeper (envOfC qual scope s.heap.objs.size f cd)
  N := N
  s₀ := s
  H₀ := H
  env := envOfC qual scope s.heap.objs.size f cd
  outer := outer
  stack := envOfC qual scope s.heap.objs.size f cd :: outer
  ex := []
  calm := true
  fn := fun _ => true
  pn := []
  xe := fun e s' => wpAny (model P w) (A.deeper (envOfC qual scope s.heap.objs.size f cd)) (leaving (envOfC qual scope s.heap.objs.size f cd) e) (fun _ s'' => CX outer H s E e s'') (fun e' s'' => CX outer H s E e' s'') s'

theorem cell_has {sc : Scope} {n : Nat} {x : Str} (h : sc.names.lookup x = some .cell) : ∃ c, (cellsFrom n sc.names []).lookup x = some c := by
  have q := PySem.W.cellsFrom_some sc.names n [] (.inl h)
  exact Option.isSome_iff_exists.mp q

theorem inv_start {CX : CXT} {P : Program} {w : World} {K : PySem.W.Frag} {mg : Str → Option Value} {base : Heap} {N ps : List Str} {qual : Str} {scope : Scope} {f : Addr} {cd : Value} {A : Around} {outer : List Env} {s s1 : Shared} {H : Hp} {E : XK} {us : List Value} {vs : List V}
    (S : FnScope N ps scope) (hd : A.handled = none) (e0 : Env0 P w K mg base A outer s H) (hl : vs.length = ps.length) (r : Vals vs us)
    (x : InCallC s s.heap.objs.size (bindL (envOfC qual scope s.heap.objs.size f cd).kindOf (ps.zip us) fun _ => none) (cellsFrom (s.heap.objs.size + 1) scope.names []) (bindC (envOfC qual scope s.heap.objs.size f cd).kindOf (ps.zip us) fun _ => none) s1) :
    Inv (cxOf CX P w K mg base N qual scope f cd A outer s H E) [] (start N vs) H s1 := by
  have hpl : ps.length ≤ N.length := by have := congrArg List.length S.pre; rw [List.length_take] at this; omega
  obtain ⟨h1, tk, rfl, hk⟩ := x.done
  have noA : ∀ b : Addr, b ∉ (cxOf CX P w K mg base N qual scope f cd A outer s H E).ex := fun b z => absurd (show b ∈ ([] : List Addr) from z) (by simp)
  refine ⟨⟨e0.mod, S.kind, rfl, rfl, Nat.le_refl _, fun y z c h1 h2 => ?_, fun y hy => ?_, fun y c _ h => ?_, fun _ => hd, Around.frames_deeper e0.frames, .inr ⟨rfl, rfl⟩, fun b z => absurd z (noA b), e0.bs, e0.bsz, fun b _ _ => noA b, fun b z => absurd z (noA b), e0.funs, e0.frf⟩,
    rfl, e0.bare, Un.kept hk, ⟨_, x.toInCall.ns, fun i y v h1 h2 h3 => ?_⟩, fun y c h => ⟨_, x.cell y c h⟩, e0.hok.fresh (Nat.le_refl _), fun y c h => ?_, fun p hp => absurd (show p ∈ ([] : List (Addr × Obj)) from hp) (by simp), e0.hok.kept hk, ?_⟩
  · exact name_of_addr x.apart (PySem.mem_of_lookup h1) (PySem.mem_of_lookup h2)
  · have hy : scope.names.lookup y = some .cell ∨ scope.names.lookup y = some .free := hy
    rcases hy with hy | hy
    · exact cell_has hy
    · exact absurd rfl (S.nofree _ (PySem.mem_of_lookup hy))
  · exact Nat.le_of_lt (x.above y c (PySem.mem_of_lookup h))
  · have hi : i < vs.length := by
      unfold start at h2
      by_cases hi : i < vs.length
      · exact hi
      · rw [List.getElem?_append_right (by simpa using hi)] at h2
        rw [List.getElem?_replicate] at h2
        split at h2 <;> cases h2
    have ha : vs[i]? = some v := by
      unfold start at h2
      rw [List.getElem?_append_left (by simpa using hi), List.getElem?_map] at h2
      cases e : vs[i]? with
      | none => rw [e] at h2; cases h2
      | some a => rw [e] at h2; cases h2; rfl
    obtain ⟨u, hu, rv⟩ := r.get ha
    have hp : ps[i]? = some y := by
      rw [← S.pre, List.getElem?_take_of_lt (by omega)]; exact h1
    have ndP : ps.Nodup := by rw [← S.pre]; exact S.nd.sublist (List.take_sublist _ _)
    refine ⟨u, rv, ?_⟩
    rcases S.par y (List.mem_of_getElem? hp) with k | k
    · exact .inl ⟨k, bindL_get ndP hp hu k⟩
    · obtain ⟨c, e⟩ := cell_has (n := s.heap.objs.size + 1) k
      refine .inr ⟨.inl k, c, e, ?_⟩
      have q := x.cell y c e
      rw [bindC_get ndP hp hu (by show scope.names.lookup y ≠ _; rw [k]; decide)] at q
      exact q
  · exact e0.hok.fresh (Nat.le_of_lt (x.above y c (PySem.mem_of_lookup h)))
  · unfold start
    show _ = N.length
    rw [List.length_append, List.length_map, List.length_replicate]
    omega

/-- THE RULE: a def (or a method) of the text, by its body. The body's reading t is chosen for each entry; it is run at the parameters' values -/
theorem fn_of {CX : CXT} {P : Program} {w : World} {K : PySem.W.Frag} {mg : Str → Option Value} {base : Heap} {k : Nat} {f : Addr} {name qual : Str} {params : Arguments} {body : List Stmt} {scope : Scope} {dV kV doc pm cdv ct oc : Value} {an od : Option Addr}
    {osl : Array (Option Value)} {N ps : List Str} {sp : Sp} (lk : K.lookup f = some ⟨oc, od, .func (PySem.W.fnOf name qual params body scope dV kV doc pm an cdv ct), osl⟩) (hcd : PySem.W.codeIn K cdv qual = true) (S : FnScope N ps scope)
    (len : ∀ vs H Q E, sp vs H Q E → vs.length = ps.length)
    (hbody : ∀ (A : Around) (outer : List Env) (s : Shared) (H : Hp) (vs : List V) (Q : VK) (E : XK), Room k (A.deeper (envOfC qual scope s.heap.objs.size f cdv)) → sp vs H Q E →
      ∃ t, PSs (cxOf CX P w K mg base N qual scope f cdv A outer s H E) body t ∧ t { nx := fun _ H' => Q .non H', rt := Q } (start N vs) H) :
    FnOk P w K mg base CX (k + 1) f (PySem.W.fnOf name qual params body scope dV kV doc pm an cdv ct) ps sp := by
  refine ⟨len, fun A outer s H args us vs Q E hr e0 hb r hsp => ?_⟩
  have hl := len _ _ _ _ hsp
  have KX : K.In s.heap := e0.mod.kin.keeps fun b o e => (e0.bs b o e).1
  have lim : s.heap.NoLimit := e0.mod.nolimit.keeps fun b o e => (e0.bs b o e).1
  have hkind : ∀ y ∈ ps.zip us, scope.names.lookup y.1 = some .local ∨ (scope.names.lookup y.1 = some .cell ∧ ((cellsFrom (s.heap.objs.size + 1) scope.names []).lookup y.1).isSome = true) := fun ⟨n, v⟩ hy => by
    rcases S.par n (List.of_mem_zip hy).1 with q | q
    · exact .inl q
    · exact .inr ⟨q, PySem.W.cellsFrom_some _ _ _ (.inl q)⟩
  refine codeAny_call_function hr.depth (KX _ _ lk) rfl S.co S.gen rfl (PySem.W.codeRec_of KX hcd) (hb _ _ _ _ ?_)
  refine wpAny_newFunctionEnv_cells S.kind hkind fun env he s1 x => ?_
  subst he
  refine ⟨lim.keeps x.toInCall.keep, codeAny_func ?_⟩
  obtain ⟨t, ht, hq⟩ := hbody A outer s H vs Q E (hr.deeper _) hsp
  have I : Inv (cxOf CX P w K mg base N qual scope f cdv A outer s H E) [] (start N vs) H s1 := inv_start S hr.hd e0 hl r x
  refine wpAny_mono (ht [] s1 (start N vs) H _ I hq) (fun fl s' hs => ?_) fun e s' hs => hs
  have fin : ∀ {σ' : St} {H' : Hp} {v : V} {u : Value}, Inv (cxOf CX P w K mg base N qual scope f cdv A outer s H E) [] σ' H' s' → RelV v u → Q v H' → CE outer P w H s Q u s' :=
    fun {σ' H' v u} J rv q => ⟨v, H', J.os, J.bare, J.base, J.hok, rv, q⟩
  cases fl with
  | ret u =>
    obtain ⟨v, σ', H', J, rv, q⟩ := hs
    exact fin J rv q
  | next =>
    obtain ⟨σ', H', J, q⟩ := hs
    exact fin (v := V.non) (u := Value.none) J rfl q
  | brk =>
    obtain ⟨_, _, _, q⟩ := hs
    exact False.elim q
  | cont =>
    obtain ⟨_, _, _, q⟩ := hs
    exact False.elim q
end L2

namespace L2
open PySem PySem.Spec PyProof.Rows
section
variable {X : Cx} {x : Str} {p pos : Pos} {e : Expr} {es : List Expr} {t : TA} {id T : String} {r : List V → Hp → VK → Prop}

def tCB (r : List V → Hp → VK → Prop) (t : TA) : TE := fun σ H Q => t σ H fun vs H1 => r vs H1 Q
/-- f(e, ..), f a built-in function -/
theorem pe_callB (hc : CallR X (.builtin id) r) (hg : Gl X x) (hm : X.mg x = none) (hv : bootBuiltins x = some (.builtin id)) (ha : PA X (e :: es) t) (hn : x ≠ "__name__" := by decide) (hdb : (x == ("__debug__" : Str)) = false := by decide)
    (he : starEach (e :: es) X.env = (false, eval e X.env) :: starEach es X.env := by rfl) (hpl : (backTo pos (starEach es X.env)).any (·.1) = false := by rfl) : PE X (.Call (.Name x p) (e :: es) [] pos) (tCB r t) := by
  intro pins s σ H Q I h
  refine wpAny_Call_Name_kw (ld_blt I hg hm hv ?_ hn hdb)
  exact PyProof.Rows.callWith_builtin1 (thn (ha pos pins s σ H _ I h) fun us s1 ⟨vs, H1, I1, r1, q1⟩ => hc pins s1 σ H1 vs us Q I1 r1 q1) he hpl
/-- T(e, ..), T a built-in type -/
theorem pe_callTy (hc : CallR X (.type T) r) (hg : Gl X x) (hm : X.mg x = none) (hv : bootBuiltins x = some (.type T)) (ha : PA X (e :: es) t) (hn : x ≠ "__name__" := by decide) (hdb : (x == ("__debug__" : Str)) = false := by decide)
    (he : starEach (e :: es) X.env = (false, eval e X.env) :: starEach es X.env := by rfl) (hpl : (backTo pos (starEach es X.env)).any (·.1) = false := by rfl) : PE X (.Call (.Name x p) (e :: es) [] pos) (tCB r t) := by
  intro pins s σ H Q I h
  refine wpAny_Call_Name_kw (ld_blt I hg hm hv ?_ hn hdb)
  exact PyProof.Rows.callWith_type1 (thn (ha pos pins s σ H _ I h) fun us s1 ⟨vs, H1, I1, r1, q1⟩ => hc pins s1 σ H1 vs us Q I1 r1 q1) he hpl
end
end L2

namespace HT
open PySem PyProof.Rows

section
open PySem.SeqAt
open PySem.AutoSeq1 (wpAny_loadPart')
open PySem.MeetsSeq PySem.MeetsSeq2 PySem.MeetsSeq3

end

section
variable {prog : Program} {w : World} {A : Around} {E : Value → Shared → Prop} {s : Shared}

/-! ### t[a:b], not the whole -/
/-- a slice's bound as a place among n (d where it is left out) -/
def sIx (n d : Nat) : Option Int → Nat
  | none => d
  | some v => if v < 0 then (v + (n : Int)).toNat else min v.toNat n
theorem sIx_none (n d : Nat) : sIx n d none = d := rfl
theorem sIx_nat (n d k : Nat) : sIx n d (some (k : Int)) = min k n := by
  show (if (k : Int) < 0 then ((k : Int) + (n : Int)).toNat else min (k : Int).toNat n) = min k n
  rw [if_neg (by omega), Int.toNat_natCast]
end
end HT

namespace L2
open PySem PySem.Spec PyProof.Rows

/-! ### the parts of a slice -/
abbrev TO := St → Hp → (Option Int → Hp → Prop) → Prop
/-- a slice's part (left out, or an int) -/
def PO (X : Cx) (e : Option Expr) (t : TO) : Prop :=
  ∀ (pins : List (Addr × Obj)) (s : Shared) (σ : St) (H : Hp) (Q : Option Int → Hp → Prop), Inv X pins σ H s → t σ H Q →
    wpAny (model X.prog X.w) X.A (evalPart e X.env) (fun u s' => ∃ o H', Inv X pins σ H' s' ∧ IsPart u o ∧ Q o H') X.xe s
def tNoPart : TO := fun _ H Q => Q none H
def tPart (t : TE) : TO := fun σ H Q => t σ H fun x H1 => ∃ i, x = .int i ∧ Q (some i) H1

section
variable {X : Cx} {e : Expr} {te : TE} {lo hi : Option Expr} {tl th : TO} {pos p2 : Pos}

theorem po_none : PO X none tNoPart := by
  intro pins s σ H Q I h
  rw [evalPart_none]
  exact wpAny_pure ⟨none, H, I, .none, h⟩
theorem po_some (h : PE X e te) : PO X (some e) (tPart te) := by
  intro pins s σ H Q I hw
  rw [evalPart_some]
  refine thn (h pins s σ H _ I hw) fun u s1 ⟨x, H1, I1, r1, q1⟩ => ?_
  obtain ⟨i, rfl, q⟩ := q1
  obtain ⟨t, rfl⟩ := r1
  exact ⟨some i, H1, I1, .int i t, q⟩

/-- what a slice of a value is, by values: the slice object stands at sl -/
def SlR (X : Cx) (r : V → Option Int → Option Int → Hp → VK → Prop) : Prop :=
  ∀ (pins : List (Addr × Obj)) (s : Shared) (σ : St) (H : Hp) (x : V) (v vl vu : Value) (lo hi : Option Int) (sl : Addr) (Q : VK), Inv X pins σ H s → RelV x v → s.heap.IsSliceOf sl vl vu .none → IsPart vl lo → IsPart vu hi → r x lo hi H Q →
    ∃ T id, typeLookup (.type T) "__getitem__" = pure (some (.builtin id)) ∧ s.TypeIs v T ∧ wpAny (model X.prog X.w) X.A (getItem v (.ref sl)) (EP X pins σ Q) X.xe s
def tSl (r : V → Option Int → Option Int → Hp → VK → Prop) (te : TE) (tl th : TO) : TE := fun σ H Q => te σ H fun x H1 => tl σ H1 fun l H2 => th σ H2 fun u H3 => r x l u H3 Q
/-- a[lo:hi], any a -/
theorem pe_slice {r : V → Option Int → Option Int → Hp → VK → Prop} (hr : SlR X r) (he : PE X e te) (hl : PO X lo tl) (hu : PO X hi th) : PE X (.Subscript e (.Slice lo hi none p2) pos) (tSl r te tl th) := by
  intro pins s σ H Q I h
  refine Subscript_ (thn (he pins s σ H _ I h) fun v s1 ⟨x, H1, I1, r1, q1⟩ => ?_)
  refine wpAny_Slice (thn (hl pins s1 σ H1 _ I1 q1) fun vl s2 ⟨l, H2, I2, pl, q2⟩ => thn (hu pins s2 σ H2 _ I2 q2) fun vu s3 ⟨u, H3, I3, pu, q3⟩ => ?_)
  rw [evalPart_none]
  refine wpAny_pure ?_
  have I4 : Inv X pins σ H3 { s3 with heap := s3.heap.push { cls := .type "slice", data := .fields #[vl, vu, .none] } } := I3.kept (t' := s3.toks) fun b ob q => Heap.get?_push_of_some _ q
  obtain ⟨T, id, hT, ht, hg⟩ := hr pins { s3 with heap := s3.heap.push { cls := .type "slice", data := .fields #[vl, vu, .none] } } σ H3 x v vl vu l u s3.heap.objs.size Q I4 r1 (Heap.IsSliceOf.new ..) pl pu q3
  show wpAny (model X.prog X.w) X.A (subscriptTail e (.Slice lo hi none p2) v (.ref s3.heap.objs.size)) (EP X pins σ Q) X.xe { s3 with heap := s3.heap.push { cls := .type "slice", data := .fields #[vl, vu, .none] } }
  exact tail_any (ops := [.ref s3.heap.objs.size, v]) ht hT hg (by with_unfolding_all rfl)

/-- the items of xs[lo:hi] -/
def cutV (xs : List V) (lo hi : Option Int) : List V := (xs.drop (HT.sIx xs.length 0 lo)).take (HT.sIx xs.length xs.length hi - HT.sIx xs.length 0 lo)
theorem cutV_length (xs : List V) (lo hi : Option Int) : (cutV xs lo hi).length ≤ xs.length := by
  unfold cutV
  rw [List.length_take, List.length_drop]
  omega
/-! ### t < u, t + u -/
end
end L2

namespace L2
open PySem PySem.Spec PyProof.Rows

/-! ### places -/
/-- the place that an index of any sign means -/
def ixN (n : Nat) (i : Int) : Option Nat := if 0 ≤ i then (if i < n then some i.toNat else none) else if -(n : Int) ≤ i then some (i + n).toNat else none
def atI {α : Type} (xs : List α) (i : Int) : Option α := (ixN xs.length i).bind fun j => xs[j]?
theorem ixN_seq {n : Nat} {i : Int} {j : Nat} (h : ixN n i = some j) : seqIndex? i n = some j ∧ j < n ∧ -(n : Int) ≤ i ∧ i < n := by
  unfold ixN at h
  by_cases h0 : 0 ≤ i
  · rw [if_pos h0] at h
    by_cases h1 : i < n
    · rw [if_pos h1] at h
      have e : i.toNat = j := Option.some.inj h
      exact ⟨by rw [seqIndex_of h0 h1, e], by omega, by omega, h1⟩
    · rw [if_neg h1] at h; cases h
  · rw [if_neg h0] at h
    by_cases h1 : -(n : Int) ≤ i
    · rw [if_pos h1] at h
      have e : (i + n).toNat = j := Option.some.inj h
      exact ⟨by rw [seqIndex_neg (by omega) h1, e], by omega, h1, by omega⟩
    · rw [if_neg h1] at h; cases h
theorem atI_get {α : Type} {xs : List α} {i : Int} {v : α} (h : atI xs i = some v) : ∃ j, seqIndex? i xs.length = some j ∧ xs[j]? = some v ∧ j < xs.length ∧ -(xs.length : Int) ≤ i ∧ i < xs.length := by
  unfold atI at h
  cases e : ixN xs.length i with
  | none => rw [e] at h; cases h
  | some j =>
    rw [e] at h
    obtain ⟨h1, h2, h3, h4⟩ := ixN_seq e
    exact ⟨j, h1, h, h2, h3, h4⟩
theorem atI_nat {α : Type} {xs : List α} {j : Nat} {v : α} (h : xs[j]? = some v) : atI xs (j : Int) = some v := by
  have hj : j < xs.length := (List.getElem?_eq_some_iff.mp h).1
  have e : ixN xs.length (j : Int) = some j := by
    unfold ixN
    rw [if_pos (by omega), if_pos (by omega)]; simp
  unfold atI; rw [e]; exact h
/-! ### what may be subscripted -/
/-- what stands as an index of a plain subscript -/
def PlainIx (b : Expr) : Prop := ∀ o i, subscripted b false o i = operate [o, i] (getItem o i)
/-- a subscript by values -/
def IxR (X : Cx) (r : R2) : Prop :=
  ∀ (value slice : Expr) (pins : List (Addr × Obj)) (s : Shared) (σ : St) (H : Hp) (x y : V) (v u : Value) (Q : VK), Inv X pins σ H s → RelV x v → RelV y u → r x y H Q →
    subscripted slice false v u = operate [v, u] (getItem v u) → wpAny (model X.prog X.w) X.A (subscriptTail value slice v u) (EP X pins σ Q) X.xe s
/-- a call of a builtin's method by values: the receiver, the arguments -/
def MtR (X : Cx) (id : String) (r : V → List V → Hp → VK → Prop) : Prop :=
  ∀ (pins : List (Addr × Obj)) (s : Shared) (σ : St) (H : Hp) (x : V) (xs : List V) (v : Value) (us : List Value) (Q : VK), Inv X pins σ H s → RelV x v → Vals xs us → r x xs H Q →
    wpAny (model X.prog X.w) X.A (call (.builtin id) (v :: us)) (EP X pins σ Q) X.xe s
section
variable {X : Cx} {a b : Expr} {ta tb : TE} {pos : Pos}
/-- a[b] -/
theorem pe_ix {r : R2} (hr : IxR X r) (ha : PE X a ta) (hb : PE X b tb) (hs : PlainIx b) : PE X (.Subscript a b pos) (tOp r ta tb) := by
  intro pins s σ H Q I h
  exact Subscript_ (binT ha hb I h fun v u s2 x y H2 I2 rx ry q => hr a b pins s2 σ H2 x y v u Q I2 rx ry q (hs _ _))

def rIxL (K : PySem.W.Frag) : R2 := fun x y H Q => ∃ p xs i v, x = .ref p ∧ y = .int i ∧ SqL K H p xs ∧ atI xs i = some v ∧ Q v H
def rIxT (K : PySem.W.Frag) : R2 := fun x y H Q => ∃ p xs i v, x = .ref p ∧ y = .int i ∧ SqT K H p xs ∧ atI xs i = some v ∧ Q v H
def rIxS : R2 := fun x y H Q => ∃ z i c, x = .str z ∧ y = .int i ∧ z.length ≤ sizeLine ∧ atI z.cps.toList i = some c ∧ Q (.str ⟨#[c]⟩) H
theorem ix_list : IxR X (rIxL X.K) := by
  intro value slice pins s σ H x y v u Q I rx ry h hs
  obtain ⟨p, xs, i, z, rfl, rfl, hq, he, q⟩ := h
  cases rx
  obtain ⟨t, rfl⟩ := ry
  obtain ⟨its, r, pl, hz⟩ := I.list hq
  obtain ⟨j, h1, h2, h3, h4, h5⟩ := atI_get he
  obtain ⟨w, ew, rw'⟩ := r.get h2
  have hl := r.length
  have hn := line63
  have fin : EP X pins σ Q w s := ⟨z, H, I, rw', q⟩
  by_cases h0 : 0 ≤ i
  · have hj : i.toNat = j := by
      rw [seqIndex_of h0 h5] at h1
      exact Option.some.inj h1
    exact item_listR pl.isList h0 (by omega) (by rw [hj]; simpa using ew) fin hs
  · have hj : (i + (its.toArray.size : Int)).toNat = j := by
      rw [seqIndex_neg (by omega) h4] at h1
      rw [List.size_toArray, ← hl]
      exact Option.some.inj h1
    exact subscriptTail_builtinR (x := w) pl.isList.typeIs slot_list_getitem.lookup
      (wpAny_getItem_list_neg (Q := fun r s' => r = w ∧ EP X pins σ Q r s') pl.isList (by omega) (by rw [List.size_toArray] <;> omega) (by omega) (by rw [hj]; simpa using ew) ⟨rfl, fin⟩) hs
theorem ix_tup : IxR X (rIxT X.K) := by
  intro value slice pins s σ H x y v u Q I rx ry h hs
  obtain ⟨p, xs, i, z, rfl, rfl, hq, he, q⟩ := h
  cases rx
  obtain ⟨t, rfl⟩ := ry
  obtain ⟨its, r, pl, hz⟩ := I.tuple hq
  obtain ⟨j, h1, h2, h3, h4, h5⟩ := atI_get he
  obtain ⟨w, ew, rw'⟩ := r.get h2
  have hl := r.length
  have hn := line63
  have fin : EP X pins σ Q w s := ⟨z, H, I, rw', q⟩
  exact subscriptTail_builtinR (x := w) pl.typeIs slot_tuple_getitem.lookup
    (getItem_tuple (j := j) (Q := fun r s' => r = w ∧ EP X pins σ Q r s') pl (by omega) (by omega) (by rw [List.size_toArray, ← hl]; exact h1) (by simpa using ew) ⟨rfl, fin⟩) hs
theorem ix_str : IxR X rIxS := by
  intro value slice pins s σ H x y v u Q I rx ry h hs
  obtain ⟨z, i, c, rfl, rfl, hz, he, q⟩ := h
  obtain ⟨t, rfl⟩ := rx
  obtain ⟨t', rfl⟩ := ry
  obtain ⟨j, h1, h2, h3, h4, h5⟩ := atI_get he
  have hl : z.cps.toList.length = z.length := by simp [Str.length]
  rw [hl] at h1 h4 h5
  have hn := line63
  exact tail_any (typeIs_str s z t) slot_str_getitem.lookup (getItem_str (c := c) (by
    have e1 : decide (i < -(2 ^ 63 : Int)) = false := decide_eq_false (by omega)
    have e2 : decide (i ≥ 2 ^ 63) = false := decide_eq_false (by omega)
    rw [e1, e2, Bool.or_false]) (by rw [h1]; simpa using h2) ⟨.str ⟨#[c]⟩, H, I.tok _, ⟨_, rfl⟩, q⟩) hs
/-! ### xs[i] = v, any sign -/
/-- the list's object behind a store -/
theorem mapSeq_set (its : List Value) (n j : Nat) (u : Value) : Obj.mapSeq (·.setIfInBounds j u) { cls := .type "list", data := .seq its.toArray n } = { cls := .type "list", data := .seq (its.set j u).toArray n } := by
  simp [Obj.mapSeq]
theorem Inv.lst {pins : List (Addr × Obj)} {σ : St} {H : Hp} {s : Shared} {p : Addr} {xs : List V} (I : Inv X pins σ H s) (h : H p = some (.lst xs)) :
    ∃ (its : List Value) (n : Nat), Vals xs its ∧ s.heap.get? p = some { cls := .type "list", data := .seq its.toArray n } ∧ xs.length ≤ sizeLine := by
  obtain ⟨z, its, n, r, e⟩ := I.hok p _ h
  exact ⟨its, n, r, e, z⟩
/-- the list at p is written by an update of its object -/
theorem Inv.lstUpd {pins : List (Addr × Obj)} {σ : St} {H : Hp} {s : Shared} {p : Addr} {xs ys : List V} {its its' : List Value} {n n' : Nat} {f : Obj → Obj} (I : Inv X pins σ H s) (h : H p = some (.lst xs))
    (ho : s.heap.get? p = some { cls := .type "list", data := .seq its.toArray n }) (hf : f { cls := .type "list", data := .seq its.toArray n } = { cls := .type "list", data := .seq its'.toArray n' }) (r : Vals ys its') (hz : ys.length ≤ sizeLine) (t : Nat) :
    Inv X pins σ (upd H p (.lst ys)) { s with heap := s.heap.update p f, toks := t } := by
  have e : (s.heap.update p f).get? p = some { cls := .type "list", data := .seq its'.toArray n' } := by
    rw [Heap.get?_update_self f ho (by rw [hf] <;> rfl), hf]
  refine I.write (x := p) (e := p) (by rw [h]; trivial) (.inl rfl) (fun b u hb q => (Heap.get?_update_other _ _ (Ne.symm hb)).trans q) ⟨_, e⟩ ?_
  exact ⟨hz, its', n', r, e⟩
def rSetL : V → V → V → Hp → (Hp → Prop) → Prop := fun o i v H Q => ∃ p xs k j, o = .ref p ∧ i = .int k ∧ H p = some (.lst xs) ∧ ixN xs.length k = some j ∧ Q (upd H p (.lst (xs.set j v)))
theorem set_list : PSet X rSetL := by
  intro pins s σ H o i v ov iv u Q I ro ri rv h
  obtain ⟨p, xs, k, j, rfl, rfl, hp, hj, q⟩ := h
  cases ro
  obtain ⟨t, rfl⟩ := ri
  obtain ⟨its, n, r, ho, hz⟩ := I.lst hp
  obtain ⟨h1, h2, h3, h4⟩ := ixN_seq hj
  have hl := r.length
  have hn := line63
  have I' : Inv X pins σ (upd H p (.lst (xs.set j v))) { s with heap := s.heap.update p (Obj.mapSeq (·.setIfInBounds j u)) } :=
    I.lstUpd hp ho (mapSeq_set its n j u) (r.set rv j) (by rw [List.length_set]; exact hz) s.toks
  by_cases h0 : 0 ≤ k
  · have hk : k.toNat = j := by
      rw [seqIndex_of h0 h4] at h1
      exact Option.some.inj h1
    exact PySem.W.ki_setAt ho h0 (by omega) (by rw [List.size_toArray, ← hl]; exact h4) (by rw [hk]; exact ⟨_, I', q⟩)
  · have hk : (k + (its.toArray.size : Int)).toNat = j := by
      rw [seqIndex_neg (by omega) h3] at h1
      rw [List.size_toArray, ← hl]
      exact Option.some.inj h1
    exact PySem.W.ki_setBack ho (by omega) (by rw [List.size_toArray, ← hl]; exact h3) (by omega) (by rw [hk]; exact ⟨_, I', q⟩)

/-! ### slices -/
theorem slice_bounds (lo hi : Option Int) (n : Nat) : (sliceBounds lo hi none n).1 = ((HT.sIx n 0 lo : Nat) : Int) ∧ (sliceBounds lo hi none n).2.1 = ((HT.sIx n n hi : Nat) : Int) ∧ (sliceBounds lo hi none n).2.2 = 1 := by
  refine ⟨?_, ?_, rfl⟩
  · cases lo with
    | none => simp [sliceBounds, HT.sIx]
    | some i =>
      simp only [sliceBounds, HT.sIx, Option.getD_none, show (1 : Int) > 0 by decide, if_true]
      by_cases h : i < 0
      · simp only [h, if_true] <;> omega
      · simp only [h, if_false] <;> omega
  · cases hi with
    | none => simp [sliceBounds, HT.sIx]
    | some i =>
      simp only [sliceBounds, HT.sIx, Option.getD_none, show (1 : Int) > 0 by decide, if_true]
      by_cases h : i < 0
      · simp only [h, if_true] <;> omega
      · simp only [h, if_false] <;> omega
theorem slicePick_cut (its : List Value) (lo hi : Option Int) : slicePick its.toArray lo hi none = ((its.drop (HT.sIx its.length 0 lo)).take (HT.sIx its.length its.length hi - HT.sIx its.length 0 lo)).toArray := by
  obtain ⟨h1, h2, h3⟩ := slice_bounds lo hi its.toArray.size
  unfold slicePick
  rw [h1, h2, h3]
  simp only [sliceRange_one, pick_run, List.size_toArray] <;> rfl
/-- xs[lo:hi] of a list: a new list -/
def rSlL (K : PySem.W.Frag) : V → Option Int → Option Int → Hp → VK → Prop := fun x lo hi H Q => ∃ a xs, x = .ref a ∧ SqL K H a xs ∧ ∀ p, H p = none → Q (.ref p) (upd H p (.lst (cutV xs lo hi)))
theorem sl_list : SlR X (rSlL X.K) := by
  intro pins s σ H x v vl vu lo hi sl Q I rx hs pl pu h
  obtain ⟨a, xs, rfl, hx, q⟩ := h
  cases rx
  obtain ⟨its, r, ht, hz⟩ := I.list hx
  have hlen := r.length
  refine ⟨"list", _, slot_list_getitem.lookup, ht.isList.typeIs, ?_⟩
  refine wpAny_getItem_list_slice ht.isList hs pl pu .none (by simp) ?_ (by rw [List.size_toArray] <;> omega)
  rw [slicePick_cut, ← hlen]
  refine ⟨.ref s.heap.objs.size, _, I.laid (t' := s.toks) (o := .lst (cutV xs lo hi)) (fun b ob q => Heap.get?_push_of_some _ q) (Nat.le_refl _) ?_, rfl, q _ (I.hok.fresh (Nat.le_refl _))⟩
  exact ⟨Nat.le_trans (cutV_length xs lo hi) hz, _, 0, (r.drop (HT.sIx xs.length 0 lo)).take (HT.sIx xs.length xs.length hi - HT.sIx xs.length 0 lo), Heap.get?_push_size _ rfl⟩

/-! ### in, not in: flat items -/
def flatV : V → Bool
  | .non => true
  | .bl _ => true
  | .int _ => true
  | .str _ => true
  | _ => false
/-- == of flat values -/
def eqV : V → V → Bool
  | .non, .non => true
  | .bl a, .bl b => a == b
  | .bl a, .int b => (if a then 1 else 0) == b
  | .int a, .bl b => a == (if b then 1 else 0)
  | .int a, .int b => a == b
  | .str a, .str b => a == b
  | _, _ => false
theorem eqAt_V {A : Around} {s : Shared} {y x : V} {u v : Value} (ry : RelV y u) (rx : RelV x v) (fy : flatV y = true) (fx : flatV x = true) : SeqAt.EqAt A s u v (eqV y x) := by
  cases y with
  | non =>
    cases ry
    cases x with
    | non => cases rx; exact SeqAt.EqAt.same _
    | bl b => cases rx; exact SeqAt.EqAt.none_bool b
    | int b => obtain ⟨t, rfl⟩ := rx; exact SeqAt.EqAt.none_int b t
    | str b => obtain ⟨t, rfl⟩ := rx; exact SeqAt.EqAt.none_str b t
    | _ => exact absurd (show false = true from fx) Bool.false_ne_true
  | bl a =>
    cases ry
    cases x with
    | non => cases rx; exact SeqAt.EqAt.bool_none a
    | bl b => cases rx; exact SeqAt.EqAt.bool_bool a b
    | int b => obtain ⟨t, rfl⟩ := rx; exact SeqAt.EqAt.bool_int a b t
    | str b => obtain ⟨t, rfl⟩ := rx; exact SeqAt.EqAt.bool_str a b t
    | _ => exact absurd (show false = true from fx) Bool.false_ne_true
  | int a =>
    obtain ⟨t', rfl⟩ := ry
    cases x with
    | non => cases rx; exact SeqAt.EqAt.int_none a t'
    | bl b => cases rx; exact SeqAt.EqAt.int_bool a t' b
    | int b => obtain ⟨t, rfl⟩ := rx; exact SeqAt.EqAt.int_int a t' b t
    | str b => obtain ⟨t, rfl⟩ := rx; exact SeqAt.EqAt.int_str a t' b t
    | _ => exact absurd (show false = true from fx) Bool.false_ne_true
  | str a =>
    obtain ⟨t', rfl⟩ := ry
    cases x with
    | non => cases rx; exact SeqAt.EqAt.str_none a t'
    | bl b => cases rx; exact SeqAt.EqAt.str_bool a t' b
    | int b => obtain ⟨t, rfl⟩ := rx; exact SeqAt.EqAt.str_int a t' b t
    | str b => obtain ⟨t, rfl⟩ := rx; exact SeqAt.EqAt.str_str a t' b t
    | _ => exact absurd (show false = true from fx) Bool.false_ne_true
  | _ => exact absurd (show false = true from fy) Bool.false_ne_true
/-- the items' answers, read off the values (a value's own answer does not lean on its token) -/
def eqU (x : V) (u : Value) : Bool := match u with
  | .none => eqV .non x
  | .bool b => eqV (.bl b) x
  | .int i _ => eqV (.int i) x
  | .str z _ => eqV (.str z) x
  | _ => false
theorem eqU_of {x y : V} {u : Value} (r : RelV y u) (f : flatV y = true) : eqU x u = eqV y x := by
  cases y with
  | non => cases r; rfl
  | bl b => cases r; rfl
  | int i => obtain ⟨t, rfl⟩ := r; rfl
  | str z => obtain ⟨t, rfl⟩ := r; rfl
  | _ => exact absurd (show false = true from f) Bool.false_ne_true
theorem any_eqU {x : V} : ∀ {xs : List V} {us : List Value}, Vals xs us → xs.all flatV = true → us.any (eqU x) = xs.any fun y => eqV y x
  | _, _, .nil, _ => rfl
  | y :: xs, u :: us, .cons r t, f => by
    rw [List.all_cons, Bool.and_eq_true] at f
    rw [List.any_cons, List.any_cons, eqU_of r f.1, any_eqU t f.2]
theorem mem_eqAt {A : Around} {s : Shared} {x : V} {v : Value} (rx : RelV x v) (fx : flatV x = true) : ∀ {xs : List V} {us : List Value}, Vals xs us → xs.all flatV = true → ∀ u ∈ us, SeqAt.EqAt A s u v (eqU x u)
  | _, _, .nil, _ => fun u hu => by cases hu
  | y :: xs, u :: us, .cons r t, f => fun u' hu => by
    rw [List.all_cons, Bool.and_eq_true] at f
    rcases List.mem_cons.mp hu with rfl | hu
    · rw [eqU_of r f.1]; exact eqAt_V r rx f.1 fx
    · exact mem_eqAt rx fx t f.2 u' hu
def inV (x : V) (xs : List V) : Bool := xs.any fun y => eqV y x
/-- x in a list or tuple of flat items -/
def rIn (K : PySem.W.Frag) (neg : Bool) : R2 := fun x y H Q => ∃ p xs, y = .ref p ∧ (SqL K H p xs ∨ SqT K H p xs) ∧ flatV x = true ∧ xs.all flatV = true ∧ Q (.bl (if neg then !inV x xs else inV x xs)) H
theorem op_in_seq : OpR X (compareOp .In) (rIn X.K false) := by
  intro pins s σ H x y v u Q I rx ry h
  obtain ⟨p, xs, rfl, hq, fx, fs, q⟩ := h
  cases ry
  rcases hq with hq | hq
  · obtain ⟨its, r, pl, hz⟩ := I.list hq
    refine SeqAt.in_listAt (eqU x) pl.isList (fun w hw => mem_eqAt rx fx r fs w (by simpa using hw)) ⟨.bl _, H, I, rfl, ?_⟩
    rw [show its.toArray.any (eqU x) = its.any (eqU x) by simp, any_eqU r fs]
    exact q
  · obtain ⟨its, r, pl, hz⟩ := I.tuple hq
    refine SeqAt.in_tupleAt (eqU x) pl (fun w hw => mem_eqAt rx fx r fs w (by simpa using hw)) ⟨.bl _, H, I, rfl, ?_⟩
    rw [show its.toArray.any (eqU x) = its.any (eqU x) by simp, any_eqU r fs]
    exact q
/-! ### len, list(x), tuple(x) of any list or tuple that is read -/
theorem call_len_seq : CallR X (.builtin "len") (fun xs H Q => ∃ p ys, xs = [.ref p] ∧ (SqL X.K H p ys ∨ SqT X.K H p ys) ∧ Q (.int ys.length) H) := by
  intro pins s σ H xs us Q I r h
  obtain ⟨p, ys, rfl, hq, q⟩ := h
  obtain ⟨u, rfl, rx⟩ := vals1 r
  cases rx
  have hn := line63
  rcases hq with hq | hq
  · obtain ⟨its, r', pl, hz⟩ := I.list hq
    have hlen := r'.length
    exact Calls.call_len_list pl.isList (by simp only [List.size_toArray] <;> omega) ⟨.int ys.length, H, I.tok _, ⟨s.toks + 1, by rw [List.size_toArray, hlen]⟩, q⟩
  · obtain ⟨its, r', pl, hz⟩ := I.tuple hq
    have hlen := r'.length
    exact len_tuple pl (by simp only [List.size_toArray] <;> omega) ⟨.int ys.length, H, I.tok _, ⟨s.toks + 1, by rw [List.size_toArray, hlen]⟩, q⟩
theorem call_list_of : CallR X (.type "list") (fun xs H Q => ∃ p ys, xs = [.ref p] ∧ (SqL X.K H p ys ∨ SqT X.K H p ys) ∧ ∀ l, H l = none → Q (.ref l) (upd H l (.lst ys))) := by
  intro pins s σ H xs us Q I r h
  obtain ⟨p, ys, rfl, hq, q⟩ := h
  obtain ⟨u, rfl, rx⟩ := vals1 r
  cases rx
  have fin : ∀ (its : List Value), Vals ys its → ys.length ≤ sizeLine → ∀ (h' : Heap) (c' : Nat), (∀ b o', s.heap.get? b = some o' → h'.get? b = some o') →
      h'.get? s.heap.objs.size = some { cls := .type "list", dict := none, data := .seq its.toArray c', slots := #[] } → EP X pins σ Q (.ref s.heap.objs.size) { s with heap := h' } := fun its r' hz h' c' kp e =>
    ⟨.ref s.heap.objs.size, _, I.laid (t' := s.toks) kp (Nat.le_refl _) (show ObjOk X.prog X.w _ h' _ (.lst ys) from ⟨hz, its, c', r', e⟩), rfl, q _ (I.hok.fresh (Nat.le_refl _))⟩
  rcases hq with hq | hq
  · obtain ⟨its, r', pl, hz⟩ := I.list hq
    have hlen := r'.length
    obtain ⟨o, ho, hc, n, hd⟩ := pl.isList
    exact call_list_seq p (.inl rfl) ho hc hd (fun h' c' kp e => fin its r' hz h' c' kp e) (by simp only [List.size_toArray] <;> omega)
  · obtain ⟨its, r', pl, hz⟩ := I.tuple hq
    have hlen := r'.length
    obtain ⟨o, ho, hc, n, hd⟩ := pl
    exact call_list_seq p (.inr rfl) ho hc hd (fun h' c' kp e => fin its r' hz h' c' kp e) (by simp only [List.size_toArray] <;> omega)
/-! ### the call of a builtin's method: o.m(..) -/
/-- the value is of that builtin type -/
def tyV (K : PySem.W.Frag) (T : String) (x : V) (H : Hp) : Prop := match x with
  | .str _ => T = "str"
  | .int _ => T = "int"
  | .ref p => (T = "list" ∧ ∃ xs, SqL K H p xs) ∨ (T = "tuple" ∧ ∃ o, K.lookup p = some o ∧ o.cls = .type "tuple" ∧ o.dict = none) ∨
      (T = "dict" ∧ ((∃ kvs, H p = some (.dK kvs)) ∨ ∃ kvs, H p = some (.dT kvs))) ∨ (T = "set" ∧ ∃ S n, H p = some (.set S n))
  | _ => False
theorem tyV_is {pins : List (Addr × Obj)} {σ : St} {H : Hp} {s : Shared} {T : String} {x : V} {v : Value} (I : Inv X pins σ H s) (r : RelV x v) (ty : tyV X.K T x H) :
    s.TypeIs v T ∧ ∀ a, v = .ref a → ∃ ob, s.heap.get? a = some ob ∧ ob.dict = none := by
  cases x with
  | str z =>
    obtain ⟨t, rfl⟩ := r
    cases (show T = "str" from ty)
    exact ⟨typeIs_str s z t, fun _ e => nomatch e⟩
  | int i =>
    obtain ⟨t, rfl⟩ := r
    cases (show T = "int" from ty)
    exact ⟨typeIs_int s i t, fun _ e => nomatch e⟩
  | ref p =>
    cases r
    rcases ty with ⟨rfl, xs, hq⟩ | ⟨rfl, o, hk, hc, hd⟩ | ⟨rfl, hk⟩ | ⟨rfl, S, n, hk⟩
    · obtain ⟨its, _, pl, _⟩ := I.list hq
      refine ⟨pl.isList.typeIs, fun a e => ?_⟩
      cases e
      obtain ⟨o, n, e, c, hd, _⟩ := pl
      exact ⟨o, e, hd⟩
    · refine ⟨⟨o, I.kIn p o hk, hc⟩, fun a e => ?_⟩
      cases e
      exact ⟨o, I.kIn _ o hk, hd⟩
    · have z : ∃ o, s.heap.get? p = some o ∧ o.ExactDict := by
        rcases hk with ⟨kvs, hk⟩ | ⟨kvs, hk⟩
        · obtain ⟨_, _, _, _, o, _, _, e, ex, _⟩ := I.hok p _ hk
          exact ⟨o, e, ex⟩
        · obtain ⟨_, _, _, _, o, _, _, e, ex, _⟩ := I.hok p _ hk
          exact ⟨o, e, ex⟩
      obtain ⟨o, e, ex⟩ := z
      refine ⟨⟨o, e, ex.1⟩, fun a e2 => ?_⟩
      cases e2
      exact ⟨o, e, ex.2.1⟩
    · obtain ⟨o, _, _, _, e, ex, _⟩ := I.hok p _ hk
      refine ⟨⟨o, e, ex.1⟩, fun a e2 => ?_⟩
      cases e2
      exact ⟨o, e, ex.2.1⟩
  | _ => exact False.elim ty
def tBM (K : PySem.W.Frag) (T : String) (r : V → List V → Hp → VK → Prop) (to : TE) (t : TA) : TE := fun σ H Q => to σ H fun x H1 => tyV K T x H1 ∧ t σ H1 fun xs H2 => r x xs H2 Q
variable {o e : Expr} {es : List Expr} {to : TE} {t : TA} {name : Str} {apos cpos : Pos} {T id : String} {r : V → List V → Hp → VK → Prop}
theorem pe_bm (pa : PlainAttrs T) (slot : Slot T name id) (hty : typeOf (.builtin id) = pure (.type "method_descriptor")) (hm : MtR X id r) (ho : PE X o to) (ha : PA X (e :: es) t)
    (hbase : attributeBase o name X.env (eval o X.env) = eval o X.env := by rfl)
    (hfew : ((backTo cpos (starEach (e :: es) X.env)).all (fun x => !x.1) && (backToKw cpos (keywordEach [] X.env)).all (fun x => x.1.isSome)
      && decide ((e :: es).length + ([] : List Keyword).length + (if ([] : List Keyword).isEmpty then 0 else 1) < 30)) = true := by rfl)
    (hline : (apos.endLine == cpos.line) = true := by rfl) (hs : starEach (e :: es) X.env = (false, eval e X.env) :: starEach es X.env := by rfl) (hplain : (backTo cpos (starEach es X.env)).any (·.1) = false := by rfl) :
    PE X (.Call (.Attribute o name apos) (e :: es) [] cpos) (tBM X.K T r to t) := by
  intro pins s σ H Q I h
  refine wpAny_Call_method_late hbase hfew hline rfl (thn (ho pins s σ H _ I h) fun v s1 ⟨x, H1, I1, r1, ty, q1⟩ => ?_)
  obtain ⟨h1, h2⟩ := tyV_is I1 r1 ty
  refine ⟨T, id, pa, slot, hty, h1, h2, ?_⟩
  have hA := ha cpos pins s1 σ H1 _ I1 q1
  rw [hs] at hA ⊢
  refine Calls.callWith_builtin (by show (false || (backTo cpos (starEach es X.env)).any (·.1)) = false; rw [hplain] <;> rfl) (Calls.evalArgs_plain ?_)
  exact thn hA fun us s2 ⟨vs, H2, I2, r2, q2⟩ => hm pins s2 σ H2 x vs v us Q I2 r1 r2 q2
/- xs.append(e), list.index on a module's tuple .. are MtR facts of 06m -/
end
end L2

namespace L2
open PySem PySem.Spec PyProof.Rows

def MtM (X : Cx) (id : String) (r : V → List V → Hp → VK → Prop) : Prop :=
  ∀ (pins : List (Addr × Obj)) (s : Shared) (σ : St) (H : Hp) (x : V) (xs : List V) (v : Value) (us : List Value) (Q : VK), Inv X pins σ H s → RelV x v → Vals xs us → r x xs H Q →
    wpAny (model X.prog X.w) X.A (call (.builtin id) (v :: us)) (EP X pins σ Q) X.xe s

/-! ### lists of values -/
theorem Vals.one : ∀ {x : V} {us : List Value}, Vals [x] us → ∃ u, us = [u] ∧ RelV x u
  | _, _, .cons r .nil => ⟨_, rfl, r⟩
section
variable {X : Cx} {pins : List (Addr × Obj)} {σ : St} {H : Hp} {s : Shared} {l b : Addr} {xs ys zs : List V}

/-! ### the two steps: a tracked list is rewritten, a new list is laid -/
theorem Inv.lset {its its' : List Value} {n : Nat} {f : Array Value → Array Value} {t' : Nat} (I : Inv X pins σ H s) (hH : H l = some (.lst xs))
    (e : s.heap.get? l = some { cls := .type "list", data := .seq its.toArray n }) (hf : f its.toArray = its'.toArray) (hv : Vals ys its') (hz : ys.length ≤ sizeLine) :
    Inv X pins σ (upd H l (.lst ys)) { s with heap := s.heap.update l (Obj.mapSeq f), toks := t' } := by
  have q := PySem.IsL.update e f
  rw [hf] at q
  refine I.write (x := l) (e := l) (by rw [hH]; exact trivial) (.inl rfl) (fun b' u hb hu => (Heap.get?_update_other s.heap (Obj.mapSeq f) (Ne.symm hb)).trans hu) ⟨_, q⟩ ?_
  exact ⟨hz, its', _, hv, q⟩
theorem Inv.fresh (I : Inv X pins σ H s) : H s.heap.objs.size = none := I.hok.fresh (Nat.le_refl _)
theorem Inv.lstM (I : Inv X pins σ H s) (hH : H l = some (.lst xs)) : xs.length ≤ sizeLine ∧ ∃ (its : List Value) (n : Nat), Vals xs its ∧ xs.length = its.length ∧ s.heap.get? l = some { cls := .type "list", data := .seq its.toArray n } := by
  obtain ⟨z, its, n, r, e⟩ := I.hok l _ hH
  exact ⟨z, its, n, r, r.length, e⟩

end

section
variable {X : Cx}

/-! ### methods -/
def rAppend : V → List V → Hp → VK → Prop := fun x vs H Q => ∃ l xs y, x = .ref l ∧ vs = [y] ∧ H l = some (.lst xs) ∧ xs.length < sizeLine ∧ Q .non (upd H l (.lst (xs ++ [y])))
theorem mt_append : MtM X "list.append" rAppend := by
  intro pins s σ H x vs v us Q I rx rv h
  obtain ⟨l, xs, y, rfl, rfl, hH, hz, q⟩ := h
  cases rx
  obtain ⟨u, rfl, ru⟩ := rv.one
  obtain ⟨z, its, n, r, hl, e⟩ := I.lstM hH
  refine call_meets F.slot_list_append ⟨_, e, rfl⟩ F.entry_list_append (F.args_list_append_2 _ _) (PySem.list_append l its.toArray n u (by rw [List.size_toArray]; omega)) ⟨e, ?_⟩
  refine ⟨.non, _, I.lset (its' := its ++ [u]) hH e (by simp) (r.append (.cons ru .nil)) ?_, rfl, q⟩
  rw [List.length_append, List.length_singleton]
  omega

/-! ### list + list, list += list, list * int -/
/-! ### del xs[i] -/
end

/-! ### xs[a:b] = ys -/
section
variable {prog : Program} {w : World} {A : Around} {E : Value → Shared → Prop} {s : Shared}
set_option maxRecDepth 100000 in
end

section
variable {X : Cx}
end
end L2

namespace Att
open PySem PySem.W PySem.Calls PyProof.Rows

/-! ### the script -/
theorem ints_of_wellAll {P : Params} {h : Heap} : ∀ (ns : List Int) (vs : List Value), WellAll P h vs (ns.map WData.int) → IntsAre vs ns := by
  intro ns
  induction ns with
  | nil =>
    intro vs w
    rw [List.map_nil] at w
    cases w
    exact .nil
  | cons n ns ih =>
    intro vs w
    rw [List.map_cons] at w
    cases w with
    | cons a b =>
      cases a
      exact .cons _ _ (ih _ b)

theorem script_of {l : OpenLaw} {n : Nat} (hn : l.most = some n) {P : Params} {h : Heap} {args : List WData} {vals : List Value}
    (hpre : l.row.toRowW.claim.pre args = true) (hwl : WellAll P h vals args) :
    ∃ a vs ns, vals = [Value.ref a] ∧ args = [WData.list (ns.map WData.int)] ∧ h.get? a = some { cls := .type "list", data := .seq vs.toArray } ∧ IntsAre vs ns ∧ ns.length ≤ n := by
  have hsh : WShape.hasAll [] args [.list .int] = true := (pre_splitW hpre).1
  have hc : l.pre.holds [] { args := args } = true := (pre_splitW hpre).2
  obtain ⟨d, r, rfl, h1, h2⟩ := hasAllW_cons hsh
  obtain rfl := hasAllW_nil h2
  obtain ⟨xs, rfl, h3⟩ := hasW_list h1
  obtain ⟨ns, rfl⟩ := items_int h3
  have hlen : ns.length ≤ n := by
    unfold OpenLaw.pre at hc
    have h4 : (WTm.not (.lt (.lit (.int (n : Int))) (.len (.arg 0)))).holds [] { args := [.list (ns.map .int)] } = true := by
      have h4 := (holds_andW hc).1
      rw [hn] at h4
      exact h4
    have h5 := condW_of h4 (w_not (w_lt w_lit (w_len_list (w_arg rfl))))
    rw [List.length_map] at h5
    refine Nat.le_of_not_lt fun q => ?_
    have q' : (n : Int) < ((ns.length : Nat) : Int) := by omega
    first
      | (rw [decide_eq_true q'] at h5; exact absurd h5 (by decide))
      | (simp at h5; omega)
  cases hwl with
  | cons w1 w2 =>
    cases w2
    cases w1 with
    | list ho hall => exact ⟨_, _, ns, rfl, rfl, ho, ints_of_wellAll ns _ hall, hlen⟩

theorem post_true (l : OpenLaw) (args : List WData) : l.row.toRowW.claim.post args (.bool true) args = true :=
  postW_of (r := l.row.toRowW) (X := (true == true))
    (show WShape.has [] (.bool true) .bool = true by first | rfl | decide | simp [WShape.has, WShape.arms, WShape.armsAll])
    (show (WTm.eq .res (.lit (.bool true))).value [] { args := args, res := some (.bool true), after := args } = some (.bool (true == true)) from w_eq_bool (w_res rfl) w_lit) rfl

/-! ### the attachment: holds_open's last premise (the goal 'hc' behind k_head) from a wpAny of the law's body -/
/-- the same from a codeAny of the CALL (for a layer whose function contracts speak of calls) -/
theorem attach_call {l : OpenLaw} {n : Nat} {q : Program} {loose : List Str} {XP : (Str → Option Value) → Heap → Prop} {YP : World → Heap → Prop} {d : DefRec}
    (hn : l.most = some n) (hdf : d.params.defaults = [])
    (call : ∀ (w : World) (s₀ s₁ : Shared) (mg mb : Str → Option Value) (fa : Addr) (o : Obj) (pm cd doc : Value) (a : Addr) (vs : List Value) (ns : List Int),
      Ground q loose [] XP w s₀ mg mb s₁.heap → YP w s₁.heap →
      s₁.heap.get? fa = some o → o.data = .func (docDef d.name d.params d.body d.scope pm cd doc) → s₁.heap.CodeRec cd d.name → mg d.name = some (.ref fa) →
      s₁.heap.get? a = some { cls := .type "list", data := .seq vs.toArray } → IntsAre vs ns → ns.length ≤ n → s₁.gens = #[] →
      codeAny (model l.prog w) callerA (.call (.ref fa) ⟨[.ref a], []⟩) (fun r s' => r = .ok (.ret (.bool true)) ∧ OldK s₁.heap s'.heap ∧ s'.os = s₁.os ∧ AllBare s'.gens) s₁) :
    WalkO q loose XP YP l.row.toRowW d [] (fun f vs => PySem.call f vs) := by
  intro w s₀ s₁ mg mb G Y fa o pm cd doc dV kV ho hd hcd hD hmg hg args vals as hpre hlay hrd hwl hlo
  obtain rfl : dV = .none := Dflts.none hD hdf
  obtain rfl : kV = .none := Dflts.noKw hD
  obtain ⟨a, vs, ns, rfl, rfl, hobj, hints, hlen⟩ := script_of hn hpre hwl
  refine enter_call (codeAny_mono (call w s₀ s₁ mg mb fa o pm cd doc a vs ns G Y ho (fd_plain hd) hcd hmg hobj hints hlen hg) fun r s' hq => ?_)
  obtain ⟨rfl, h2, h3, h4⟩ := hq
  exact ⟨.inl ⟨.bool true, .bool true, [], rfl, fun _ => rfl, .bool true, post_true l _, fun _ => ⟨List.Pairwise.nil, fun _ hm => (nomatch hm)⟩⟩, h2, h3, h4⟩

/-! ### rules over ANY heap (no ledger) from facts about the written part K: the library's own take a ledger (News) for what they write -/
section
variable {prog : Program} {w : World} {A : Around} {E : Value → Shared → Prop} {s : Shared} {K : Frag}

/-! the whole heap as the ledger: makes every rule that writes through a ledger a rule over any heap -/
end
end Att

namespace L2
open PySem PySem.Spec PyProof.Rows

theorem vals_ints : ∀ {vs : List Value} {ns : List Int}, IntsAre vs ns → Vals (ns.map V.int) vs
  | _, _, .nil => .nil
  | _, _, .cons n t h => .cons ⟨t, rfl⟩ (vals_ints h)

/-- nothing is tracked but the script, known to the object (or it is an object of the module) -/
def Only (H : Hp) : Prop := ∀ b, H b = none ∨ ∃ o xs, H b = some (.frz o (.lst xs))

/-- THE HEAD: the law's promise, at the heap behind the top. F, the promise of the law's def, may use that base is part of the heap (so K.In base, base.Ns mainGlobals mg stand in Mod) -/
theorem law_call {P : Program} {w : World} {K : PySem.W.Frag} {mg mb : Str → Option Value} {CX : CXT} {k : Nat} {fa a : Addr} {fd : FuncData} {x : Str} {sp : Sp} {s₁ : Shared} {vs : List Value} {ns : List Int}
    (KX : K.In s₁.heap) (hns : s₁.heap.Ns mainGlobals mg) (hb : s₁.heap.Ns builtinsNs mb) (hbb : ∀ x : Str, x ≠ "__name__" → mb x = bootBuiltins x) (hlim : s₁.heap.NoLimit) (hg : s₁.gens = #[])
    (ha : s₁.heap.get? a = some { cls := .type "list", data := .seq vs.toArray }) (hi : IntsAre vs ns) (hl : ns.length ≤ sizeLine) (hr : Room k callerA)
    (F : ∀ base : Heap, K.In base → base.Ns mainGlobals mg → FnOk P w K mg base CX k fa fd [x] sp) (hbind : ∀ (s : Shared) (u : Value), BindsTo s fd ⟨[u], []⟩ [(x, u)])
    (hsp : ∀ H : Hp, Only H → SqL K H a (ns.map V.int) → sp [.ref a] H (fun v _ => v = .bl true) fun _ _ _ => False)
    (hCX : ∀ H e s', CX [] H s₁ (fun _ _ _ => False) e s' → False) :
    codeAny (model P w) callerA (.call (.ref fa) ⟨[.ref a], []⟩) (fun r s' => r = .ok (.ret (.bool true)) ∧ OldK s₁.heap s'.heap ∧ s'.os = s₁.os ∧ AllBare s'.gens) s₁ := by
  have rv := vals_ints hi
  have lenV := hi.length
  -- from an abstract heap in which nothing but the script may be tracked
  have core : ∀ H : Hp, Only H → SqL K H a (ns.map V.int) → HOk P w H s₁.heap → (∀ b, H b ≠ none → b = a) → (H a ≠ none → K.lookup a = none) →
      codeAny (model P w) callerA (.call (.ref fa) ⟨[.ref a], []⟩) (fun r s' => r = .ok (.ret (.bool true)) ∧ OldK s₁.heap s'.heap ∧ s'.os = s₁.os ∧ AllBare s'.gens) s₁ := by
    intro H hO hS hok hA hK
    have base_of : ∀ {b : Addr} {o : Obj}, s₁.heap.get? b = some o → H b = none → (hidT s₁.heap H).get? b = some o := fun e n => hidT_get e n
    have noA : ∀ {b : Addr} {o : Obj} {es : Array DictEntry} {ep : Nat}, s₁.heap.get? b = some o → o.data = .dict es ep → H b = none := fun {b o es ep} e d => by
      cases q : H b with
      | none => rfl
      | some u =>
        have e' : b = a := hA b (by rw [q]; simp)
        subst e'
        rw [ha] at e; cases e
        have d' : Data.seq vs.toArray _ = Data.dict es ep := d
        cases d'
    have nsK : ∀ {b : Addr} {m : Str → Option Value}, s₁.heap.Ns b m → (hidT s₁.heap H).Ns b m := fun {b m} ⟨o, es, ep, e, d, r⟩ => ⟨o, es, ep, base_of e (noA e d), d, r⟩
    have hKb : K.In (hidT s₁.heap H) := fun b o e => base_of (KX b o e) (by
      cases q : H b with
      | none => rfl
      | some u =>
        have e' : b = a := hA b (by rw [q]; simp)
        subst e'
        rw [hK (by rw [q]; simp)] at e; cases e)
    have hM : Mod K mg (hidT s₁.heap H) := ⟨hKb, nsK hns, ⟨mb, nsK hb, hbb⟩, let ⟨mc, h1, h2⟩ := hlim; ⟨mc, nsK h1, h2⟩⟩
    have e0 : Env0 P w K mg (hidT s₁.heap H) callerA [] s₁ H := ⟨rfl, hM, fun b o e => of_hidT e, Nat.le_of_eq (hidT_size _ _), trivial, fun b hb => absurd (show b ∈ ([] : List Addr) from hb) (by simp), hok, .of_eq hg⟩
    refine codeAny_mono ((F _ hKb (nsK hns)).run callerA [] s₁ H ⟨[.ref a], []⟩ [.ref a] [.ref a] _ _ hr e0 (hbind s₁ (.ref a)) (.cons rfl .nil) (hsp H hO hS)) fun r s' h => ?_
    cases r with
    | error e => exact (hCX H e s' h).elim
    | ok fl =>
      cases fl with
      | next => exact False.elim h
      | brk => exact False.elim h
      | cont => exact False.elim h
      | ret u =>
        obtain ⟨v, H', os, bare, un, hok', r', q⟩ := h
        have q' : v = .bl true := q
        subst q'
        obtain rfl : u = Value.bool true := r'
        refine ⟨rfl, OldK.of_keep fun b o e => ?_, os, bare⟩
        cases q : H b with
        | none => exact un.keep b o e q (by intro z; exact absurd (show b ∈ ([] : List Addr) from z) (by simp)) (by simp)
        | some u =>
          rcases hO b with z | ⟨ob, xs, z⟩
          · rw [q] at z; cases z
          · have z2 := un.frzs b ob _ z
            obtain ⟨e1, _⟩ := hok b _ z
            obtain ⟨e2, _⟩ := hok' b _ z2
            rw [e] at e1; cases e1
            exact e2
  cases hk : K.lookup a with
  | some o =>
    -- the script is one of the module's own objects
    have e := KX a o hk
    rw [ha] at e
    cases e
    refine core (fun _ => none) (fun _ => .inl rfl) (.inr ⟨_, vs.toArray, _, hk, rfl, rfl, rfl, by rw [List.size_toArray, lenV]; exact hl, by simpa using rv⟩) (fun b u z => by have z' : (none : Option HO) = some u := z; cases z') (fun b z => absurd rfl z) fun z => absurd rfl z
  | none =>
    refine core (fun b => if b = a then some (.frz { cls := .type "list", data := .seq vs.toArray } (.lst (ns.map V.int))) else none) (fun b => ?_) (.inl (.inr ⟨{ cls := .type "list", data := .seq vs.toArray }, if_pos rfl⟩)) (fun b u z => ?_) (fun b z => ?_) fun _ => hk
    · by_cases hb : b = a
      · exact .inr ⟨_, _, if_pos hb⟩
      · exact .inl (if_neg hb)
    · by_cases hb : b = a
      · have z' := (if_pos hb).symm.trans z
        cases z'
        subst hb
        exact ⟨ha, by rw [List.length_map]; exact hl, vs, _, rv, ha⟩
      · have z' := (if_neg hb).symm.trans z
        cases z'
    · by_cases hb : b = a
      · exact hb
      · exact absurd (if_neg hb) z
end L2

namespace L2
open PySem PySem.Spec PyProof.Rows

/-- the goal that k_head leaves (case hc), from the law's promise. F gives the function object fd (K's own) once, then the promise over every base -/
theorem walk_of {l : PySem.W.OpenLaw} {n k : Nat} {q : Program} {loose : List Str} {XP : (Str → Option Value) → Heap → Prop} {YP : World → Heap → Prop} {d : DefRec} {K : Params → PySem.W.Frag} {CX : World → CXT} {sp : World → Sp} {x : Str}
    (hn : l.most = some n) (hn2 : n ≤ sizeLine) (hdf : d.params.defaults = []) (hr : Room k callerA)
    (hY : ∀ (w : World) (h : Heap), YP w h → (K w.params).In h)
    (F : ∀ (w : World) (mg : Str → Option Value) (fa : Addr) (h : Heap), (K w.params).In h → h.Ns mainGlobals mg → mg d.name = some (.ref fa) →
      ∃ fd : FuncData, (∀ (s : Shared) (u : Value), BindsTo s fd ⟨[u], []⟩ [(x, u)]) ∧
        ∀ base : Heap, (K w.params).In base → base.Ns mainGlobals mg → FnOk l.prog w (K w.params) mg base (CX w) k fa fd [x] (sp w))
    (hsp : ∀ (w : World) (H : Hp) (a : Addr) (ns : List Int), ns.length ≤ n → Only H → SqL (K w.params) H a (ns.map V.int) → sp w [.ref a] H (fun v _ => v = .bl true) fun _ _ _ => False)
    (hCX : ∀ (w : World) (H : Hp) (s : Shared) (e : Value) (s' : Shared), CX w [] H s (fun _ _ _ => False) e s' → False) :
    PySem.W.WalkO q loose XP YP l.row.toRowW d [] (fun f vs => PySem.call f vs) := by
  refine Att.attach_call hn hdf fun w s₀ s₁ mg mb fa o pm cd doc a vs ns G Y ho hd hcd hmg hobj hints hlen hg => ?_
  have KX := hY w _ Y
  obtain ⟨fd, hb, hF⟩ := F w mg fa _ KX G.T.g hmg
  exact law_call KX G.T.g G.T.b G.T.builtins G.T.nolimit hg hobj hints (Nat.le_trans hlen hn2) hr hF hb (fun H hO hS => hsp w H a ns hlen hO hS) fun H e s' => hCX w H s₁ e s'
end L2

/- THE LAST THEOREM (shape; LID, My.* are yours):
   My.Adr: a structure of the addresses that your layer names (classes, functions); My.Txt K t: a structure (Prop) of the equations over K;
   My.txt_mk : {K} {implicit addresses ..} (e1 : nsIn K mainGlobals "law" = some (some (.ref f))) (e2 : K.lookup f = some ⟨oc, od, .func (fnOf "law" "law" params body scope dV kV doc pm an cdv ct), sl⟩) (e3 : codeIn K cdv "law" = true) .. : ∃ t, My.Txt K t

set_option maxRecDepth 100000 in
set_option maxHeartbeats 0 in
theorem PySem.Challenge.cw_LID_holds : PySem.Challenge.rw_LID.Holds := by
  w_on; o_law; k_head; (case hw => w_witness2)
  k_fill
  refine L2.walk_of (l := PySem.Challenge.rw_LID) (n := 63) (k := 40) (x := "script") (CX := fun w => ..) (sp := fun _ => My.sp_law) rfl (by decide) rfl ⟨rfl, by decide, by decide⟩ (fun w h Y => PySem.W.kIn_of Y) ?F ?S ?C
  case F =>
    intro w mg fa h KX G hmg
    have T : ∃ t, My.Txt (L2.KOf KX) t := by
      dsimp only [L2.KOf]                          -- K must stand as «<heap const> w.params» for k_is
      refine' My.txt_mk ?e1 ?e2 ?e3 ..
      (case e1 => PySem.W.k_is)                    -- in the order: a name -> its address -> its object -> its parts
      (case e2 => PySem.W.k_is)
      ..
    obtain ⟨t, T⟩ := T
    have e0 := hmg.symm.trans (PySem.W.mg_of KX G T.law)
    cases e0                                       -- fa is the law's own address
    exact ⟨_, fun s u => .of_eq rfl, fun base kb nb => My.law_fn T kb nb⟩     -- if «.of_eq rfl» comes too early: refine' ⟨_, ?b, fun base kb nb => My.law_fn T kb nb⟩; exact fun s u => .of_eq rfl
  case S => exact fun w H a ns hl hO hS => ..
  case C => exact ..
(the tactic k_is has no namespace: write k_is) -/

/-! SHORT WORDS over the layer: a def of the text, its body, what a loop and a test want. -/
namespace L2
open PySem PySem.Spec PyProof.Rows

/-! ### the text by places -/
def defArgs (s : Stmt) : Arguments := match s with
  | .FunctionDef _ a _ _ _ _ _ _ _ _ => a
  | _ => { posonlyargs := [], args := [], vararg := none, kwonlyargs := [], kw_defaults := [], kwarg := none, defaults := [] }
def defBody (s : Stmt) : List Stmt := match s with
  | .FunctionDef _ _ b _ _ _ _ _ _ _ => b
  | _ => []
def defScope (s : Stmt) : Scope := match s with
  | .FunctionDef _ _ _ _ _ _ sc _ _ _ => sc
  | _ => { kind := .function, names := [], isGenerator := false, isCoroutine := false }

/-! ### no exception leaves a def -/
abbrev CX0 : CXT := fun _ _ _ _ _ _ => False
abbrev E0 : XK := fun _ _ _ => False
theorem pass0 {X : Cx} : Passes CX0 X E0 := fun _ _ _ _ _ _ _ h => h.elim

/-! ### a def (or method) of the text as it stands behind the top -/
structure Fun (K : PySem.W.Frag) (x qual : Str) (st : Stmt) (f : Addr) (fd : FuncData) : Prop where
  ex : ∃ (oc : Value) (od : Option Addr) (kV doc pm : Value) (an : Option Addr) (cdv ct : Value) (osl : Array (Option Value)),
    fd = PySem.W.fnOf x qual (defArgs st) (defBody st) (defScope st) .none kV doc pm an cdv ct ∧ K.lookup f = some ⟨oc, od, .func fd, osl⟩ ∧ PySem.W.codeIn K cdv qual = true
  kp : PySem.W.keepIn K (.ref f) = true
section
variable {P : Program} {w : World} {K : PySem.W.Frag} {mg : Str → Option Value} {base : Heap}
/-- THE RULE for a def: its body as a term of rules, and the reading of that term -/
theorem Fun.ok {x qual : Str} {st : Stmt} {f : Addr} {fd : FuncData} {N ps : List Str} {k : Nat} {sp : Sp} (F : Fun K x qual st f fd) (S : FnScope N ps (defScope st)) (len : ∀ vs H Q E, sp vs H Q E → vs.length = ps.length)
    (hbody : ∀ (cdv : Value) (A : Around) (outer : List Env) (s : Shared) (H : Hp) (vs : List V) (Q : VK) (E : XK), Room k (A.deeper (envOfC qual (defScope st) s.heap.objs.size f cdv)) → sp vs H Q E →
      ∃ t, PSs (cxOf CX0 P w K mg base N qual (defScope st) f cdv A outer s H E).nox (defBody st) t ∧ t { nx := fun _ H' => Q .non H', rt := Q } (start N vs) H) : FnOk P w K mg base CX0 (k + 1) f fd ps sp := by
  obtain ⟨oc, od, kV, doc, pm, an, cdv, ct, osl, rfl, lk, hcd⟩ := F.ex
  refine fn_of lk hcd S len fun A outer s H vs Q E hr hsp => ?_
  obtain ⟨t, h, q⟩ := hbody cdv A outer s H vs Q E hr hsp
  exact ⟨t, h.nox, q⟩
/-- how its arguments bind (no defaults): h is «fun _ _ _ _ _ _ us hl => match us, hl with | [_, _], _ => rfl», one _ a parameter -/
theorem Fun.binds {x qual : Str} {st : Stmt} {f : Addr} {fd : FuncData} {ps : List Str} (F : Fun K x qual st f fd)
    (h : ∀ (kV doc pm : Value) (an : Option Addr) (cdv ct : Value) (us : List Value), us.length = ps.length → bindArgs (PySem.W.fnOf x qual (defArgs st) (defBody st) (defScope st) .none kV doc pm an cdv ct) ⟨us, []⟩ = pure (ps.zip us)) : Binds K fd ps [] := by
  obtain ⟨oc, od, kV, doc, pm, an, cdv, ct, osl, rfl, lk, hcd⟩ := F.ex
  exact .all (h kV doc pm an cdv ct)
theorem fun_mk {x qual : Str} {st : Stmt} {f : Addr} {oc : Value} {od an : Option Addr} {osl : Array (Option Value)} {kV doc pm cdv ct : Value} (l : K.lookup f = some ⟨oc, od, .func (PySem.W.fnOf x qual (defArgs st) (defBody st) (defScope st) .none kV doc pm an cdv ct), osl⟩)
    (c : PySem.W.codeIn K cdv qual = true) (k : PySem.W.keepIn K (.ref f) = true) : Fun K x qual st f (PySem.W.fnOf x qual (defArgs st) (defBody st) (defScope st) .none kV doc pm an cdv ct) := ⟨⟨oc, od, kV, doc, pm, an, cdv, ct, osl, rfl, l, c⟩, k⟩
end
/-! ### expressions in short: the name that stands in the i-th slot -/
section
variable {X : Cx}
theorem pv (i : Nat) {x : Str} {pos : Pos} (hN : X.N[i]? = some x := by rfl) (hv : Vis X.env.scope x := by first | exact Or.inl rfl | exact Or.inr (Or.inl rfl) | exact Or.inr (Or.inr rfl)) (hd : (x == ("__debug__" : Str)) = false := by decide)
    (hcd : (x == ("__classdict__" : Str)) = false := by decide) : PE X (.Name x pos) (tVar i) := pe_var hN hv hd hcd
end

/-! ### tests -/
theorem iteF {A B : Prop} (h : B) : if false = true then A else B := by
  rw [if_neg Bool.false_ne_true]
  exact h
theorem ite2 {c A B : Prop} [Decidable c] (h1 : c → A) (h2 : ¬ c → B) : if c then A else B := by
  by_cases h : c
  · rw [if_pos h]
    exact h1 h
  · rw [if_neg h]
    exact h2 h
theorem iteNS {c A B : Prop} [Decidable c] (hc : c) (h : B) : if (!decide c) = true then A else B := by
  rw [decide_eq_true hc]
  exact iteF h

/-! ### heaps -/
/-- all that was tracked is as it was -/
def Same (H H' : Hp) : Prop := ∀ b o, H b = some o → H' b = some o
theorem Same.refl (H : Hp) : Same H H := fun _ _ h => h
theorem Same.trans {H H1 H2 : Hp} (a : Same H H1) (b : Same H1 H2) : Same H H2 := fun c o h => b c o (a c o h)
theorem Same.free {H H' : Hp} (e : Same H H') {l : Addr} (h : H' l = Option.none) : H l = Option.none := by
  cases q : H l with
  | none => rfl
  | some o =>
    rw [e l o q] at h
    cases h
theorem Same.seq {K : PySem.W.Frag} {H H' : Hp} {a : Addr} {xs : List V} (e : Same H H') (h : SqL K H a xs) : SqL K H' a xs := by
  rcases h with (h | ⟨o, h⟩) | h
  · exact .inl (.inl (e _ _ h))
  · exact .inl (.inr ⟨o, e _ _ h⟩)
  · exact .inr h

end L2

open PySem PySem.W PyProof.Rows
set_option maxHeartbeats 4000000
set_option maxRecDepth 100000
namespace L2
open PySem
section
variable {prog : Program} {w : World} {A : Around} {s : Shared}
theorem comp_loop {elt target iter : Expr} {ifs : List Expr} {scope : Scope} {pos : Pos} {it acc : Value} {env : Env} {R : Result → Shared → Prop} (I : Nat → Shared → Prop)
    (turn : ∀ n s, I n s → wpAny (model prog w) A (pyNext it) (fun r s₁ => match r with
      | none => R (.ok .next) s₁
      | some v => wpAny (model prog w) A (letOwnedTupleGo target it v) (fun _ s₀ => wpAny (model prog w) A (assign target env v) (fun _ s₂ =>
          wpAny (model prog w) A (forIn ifs true fun c r => if r = true then do let ok ← isTrue c env (eval c env); pure (ForInStep.yield ok) else pure (ForInStep.yield r)) (fun ok s₃ =>
            if ok = true then wpAny (model prog w) A (eval elt env) (fun x s₄ =>
              wpAny (model prog w) A (call (.builtin "list.append") [acc, x]) (fun _ s₅ => ∃ m, m < n ∧ I m s₅) (fun _ _ => False) s₄) (fun _ _ => False) s₃
            else ∃ m, m < n ∧ I m s₃) (fun _ _ => False) s₂) (fun _ _ => False) s₀) (fun _ _ => False) s₁) (fun _ _ => False) s)
    (n : Nat) (h : I n s) : codeAny (model prog w) A (.compLoop (.ListComp elt [⟨target, iter, ifs, 0⟩] scope pos) 0 it acc env) R s := by
  refine codeAny_loop rfl I (fun n s hI => ?_) n h
  show wpAny _ A ((compTurn (.ListComp elt [⟨target, iter, ifs, 0⟩] scope pos) 0 it acc env).onRaise (fun x => do noteFrame x env; theTreesLotGoes x)) _ _ s
  refine wpAny_noted ?_
  rw [compTurn_list]
  refine wpAny_bind (wpAny_standAt (wpAny_bind (wpAny_mono (turn n s hI) (fun r s₁ h₁ => ?_) fun _ _ h' => h'.elim)))
  cases r with
  | none => exact wpAny_pure h₁
  | some v =>
    refine wpAny_bind (wpAny_mono h₁ (fun _ s₀ h₀ => ?_) fun _ _ h' => h'.elim)
    refine wpAny_bind (wpAny_mono h₀ (fun _ s₂ h₂ => wpAny_bind (wpAny_mono h₂ (fun ok s₃ h₃ => ?_) fun _ _ h' => h'.elim)) fun _ _ h' => h'.elim)
    cases ok with
    | false => exact wpAny_pure ⟨rfl, h₃⟩
    | true =>
      exact wpAny_bind (wpAny_bind (wpAny_mono h₃ (fun x s₄ h₄ => wpAny_bind (wpAny_mono h₄ (fun _ s₅ h₅ => wpAny_pure (wpAny_pure ⟨rfl, h₅⟩)) fun _ _ h' => h'.elim)) fun _ _ h' => h'.elim))
end

def clOf (env : Env) : List (Str × NameKind) → List (Str × Addr) → List (Str × Addr)
  | [], cs => cs
  | (n, k) :: r, cs => if k == .free then clOf env r ((n, (env.cells.lookup n).getD 0) :: cs) else clOf env r cs
theorem closureFor_of {scope : Scope} {env : Env} (h : ∀ n, (n, NameKind.free) ∈ scope.names → ∃ c, env.cells.lookup n = some c) : closureFor scope env = pure (clOf env scope.names []) := by
  have key : ∀ (names : List (Str × NameKind)) (cs : List (Str × Addr)), (∀ n, (n, NameKind.free) ∈ names → ∃ c, env.cells.lookup n = some c) →
      (forIn names cs fun (x : Str × NameKind) (r : List (Str × Addr)) => if x.2 == NameKind.free then do let c ← cellOf env x.1; pure (ForInStep.yield ((x.1, c) :: r)) else pure (ForInStep.yield r) : Sem (List (Str × Addr))) = pure (clOf env names cs) := by
    intro names
    induction names with
    | nil => intro cs _; rfl
    | cons x r ih =>
      intro cs hh
      obtain ⟨n, k⟩ := x
      rw [List.forIn_cons]
      by_cases hk : k = NameKind.free
      · subst hk
        obtain ⟨c, hc⟩ := hh n List.mem_cons_self
        have e1 : cellOf env n = pure c := by unfold cellOf; rw [hc]
        simp only [beq_self_eq_true, if_true, e1, pure_bind]
        rw [ih _ fun n' hn' => hh n' (List.mem_cons_of_mem _ hn')]
        rw [clOf, if_pos (by rfl), hc]; rfl
      · have hb : (k == NameKind.free) = false := by simpa using hk
        simp only [hb, Bool.false_eq_true, if_false, pure_bind]
        rw [ih _ fun n' hn' => hh n' (List.mem_cons_of_mem _ hn')]
        rw [clOf, if_neg (by rw [hb]; exact Bool.false_ne_true)]
  have := key scope.names [] h
  unfold closureFor
  simp only [bind_pure]
  exact this
theorem clOf_lookup {env : Env} : ∀ (names : List (Str × NameKind)) (cs : List (Str × Addr)), (∀ n, (n, NameKind.free) ∈ names → ∃ c, env.cells.lookup n = some c) → ∀ x c, (clOf env names cs).lookup x = some c → env.cells.lookup x = some c ∨ cs.lookup x = some c
  | [], cs, _, x, c, e => .inr e
  | (n, k) :: r, cs, hh, x, c, e => by
    have hr : ∀ n', (n', NameKind.free) ∈ r → ∃ c, env.cells.lookup n' = some c := fun n' hn' => hh n' (List.mem_cons_of_mem _ hn')
    rw [clOf] at e
    by_cases hk : k = NameKind.free
    · subst hk
      rw [if_pos (by rfl)] at e
      obtain ⟨c0, hc⟩ := hh n List.mem_cons_self
      rcases clOf_lookup r _ hr x c e with q | q
      · exact .inl q
      · rw [hc] at q
        by_cases hx : x = n
        · subst hx
          rw [List.lookup_cons_self] at q
          cases q
          exact .inl hc
        · have hb : (x == n) = false := by simpa using hx
          rw [List.lookup_cons, hb] at q
          exact .inr q
    · have hb : ¬ ((k == NameKind.free) = true) := by simpa using hk
      rw [if_neg hb] at e
      exact clOf_lookup r cs hr x c e
theorem clOf_has {env : Env} {x : Str} : ∀ (names : List (Str × NameKind)) (cs : List (Str × Addr)), ((x, NameKind.free) ∈ names ∨ ∃ c, cs.lookup x = some c) → ∃ c, (clOf env names cs).lookup x = some c
  | [], cs, h => by
    rcases h with h | h
    · cases h
    · exact h
  | (n, k) :: r, cs, h => by
    rw [clOf]
    by_cases hk : k = NameKind.free
    · subst hk
      rw [if_pos (by rfl)]
      refine clOf_has r _ ?_
      by_cases hx : x = n
      · subst hx
        exact .inr ⟨_, List.lookup_cons_self⟩
      · have hb : (x == n) = false := by simpa using hx
        rcases h with h | ⟨c, h⟩
        · rcases List.mem_cons.mp h with e | e
          · cases e; exact absurd rfl hx
          · exact .inl e
        · exact .inr ⟨c, by rw [List.lookup_cons, hb]; exact h⟩
    · have hb : ¬ ((k == NameKind.free) = true) := by simpa using hk
      rw [if_neg hb]
      refine clOf_has r cs ?_
      rcases h with h | h
      · rcases List.mem_cons.mp h with e | e
        · cases e; exact absurd rfl hk
        · exact .inl e
      · exact .inr h

theorem relabel_lookup {env : Env} {x : Str} : ∀ (names : List (Str × NameKind)), (names.map fun (n, k) => if (k == NameKind.free && env.scope.kind == .function && env.kindOf n == some .cell) then (n, NameKind.cell) else (n, k)).lookup x =
    (names.lookup x).map fun k => if (k == NameKind.free && env.scope.kind == .function && env.kindOf x == some .cell) then NameKind.cell else k
  | [] => rfl
  | (n, k) :: r => by
    have ih := @relabel_lookup env x r
    show List.lookup x ((if (k == NameKind.free && env.scope.kind == .function && env.kindOf n == some .cell) = true then (n, NameKind.cell) else (n, k)) :: _) = _
    by_cases hx : x = n
    · subst hx
      by_cases hc : (k == NameKind.free && env.scope.kind == .function && env.kindOf x == some .cell) = true
      · rw [if_pos hc, List.lookup_cons_self, List.lookup_cons_self]
        show some NameKind.cell = some (if _ then _ else _)
        rw [if_pos hc]
      · rw [if_neg hc, List.lookup_cons_self, List.lookup_cons_self]
        show some k = some (if _ then _ else _)
        rw [if_neg hc]
    · have hb : (x == n) = false := by simpa using hx
      by_cases hc : (k == NameKind.free && env.scope.kind == .function && env.kindOf n == some .cell) = true
      · rw [if_pos hc, List.lookup_cons, hb, List.lookup_cons, hb]; exact ih
      · rw [if_neg hc, List.lookup_cons, hb, List.lookup_cons, hb]; exact ih
end L2

namespace L2
open PySem PySem.Spec PyProof.Rows

/-! ### a comprehension's block -/
/-- the block's names at its start: those of the scope around it (by their places there), the others unbound -/
def blk (src : List (Option Nat)) (σ : St) : St := src.map fun o => o.bind fun j => σ[j]?.join
/-- what the text must have: by computation -/
def compOk (XN : List Str) (xn : List (Str × NameKind)) (N : List Str) (src : List (Option Nat)) (scope : Scope) : Bool :=
  (scope.kind == .function) && (scope.names.all fun y => y.2 != .local || scope.names.lookup y.1 == some .local) && (scope.names.all fun y => y.2 != .cell) &&
  (scope.names.all fun y => y.2 != .free || (xn.lookup y.1 == some .cell || xn.lookup y.1 == some .free)) && (src.length == N.length) &&
  ((List.range N.length).all fun i => match src[i]? with
    | some (some j) => (match N[i]? with | some x => (XN[j]? == some x && scope.names.lookup x == some .free) | none => false)
    | _ => true)
structure CompOk (XN : List Str) (xn : List (Str × NameKind)) (N : List Str) (src : List (Option Nat)) (scope : Scope) : Prop where
  kind : scope.kind = .function
  names : ∀ y ∈ scope.names, y.2 = .local → scope.names.lookup y.1 = some .local
  nocell : ∀ y ∈ scope.names, y.2 ≠ .cell
  frees : ∀ n, (n, NameKind.free) ∈ scope.names → xn.lookup n = some .cell ∨ xn.lookup n = some .free
  len : src.length = N.length
  ok : ∀ (i j : Nat) (x : Str), N[i]? = some x → src[i]? = some (some j) → XN[j]? = some x ∧ scope.names.lookup x = some .free
theorem CompOk.of {XN : List Str} {xn : List (Str × NameKind)} {N : List Str} {src : List (Option Nat)} {scope : Scope} (h : compOk XN xn N src scope = true) : CompOk XN xn N src scope := by
  unfold compOk at h
  simp only [Bool.and_eq_true, List.all_eq_true] at h
  obtain ⟨⟨⟨⟨⟨h1, h2⟩, h3⟩, h4⟩, h5⟩, h6⟩ := h
  refine ⟨by simpa using h1, fun y hy e => ?_, fun y hy => by simpa using h3 y hy, fun n hn => ?_, by simpa using h5, fun i j x hN hs => ?_⟩
  · have q := h2 y hy
    rw [e] at q
    simpa using q
  · have q := h4 _ hn
    simpa using q
  · have hi : i < N.length := (List.getElem?_eq_some_iff.mp hN).1
    have q := h6 i (List.mem_range.mpr hi)
    rw [hs, hN] at q
    simpa using q

/-- the context of a comprehension's block -/
abbrev cxComp (X : Cx) (N : List Str) (scope : Scope) (cl : List (Str × Addr)) (C : Addr) (s : Shared) (H : Hp) (ex : List Addr) : Cx :=
  { prog := X.prog, w := X.w, K := X.K, mg := X.mg, base := X.base, A := X.A, N := N, s₀ := s, H₀ := H, env := compEnvC scope cl C X.env, outer := X.stack, stack := X.stack, ex := ex, fn := fun _ => false, calm := X.calm, pn := [], xe := fun _ _ => False }

/-- the tests of a comprehension -/
def PIfs (X : Cx) (ifs : List Expr) (t : TT) : Prop :=
  ∀ (pins : List (Addr × Obj)) (s : Shared) (σ : St) (H : Hp) (Q : Bool → Hp → Prop), Inv X pins σ H s → t σ H Q →
    wpAny (model X.prog X.w) X.A (forIn ifs true fun c r => if r = true then do let ok ← isTrue c X.env (eval c X.env); pure (ForInStep.yield ok) else pure (ForInStep.yield r)) (TP X pins σ Q) X.xe s
def tTrue : TT := fun _ H Q => Q true H
theorem pif_nil {X : Cx} : PIfs X [] tTrue := fun _ _ _ H _ I h => wpAny_tests_nil ⟨H, I, h⟩
theorem pif_one {X : Cx} {c : Expr} {t : TT} (h : PT X c t) : PIfs X [c] t := fun pins s σ H Q I q => wpAny_tests_one (h pins s σ H Q I q)

/-- the names that were known ahead are known behind -/
def Wk (σ σ' : St) : Prop := σ.length = σ'.length ∧ ∀ (i : Nat) v, σ[i]? = some (some v) → σ'[i]? = some (some v)
theorem Wk.set {σ : St} {i : Nat} {v : V} (h : σ[i]? = some none) : Wk σ (σ.set i (some v)) := by
  refine ⟨by simp, fun j u e => ?_⟩
  by_cases hj : j = i
  · subst hj; rw [h] at e; cases e
  · rw [List.getElem?_set_ne (Ne.symm hj)]; exact e
theorem Wk.trans {a b c : St} (h : Wk a b) (k : Wk b c) : Wk a c := ⟨h.1.trans k.1, fun i v e => k.2 i v (h.2 i v e)⟩

/-- [e for target in iter if c]: the list itself is not seen ahead of its end -/
def compW (src : List (Option Nat)) (g : TG) (tc : TT) (te : TE) (σ : St) (Q : VK) (J : It) (H1 : Hp) : Prop :=
  ∃ W : Nat → Nat → List V → Hp → Prop, (∃ m, W 0 m [] H1) ∧ ∀ i m ys H', W i m ys H' →
    (J.stop i H' ∧ ∀ D, H' D = none → Q (.ref D) (upd H' D (.lst ys))) ∨ (J.go i H' ∧ ∃ N : List V → Hp → Prop, (∀ ys2 H2, N ys2 H2 → ∃ m', m' < m ∧ W (i + 1) m' ys2 H2) ∧
      ∀ x H2, J.yld i H' x H2 → g x (blk src σ) H2 fun σ3 H3 => Wk (blk src σ) σ3 ∧ tc σ3 H3 fun b H4 =>
        if b = true then te σ3 H4 fun v H5 => ys.length < sizeLine ∧ N (ys ++ [v]) H5 else N ys H4)
def tComp (src : List (Option Nat)) (wi : TI) (g : TG) (tc : TT) (te : TE) : TE := fun σ H Q => wi σ H (compW src g tc te σ Q)

section
variable {X : Cx} {pins : List (Addr × Obj)} {σ : St} {H : Hp} {s : Shared} {N : List Str} {src : List (Option Nat)} {scope : Scope} {pos : Pos}

theorem comp_kind {env : Env} {cl : List (Str × Addr)} {C : Addr} {x : Str} : (compEnvC scope cl C env).kindOf x = (scope.names.lookup x).map fun k => if (k == NameKind.free && env.scope.kind == .function && env.kindOf x == some .cell) then NameKind.cell else k :=
  relabel_lookup scope.names
theorem comp_kind_free {env : Env} {cl : List (Str × Addr)} {C : Addr} {x : Str} (h : scope.names.lookup x = some .free) : (compEnvC scope cl C env).kindOf x = some .cell ∨ (compEnvC scope cl C env).kindOf x = some .free := by
  rw [comp_kind, h]
  show some (if _ then _ else _) = _ ∨ some (if _ then _ else _) = _
  by_cases hc : (NameKind.free == NameKind.free && env.scope.kind == .function && env.kindOf x == some .cell) = true
  · rw [if_pos hc]; exact .inl rfl
  · rw [if_neg hc]; exact .inr rfl
theorem comp_free_of {env : Env} {cl : List (Str × Addr)} {C : Addr} {x : Str} (nc : ∀ y ∈ scope.names, y.2 ≠ .cell) (h : (compEnvC scope cl C env).kindOf x = some .cell ∨ (compEnvC scope cl C env).kindOf x = some .free) : (x, NameKind.free) ∈ scope.names := by
  have mem : ∀ {l : List (Str × NameKind)} {k : NameKind}, l.lookup x = some k → (x, k) ∈ l := fun {l k} e => mem_of_lookup e
  cases q : scope.names.lookup x with
  | none => rw [comp_kind, q] at h; rcases h with h | h <;> cases h
  | some k =>
    have hm := mem q
    by_cases hk : k = NameKind.free
    · subst hk; exact hm
    · have hb : (k == NameKind.free) = false := by simpa using hk
      rw [comp_kind, q] at h
      simp only [Option.map_some, hb, Bool.false_and, Bool.false_eq_true, if_false, Option.some.injEq] at h
      rcases h with h | h
      · exact absurd h (nc _ hm)
      · exact absurd h hk

theorem comp_ok (I : Inv X pins σ H s) (hk : CompOk X.N X.env.scope.names N src scope) {fp : List Addr} (hfp : ∀ b ∈ fp, FpOk X pins H b) (hlt : ∀ b ∈ fp, b < s.heap.objs.size) :
    (cxComp X N scope (clOf X.env scope.names []) s.heap.objs.size s H fp).Ok := by
  have hcells : ∀ n, (n, NameKind.free) ∈ scope.names → ∃ c, X.env.cells.lookup n = some c := fun n hn => I.ok.has n (hk.frees n hn)
  have cl2 : ∀ x c, (clOf X.env scope.names []).lookup x = some c → X.env.cells.lookup x = some c := fun x c e => by
    rcases clOf_lookup scope.names [] hcells x c e with q | q
    · exact q
    · cases q
  refine ⟨I.mod, hk.kind, I.ok.glob, I.ok.blt, Nat.le_refl _, fun x y c e1 e2 => I.ok.inj x y c (cl2 x c e1) (cl2 y c e2), fun x e => ?_, fun x c e => (by cases e), I.ok.hd, I.ok.frames, .inl rfl, fun b hb => ⟨?_, fun x c e => ?_⟩, I.bs, Nat.le_trans I.ok.bsz I.sz, fun b o e hb => ?_, fun b hb => ?_, I.stack, I.stkFree⟩
  · exact clOf_has scope.names [] (.inl (comp_free_of hk.nocell e))
  · exact Nat.ne_of_lt (hlt b hb)
  · exact (hfp b hb).2.2.2.2.1 x c (cl2 x c e)
  · rcases (hfp b hb).2.2.2.1 with z | z
    · exact I.ok.noex b o e z
    · exact absurd (Nat.lt_of_lt_of_le (Heap.lt_size e) (Nat.le_trans I.ok.bsz z)) (Nat.lt_irrefl _)
  · intro z
    rcases List.mem_cons.mp (I.stkSub b z) with q | q
    · exact (hfp b hb).2.1 q
    · exact (hfp b hb).2.2.1 q

theorem blk_get {i : Nat} {v : V} (h : (blk src σ)[i]? = some (some v)) : ∃ j : Nat, src[i]? = some (some j) ∧ σ[j]? = some (some v) := by
  unfold blk at h
  rw [List.getElem?_map] at h
  cases q : src[i]? with
  | none => rw [q] at h; cases h
  | some o =>
    rw [q] at h
    cases o with
    | none => cases h
    | some j =>
      refine ⟨j, rfl, ?_⟩
      have e : σ[j]?.join = some v := by simpa using h
      cases z : σ[j]? with
      | none => rw [z] at e; cases e
      | some u => rw [z] at e; cases u with
        | none => cases e
        | some w => rw [← e]; rfl

theorem comp_inv (I : Inv X pins σ H s) (hk : CompOk X.N X.env.scope.names N src scope) {fp : List Addr} (hfp : ∀ b ∈ fp, FpOk X pins H b) (hlt : ∀ b ∈ fp, b < s.heap.objs.size) {h₁ : Heap} {tk : Nat} {m : Str → Option Value}
    (hns : h₁.Ns s.heap.objs.size m) (old : ∀ b o, s.heap.get? b = some o → h₁.get? b = some o) :
    Inv (cxComp X N scope (clOf X.env scope.names []) s.heap.objs.size s H fp) [] (blk src σ) H { s with heap := h₁, toks := tk } := by
  have ok := comp_ok I hk hfp hlt
  have hcells : ∀ n, (n, NameKind.free) ∈ scope.names → ∃ c, X.env.cells.lookup n = some c := fun n hn => I.ok.has n (hk.frees n hn)
  have cl2 : ∀ x c, (clOf X.env scope.names []).lookup x = some c → X.env.cells.lookup x = some c := fun x c e => by
    rcases clOf_lookup scope.names [] hcells x c e with q | q
    · exact q
    · cases q
  refine ⟨ok, rfl, I.bare, Un.kept old, ⟨m, hns, fun i x v e1 e2 e3 => ?_⟩, fun x c e => ?_, I.hok.fresh (Nat.le_refl _), fun x c e => I.freeC x c (cl2 x c e), fun p hp => ?_, I.hok.kept old, ?_⟩
  · obtain ⟨j, q1, q2⟩ := blk_get e2
    obtain ⟨q3, q4⟩ := hk.ok i j x e1 q1
    obtain ⟨m', hn', hl⟩ := I.loc
    have kx := hk.frees x (mem_of_lookup q4)
    have vx : Vis X.env.scope x := kx.elim (fun z => .inr (.inl z)) fun z => .inr (.inr z)
    obtain ⟨u, r, l⟩ := hl j x v q3 q2 vx
    refine ⟨u, r, .inr ⟨comp_kind_free q4, ?_⟩⟩
    rcases l with ⟨lk, _⟩ | ⟨_, c, lc, z⟩
    · have lk' : X.env.scope.names.lookup x = some .local := lk
      rw [lk'] at kx
      rcases kx with kx | kx <;> cases kx
    · obtain ⟨c', hc'⟩ := clOf_has (env := X.env) scope.names [] (.inl (mem_of_lookup q4))
      have e := cl2 x c' hc'
      rw [lc] at e
      cases e
      obtain ⟨o, ho, hd⟩ := z
      exact ⟨c, hc', o, old c o ho, hd⟩
  · obtain ⟨v, o, ho, hd⟩ := I.cell x c (cl2 x c e)
    exact ⟨v, o, old c o ho, hd⟩
  · exact absurd hp (by simp)
  · show (src.map _).length = N.length
    rw [List.length_map]; exact hk.len

abbrev lobj (its : List Value) (n : Nat) : Obj := { cls := .type "list", data := .seq its.toArray n }
/-- an untracked object of ours is tracked from here on -/
theorem Inv.adopt {D : Addr} {u : HO} (I : Inv X pins σ H s) (hD : FpOk X pins H D) (new : ObjOk X.prog X.w (upd H D u) s.heap D u) : Inv X pins σ (upd H D u) s := by
  have ne : ∀ b o, H b = some o → b ≠ D := fun b o e z => by rw [z, hD.1] at e; cases e
  have keepH : ∀ b o, H b = some o → upd H D u b = some o := fun b o e => by rw [upd_ne (ne b o e)]; exact e
  have key := I.step (g' := s.gens) (t' := s.toks) (d' := s.drawn) (h' := s.heap) (H' := upd H D u) (ch := [D]) (fun b hb => by
      have e : b = D := by simpa using hb
      subst e
      exact ⟨hD.2.2.2.1, hD.2.1, hD.2.2.2.2.1, hD.2.2.2.2.2⟩) (fun b o _ _ _ e _ => e) (fun b o _ _ _ e _ => ⟨o.slots, e⟩) (fun b o hc _ n => by rw [upd_ne (by simpa using hc)]; exact n) (fun b o _ e => ⟨o, e⟩) (fun b xs e => keepH b _ e) (fun b o u e => keepH b _ e)
    (fun b ps e => ⟨#[], by rw [keepH b _ e]; simp⟩) (fun m hm => hm) (fun b o e => by
      by_cases hb : b = D
      · subst hb
        rw [upd_same] at e
        cases e
        exact new
      · rw [upd_ne hb] at e
        exact (I.hok b o e).stay (fun c v _ q => q) (fun c q => keepH c _ q) fun c xs q => keepH c _ q) I.bare
  exact key
/-- some untracked records of ours have turned -/
theorem Inv.turnedL {t' : Nat} {ch : List Addr} {h' : Heap} (I : Inv X pins σ H s) (k : ∀ b o, b ∉ ch → s.heap.get? b = some o → h'.get? b = some o) (hf : ∀ b ∈ ch, FpOk X pins H b) : Inv X pins σ H { s with heap := h', toks := t' } := by
  have nit : ∀ b u, H b = some u → b ∉ ch := fun b u e z => by rw [(hf b z).1] at e; cases e
  refine I.step (g' := s.gens) (d' := s.drawn) (ch := ch) (fun b hb => let ⟨_, f1, _, f3, f4, f5⟩ := hf b hb; ⟨f3, f1, f4, f5⟩) (fun b o _ _ hc e _ => k b o hc e) (fun b o _ _ hc e _ => ⟨o.slots, k b o hc e⟩) (fun _ _ _ _ n => n)
    (fun b o hc e => ⟨o, k b o hc e⟩) (fun _ _ e => e) (fun _ _ _ e => e) (fun b ps e => ⟨#[], by rw [e]; simp⟩) (fun m hm => ?_) (fun b u e => ?_) I.bare
  · obtain ⟨o, es, ep, ho, r⟩ := hm
    exact ⟨o, es, ep, k _ o (fun z => (hf _ z).2.1 rfl) ho, r⟩
  · refine (I.hok b u e).stay (fun c v hc q => k c v ?_ q) (fun _ q => q) fun _ _ q => q
    rcases hc with z | z
    · rw [z]; exact nit b u e
    · exact nit c _ z

/-- the block run: its end in the context around it -/
theorem comp_core {elt target iter : Expr} {ifs : List Expr} {g : TG} {tc : TT} {te : TE} {J : It} {fp : List Addr} {it : Addr} {tn : Nat → Heap → Prop} {Q : VK} {R : Value → Addr → Result → Shared → Prop} {E : Value → Shared → Prop}
    (hk : CompOk X.N X.env.scope.names N src scope) (hcalm : X.calm = true)
    (hg : ∀ cl C s H ex, PG (cxComp X N scope cl C s H ex) target g) (hc : ∀ cl C s H ex, PIfs (cxComp X N scope cl C s H ex) ifs tc) (he : ∀ cl C s H ex, PE (cxComp X N scope cl C s H ex) elt te)
    (I : Inv X pins σ H s) (T : Turn X.prog X.w X.K target J fp it tn) (st : tn 0 s.heap) (hfp : ∀ b ∈ fp, FpOk X pins H b)
    (q : compW src g tc te σ Q J H)
    (hR : ∀ (D C : Addr) (H' : Hp) (s' : Shared) (m : Str → Option Value), Inv X pins σ H' s' → Q (.ref D) H' → s'.heap.Ns C m → FpOk X pins H' C → R (.ref D) C (.ok .next) s') :
    wpAny (model X.prog X.w) X.A (newList []) (fun acc s₃ => wpAny (model X.prog X.w) X.A (newFunctionEnv scope X.env.globals (clOf X.env scope.names []) [] X.env.qual none .none (some X.env)) (fun cenv s₄ =>
      codeAny (model X.prog X.w) X.A (.compStart (.ListComp elt [⟨target, iter, ifs, 0⟩] scope pos) 0 (.ref it) acc { cenv with scope := relabel scope X.env }) (R acc cenv.locals) s₄) E s₃) E s := by
  refine wpAny_newObj_type (wpAny_newFunctionEnv hk.nocell (by intro y hy; simp at hy) (fun h₁ hns₁ hsb₁ => ?_) hk.kind)
  dsimp only at hns₁ hsb₁ ⊢
  have I3 : Inv X pins σ H { s with heap := s.heap.push { cls := .type "list", data := .seq ([] : List Value).toArray }, toks := s.toks } := I.kept fun b o e => Heap.get?_push_of_some _ e
  have fD : FpOk X pins H s.heap.objs.size := I.fpOk (Nat.le_refl _) I.fresh
  generalize hDd : s.heap.objs.size = D at fD
  have fpo : ∀ b ∈ fp, ∃ o, s.heap.get? b = some o := fun b hb => let ⟨o, e, _⟩ := T.obj 0 _ st b hb; ⟨o, e⟩
  have hlt0 : ∀ b ∈ fp, b < D := fun b hb => let ⟨o, e⟩ := fpo b hb; by rw [← hDd]; exact Heap.lt_size e
  generalize hS : ({ s with heap := s.heap.push { cls := .type "list", data := .seq ([] : List Value).toArray }, toks := s.toks } : Shared) = S3 at I3
  have hS3 : S3.heap = s.heap.push { cls := .type "list", data := .seq ([] : List Value).toArray } := by rw [← hS]
  have hC : S3.heap.objs.size = D + 1 := by rw [hS3, Heap.size_push, hDd]
  have gD : S3.heap.get? D = some (lobj [] 0) := by rw [hS3, ← hDd]; exact Heap.get?_push_size _ rfl
  have hex : ∀ b ∈ D :: fp, FpOk X pins H b := fun b hb => (List.mem_cons.mp hb).elim (fun z => z ▸ fD) (hfp b)
  have hlt : ∀ b ∈ D :: fp, b < S3.heap.objs.size := fun b hb => by
    rw [hC]
    rcases List.mem_cons.mp hb with z | z
    · rw [z]; exact Nat.lt_succ_self _
    · exact Nat.lt_succ_of_lt (hlt0 b z)
  have e0 : (s.heap.push { cls := .type "list", dict := none, data := .seq ([] : List Value).toArray }) = S3.heap := hS3.symm
  rw [e0] at hns₁ hsb₁ ⊢
  have old : ∀ b o, S3.heap.get? b = some o → h₁.get? b = some o := fun b o e => hsb₁.extBut b o (Nat.ne_of_lt (Heap.lt_size e)) (Heap.get?_push_of_some _ e)
  have IY := comp_inv (tk := s.toks + ([] : List (Str × Value)).length) I3 hk hex hlt hns₁ old
  have st₁ : tn 0 h₁ := T.keep _ _ _ st fun b hb o e => old b o (by rw [hS3]; exact Heap.get?_push_of_some _ e)
  have frC : FpOk X pins H S3.heap.objs.size := I3.fpOk (Nat.le_refl _) (I3.hok.fresh (Nat.le_refl _))
  have hchg : ∀ b ∈ D :: fp, (b ∈ X.ex ∨ X.s₀.heap.objs.size ≤ b) ∧ b ≠ X.env.locals ∧ (∀ x c, X.env.cells.lookup x = some c → c ≠ b) ∧ ∀ p ∈ X.pn ++ pins, p.1 ≠ b := fun b hb => let ⟨_, f1, _, f3, f4, f5⟩ := hex b hb; ⟨f3, f1, f4, f5⟩
  obtain ⟨W, ⟨m0, w0⟩, turn⟩ := q
  have es : ({ s with heap := h₁, toks := s.toks + ([] : List (Str × Value)).length } : Shared) = { S3 with heap := h₁, toks := s.toks + ([] : List (Str × Value)).length } := by rw [← hS]
  have loop : codeAny (model X.prog X.w) X.A (.compLoop (.ListComp elt [⟨target, iter, ifs, 0⟩] scope pos) 0 (.ref it) (.ref D) (compEnvC scope (clOf X.env scope.names []) S3.heap.objs.size X.env))
      (R (.ref D) S3.heap.objs.size) { s with heap := h₁, toks := s.toks + ([] : List (Str × Value)).length } := by
    rw [es]
    generalize hY : cxComp X N scope (clOf X.env scope.names []) S3.heap.objs.size S3 H (D :: fp) = Y at IY
    have hgY : PG Y target g := hY ▸ hg _ _ _ _ _
    have hcY : PIfs Y ifs tc := hY ▸ hc _ _ _ _ _
    have heY : PE Y elt te := hY ▸ he _ _ _ _ _
    have yp : Y.prog = X.prog := by rw [← hY]
    have yw : Y.w = X.w := by rw [← hY]
    have yK : Y.K = X.K := by rw [← hY]
    have yA : Y.A = X.A := by rw [← hY]
    have yc : Y.calm = true := by rw [← hY]; exact hcalm
    have yx : Y.xe = fun _ _ => False := by rw [← hY]
    have ye : Y.env = compEnvC scope (clOf X.env scope.names []) S3.heap.objs.size X.env := by rw [← hY]
    have yex : Y.ex = D :: fp := by rw [← hY]
    have ypn : Y.pn = [] := by rw [← hY]
    have yb : ∀ {H' : Hp} {s' : Shared} {pp : List (Addr × Obj)} {σ' : St}, Inv Y pp σ' H' s' → Un (frs X.stack) (D :: fp) H H' S3.heap s'.heap ∧ s'.os = S3.os := fun {H' s' pp σ'} J' => by
      have a := J'.base
      have b := J'.os
      rw [← hY] at a b
      exact ⟨a, b⟩
    have statY : ∀ {H' : Hp} {pp : List (Addr × Obj)} (b : Addr), b ∈ D :: fp → H' b = none → (∀ p ∈ pp, p.1 ≠ b) → FpOk Y pp H' b := fun {H' pp} b hb hn hpp => by
      obtain ⟨e1, e2⟩ := IY.ok.exf b (by rw [yex]; exact hb)
      exact ⟨hn, e1, IY.ok.exfs b (by rw [yex]; exact hb), .inl (by rw [yex]; exact hb), fun x c e => e2 x c e, fun p hp => by rw [ypn] at hp; exact hpp p (by simpa using hp)⟩
    have Dfp : ∀ b ∈ fp, D ≠ b := fun b hb z => absurd (hlt0 b hb) (by rw [z]; exact Nat.lt_irrefl _)
    have nocell : ∀ (its : List Value) (n : Nat) (v : Option Value), (lobj its n).data ≠ .cell v := fun its n v z => by cases z
    have pinD : ∀ {H' : Hp} {s' : Shared} {σ' : St} {its : List Value} {n : Nat}, Inv Y [] σ' H' s' → H' D = none → s'.heap.get? D = some (lobj its n) → Inv Y [(D, lobj its n)] σ' H' s' := fun {H' s' σ' its n} I' hn ho => I'.pins_of fun p hp => by
      have e : p = (D, lobj its n) := by simpa using hp
      subst e
      obtain ⟨_, f1, f2, _⟩ := statY (H' := H') (pp := []) D List.mem_cons_self hn (fun _ h => absurd h (by simp))
      exact ⟨ho, hn, f1, f2, nocell its n⟩
    rw [← ye, ← yp, ← yw, ← yA]
    refine comp_loop (fun n s' => ∃ i ys its k H', Inv Y [(D, lobj its k)] (blk src σ) H' s' ∧ tn i s'.heap ∧ (∀ b ∈ fp, H' b = none) ∧ Vals ys its ∧ ys.length ≤ sizeLine ∧ W i n ys H') ?_ m0 ⟨0, [], [], 0, H, pinD IY fD.1 (old D _ gD), st₁, fun b hb => (hfp b hb).1, .nil, Nat.zero_le _, w0⟩
    rintro n s3 ⟨i, ys, its, k, H3, I4, st3, fr3, rv, hz, w3⟩
    have noD : ∀ b ∈ fp, ∀ p ∈ [(D, lobj its k)], p.1 ≠ b := fun b hb p hp => by
      have e : p = (D, lobj its k) := by simpa using hp
      rw [e]; exact Dfp b hb
    rcases turn i n ys H3 w3 with ⟨stop, qn⟩ | ⟨go, N', hN, step⟩
    · have h0 := T.done Y yp yw yK yc i [(D, lobj its k)] s3 _ H3 (fun _ _ => False) I4 (fun b hb => statY b (List.mem_cons_of_mem _ hb) (fr3 b hb) (noD b hb)) st3 stop
      rw [← yp, ← yw] at h0
      refine thn h0 fun r s4 ⟨hr, I5⟩ => ?_
      subst hr
      obtain ⟨u, os⟩ := yb I5
      obtain ⟨m, hm, _⟩ := I5.loc
      rw [ye] at hm
      obtain ⟨oD, nD, _⟩ := I5.pin (D, lobj its k) (by simp)
      have hok : HOk X.prog X.w H3 s4.heap := by have z := I5.hok; rw [yp, yw] at z; exact z
      have I6 : Inv X pins σ H3 s4 := I3.call' os u hok I5.bare hchg
      have I7 := I6.adopt (u := .lst ys) ⟨nD, fD.2⟩ ⟨hz, its, k, rv, oD⟩
      refine hR _ _ _ s4 m I7 (qn D nD) hm ?_
      have fC : H3 S3.heap.objs.size = none := by have z := I5.free; rw [ye] at z; exact z
      exact ⟨by rw [upd_ne (by rw [hC]; exact Nat.succ_ne_self D)]; exact fC, frC.2⟩
    · have h0 := T.item Y yp yw yK yc i [(D, lobj its k)] s3 _ H3 (fun _ _ => False) I4 (fun b hb => statY b (List.mem_cons_of_mem _ hb) (fr3 b hb) (noD b hb)) st3 go
      rw [← yp, ← yw] at h0
      refine thn h0 fun r s4 ⟨u, hr, h4⟩ => ?_
      subst hr
      refine thn h4 fun _ s5 ⟨x, H5, I5, r5, y5, st5, fr5⟩ => ?_
      have I5' := I5.pinned (fun b hb => statY b (List.mem_cons_of_mem _ hb) (fr5 b hb) (noD b hb)) (T.obj _ _ st5)
      have hxe : ∀ {α : Type} {t : Sem α} {Q' : α → Shared → Prop} {s' : Shared}, wpAny (model Y.prog Y.w) Y.A t Q' Y.xe s' → wpAny (model Y.prog Y.w) Y.A t Q' (fun _ _ => False) s' := fun {α t Q' s'} z => by rw [yx] at z; exact z
      refine hxe (thn (hgY _ s5 _ H5 x u _ I5' r5 (step x H5 y5)) fun _ s6 ⟨σ6, H6, I6, wk, q6⟩ => ?_)
      refine hxe (thn (hcY _ s6 σ6 H6 _ I6 q6) fun b s7 ⟨H7, I7, q7⟩ => ?_)
      have iter : ∀ {s8 : Shared} {σ8 : St} {H8 : Hp}, Inv Y ([(D, lobj its k)] ++ pinsAt fp s5.heap) σ8 H8 s8 → tn (i + 1) s8.heap ∧ ∀ b ∈ fp, H8 b = none := fun {s8 σ8 H8} I8 => by
        refine ⟨T.keep _ _ _ st5 fun b hb o e => (I8.pin (b, o) (List.mem_append_right _ (List.mem_append_right _ (mem_pinsAt hb e)))).1, fun b hb => ?_⟩
        obtain ⟨o, e, d⟩ := T.obj _ _ st5 b hb
        exact (I8.pin (b, o) (List.mem_append_right _ (List.mem_append_right _ (mem_pinsAt hb e)))).2.1
      cases b with
      | false =>
        rw [if_neg Bool.false_ne_true]
        rw [if_neg Bool.false_ne_true] at q7
        obtain ⟨m', hm, w8⟩ := hN ys H7 q7
        obtain ⟨t8, f8⟩ := iter I7
        exact ⟨m', hm, i + 1, ys, its, k, H7, I7.unpinned.weak wk.1 wk.2, t8, f8, rv, hz, w8⟩
      | true =>
        rw [if_pos rfl]
        rw [if_pos rfl] at q7
        refine hxe (thn (heY _ s7 σ6 H7 _ I7 q7) fun v s8 ⟨y, H8, I8, r8, hlen, n8⟩ => ?_)
        obtain ⟨m', hm, w8⟩ := hN (ys ++ [y]) H8 n8
        obtain ⟨t8, f8⟩ := iter I8
        obtain ⟨oD, nD, _⟩ := I8.pin (D, lobj its k) (by simp)
        have hl := rv.length
        refine call_meets F.slot_list_append ⟨_, oD, rfl⟩ F.entry_list_append (F.args_list_append_2 _ _) (PySem.list_append D its.toArray k v (by rw [List.size_toArray]; omega)) ⟨oD, ?_⟩
        have qD := PySem.IsL.update oD (·.push v)
        have keepD : ∀ b o, b ≠ D → s8.heap.get? b = some o → (s8.heap.update D (Obj.mapSeq (·.push v))).get? b = some o := fun b o hb e => (Heap.get?_update_other s8.heap (Obj.mapSeq (·.push v)) (Ne.symm hb)).trans e
        have I8' : Inv Y [] σ6 H8 s8 := I8.pins_of fun p hp => absurd hp (by simp)
        have I9 : Inv Y [] σ6 H8 { s8 with heap := s8.heap.update D (Obj.mapSeq (·.push v)), toks := s8.toks } := by
          obtain ⟨f0, f1, f2, f3, f4, f5⟩ := statY (H' := H8) (pp := []) D List.mem_cons_self nD (fun _ h => absurd h (by simp))
          exact I8'.turned keepD f0 f1 f3 f4 f5
        have epush : (its.toArray.push v) = (its ++ [v]).toArray := by simp
        rw [epush] at qD
        refine ⟨m', hm, i + 1, ys ++ [y], its ++ [v], _, H8, (pinD I9 nD qD).weak wk.1 wk.2, T.keep _ _ _ t8 fun b hb o e => keepD b o (Ne.symm (Dfp b hb)) e, f8, rv.append (.cons r8 .nil), ?_, w8⟩
        rw [List.length_append, List.length_singleton]; omega
  have e9 : S3.heap.objs.size = (s.heap.push { cls := .type "list", dict := none, data := .seq ([] : List Value).toArray }).objs.size := by rw [e0]
  exact codeAny_compStart_list loop (T.self _ 0 _ _ _ st₁ loop)

theorem pe_comp {elt target iter : Expr} {ifs : List Expr} {wi : TI} {g : TG} {tc : TT} {te : TE} (N : List Str) (src : List (Option Nat)) (hcalm : X.calm = true) (hi : PI X target iter wi)
    (hg : ∀ cl C s H ex, PG (cxComp X N scope cl C s H ex) target g) (hc : ∀ cl C s H ex, PIfs (cxComp X N scope cl C s H ex) ifs tc) (he : ∀ cl C s H ex, PE (cxComp X N scope cl C s H ex) elt te)
    (hk : compOk X.N X.env.scope.names N src scope = true := by rfl) (hs : ∀ x, foldedSetIterable iter X.env x = pure x := by intro _; rfl) :
    PE X (.ListComp elt [⟨target, iter, ifs, 0⟩] scope pos) (tComp src wi g tc te) := by
  have hk := CompOk.of hk
  intro pins s σ H Q I h
  rw [eval_ListComp]
  refine wpAny_comprehension_free (use := none) rfl hs (closureFor_of fun n hn => I.ok.has n (hk.frees n hn)) hk.kind hk.names (thn (hi pins s σ H _ I h) fun v s1 h1 => thn h1 fun itv s2 h2 => ?_)
  obtain ⟨it, fp, tn, J, H2, rfl, I2, T, st2, f2, q⟩ := h2
  refine comp_core (R := fun acc C => compPost (model X.prog X.w) X.A X.xe none (EP X pins σ Q) acc C) hk hcalm hg hc he I2 T st2 f2 q ?_
  intro D C H' s' m I' q' hm hC
  refine ⟨m, hm, fun h' hs' => ⟨.ref D, H', ?_, rfl, q'⟩⟩
  exact I'.turned (t' := s'.toks) (fun b o hb e => (hs'.2 b hb).trans e) hC.1 hC.2.1 hC.2.2.2.1 hC.2.2.2.2.1 hC.2.2.2.2.2
/-- name = [..], where the store comes ahead of the block's end -/
theorem ps_setC {i : Nat} {y : Str} {pos' spos : Pos} {elt target iter : Expr} {ifs : List Expr} {wi : TI} {g : TG} {tc : TT} {te : TE} (N : List Str) (src : List (Option Nat)) (hN : X.N.Nodup) (hyi : X.N[i]? = some y) (hcalm : X.calm = true) (hi : PI X target iter wi)
    (hg : ∀ cl C s H ex, PG (cxComp X N scope cl C s H ex) target g) (hc : ∀ cl C s H ex, PIfs (cxComp X N scope cl C s H ex) ifs tc) (he : ∀ cl C s H ex, PE (cxComp X N scope cl C s H ex) elt te)
    (hk : compOk X.N X.env.scope.names N src scope = true := by rfl) (hs : ∀ x, foldedSetIterable iter X.env x = pure x := by intro _; rfl)
    (hy : X.env.scope.names.lookup y = some .local := by rfl)
    (hsw : swapsWith (.ListComp elt [⟨target, iter, ifs, 0⟩] scope pos) (some (.Name y pos')) spos.line X.env = pure true := by rfl) :
    PS X (.Assign [.Name y pos'] (.ListComp elt [⟨target, iter, ifs, 0⟩] scope pos) spos) (tAsg (tComp src wi g tc te) (gName i)) := by
  have hk := CompOk.of hk
  intro pins s σ H D I h
  rw [exec_Assign_Name_used _ _ _ _ hsw]
  refine wpAny_bind (wpAny_standAt (wpAny_bind ?_))
  show wpAny _ X.A (do let _ ← comprehension (.ListComp elt [⟨target, iter, ifs, 0⟩] scope pos) scope X.env _ (newList []) false (eval iter X.env) (some (assign (.Name y pos') X.env))) _ _ s
  refine wpAny_bind (wpAny_mono (wpAny_comprehension_free (use := some (assign (.Name y pos') X.env)) (Q := fun _ s' => SP X pins D .next s') rfl hs (closureFor_of fun n hn => I.ok.has n (hk.frees n hn)) hk.kind hk.names
    (thn (hi pins s σ H _ I h) fun v s1 h1 => thn h1 fun itv s2 h2 => ?_)) (fun _ s' hq => wpAny_pure (wpAny_pure hq)) fun _ _ e => e)
  obtain ⟨it, fp, tn, J, H2, rfl, I2, T, st2, f2, q⟩ := h2
  refine comp_core (R := fun acc C => compPost (model X.prog X.w) X.A X.xe (some (assign (.Name y pos') X.env)) (fun _ s' => SP X pins D .next s') acc C) hk hcalm hg hc he I2 T st2 f2 q ?_
  intro Da C H' s' m I' q' hm hC
  show wpAny _ X.A (assign (.Name y pos') X.env (.ref Da)) _ _ s'
  refine wpAny_assign_Name (store_ok2 I' hN hyi (.inl hy) (v := .ref Da) rfl (fun s'' I'' hch => ?_) (.inr hy))
  obtain ⟨a, hsb, ha⟩ := hch
  have nea : C ≠ a := by
    rcases ha with ha | ha
    · rw [ha]; exact hC.2.1
    · intro z; exact hC.2.2.2.2.1 y a ha z.symm
  refine ⟨m, hm.sameBut hsb nea, fun h' hs' => ?_⟩
  exact ⟨_, H', I''.turned (t' := s''.toks) (fun b o hb e => (hs'.2 b hb).trans e) hC.1 hC.2.1 hC.2.2.2.1 hC.2.2.2.2.1 hC.2.2.2.2.2, q'⟩
end
end L2

namespace L2
open PySem
theorem bt_len : bootBuiltins "len" = some (.builtin "len") := by decide +kernel
theorem bt_abs : bootBuiltins "abs" = some (.builtin "abs") := by decide +kernel
theorem bt_all : bootBuiltins "all" = some (.builtin "all") := by decide +kernel
theorem bt_isinstance : bootBuiltins "isinstance" = some (.builtin "isinstance") := by decide +kernel
theorem bt_int : bootBuiltins "int" = some (.type "int") := by decide +kernel
theorem bt_bool : bootBuiltins "bool" = some (.type "bool") := by decide +kernel
theorem bt_str : bootBuiltins "str" = some (.type "str") := by decide +kernel
theorem bt_list : bootBuiltins "list" = some (.type "list") := by decide +kernel
theorem bt_tuple : bootBuiltins "tuple" = some (.type "tuple") := by decide +kernel
end L2

namespace L2
open PySem PySem.Spec PyProof.Rows

/-! ### the layer's rules with the written part named: K is X's own -/
section
variable {X : Cx} {K : PySem.W.Frag} {a b : Expr} {ta tb : TE} {pos : Pos} {tg : Expr}
theorem ixL (hK : X.K = K := by rfl) : IxR X (rIxL K) := hK ▸ ix_list
theorem ixT (hK : X.K = K := by rfl) : IxR X (rIxT K) := hK ▸ ix_tup
/-- a list that is walked: its length is bounded -/
def iListB (K : PySem.W.Frag) (tl : TE) : TI := fun σ H R => tl σ H fun x H1 => ∃ a xs, x = .ref a ∧ SqL K H1 a xs ∧ (xs.length ≤ sizeLine → R (Itl K a) H1)
theorem piL {l : Expr} {tl : TE} (hl : PE X l tl) (hK : X.K = K := by rfl) : PI X tg l (iListB K tl) := by
  subst hK
  intro pins s σ H R I h
  refine thn (hl pins s σ H _ I h) fun v s1 ⟨x, H1, I1, r1, q1⟩ => ?_
  obtain ⟨a, xs, e, hq, q⟩ := q1
  subst e
  cases r1
  obtain ⟨its, rv, p, hz⟩ := I1.list hq
  refine wpAny_pyIter_list p.isList ?_
  refine ⟨s1.heap.objs.size, [s1.heap.objs.size], _, _, H1, rfl, I1.kept (t' := s1.toks) fun b o e => Heap.get?_push_of_some _ e, turn_list a _, ⟨_, Heap.get?_push_size _ rfl, rfl, rfl⟩, fun b hb => ?_, q hz⟩
  have e : b = s1.heap.objs.size := by simpa using hb
  subst e
  exact I1.fpOk (Nat.le_refl _) (I1.hok.fresh (Nat.le_refl _))
theorem pgT {es : List Expr} {k : Nat} {t : TGs} {n : Nat} (hc : X.calm = true) (h : PGs X es t)
    (hn : (assignEach es X.env).length = n := by rfl) (hst : (assignEach es X.env).findIdx? (·.1) = none := by rfl) (hK : X.K = K := by rfl) : PG X (.Tuple es k pos) (gTup K n t) := hK ▸ pg_tup hc h hn hst
theorem callLen (hK : X.K = K := by rfl) : CallR X (.builtin "len") (fun xs H Q => ∃ p ys, xs = [.ref p] ∧ (SqL K H p ys ∨ SqT K H p ys) ∧ Q (.int ys.length) H) := hK ▸ call_len_seq
theorem callList (hK : X.K = K := by rfl) : CallR X (.type "list") (fun xs H Q => ∃ p ys, xs = [.ref p] ∧ (SqL K H p ys ∨ SqT K H p ys) ∧ ∀ l, H l = none → Q (.ref l) (upd H l (.lst ys))) := hK ▸ call_list_of
theorem slL (hK : X.K = K := by rfl) : SlR X (rSlL K) := hK ▸ sl_list

/-! ### ints of any size -/
theorem op_mulB : OpR X (binaryOp .Mult) (rI IntMulOk fun i j => .int (i * j)) := opI fun _ _ _ _ _ _ _ hc q => mul_int q hc
/-- // by a positive divisor -/
theorem op_fdivB : OpR X (binaryOp .FloorDiv) (rI (fun _ j => 0 < j ∧ Builtin.Int.intBits j ≤ 9000) fun i j => .int (i / j)) := opI fun i j _ _ _ _ _ hc q => by
  have e : i.fdiv j = i / j := Int.fdiv_eq_ediv_of_nonneg i (by omega)
  have hb : j.natAbs.log2 < 9000 := by
    have h := hc.2
    unfold Builtin.Int.intBits at h
    have hz : (j == 0) = false := by simp; omega
    rw [hz] at h
    simp only [Bool.false_eq_true, if_false] at h
    omega
  exact floordiv_int (by omega) (by rw [e]; exact q) (.inl (PyProof.noPylong_of_log2 hb))
/-- a list beside one that is empty, or of another length -/
def rEqN (K : PySem.W.Frag) (neg : Bool) : R2 := fun x y H Q => ∃ a b xs ys, x = .ref a ∧ y = .ref b ∧ SqL K H a xs ∧ SqL K H b ys ∧ (ys = [] ∨ xs.length ≠ ys.length) ∧ Q (.bl (xor neg (decide (xs.length = ys.length)))) H
theorem op_neN (hu : X.A.units < cLine) (hK : X.K = K := by rfl) : OpR X (compareOp .NotEq) (rEqN K true) := by
  subst hK
  intro pins s σ H x y v u Q I rx ry h
  obtain ⟨a, b, xs, ys, rfl, rfl, hx, hy, hc, q⟩ := h
  cases rx
  cases ry
  obtain ⟨its, rv, pl, _⟩ := I.list hx
  obtain ⟨its2, rv2, pl2, _⟩ := I.list hy
  have l1 := rv.length
  have l2 := rv2.length
  by_cases hl : xs.length = ys.length
  · have hy0 : ys = [] := hc.elim id fun z => absurd hl z
    subst hy0
    have e1 : its = [] := List.eq_nil_of_length_eq_zero (by rw [← l1, hl]; rfl)
    have e2 : its2 = [] := List.eq_nil_of_length_eq_zero (by rw [← l2]; rfl)
    subst e1 e2
    refine SeqAt.RcNeAt.lists (e := fun _ => true) pl.isList pl2.isList rfl hu (fun j h1 => absurd h1 (by simp)) _ _ _ _ (fin_bl I q ?_)
    rw [decide_eq_true hl]; rfl
  · refine SeqAt.RcNeAt.lists_lengths pl.isList pl2.isList (by simp; omega) hu _ _ _ _ (fin_bl I q ?_)
    rw [decide_eq_false hl]; rfl
theorem un_of {A : Around} {k : Nat} (hr : Room k A) : A.units < cLine := hr.units0
/-! ### isinstance -/
/-- the kind of a value -/
def tyN (K : PySem.W.Frag) (H : Hp) (x : V) (t : String) : Prop := match x with
  | .int _ => t = "int"
  | .bl _ => t = "bool"
  | .str _ => t = "str"
  | .non => t = "NoneType"
  | .ref a => (t = "list" ∧ ∃ xs, SqL K H a xs) ∨ (t = "tuple" ∧ ∃ xs, SqT K H a xs)
  | _ => False
def isKind (t c : String) : Bool := t == c || (t == "bool" && c == "int")
def kinds : List String := ["int", "bool", "str", "list", "tuple"]
theorem kit_kind (K : PySem.W.Frag) {t c : String} (ht : t ∈ "NoneType" :: kinds) (hc : c ∈ kinds) : PySem.W.kitOne K (.type t) (.type c) = some (isKind t c) := by
  simp only [kinds, List.mem_cons, List.not_mem_nil, or_false] at ht hc
  rcases ht with rfl | rfl | rfl | rfl | rfl | rfl <;> rcases hc with rfl | rfl | rfl | rfl | rfl <;> rfl
theorem tyN_mem {H : Hp} {x : V} {t : String} (h : tyN K H x t) : t ∈ "NoneType" :: kinds := by
  cases x with
  | int i => cases (show t = "int" from h); decide
  | bl i => cases (show t = "bool" from h); decide
  | str i => cases (show t = "str" from h); decide
  | non => cases (show t = "NoneType" from h); decide
  | ref a => rcases h with ⟨rfl, _⟩ | ⟨rfl, _⟩ <;> decide
  | byt _ => exact False.elim h
  | flt _ => exact False.elim h
  | ty _ => exact False.elim h
theorem kit_of {pins : List (Addr × Obj)} {σ : St} {H : Hp} {s : Shared} {x : V} {u : Value} {t : String} (I : Inv X pins σ H s) (r : RelV x u) (h : tyN X.K H x t) :
    ∃ φ : Heap → Prop, PySem.W.KitX X.K u (.type t) φ ∧ φ s.heap ∧ u ≠ .builtin "__main__.__loader__#opaque" := by
  cases x with
  | int i => obtain ⟨k, rfl⟩ := r; cases (show t = "int" from h); exact ⟨_, PySem.W.kitx_int, trivial, fun z => nomatch z⟩
  | bl i => cases r; cases (show t = "bool" from h); exact ⟨_, PySem.W.kitx_bool, trivial, fun z => nomatch z⟩
  | str i => obtain ⟨k, rfl⟩ := r; cases (show t = "str" from h); exact ⟨_, PySem.W.kitx_str, trivial, fun z => nomatch z⟩
  | non => cases r; cases (show t = "NoneType" from h); exact ⟨_, PySem.W.kitx_none, trivial, fun z => nomatch z⟩
  | ref a =>
    cases r
    rcases h with ⟨rfl, xs, hq⟩ | ⟨rfl, xs, hq⟩
    · obtain ⟨its, _, pl, _⟩ := I.list hq
      obtain ⟨o, e, c, _⟩ := pl.isList
      exact ⟨_, PySem.W.kitx_list, ⟨o, e, c⟩, fun z => nomatch z⟩
    · obtain ⟨its, _, pl, _⟩ := I.tuple hq
      obtain ⟨o, e, c, _⟩ := pl
      exact ⟨_, PySem.W.kitx_tuple, ⟨o, e, c⟩, fun z => nomatch z⟩
  | byt _ => exact False.elim h
  | flt _ => exact False.elim h
  | ty _ => exact False.elim h
theorem callIsi (hK : X.K = K := by rfl) : CallR X (.builtin "isinstance") (fun xs H Q => ∃ x c t, xs = [x, .ty c] ∧ c ∈ kinds ∧ tyN K H x t ∧ Q (.bl (isKind t c)) H) := by
  subst hK
  intro pins s σ H xs us Q I r h
  obtain ⟨x, c, t, rfl, hc, ht, q⟩ := h
  obtain ⟨u, u2, rfl, ru, ru2⟩ := vals2 r
  cases ru2
  obtain ⟨φ, Z, p, hx⟩ := kit_of I ru ht
  exact PySem.W.kia_one Z I.kIn p (kit_kind X.K (tyN_mem ht) hc) hx fun tk => ⟨.bl (isKind t c), H, I.tok tk, rfl, q⟩
end

/-! ### sum, all of a list -/
section
variable {X : Cx} {K : PySem.W.Frag}
theorem callAll (hc : X.calm = true) (hK : X.K = K := by rfl) : CallR X (.builtin "all") (fun xs H Q => ∃ (p : Addr) (bs : List Bool), xs = [.ref p] ∧ SqL K H p (bs.map V.bl) ∧ Q (.bl (bs.all id)) H) := by
  subst hK
  intro pins s σ H xs us Q I r h
  obtain ⟨p, bs, rfl, hq, q⟩ := h
  obtain ⟨u, rfl, ru⟩ := vals1 r
  cases ru
  obtain ⟨its, rv, pl, hz⟩ := I.list hq
  have hlt : p < s.heap.objs.size := by obtain ⟨_, e, _⟩ := pl.isList; exact Heap.lt_size e
  refine call_all_walk (wpAny_pyIter_list pl.isList ?_)
  refine ⟨s.heap.objs.size, _, _, _, _, _, fun i => bs.getD i false, rfl, Walks.list (A := X.A.in1) (I.ok.hd hc) _ p (Nat.ne_of_lt hlt) its.toArray, ⟨⟨_, Heap.get?_push_size _ rfl, rfl, rfl⟩, pl.isList.push _⟩, ?_, fun h' tk hk => ?_⟩
  · intro i v s' Q' E' hP hQ
    have hP' : its[i]? = some v := by simpa using hP
    have hb : i < its.length := (List.getElem?_eq_some_iff.mp hP').1
    have hbl : its.length = bs.length := by rw [← rv.length, List.length_map]
    have hbi : (bs.map V.bl)[i]? = some (.bl (bs.getD i false)) := by
      rw [List.getElem?_map, List.getElem?_eq_getElem (by omega)]
      simp [List.getD, List.getElem?_eq_getElem (show i < bs.length by omega)]
    obtain ⟨u, hu, ru⟩ := rv.get hbi
    rw [hP'] at hu
    cases hu
    cases ru
    exact wpAny_truthy_bool hQ
  · have e : (List.range its.toArray.size).all (fun i => bs.getD i false) = bs.all id := by
      have hbl : its.toArray.size = bs.length := by rw [List.size_toArray, ← rv.length, List.length_map]
      rw [hbl]
      clear hk q rv hbl hq hz pl
      induction bs with
      | nil => rfl
      | cons b bs ih =>
        rw [List.length_cons, List.range_succ_eq_map, List.all_cons, List.all_cons, List.all_map]
        exact congrArg (fun z => b && z) ih
    refine ⟨.bl (bs.all id), H, I.kept (t' := tk) fun b o eb => ?_, by rw [e]; rfl, q⟩
    refine hk b o ?_ (Heap.get?_push_of_some _ eb)
    intro hb
    have e : b = s.heap.objs.size := by simpa using hb
    exact absurd (Heap.lt_size eb) (by rw [e]; exact Nat.lt_irrefl _)
end
end L2

namespace L2
open PySem PySem.Spec PyProof.Rows

/-! ### a known part G of the heap H; both grow by new objects -/
def Ext (G H G' H' : Hp) : Prop := Same H H' ∧ Same G G' ∧ Same G' H' ∧ ∀ b, G' b ≠ none → G b ≠ none ∨ H b = none
theorem Ext.trans {G H G1 H1 G2 H2 : Hp} (a : Ext G H G1 H1) (b : Ext G1 H1 G2 H2) : Ext G H G2 H2 :=
  ⟨a.1.trans b.1, a.2.1.trans b.2.1, b.2.2.1, fun c h => (b.2.2.2 c h).elim (fun z => a.2.2.2 c z) fun z => .inr (a.1.free z)⟩
theorem Ext.sub {G H G' H' : Hp} (a : Ext G H G' H') : Same G' H' := a.2.2.1
theorem Ext.heap {G H G' H' : Hp} (a : Ext G H G' H') : Same H H' := a.1
theorem Ext.known {G H G' H' : Hp} (a : Ext G H G' H') : Same G G' := a.2.1
/-- the heap alone grows -/
theorem Ext.grow {G H H' : Hp} (h : Same G H) (g : Same H H') : Ext G H G H' := ⟨g, Same.refl _, h.trans g, fun _ h => .inl h⟩
theorem same_new {H : Hp} {p : Addr} (h : H p = none) (o : HO) : Same H (upd H p o) := fun b u q => by rw [upd_ne (ne_of_none q h)]; exact q
/-- a new object, known -/
theorem Ext.new {G H : Hp} {p : Addr} (h : Same G H) (n : H p = none) (o : HO) : Ext G H (upd G p o) (upd H p o) := by
  refine ⟨same_new n o, same_new (h.free n) o, fun b u q => ?_, fun b hb => ?_⟩
  · by_cases hbp : b = p
    · subst hbp; rw [upd_same] at q ⊢; exact q
    · rw [upd_ne hbp] at q ⊢; exact h b u q
  · by_cases hbp : b = p
    · subst hbp; exact .inr n
    · rw [upd_ne hbp] at hb; exact .inl hb
/-- an object of ours that stands in the heap becomes known -/
theorem Ext.know {G H G' H' : Hp} {p : Addr} {o : HO} (a : Ext G H G' H') (n : H p = none) (e : H' p = some o) (hG : G' p = none) : Ext G H (upd G' p o) H' := by
  refine ⟨a.1, a.2.1.trans (same_new hG o), fun b u q => ?_, fun b hb => ?_⟩
  · by_cases hbp : b = p
    · subst hbp; rw [upd_same] at q; cases q; exact e
    · rw [upd_ne hbp] at q; exact a.2.2.1 b u q
  · by_cases hbp : b = p
    · subst hbp; exact .inr n
    · rw [upd_ne hbp] at hb; exact a.2.2.2 b hb
/-- a list of ours, not among the known, is changed -/
theorem Ext.put {G H G' H' : Hp} {p : Addr} (a : Ext G H G' H') (n : H p = none) (hG : G' p = none) (o : HO) : Ext G H G' (upd H' p o) := by
  refine ⟨fun b u q => ?_, a.2.1, fun b u q => ?_, a.2.2.2⟩
  · rw [upd_ne (ne_of_none q n)]; exact a.1 b u q
  · rw [upd_ne (ne_of_none q hG)]; exact a.2.2.1 b u q
/-! ### data in the heap -/
structure Rp (α : Type) where
  rel : Hp → V → α → Prop
  mono : ∀ {G G' v x}, Same G G' → rel G v x → rel G' v x
theorem Same.seqT {K : PySem.W.Frag} {H H' : Hp} {a : Addr} {xs : List V} (e : Same H H') (h : SqT K H a xs) : SqT K H' a xs := by
  rcases h with (h | ⟨o, h⟩) | h
  · exact .inl (.inl (e _ _ h))
  · exact .inl (.inr ⟨o, e _ _ h⟩)
  · exact .inr h
section
variable {α β : Type}
theorem Paired.monoR {R : Rp α} {G G' : Hp} (e : Same G G') : ∀ {vs : List V} {xs : List α}, Paired (R.rel G) vs xs → Paired (R.rel G') vs xs
  | _, _, .nil => .nil
  | _, _, .cons h t => .cons (R.mono e h) (Paired.monoR e t)
def rInt : Rp Int := ⟨fun _ v i => v = .int i, fun _ h => h⟩
def rLst (K : PySem.W.Frag) (R : Rp α) : Rp (List α) := ⟨fun G v xs => ∃ a vs, v = .ref a ∧ SqL K G a vs ∧ Paired (R.rel G) vs xs, fun e ⟨a, vs, h1, h2, h3⟩ => ⟨a, vs, h1, e.seq h2, Paired.monoR e h3⟩⟩
def rPr (K : PySem.W.Frag) (R : Rp α) (S : Rp β) : Rp (α × β) := ⟨fun G v p => ∃ a u w, v = .ref a ∧ SqT K G a [u, w] ∧ R.rel G u p.1 ∧ S.rel G w p.2, fun e ⟨a, u, w, h1, h2, h3, h4⟩ => ⟨a, u, w, h1, e.seqT h2, R.mono e h3, S.mono e h4⟩⟩
end
theorem ints_paired {G : Hp} : ∀ {vs : List V} {ns : List Int}, Paired (rInt.rel G) vs ns → vs = ns.map V.int
  | _, _, .nil => rfl
  | _, _, .cons h t => by rw [ints_paired t, show _ = V.int _ from h]; rfl
theorem paired_ints {G : Hp} : ∀ (ns : List Int), Paired (rInt.rel G) (ns.map V.int) ns
  | [] => .nil
  | _ :: r => .cons rfl (paired_ints r)
theorem rInts {K : PySem.W.Frag} {G : Hp} {v : V} {ns : List Int} : (rLst K rInt).rel G v ns ↔ ∃ a, v = .ref a ∧ SqL K G a (ns.map V.int) :=
  ⟨fun ⟨a, _, h1, h2, h3⟩ => ⟨a, h1, by rw [ints_paired h3] at h2; exact h2⟩, fun ⟨a, h1, h2⟩ => ⟨a, _, h1, h2, paired_ints ns⟩⟩
abbrev rRow (K : PySem.W.Frag) : Rp (List Int × Int) := rPr K (rLst K rInt) rInt
/-! ### what a def of plain data promises -/
/-- a plain answer; the heap may have grown -/
def Sc (H : Hp) (Q : VK) (v : V) : Prop := ∀ H', Same H H' → Q v H'
/-- an answer in the heap, told by the known part -/
def Sr {α : Type} (R : Rp α) (G H : Hp) (Q : VK) (x : α) : Prop := ∀ G' H' v, Ext G H G' H' → R.rel G' v x → Q v H'

/-! ### defs that are called -/
structure Dep (P : Program) (w : World) (K : PySem.W.Frag) (mg : Str → Option Value) (base : Heap) (k : Nat) (x : Str) (ps : List Str) (sp : Sp) : Prop where
  ex : ∃ (f : Addr) (fd : FuncData), FnOk P w K mg base CX0 k f fd ps sp ∧ Binds K fd ps [] ∧ PySem.W.keepIn K (.ref f) = true ∧ mg x = some (.ref f)
theorem Dep.mono {P : Program} {w : World} {K : PySem.W.Frag} {mg : Str → Option Value} {base : Heap} {j k : Nat} {x : Str} {ps : List Str} {sp : Sp} (D : Dep P w K mg base j x ps sp) (h : j ≤ k) : Dep P w K mg base k x ps sp :=
  let ⟨f, fd, F, a⟩ := D.ex
  ⟨⟨f, fd, F.mono h, a⟩⟩
section
variable {X : Cx} {k : Nat} {x : Str} {ps : List Str} {sp : Sp} {e : Expr} {es : List Expr} {t : TA} {p pos : Pos}
theorem pe_callD (D : Dep X.prog X.w X.K X.mg X.base k x ps sp) (hr : Room k X.A) (ha : PA X (e :: es) t) (hg : Gl X x := by rfl) (hdb : (x == ("__debug__" : Str)) = false := by decide)
    (he : starEach (e :: es) X.env = (false, eval e X.env) :: starEach es X.env := by rfl) (hpl : (backTo pos (starEach es X.env)).any (·.1) = false := by rfl) :
    PE X (.Call (.Name x p) (e :: es) [] pos) (tCall sp [] E0 t) := by
  obtain ⟨f, fd, F, b, kp, mx⟩ := D.ex
  exact pe_call F hr hg mx kp b .nil pass0 ha hdb he hpl
end
theorem Fun.dep {P : Program} {w : World} {K : PySem.W.Frag} {mg : Str → Option Value} {base : Heap} {k : Nat} {x : Str} {st : Stmt} {f : Addr} {fd : FuncData} {ps : List Str} {sp : Sp} (F : Fun K x x st f fd) (h : FnOk P w K mg base CX0 k f fd ps sp)
    (b : Binds K fd ps []) (m : mg x = some (.ref f)) : Dep P w K mg base k x ps sp := ⟨⟨f, fd, h, b, F.kp, m⟩⟩
/-- built-in names that the module does not bind -/
structure Blt (mg : Str → Option Value) : Prop where
  len : mg "len" = none
  range : mg "range" = none
  min : mg "min" = none
  max : mg "max" = none
  abs : mg "abs" = none
  sum : mg "sum" = none
  all : mg "all" = none
  any : mg "any" = none
  zip : mg "zip" = none
  enumerate : mg "enumerate" = none
  sorted : mg "sorted" = none
  isinstance : mg "isinstance" = none
  int : mg "int" = none
  bool : mg "bool" = none
  str : mg "str" = none
  list : mg "list" = none
  tuple : mg "tuple" = none
  ord : mg "ord" = none

/-! ### the forms of a comprehension that one uses -/
section
variable {K : PySem.W.Frag} {a : Addr} {xs : List V} {g : TG} {tc : TT} {te : TE} {src : List (Option Nat)} {σ : St} {H : Hp} {Q : VK}
/-- n turns -/
theorem comp_n {J : It} (n : Nat) (Pv : Nat → List V → Hp → Prop) (h0 : Pv 0 [] H) (hgo : ∀ i ys H, i < n → Pv i ys H → J.go i H) (hstop : ∀ ys H, Pv n ys H → J.stop n H)
    (hs : ∀ i x ys H H2, i < n → Pv i ys H → J.yld i H x H2 → g x (blk src σ) H2 fun σ3 H3 => Wk (blk src σ) σ3 ∧ tc σ3 H3 fun b H4 => if b = true then te σ3 H4 fun v H5 => ys.length < sizeLine ∧ Pv (i + 1) (ys ++ [v]) H5 else Pv (i + 1) ys H4)
    (hd : ∀ ys H D, Pv n ys H → H D = none → Q (.ref D) (upd H D (.lst ys))) : compW src g tc te σ Q J H := by
  refine ⟨fun i m ys H => m = n - i ∧ i ≤ n ∧ Pv i ys H, ⟨n, by simp, Nat.zero_le _, h0⟩, ?_⟩
  rintro i m ys H ⟨rfl, hi, p⟩
  by_cases hlt : i < n
  · exact .inr ⟨hgo i ys H hlt p, Pv (i + 1), fun ys' H' p' => ⟨n - (i + 1), by omega, rfl, hlt, p'⟩, fun x H' y => hs i x ys H H' hlt p y⟩
  · have e : i = n := by omega
    subst e
    exact .inl ⟨hstop ys H p, fun D hD => hd ys H D p hD⟩
theorem tTrue_then {σ : St} {H : Hp} {A B : Hp → Prop} (h : A H) : tTrue σ H fun b H4 => if b = true then A H4 else B H4 := by
  show if true = true then A H else B H
  rw [if_pos rfl]
  exact h
theorem comp_range {lo : Int} {n : Nat} (Pv : Nat → List V → Hp → Prop) (h0 : Pv 0 [] H)
    (hs : ∀ i ys H, i < n → Pv i ys H → g (.int (lo + i)) (blk src σ) H fun σ3 H3 => Wk (blk src σ) σ3 ∧ tc σ3 H3 fun b H4 => if b = true then te σ3 H4 fun v H5 => ys.length < sizeLine ∧ Pv (i + 1) (ys ++ [v]) H5 else Pv (i + 1) ys H4)
    (hd : ∀ ys H D, Pv n ys H → H D = none → Q (.ref D) (upd H D (.lst ys))) : compW src g tc te σ Q (Itr lo n) H := by
  refine comp_n n Pv h0 (fun i ys H hi p => hi) (fun ys H p => Nat.le_refl _) (fun i x ys H H2 hi p y => ?_) hd
  obtain ⟨e, y⟩ := y
  subst e y
  exact hs i ys _ hi p
end
end L2
namespace L2
open PySem PySem.Spec PyProof.Rows
/-- what holds between two statements; h1 for whatever comes behind -/
theorem seq_mid {t u : TS} {D : Ends} {σ : St} {H : Hp} (J : St → Hp → Prop) (h1 : ∀ nx : St → Hp → Prop, (∀ σ' H', J σ' H' → nx σ' H') → t { D with nx := nx } σ H) (h2 : ∀ σ' H', J σ' H' → u D σ' H') : tSeq t u D σ H := h1 (u D) h2
theorem if_mid {c : TT} {t1 t2 u : TS} {D : Ends} {σ : St} {H : Hp} (J : St → Hp → Prop) (h1 : ∀ nx : St → Hp → Prop, (∀ σ' H', J σ' H' → nx σ' H') → c σ H fun b H1 => if b = true then t1 { D with nx := nx } σ H1 else t2 { D with nx := nx } σ H1)
    (h2 : ∀ σ' H', J σ' H' → u D σ' H') : tSeq (tIfS c t1 t2) u D σ H := h1 (u D) h2
theorem ite_yes {c : Bool} {A B : Prop} (h : c = true) (a : A) : if c = true then A else B := by rw [if_pos h]; exact a
theorem ite_no {c : Bool} {A B : Prop} (h : c = false) (b : B) : if c = true then A else B := by rw [if_neg (by rw [h]; exact Bool.false_ne_true)]; exact b
theorem two_le : 2 ≤ sizeLine := by decide
theorem nil_le : 0 ≤ sizeLine := by decide
theorem three_le : 3 ≤ sizeLine := by decide
theorem small_le {n : Nat} (h : n ≤ 10000) : n < sizeLine := Nat.lt_of_le_of_lt h (by decide)
end L2

namespace L2
open PySem PySem.Spec PyProof.Rows
/-! ### zip of two lists, its pairs unpacked -/
section
variable {X : Cx} {K : PySem.W.Frag} {elts : List Expr} {k : Nat} {tp : Pos}
end
end L2

namespace Mm
/-! ### sums by places -/
/-! ### values -/
abbrev Rw := List Int × Int
end Mm

namespace Mm
/-! ### the greatest common divisor, by rests -/
/-! ### the sum of rows by weights -/
end Mm

namespace L2
open PySem PySem.Spec PyProof.Rows Mm
abbrev nb (x : Int) : Nat := Builtin.Int.intBits x

/-! ### equal data, with the number of its nodes -/
/-! ### the drawn numbers -/
def anyM (c : Int) : Int := c / 2 % 10 ^ 59 * (if c % 2 = 0 then 1 else -1)

/-! ### what the defs promise -/
section
variable (K : PySem.W.Frag)
def sp_check_row : Sp := fun vs H Q _ => ∃ (n : Int) (v : V) (r : Rw), vs = [.int n, v] ∧ (rRow K).rel H v r ∧ (r.1.length : Int) = n ∧ Sc H Q .non
def sp_law_whole : Sp := fun vs H Q _ => ∃ i : Int, vs = [.int i] ∧ Sc H Q (.bl true)
def sp_law_at : Sp := fun vs H Q _ => ∃ (a : Addr) (ns : List Int) (j : Nat), vs = [.ref a, .int j] ∧ SqL K H a (ns.map V.int) ∧ Sc H Q (.int (ns.getD j 0))
def sp_law_any : Sp := fun vs H Q _ => ∃ c : Int, vs = [.int c] ∧ Sc H Q (.int (anyM c))
def sp_law_is_row : Sp := fun vs H Q _ => ∃ (u v : V) (r : Rw), vs = [u, v] ∧ (rRow K).rel H u r ∧ (rRow K).rel H v r ∧ r.1.length ≤ 10000 ∧ Sc H Q (.bl true)
def sp_law : Sp := fun vs H Q _ => ∃ (a : Addr) (ns : List Int), vs = [.ref a] ∧ SqL K H a (ns.map V.int) ∧ ns.length ≤ 63 ∧ ∀ H', Q (.bl true) H'
end
end L2
namespace L2
open PySem PySem.Spec PyProof.Rows Mm
end L2

namespace L2
open PySem PySem.Spec PyProof.Rows Mm
/-! ### sizes of numbers -/
theorem nb_mul {x y : Int} {m n : Nat} (hx : nb x ≤ m) (hy : nb y ≤ n) : nb (x * y) ≤ m + n := PySem.intBits_mul_le hx hy
theorem nb_of_le {x y : Int} {m : Nat} (h : x.natAbs ≤ y.natAbs) (hy : nb y ≤ m) : nb x ≤ m := PySem.intBits_le_of_natAbs h hy
theorem nb_of_lt {x : Int} {m : Nat} (h : x.natAbs < 2 ^ m) : nb x ≤ m := PySem.intBits_le_iff.mpr h
theorem int_at {xs : List Int} {i : Nat} {x : V} (h : (xs.map V.int)[i]? = some x) : ∃ n, xs[i]? = some n ∧ x = .int n := by
  rw [List.getElem?_map] at h
  cases e : xs[i]? with
  | none => rw [e] at h; cases h
  | some n => rw [e] at h; exact ⟨n, rfl, (Option.some.inj h).symm⟩
theorem at_int {xs : List Int} {i : Nat} (h : i < xs.length) : atI (xs.map V.int) (i : Int) = some (.int (xs.getD i 0)) :=
  atI_nat (by rw [List.getElem?_map, List.getElem?_eq_getElem h]; simp [List.getD, h])
theorem mem_at {α : Type} {xs : List α} {i : Nat} {x : α} (h : xs[i]? = some x) : x ∈ xs := List.mem_of_getElem? h
theorem len_lt {α : Type} {xs : List α} {i : Nat} {x : α} (h : xs[i]? = some x) : i < xs.length := (List.getElem?_eq_some_iff.mp h).1
theorem take_snoc {α : Type} {xs : List α} {i : Nat} {x : α} (h : xs[i]? = some x) : xs.take (i + 1) = xs.take i ++ [x] := by
  rw [List.take_add_one, h]; rfl
end L2
namespace L2
open PySem PySem.Spec PyProof.Rows Mm
theorem anyM_nb (c : Int) : nb (anyM c) ≤ 200 := by
  have h1 : 0 ≤ c / 2 % 10 ^ 59 := Int.emod_nonneg _ (by decide)
  have h2 : c / 2 % 10 ^ 59 < 10 ^ 59 := Int.emod_lt_of_pos _ (by decide)
  have h3 : nb (c / 2 % 10 ^ 59) ≤ 199 := nb_of_lt (by
    have : (10 : Int) ^ 59 < 2 ^ 199 := by decide
    omega)
  unfold anyM
  exact nb_mul h3 (show nb (if c % 2 = 0 then 1 else -1) ≤ 1 by split <;> decide)
theorem small_nb {x : Int} (h1 : -1000 ≤ x) (h2 : x ≤ 1000) : nb x ≤ 200 := nb_of_lt (by
  have : (1000 : Nat) < 2 ^ 200 := by decide
  omega)
theorem abs_nb {x : Int} {m : Nat} (h : nb x ≤ m) : nb (if x < 0 then -x else x) ≤ m := nb_of_le (by split <;> omega) h
end L2
namespace L2
open PySem PySem.Spec PyProof.Rows Mm
end L2
namespace L2
open PySem PySem.Spec PyProof.Rows Mm
theorem cut_from (ns : List Int) (k : Nat) : cutV (ns.map V.int) (some (k : Int)) none = (ns.drop k).map V.int := by
  unfold cutV
  rw [HT.sIx_nat, HT.sIx_none, List.length_map]
  have e : (ns.map V.int).drop (min k ns.length) = (ns.drop k).map V.int := by
    rw [List.map_drop]
    by_cases h : k ≤ ns.length
    · rw [Nat.min_eq_left h]
    · rw [Nat.min_eq_right (by omega), List.drop_of_length_le (by simp), List.drop_of_length_le (by simp; omega)]
  rw [e]
  apply List.take_of_length_le
  rw [List.length_map, List.length_drop]
  omega
end L2

namespace L2
open PySem PySem.Spec PyProof.Rows
/-! ### a for over any source; zip; enumerate -/
theorem for_n {J : It} {g : TG} {tb : TS} {D : Ends} {σ : St} {H : Hp} (n : Nat) (Pv : Nat → St → Hp → Prop) (h0 : Pv 0 σ H) (hgo : ∀ i σ H, i < n → Pv i σ H → J.go i H) (hstop : ∀ σ H, Pv n σ H → J.stop n H)
    (hs : ∀ i x σ H H', i < n → Pv i σ H → J.yld i H x H' → g x σ H' fun σ2 H2 => tb { D with nx := Pv (i + 1), ct := Pv (i + 1), bk := D.nx } σ2 H2) (hd : ∀ σ H, Pv n σ H → D.nx σ H) :
    ∃ W : Nat → Nat → St → Hp → Prop, (∃ m, W 0 m σ H) ∧ ∀ i m σ H, W i m σ H →
      (J.stop i H ∧ D.nx σ H) ∨ (J.go i H ∧ ∃ N : St → Hp → Prop, (∀ σ' H', N σ' H' → ∃ m', m' < m ∧ W (i + 1) m' σ' H') ∧ ∀ x H', J.yld i H x H' → g x σ H' fun σ2 H2 => tb { D with nx := N, ct := N, bk := D.nx } σ2 H2) := by
  refine ⟨fun i m σ H => m = n - i ∧ i ≤ n ∧ Pv i σ H, ⟨n, by omega, Nat.zero_le _, h0⟩, fun i m σ H w => ?_⟩
  obtain ⟨rfl, hi, p⟩ := w
  by_cases hlt : i < n
  · exact .inr ⟨hgo i σ H hlt p, Pv (i + 1), fun σ' H' p' => ⟨n - (i + 1), by omega, rfl, hlt, p'⟩, fun x H' y => hs i x σ H H' hlt p y⟩
  · obtain rfl : i = n := by omega
    exact .inl ⟨hstop σ H p, hd σ H p⟩
/-- enumerate of a list, its pairs unpacked -/
def Ite (K : PySem.W.Frag) (a : Addr) : It :=
  ⟨fun i H => ∃ xs x, SqL K H a xs ∧ xs[i]? = some x,
   fun i H v H' => ∃ T x, H T = none ∧ H' = upd H T (.tup [.int i, x]) ∧ v = .ref T ∧ ∀ xs, SqL K H a xs → xs[i]? = some x,
   fun i H => ∃ xs, SqL K H a xs ∧ xs.length ≤ i⟩
theorem enum_ne {n a : Nat} (ha : a < n) : n + 1 ≠ n ∧ a ≠ n + 1 ∧ a ≠ n := ⟨by omega, by omega, by omega⟩
theorem turn_enum {P : Program} {w : World} {K : PySem.W.Frag} {elts : List Expr} {k : Nat} {tp : Pos} {e it a : Addr} (D : e ≠ it) :
    Turn P w K (.Tuple elts k tp) (Ite K a) [e, it] e (fun i h => (∃ old, IsEnum h e it (i : Int) old) ∧ h.IsListIter it a i) where
  mem := by simp
  obj := fun i h st c hc => by
    obtain ⟨⟨old, he⟩, ⟨o1, e1, c1, d1⟩⟩ := st
    simp only [List.mem_cons, List.not_mem_nil, or_false] at hc
    rcases hc with rfl | rfl
    · exact ⟨_, he, fun v z => nomatch z⟩
    · exact ⟨o1, e1, fun v z => by rw [d1] at z; cases z⟩
  keep := fun i h h' st k => by
    obtain ⟨⟨old, he⟩, h1⟩ := st
    exact ⟨⟨old, k e (by simp) _ he⟩, h1.at fun o q => k it (by simp) o q⟩
  item := by
    intro X hP hw hK hc i pins s σ H E I hf st hg
    subst hP hw hK
    obtain ⟨⟨old, he⟩, h1⟩ := st
    obtain ⟨xs, x, hx, ex⟩ := hg
    obtain ⟨its, rv, pl, _⟩ := I.list hx
    obtain ⟨u, hu, ru⟩ := rv.get ex
    refine wpAny_pyNext_enum_item he h1 pl.isList (x := u) (by simpa using hu) D fun h' a1 a2 a3 a4 a5 => ?_
    refine ⟨_, rfl, wpAny_letOwnedTupleGo_enum a1 fun h'' z' sb => ?_⟩
    have hfc : ∀ c ∈ [e, it], FpOk X pins H c := hf
    have kk : ∀ c o, c ∉ [e, it] → s.heap.get? c = some o → h''.get? c = some o := fun c o hc q => by
      simp only [List.mem_cons, List.not_mem_nil, or_false, not_or] at hc
      exact sb.extBut _ _ hc.1 (a5 c o hc.1 hc.2 q)
    have elt : e ≠ s.heap.objs.size := Nat.ne_of_lt (Heap.lt_size he)
    have I1 : Inv X pins σ H { s with heap := h'', toks := s.toks + 1 } := I.turnedL (t' := s.toks + 1) kk hfc
    have fT : FpOk X pins H s.heap.objs.size := I.fpOk (Nat.le_refl _) I.fresh
    have oT := sb.extBut _ _ (Ne.symm elt) a3
    have I2 : Inv X pins σ (upd H s.heap.objs.size (.tup [.int i, x])) { s with heap := h'', toks := s.toks + 1 } := I1.adopt fT ⟨(by show 2 ≤ sizeLine; decide), [.int i s.toks, u], .cons ⟨_, rfl⟩ (.cons ru .nil), ⟨_, oT, rfl, _, rfl⟩⟩
    refine ⟨.ref s.heap.objs.size, _, I2, rfl, ⟨s.heap.objs.size, x, fT.1, rfl, rfl, fun xs' h => by rw [I.list_inj h hx]; exact ex⟩, ⟨⟨_, z'⟩, a2.extBut sb.extBut (Ne.symm D)⟩, fun c hc => ?_⟩
    have lt : c < s.heap.objs.size := by
      simp only [List.mem_cons, List.not_mem_nil, or_false] at hc
      obtain ⟨o1, e1, _⟩ := h1
      rcases hc with rfl | rfl
      · exact Heap.lt_size he
      · exact Heap.lt_size e1
    rw [upd_ne (Nat.ne_of_lt lt)]
    exact (hf c hc).1
  done := by
    intro X hP hw hK hc i pins s σ H E I hf st hg
    subst hP hw hK
    obtain ⟨⟨old, he⟩, h1⟩ := st
    obtain ⟨xs, hx, hend⟩ := hg
    obtain ⟨its, rv, pl, _⟩ := I.list hx
    have hl := rv.length
    refine wpAny_pyNext_enum_end (I.ok.hd hc) he h1 pl.isList (by simp; omega) fun h' hk => ⟨rfl, ?_⟩
    refine I.turnedL (t' := s.toks) (ch := [it]) (fun c o hc q => ?_) (fun c hc => hf c (by
      simp only [List.mem_cons, List.not_mem_nil, or_false] at hc ⊢
      exact .inr hc))
    simp only [List.mem_cons, List.not_mem_nil, or_false] at hc
    exact hk c o hc q
  self := fun _ _ _ _ _ st h => by
    obtain ⟨old, he⟩ := st.1
    exact wpAny_pyIter_enum he h
section
variable {X : Cx} {K : PySem.W.Frag} {elts : List Expr} {k : Nat} {tp : Pos}
def iEnum (K : PySem.W.Frag) (ta : TA) : TI := fun σ H R => ta σ H fun vs H1 => ∃ a xs, vs = [.ref a] ∧ SqL K H1 a xs ∧ (xs.length ≤ sizeLine → R (Ite K a) H1)
theorem pi_enum {e1 : Expr} {ta : TA} {p pos : Pos} (hg : Gl X "enumerate") (hm : X.mg "enumerate" = none) (ha : PA X [e1] ta) (hK : X.K = K := by rfl)
    (hs : starEach [e1] X.env = [(false, eval e1 X.env)] := by rfl) : PI X (.Tuple elts k tp) (.Call (.Name "enumerate" p) [e1] [] pos) (iEnum K ta) := by
  subst hK
  intro pins s σ H R I h
  refine Call_ (ld_blt I hg hm boot_enumerate (PyProof.Rows.callWith_type1 (thn (ha pos pins s σ H _ I h) fun us s1 ⟨vs, H1, I1, r1, q1⟩ => ?_) (by rw [hs]; rfl) rfl))
  obtain ⟨a, xs, rfl, hx, q⟩ := q1
  obtain ⟨u, rfl, ru⟩ := vals1 r1
  cases ru
  obtain ⟨its, rv, pl, hz1⟩ := I1.list hx
  have la : a < s1.heap.objs.size := by obtain ⟨_, e, _⟩ := pl.isList; exact Heap.lt_size e
  refine call_enumerate_list pl.isList fun h' z1 z2 z3 z4 => ?_
  have I2 : Inv X pins σ H1 { s1 with heap := h', toks := s1.toks } := I1.kept z4
  refine wpAny_pyIter_enum z1 ?_
  refine ⟨_, _, _, _, H1, rfl, I2, turn_enum (enum_ne la).1, ⟨⟨_, z1⟩, z2⟩, fun c hc => ?_, q hz1⟩
  have ge : s1.heap.objs.size ≤ c := by
    simp only [List.mem_cons, List.not_mem_nil, or_false] at hc
    rcases hc with rfl | rfl
    · exact Nat.le_succ _
    · exact Nat.le_refl _
  exact I1.fpOk ge (I1.hok.fresh ge)
theorem comp_enum {a : Addr} {xs : List V} {g : TG} {tc : TT} {te : TE} {src : List (Option Nat)} {σ : St} {H : Hp} {Q : VK} (Pv : Nat → List V → Hp → Prop) (h0 : Pv 0 [] H) (hl : ∀ i zs H, Pv i zs H → SqL K H a xs)
    (hs : ∀ i x T zs H, xs[i]? = some x → Pv i zs H → H T = none → g (.ref T) (blk src σ) (upd H T (.tup [.int i, x])) fun σ3 H3 => Wk (blk src σ) σ3 ∧ tc σ3 H3 fun b H4 => if b = true then te σ3 H4 fun v H5 => zs.length < sizeLine ∧ Pv (i + 1) (zs ++ [v]) H5 else Pv (i + 1) zs H4)
    (hd : ∀ zs H D, Pv xs.length zs H → H D = none → Q (.ref D) (upd H D (.lst zs))) : compW src g tc te σ Q (Ite K a) H := by
  refine comp_n xs.length Pv h0 (fun i zs H hi p => ⟨xs, xs[i], hl i zs H p, by simp [hi]⟩) (fun zs H p => ⟨xs, hl _ zs H p, Nat.le_refl _⟩) (fun i x zs H H2 hi p y => ?_) hd
  obtain ⟨T, x', hT, rfl, rfl, e1⟩ := y
  exact hs i x' T zs H (e1 xs (hl i zs H p)) p hT
end
section
variable {X : Cx} {K : PySem.W.Frag}
end
/-! ### min(xs, default=None) of ints -/
section
variable {prog : Program} {w : World} {A : Around} {R : Result → Shared → Prop} {l I S : Addr} {vs : List Value} {ns : List Int}
end
section
variable {X : Cx} {K : PySem.W.Frag}
end
end L2

namespace L2
open PySem PySem.Spec PyProof.Rows
/-! ### texts -/
section
variable {X : Cx} {K : PySem.W.Frag}
/-- a text that the module binds -/
def StrC (mg : Str → Option Value) (x s : Str) : Prop := ∃ t, mg x = some (.str s t)
theorem pe_globS {x s : Str} {p : Pos} (h : StrC X.mg x s) (hg : Gl X x := by rfl) (hd : (x == ("__debug__" : Str)) = false := by decide) : PE X (.Name x p) (tC (.str s)) := by
  obtain ⟨t, e⟩ := h
  exact pe_glob hg e ⟨t, rfl⟩ hd
theorem ms_startswith : MtR X "str.startswith" (fun x xs H Q => ∃ a b, x = .str a ∧ xs = [.str b] ∧ Q (.bl (Txt.startswith a b)) H) := by
  intro pins s σ H x xs v us Q I rx rs h
  obtain ⟨a, b, rfl, rfl, q⟩ := h
  obtain ⟨t, rfl⟩ := rx
  obtain ⟨u, rfl, t2, rfl⟩ := vals1 rs
  exact SC.startswith ⟨.bl _, H, I, rfl, q⟩
theorem ms_index : MtR X "str.index" (fun x xs H Q => ∃ a b i rest, x = .str a ∧ xs = [.str b] ∧ Builtin.Str.occurrences a b 0 a.length 1 = i :: rest ∧ Q (.int (i : Nat)) H) := by
  intro pins s σ H x xs v us Q I rx rs h
  obtain ⟨a, b, i, rest, rfl, rfl, ho, q⟩ := h
  obtain ⟨t, rfl⟩ := rx
  obtain ⟨u, rfl, t2, rfl⟩ := vals1 rs
  exact SC.index ho ⟨.int _, H, I.tok _, ⟨_, rfl⟩, q⟩
theorem ms_partition : MtR X "str.partition" (fun x xs H Q => ∃ a b, x = .str a ∧ xs = [.str b] ∧ (b.length == 0) = false ∧ a.length ≤ sizeLine ∧ ∀ p, H p = none → Q (.ref p) (upd H p (.tup [.str (Txt.partition a b).1, .str (Txt.partition a b).2.1, .str (Txt.partition a b).2.2]))) := by
  intro pins s σ H x xs v us Q I rx rs h
  obtain ⟨a, b, rfl, rfl, hb, hz, q⟩ := h
  obtain ⟨t, rfl⟩ := rx
  obtain ⟨u, rfl, t2, rfl⟩ := vals1 rs
  refine call_meets PySem.F.slot_str_partition (typeIs_str _ _ _) PySem.F.entry_str_partition (PySem.F.args_str_partition_2 _ _) (meets_str_partition a b t t2 hb hz) ?_
  unfold Txt.partition at q
  cases ho : Builtin.Str.occurrences a b 0 a.length 1 with
  | nil =>
    rw [ho] at q
    exact ⟨.ref s.heap.objs.size, _, I.laid (t' := s.toks + 1) (o := .tup [.str a, .str Str.empty, .str Str.empty]) (fun b ob q => Heap.get?_push_of_some _ q) (Nat.le_refl _) ⟨(by show 3 ≤ sizeLine; decide), _, .cons ⟨_, rfl⟩ (.cons ⟨_, rfl⟩ (.cons ⟨_, rfl⟩ .nil)), IsTup.new _ _⟩, rfl, q _ (I.hok.fresh (Nat.le_refl _))⟩
  | cons i r =>
    rw [ho] at q
    exact ⟨.ref s.heap.objs.size, _, I.laid (t' := s.toks + 1 + 1) (o := .tup [.str (Builtin.Str.strSub a 0 i), .str b, .str (Builtin.Str.strSub a (i + b.length) a.length)]) (fun b ob q => Heap.get?_push_of_some _ q) (Nat.le_refl _) ⟨(by show 3 ≤ sizeLine; decide), _, .cons ⟨_, rfl⟩ (.cons ⟨_, rfl⟩ (.cons ⟨_, rfl⟩ .nil)), IsTup.new _ _⟩, rfl, q _ (I.hok.fresh (Nat.le_refl _))⟩
theorem strs_of : ∀ {ys : List Str} {its : List Value}, Vals (ys.map V.str) its → StrsAre its ys
  | [], _, .nil => .nil
  | y :: ys, _, .cons ⟨t, e⟩ r => by subst e; exact .cons y t (strs_of r)
theorem ms_join (hK : X.K = K := by rfl) : MtR X "str.join" (fun x xs H Q => ∃ (a : Str) (p : Addr) (ys : List Str), x = .str a ∧ xs = [.ref p] ∧ SqL K H p (ys.map V.str) ∧ a.length ≤ 16 ∧ (ys.map (·.length)).sum + ys.length ≤ 1048576 ∧ Q (.str (Txt.join a ys)) H) := by
  subst hK
  intro pins s σ H x xs v us Q I rx rs h
  obtain ⟨a, p, ys, rfl, rfl, hq, ha, hw, q⟩ := h
  obtain ⟨t, rfl⟩ := rx
  obtain ⟨u, rfl, ru⟩ := vals1 rs
  cases ru
  obtain ⟨its, rv, pl, hz⟩ := I.list hq
  exact join_listW pl.isList (strs_of rv) ha hw fun t' k => ⟨.str _, H, I.tok k, ⟨_, rfl⟩, q⟩
/-- text[lo:hi] -/
theorem sl_str : SlR X (fun x lo hi H Q => ∃ a : Str, x = .str a ∧ a.length ≤ sizeLine ∧ Q (.str (Txt.slice a lo hi)) H) := by
  intro pins s σ H x v vl vu lo hi sl Q I rx hs pl pu h
  obtain ⟨a, rfl, hz, q⟩ := h
  obtain ⟨t, rfl⟩ := rx
  have part : ∀ {v : Value} {o : Option Int}, IsPart v o → ∃ l : Option (Int × Tok), v = partValue l ∧ l.map (·.1) = o := fun {v o} h => by
    cases h with
    | none => exact ⟨none, rfl, rfl⟩
    | int i u => exact ⟨some (i, u), rfl, rfl⟩
  obtain ⟨l, rfl, rfl⟩ := part pl
  obtain ⟨u, rfl, rfl⟩ := part pu
  refine ⟨"str", _, PySem.F.slot_str_getitem.lookup, typeIs_str _ _ _, ?_⟩
  refine wpAny_getItem_str_slice (l := l) (u := u) (st := none) hs rfl ?_
  exact post_val_or_str ⟨Nat.le_trans (Txt.slice_le a _ _) hz, fun t' k => ⟨.str _, H, I.tok k, ⟨_, rfl⟩, q⟩⟩
/-- f"{a}{b}{c}" of texts -/
def tFmt3 (ta tb tc : TE) : TE := fun σ H Q => ta σ H fun x H1 => ∃ a, x = .str a ∧ a.length ≤ 100000 ∧ tb σ H1 fun y H2 => ∃ b, y = .str b ∧ b.length ≤ 100000 ∧ tc σ H2 fun z H3 => ∃ c, z = .str c ∧ c.length ≤ 100000 ∧ Q (.str (a ++ b ++ c)) H3
theorem len_app (a b : Str) : (a ++ b).length = a.length + b.length := strLen_append a b
theorem empty_appS (a : Str) : Str.empty ++ a = a := by
  apply Str.ext'
  rw [Str.cps_append]
  show #[] ++ a.cps = a.cps
  simp
theorem pe_fmt3 {a b c : Expr} {p1 p2 p3 pos : Pos} {ta tb tc : TE} (ha : PE X a ta) (hb : PE X b tb) (hc : PE X c tc) :
    PE X (.JoinedStr [.FormattedValue a (-1) none p1, .FormattedValue b (-1) none p2, .FormattedValue c (-1) none p3] pos) (tFmt3 ta tb tc) := by
  intro pins s σ H Q I h
  have big : (300000 : Nat) ≤ sizeLine := by decide
  refine JoinedStr_many (joinParts_cons (FormattedValue_plain (thn (ha pins s σ H _ I h) fun u s1 ⟨x, H1, I1, rx, sa, ex, la, q1⟩ => ?_)))
  subst ex
  obtain ⟨t, rfl⟩ := rx
  refine formatField_str (fun t' tk => ⟨by rw [empty_appS]; omega, joinParts_cons (FormattedValue_plain (thn (hb pins _ σ H1 _ (I1.tok tk) q1) fun u s2 ⟨y, H2, I2, ry, sb, ey, lb, q2⟩ => ?_))⟩) (by omega)
  subst ey
  obtain ⟨t2, rfl⟩ := ry
  refine formatField_str (fun t' tk => ⟨by rw [empty_appS, len_app]; omega, joinParts_cons (FormattedValue_plain (thn (hc pins _ σ H2 _ (I2.tok tk) q2) fun u s3 ⟨z, H3, I3, rz, sc, ez, lc, q3⟩ => ?_))⟩) (by omega)
  subst ez
  obtain ⟨t3, rfl⟩ := rz
  refine formatField_str (fun t' tk => ⟨by rw [empty_appS, len_app, len_app]; omega, joinParts_nil ⟨.str _, H3, (I3.tok tk).tok _, ⟨_, rfl⟩, ?_⟩ (by rw [empty_appS, len_app, len_app]; omega)⟩) (by omega)
  rw [empty_appS]
  exact q3
/-- int(text) -/
theorem call_int_str : CallR X (.type "int") (fun xs H Q => ∃ (a : Str) (n : Int), xs = [.str a] ∧ PySem.intText? a = some n ∧ a.length ≤ 640 ∧ Q (.int n) H) := by
  intro pins s σ H xs us Q I r h
  obtain ⟨a, n, rfl, hn, hl, q⟩ := h
  obtain ⟨u, rfl, t, rfl⟩ := vals1 r
  exact PySem.W.KIN.call_text hn hl ⟨.int _, H, I.tok _, ⟨_, rfl⟩, q⟩
end
end L2

namespace L2
open PySem PySem.Spec PyProof.Rows
/-! ### the signs of a text -/
def Its (x : Str) : It := ⟨fun i _ => ∃ c, x.cps[i]? = some c, fun i H v H' => H' = H ∧ ∃ c, x.cps[i]? = some c ∧ v = .str ⟨#[c]⟩, fun i _ => x.cps[i]? = none⟩
theorem turn_strA {P : Program} {w : World} {K : PySem.W.Frag} {tg : Expr} {x : Str} {t : Tok} (it : Addr) : Turn P w K tg (Its x) [it] it (fun i h => h.IsStrIter it "str_ascii_iterator" x t i) where
  mem := List.mem_singleton.mpr rfl
  obj := fun i h st b hb => by
    obtain rfl := List.mem_singleton.mp hb
    obtain ⟨o, e, c, d⟩ := st
    exact ⟨o, e, fun v z => by rw [d] at z; cases z⟩
  keep := fun i h h' ⟨o, e, r⟩ k => ⟨o, k it (List.mem_singleton.mpr rfl) o e, r⟩
  item := by
    intro X hP hw hK hc i pins s σ H E I hf st hg
    subst hP hw hK
    obtain ⟨c, hx⟩ := hg
    obtain ⟨f0, f1, f2, f3, f4, f5⟩ := hf it (List.mem_singleton.mpr rfl)
    refine wpAny_pyNext_ascii_item st hx fun h' st' sb => ?_
    have I1 : Inv X pins σ H { s with heap := h', toks := s.toks + 1 } := I.turned (t' := s.toks + 1) (fun b o hb e => (sb.2 b hb).trans e) f0 f1 f3 f4 f5
    obtain ⟨o, e, c', d⟩ := id st'
    exact ⟨_, rfl, go_of (s := { s with heap := h', toks := s.toks + 1 }) e c' d (by decide) ⟨.str ⟨#[c]⟩, H, I1, ⟨_, rfl⟩, ⟨rfl, c, hx, rfl⟩, st', fun b hb => (hf b hb).1⟩⟩
  done := by
    intro X hP hw hK hc i pins s σ H E I hf st hg
    subst hP hw hK
    obtain ⟨f0, f1, f2, f3, f4, f5⟩ := hf it (List.mem_singleton.mpr rfl)
    exact wpAny_pyNext_ascii_end (I.ok.hd hc) st hg fun h' eb => ⟨rfl, I.turned (t' := s.toks) (fun b o hb e => eb b o hb e) f0 f1 f3 f4 f5⟩
  self := fun _ _ _ _ _ st h => wpAny_pyIter_striter_ascii st h
theorem turn_strW {P : Program} {w : World} {K : PySem.W.Frag} {tg : Expr} {x : Str} {t : Tok} (it : Addr) : Turn P w K tg (Its x) [it] it (fun i h => h.IsStrIter it "str_iterator" x t i) where
  mem := List.mem_singleton.mpr rfl
  obj := fun i h st b hb => by
    obtain rfl := List.mem_singleton.mp hb
    obtain ⟨o, e, c, d⟩ := st
    exact ⟨o, e, fun v z => by rw [d] at z; cases z⟩
  keep := fun i h h' ⟨o, e, r⟩ k => ⟨o, k it (List.mem_singleton.mpr rfl) o e, r⟩
  item := by
    intro X hP hw hK hc i pins s σ H E I hf st hg
    subst hP hw hK
    obtain ⟨c, hx⟩ := hg
    obtain ⟨f0, f1, f2, f3, f4, f5⟩ := hf it (List.mem_singleton.mpr rfl)
    refine wpAny_pyNext_wide_item st hx fun h' st' sb => ?_
    have I1 : Inv X pins σ H { s with heap := h', toks := s.toks + 1 } := I.turned (t' := s.toks + 1) (fun b o hb e => (sb.2 b hb).trans e) f0 f1 f3 f4 f5
    obtain ⟨o, e, c', d⟩ := id st'
    exact ⟨_, rfl, go_of (s := { s with heap := h', toks := s.toks + 1 }) e c' d (by decide) ⟨.str ⟨#[c]⟩, H, I1, ⟨_, rfl⟩, ⟨rfl, c, hx, rfl⟩, st', fun b hb => (hf b hb).1⟩⟩
  done := by
    intro X hP hw hK hc i pins s σ H E I hf st hg
    subst hP hw hK
    obtain ⟨f0, f1, f2, f3, f4, f5⟩ := hf it (List.mem_singleton.mpr rfl)
    exact wpAny_pyNext_wide_end (I.ok.hd hc) st hg fun h' eb => ⟨rfl, I.turned (t' := s.toks) (fun b o hb e => eb b o hb e) f0 f1 f3 f4 f5⟩
  self := fun _ _ _ _ _ st h => wpAny_pyIter_striter_wide st h
section
variable {X : Cx} {K : PySem.W.Frag} {tg : Expr}
def iStr (tl : TE) : TI := fun σ H R => tl σ H fun v H1 => ∃ x, v = .str x ∧ R (Its x) H1
theorem pi_str {l : Expr} {tl : TE} (hl : PE X l tl) : PI X tg l (iStr tl) := by
  intro pins s σ H R I h
  refine thn (hl pins s σ H _ I h) fun v s1 ⟨x', H1, I1, r1, x, ex, q⟩ => ?_
  subst ex
  obtain ⟨t, rfl⟩ := r1
  have fp : ∀ b ∈ [s1.heap.objs.size], FpOk X pins H1 b := fun b hb => by
    obtain rfl := List.mem_singleton.mp hb
    exact I1.fpOk (Nat.le_refl _) (I1.hok.fresh (Nat.le_refl _))
  cases ha : x.cps.all (· < 128)
  · exact wpAny_pyIter_wide ha ⟨s1.heap.objs.size, [s1.heap.objs.size], _, _, H1, rfl, I1.kept (t' := s1.toks) fun b o e => Heap.get?_push_of_some _ e, turn_strW _, ⟨_, Heap.get?_push_size _ rfl, rfl, rfl⟩, fp, q⟩
  · exact wpAny_pyIter_ascii ha ⟨s1.heap.objs.size, [s1.heap.objs.size], _, _, H1, rfl, I1.kept (t' := s1.toks) fun b o e => Heap.get?_push_of_some _ e, turn_strA _, ⟨_, Heap.get?_push_size _ rfl, rfl, rfl⟩, fp, q⟩
/-- a for over the signs of a text -/
theorem for_str {x : Str} {g : TG} {tb : TS} {D : Ends} {σ : St} {H : Hp} (Pv : Nat → St → Hp → Prop) (h0 : Pv 0 σ H)
    (hs : ∀ i c σ H, x.cps[i]? = some c → Pv i σ H → g (.str ⟨#[c]⟩) σ H fun σ2 H2 => tb { D with nx := Pv (i + 1), ct := Pv (i + 1), bk := D.nx } σ2 H2) (hd : ∀ σ H, Pv x.length σ H → D.nx σ H) :
    ∃ W : Nat → Nat → St → Hp → Prop, (∃ m, W 0 m σ H) ∧ ∀ i m σ H, W i m σ H →
      ((Its x).stop i H ∧ D.nx σ H) ∨ ((Its x).go i H ∧ ∃ N : St → Hp → Prop, (∀ σ' H', N σ' H' → ∃ m', m' < m ∧ W (i + 1) m' σ' H') ∧ ∀ v H', (Its x).yld i H v H' → g v σ H' fun σ2 H2 => tb { D with nx := N, ct := N, bk := D.nx } σ2 H2) := by
  refine for_n (J := Its x) x.length Pv h0 (fun i σ H hi _ => ⟨_, Array.getElem?_eq_getElem hi⟩) (fun σ H _ => Array.getElem?_eq_none (Nat.le_refl _)) (fun i v σ H H2 hi p y => ?_) hd
  obtain ⟨rfl, c, hc, rfl⟩ := y
  exact hs i c σ _ hc p
theorem comp_str {x : Str} {g : TG} {tc : TT} {te : TE} {src : List (Option Nat)} {σ : St} {H : Hp} {Q : VK} (Pv : Nat → List V → Hp → Prop) (h0 : Pv 0 [] H)
    (hs : ∀ i c ys H, x.cps[i]? = some c → Pv i ys H → g (.str ⟨#[c]⟩) (blk src σ) H fun σ3 H3 => Wk (blk src σ) σ3 ∧ tc σ3 H3 fun b H4 => if b = true then te σ3 H4 fun v H5 => ys.length < sizeLine ∧ Pv (i + 1) (ys ++ [v]) H5 else Pv (i + 1) ys H4)
    (hd : ∀ ys H D, Pv x.length ys H → H D = none → Q (.ref D) (upd H D (.lst ys))) : compW src g tc te σ Q (Its x) H := by
  refine comp_n x.length Pv h0 (fun i ys H hi _ => ⟨_, Array.getElem?_eq_getElem hi⟩) (fun ys H _ => Array.getElem?_eq_none (Nat.le_refl _)) (fun i v ys H H2 hi p y => ?_) hd
  obtain ⟨rfl, c, hc, rfl⟩ := y
  exact hs i c ys _ hc p
end
end L2
namespace L2
open PySem PySem.Spec PyProof.Rows
/-- a text among the texts of a tuple -/
theorem opInS {X : Cx} {K : PySem.W.Frag} (hK : X.K = K := by rfl) : OpR X (compareOp .In) (fun x y H Q => ∃ (t : Str) (p : Addr) (ys : List Str), x = .str t ∧ y = .ref p ∧ SqT K H p (ys.map V.str) ∧ Q (.bl (ys.any fun z => z == t)) H) := by
  subst hK
  intro pins s σ H x y v u Q I rx ry h
  obtain ⟨t, p, ys, rfl, rfl, hq, q⟩ := h
  refine op_in_seq pins s σ H _ _ v u Q I rx ry ⟨p, ys.map V.str, rfl, .inr hq, rfl, ?_, ?_⟩
  · rw [List.all_map]; exact List.all_eq_true.mpr fun _ _ => rfl
  · have e : inV (V.str t) (ys.map V.str) = ys.any fun z => z == t := by
      unfold inV
      rw [List.any_map]
      rfl
    rw [if_neg Bool.false_ne_true, e]
    exact q
end L2

namespace Nt
open PySem
/-! ### lines as lists of signs -/
abbrev T := List Nat
def tx (l : T) : Str := ⟨l.toArray⟩
theorem tx_list (l : T) : (tx l).cps.toList = l := by simp [tx]
theorem tx_of (s : Str) : tx s.cps.toList = s := by
  apply Str.ext'
  simp [tx]
theorem tx_app (a b : T) : tx (a ++ b) = tx a ++ tx b := by
  apply Str.ext'
  rw [Str.cps_append]
  simp [tx]
theorem tx_len (l : T) : (tx l).length = l.length := by simp [tx, Str.length]
theorem tx_inj {a b : T} (h : tx a = tx b) : a = b := by
  have := congrArg (fun s : Str => s.cps.toList) h
  simpa [tx] using this
theorem tx_at (l : T) (i : Nat) : (tx l).cps[i]? = l[i]? := by simp [tx]
def dig (m : Nat) : T := (Nat.toDigits 10 m).map Char.toNat
theorem str_nat (m : Nat) : Str.ofString (toString ((m : Nat) : Int)) = tx (dig m) := by
  rw [← tx_of (Str.ofString (toString ((m : Nat) : Int))), PySem.W.KIN.signs_num]; rfl
theorem dig_val (m : Nat) : NumText.digitsVal (dig m) = m := PySem.W.KIN.val_back m
theorem dig_all (m : Nat) : ∀ c ∈ dig m, 48 ≤ c ∧ c ≤ 57 := fun c hc => by
  obtain ⟨ch, h, rfl⟩ := List.mem_map.mp hc
  exact digit_range (Nat.isDigit_of_mem_toDigits (by decide) (by decide) h)
theorem dig_ne (m : Nat) : dig m ≠ [] := by
  unfold dig
  intro h
  have h' := List.map_eq_nil_iff.mp h
  by_cases hm : m < 10
  · rw [Nat.toDigits_of_lt_base hm] at h'; cases h'
  · have t : Nat.toDigits 10 (m / 10) ++ Nat.toDigits 10 (m % 10) = Nat.toDigits 10 (10 * (m / 10) + m % 10) := Nat.toDigits_append_toDigits (by decide) (by omega) (Nat.mod_lt m (by decide))
    rw [Nat.div_add_mod, h', Nat.toDigits_of_lt_base (Nat.mod_lt m (by decide))] at t
    have := congrArg List.length t
    simp at this
theorem dig_len : ∀ (k m : Nat), m < 10 ^ (k + 1) → (dig m).length ≤ k + 1
  | 0, m, h => by
    unfold dig
    rw [Nat.toDigits_of_lt_base (by simpa using h)]
    simp
  | k + 1, m, h => by
    by_cases hm : m < 10
    · unfold dig
      rw [Nat.toDigits_of_lt_base hm]
      simp
    · have t : Nat.toDigits 10 (m / 10) ++ Nat.toDigits 10 (m % 10) = Nat.toDigits 10 (10 * (m / 10) + m % 10) := Nat.toDigits_append_toDigits (by decide) (by omega) (Nat.mod_lt m (by decide))
      rw [Nat.div_add_mod] at t
      have ih := dig_len k (m / 10) (by rw [Nat.pow_succ] at h; omega)
      unfold dig at ih ⊢
      rw [← t, List.map_append, List.length_append, Nat.toDigits_of_lt_base (Nat.mod_lt m (by decide))]
      simp only [List.map_cons, List.map_nil, List.length_cons, List.length_nil]
      omega
/-- a whole number as it is written -/
def whole (i : Int) : T := if i < 0 then 45 :: dig i.natAbs else dig i.natAbs
theorem str_int (i : Int) : Str.ofString (toString i) = tx (whole i) := by
  unfold whole
  by_cases h : i < 0
  · rw [if_pos h]
    obtain ⟨m, rfl⟩ : ∃ m : Nat, i = Int.negSucc m := ⟨(-i - 1).toNat, by omega⟩
    have e : toString (Int.negSucc m) = "-" ++ toString (m + 1) := rfl
    have e2 : Str.ofString ("-" ++ toString (m + 1)) = Str.ofString "-" ++ Str.ofString (toString (((m + 1 : Nat)) : Int)) := by
      rw [← tx_of (Str.ofString ("-" ++ toString (m + 1)))]
      rw [← tx_of (Str.ofString "-"), ← tx_of (Str.ofString (toString (((m + 1 : Nat)) : Int))), ← tx_app]
      refine congrArg tx ?_
      rw [PyProof.Rows.signs_ofString, PyProof.Rows.signs_ofString, PyProof.Rows.signs_ofString, String.toList_append, List.map_append]
      rfl
    rw [e, e2, str_nat]
    have e3 : Str.ofString "-" = tx [45] := rfl
    rw [e3, ← tx_app]
    rfl
  · rw [if_neg h]
    obtain ⟨m, rfl⟩ := Int.eq_ofNat_of_zero_le (show 0 ≤ i by omega)
    exact str_nat m
def fig (x : Int) : T := if x.natAbs = 1 then [] else dig x.natAbs
def part (x : Int) (k : Nat) : T := (if x < 0 then 45 else 43) :: (fig x ++ [97 + k])
def text : List Int → Nat → T
  | [], _ => []
  | x :: xs, k => (if x = 0 then [] else part x k) ++ text xs (k + 1)
def strip : T → T
  | 43 :: l => l
  | l => l
def left (ns : List Int) : T := if text ns 0 = [] then [48] else strip (text ns 0)
def line (r : List Int × Int) : T := left r.1 ++ [62, 61] ++ whole r.2
theorem text_snoc : ∀ (xs : List Int) (x : Int) (k : Nat), text (xs ++ [x]) k = text xs k ++ (if x = 0 then [] else part x (k + xs.length))
  | [], x, k => by simp [text]
  | y :: xs, x, k => by
    rw [List.cons_append, text, text_snoc xs x (k + 1), text, List.append_assoc, List.length_cons, show k + 1 + xs.length = k + (xs.length + 1) by omega]
theorem part_ne (x : Int) (k : Nat) : part x k ≠ [] := by unfold part; simp
theorem strip_nil {l : T} (h : ∀ c r, l = c :: r → r ≠ []) : strip l = [] ↔ l = [] := by
  cases l with
  | nil => simp [strip]
  | cons c r =>
    have := h c r rfl
    unfold strip
    split
    · rename_i e
      injection e with e1 e2
      subst e2
      simp [this]
    · simp
/-- a text is none or has two signs or more -/
def Two (l : T) : Prop := ∀ c r, l = c :: r → r ≠ []
theorem two_app {a b : T} (ha : Two a) (hb : Two b) : Two (a ++ b) := by
  intro c r h
  cases a with
  | nil => exact hb c r h
  | cons d a =>
    rw [List.cons_append] at h
    injection h with h1 h2
    have := ha d a rfl
    intro z
    rw [z] at h2
    exact this (List.append_eq_nil_iff.mp h2).1
theorem part_two (x : Int) (k : Nat) : Two (part x k) := by
  intro c r h
  unfold part at h
  injection h with h1 h2
  rw [← h2]; simp
theorem text_two : ∀ (xs : List Int) (k : Nat), Two (text xs k)
  | [], _ => fun _ _ h => by cases h
  | x :: xs, k => by
    rw [text]
    refine two_app ?_ (text_two xs (k + 1))
    split
    · exact fun _ _ h => by cases h
    · exact part_two x k
theorem strip_app {a b : T} (ha : a ≠ []) : strip (a ++ b) = strip a ++ b := by
  cases a with
  | nil => exact absurd rfl ha
  | cons c a =>
    rw [List.cons_append]
    by_cases h : c = 43
    · subst h; rfl
    · have e1 : ∀ l : T, strip (c :: l) = c :: l := fun l => by
        unfold strip
        split
        · rename_i e; injection e with e1 _; exact absurd e1 h
        · rfl
      rw [e1, e1]; rfl
/-! ### reading -/
def isDig (c : Nat) : Bool := decide (48 ≤ c) && decide (c ≤ 57)
def isLet (c : Nat) : Bool := decide (97 ≤ c) && decide (c ≤ 122)
def signed (t : T) : Bool := t.head? == some 43 || t.head? == some 45
def figs (t : T) : T := if signed t then t.drop 1 else t
def rdWhole (t : T) : Option Int := if figs t = [] ∨ (figs t).all isDig = false then none else some (if t.head? = some 45 then -(NumText.digitsVal (figs t) : Int) else (NumText.digitsVal (figs t) : Int))
def rdNum (t : T) : Option Int := if t = [] ∨ t = [43] ∨ t = [45] then rdWhole (t ++ [49]) else rdWhole t
def step (n : Nat) (st : List Int × T) (c : Nat) : Option (List Int × T) :=
  if isLet c then (if n ≤ c - 97 then none else (rdNum st.2).map fun v => (st.1.set (c - 97) v, [])) else some (st.1, st.2 ++ [c])
def rdNums (n : Nat) (t : T) : Option (List Int) := (t.foldlM (step n) (List.replicate n (0 : Int), ([] : T))).map (·.1)
theorem all_dig {l : T} (h : ∀ c ∈ l, 48 ≤ c ∧ c ≤ 57) : l.all isDig = true := List.all_eq_true.mpr fun c hc => by
  have := h c hc
  simp [isDig, this]
theorem head_dig {l : T} (hn : l ≠ []) (h : ∀ c ∈ l, 48 ≤ c ∧ c ≤ 57) : signed l = false ∧ l.head? ≠ some 45 := by
  cases l with
  | nil => exact absurd rfl hn
  | cons c r =>
    have := h c List.mem_cons_self
    constructor
    · simp [signed]; omega
    · simp; omega
theorem rd_dig (m : Nat) : rdWhole (dig m) = some (m : Int) := by
  obtain ⟨h1, h2⟩ := head_dig (dig_ne m) (dig_all m)
  have e : figs (dig m) = dig m := by unfold figs; rw [h1]; rfl
  unfold rdWhole
  rw [e, if_neg (by rw [all_dig (dig_all m)]; simp [dig_ne m]), if_neg h2, dig_val]
theorem rd_sign (c m : Nat) (hc : c = 43 ∨ c = 45) : rdWhole (c :: dig m) = some (if c = 45 then -(m : Int) else (m : Int)) := by
  have hs : signed (c :: dig m) = true := by rcases hc with rfl | rfl <;> rfl
  have e : figs (c :: dig m) = dig m := by unfold figs; rw [hs]; rfl
  unfold rdWhole
  rw [e, if_neg (by rw [all_dig (dig_all m)]; simp [dig_ne m]), dig_val]
  rcases hc with rfl | rfl <;> rfl
theorem rd_whole (i : Int) : rdWhole (whole i) = some i := by
  unfold whole
  split
  · rw [rd_sign 45 _ (.inr rfl), if_pos rfl]; congr 1; omega
  · rw [rd_dig]; congr 1; omega
theorem rd_part {x : Int} (h : x ≠ 0) : rdNum ((if x < 0 then 45 else 43) :: fig x) = some x := by
  unfold fig rdNum
  by_cases h1 : x.natAbs = 1
  · rw [if_pos h1]
    by_cases hn : x < 0
    · rw [if_pos hn, if_pos (by simp)]
      have : x = -1 := by omega
      subst this
      decide
    · rw [if_neg hn, if_pos (by simp)]
      have : x = 1 := by omega
      subst this
      decide
  · rw [if_neg h1]
    have hne := dig_ne x.natAbs
    rw [if_neg (by
      rintro (z | z | z)
      · cases z
      · injection z with _ z; exact hne z
      · injection z with _ z; exact hne z)]
    by_cases hn : x < 0
    · rw [if_pos hn, rd_sign 45 _ (.inr rfl), if_pos rfl]; congr 1; omega
    · rw [if_neg hn, rd_sign 43 _ (.inl rfl), if_neg (by decide)]; congr 1; omega
theorem rd_first {x : Int} (h : 0 < x) : rdNum (fig x) = some x := by
  unfold fig rdNum
  by_cases h1 : x.natAbs = 1
  · rw [if_pos h1, if_pos (.inl rfl)]
    have : x = 1 := by omega
    subst this
    decide
  · rw [if_neg h1]
    have hne := dig_ne x.natAbs
    have hall := dig_all x.natAbs
    rw [if_neg (by
      rintro (z | z | z)
      · exact hne z
      · have := hall 43 (by rw [z]; exact List.mem_cons_self); omega
      · have := hall 45 (by rw [z]; exact List.mem_cons_self); omega), rd_dig]
    congr 1
    omega
/-- signs that are no letters are kept -/
theorem fold_plain (n : Nat) : ∀ (l : T) (ns : List Int) (a : T), (∀ c ∈ l, isLet c = false) → l.foldlM (step n) (ns, a) = some (ns, a ++ l)
  | [], ns, a, _ => by simp
  | c :: l, ns, a, h => by
    rw [List.foldlM_cons]
    have e : step n (ns, a) c = some (ns, a ++ [c]) := by unfold step; rw [h c List.mem_cons_self]; rfl
    rw [e]
    show l.foldlM (step n) (ns, a ++ [c]) = _
    rw [fold_plain n l ns (a ++ [c]) fun d hd => h d (List.mem_cons_of_mem _ hd), List.append_assoc]
    rfl
theorem fig_plain (x : Int) : ∀ c ∈ fig x, isLet c = false := fun c hc => by
  unfold fig at hc
  split at hc
  · cases hc
  · have := dig_all _ c hc
    simp [isLet]; omega
theorem let_at {k : Nat} (h : k < 26) : isLet (97 + k) = true := by simp [isLet]; omega
theorem fold_let {n k : Nat} {ns : List Int} {a : T} {v : Int} (hk : k < n) (hn : n ≤ 26) (h : rdNum a = some v) : step n (ns, a) (97 + k) = some (ns.set k v, []) := by
  unfold step
  rw [let_at (by omega), if_pos rfl, show 97 + k - 97 = k by omega, if_neg (by omega), h]
  rfl
theorem set_here {acc xs : List Int} {x y : Int} {k : Nat} (h : acc.length = k) : (acc ++ x :: xs).set k y = acc ++ [y] ++ xs := by
  rw [List.set_append_right _ _ (by omega), h, Nat.sub_self, List.set_cons_zero, List.append_assoc]; rfl
theorem fold_text (n : Nat) (hn : n ≤ 26) : ∀ (xs acc : List Int) (k : Nat), acc.length = k → k + xs.length = n → (text xs k).foldlM (step n) (acc ++ List.replicate xs.length (0 : Int), ([] : T)) = some (acc ++ xs, [])
  | [], acc, k, h1, h2 => by simp [text]
  | x :: xs, acc, k, h1, h2 => by
    rw [List.length_cons] at h2
    have ih := fold_text n hn xs (acc ++ [x]) (k + 1) (by rw [List.length_append, h1]; rfl) (by omega)
    rw [text, List.foldlM_append, List.length_cons, List.replicate_succ]
    by_cases hx : x = 0
    · rw [if_pos hx]
      subst hx
      show (text xs (k + 1)).foldlM (step n) (acc ++ 0 :: List.replicate xs.length 0, []) = _
      rw [List.append_cons acc 0, ih, List.append_assoc]; rfl
    · rw [if_neg hx]
      have e : (part x k).foldlM (step n) (acc ++ 0 :: List.replicate xs.length 0, ([] : T)) = some (acc ++ [x] ++ List.replicate xs.length 0, []) := by
        unfold part
        rw [← List.cons_append, List.foldlM_append, fold_plain n _ _ [] (fun c hc => by
          rcases List.mem_cons.mp hc with rfl | hc
          · split <;> rfl
          · exact fig_plain x c hc)]
        show List.foldlM (step n) _ [97 + k] = _
        rw [List.foldlM_cons, List.nil_append, fold_let (by omega) hn (rd_part hx)]
        show some (_, _) = _
        rw [set_here h1]
      rw [e]
      show (text xs (k + 1)).foldlM (step n) _ = _
      rw [ih, List.append_assoc]; rfl
theorem fold_strip (n : Nat) (hn : n ≤ 26) : ∀ (xs acc : List Int) (k : Nat), acc.length = k → k + xs.length = n → (strip (text xs k)).foldlM (step n) (acc ++ List.replicate xs.length (0 : Int), ([] : T)) = some (acc ++ xs, [])
  | [], acc, k, h1, h2 => by simp [text, strip]
  | x :: xs, acc, k, h1, h2 => by
    have full := fold_text n hn (x :: xs) acc k h1 h2
    rw [List.length_cons] at h2
    by_cases hx : x = 0
    · subst hx
      have e : text (0 :: xs) k = text xs (k + 1) := by rw [text, if_pos rfl]; rfl
      have ih := fold_strip n hn xs (acc ++ [0]) (k + 1) (by rw [List.length_append, h1]; rfl) (by omega)
      rw [e, List.length_cons, List.replicate_succ, List.append_cons acc 0, ih, List.append_assoc]; rfl
    · by_cases hneg : x < 0
      · have e : strip (text (x :: xs) k) = text (x :: xs) k := by
          rw [text, if_neg hx]
          unfold part
          rw [if_pos hneg]; rfl
        rw [e]; exact full
      · have e : strip (text (x :: xs) k) = fig x ++ [97 + k] ++ text xs (k + 1) := by
          rw [text, if_neg hx]
          unfold part
          rw [if_neg hneg]; rfl
        have ih := fold_text n hn xs (acc ++ [x]) (k + 1) (by rw [List.length_append, h1]; rfl) (by omega)
        rw [e, List.foldlM_append, List.foldlM_append, fold_plain n _ _ [] (fig_plain x), List.length_cons, List.replicate_succ]
        show (List.foldlM (step n) _ [97 + k] >>= fun st => (text xs (k + 1)).foldlM (step n) st) = _
        rw [List.foldlM_cons, List.nil_append, fold_let (by omega) hn (rd_first (by omega)), ]
        show (text xs (k + 1)).foldlM (step n) (_, _) = _
        rw [set_here h1, ih, List.append_assoc]; rfl
theorem text_zero : ∀ (xs : List Int) (k : Nat), text xs k = [] → xs = List.replicate xs.length 0
  | [], _, _ => rfl
  | x :: xs, k, h => by
    rw [text] at h
    obtain ⟨h1, h2⟩ := List.append_eq_nil_iff.mp h
    have ih := text_zero xs (k + 1) h2
    by_cases hx : x = 0
    · rw [List.length_cons, List.replicate_succ, ← ih, hx]
    · rw [if_neg hx] at h1; exact absurd h1 (part_ne x k)
theorem rd_left {ns : List Int} {n : Nat} (h : ns.length = n) (hn : n ≤ 26) : rdNums n (left ns) = some ns := by
  unfold rdNums left
  split
  · rename_i h0
    rw [fold_plain n [48] _ [] (fun c hc => by rw [List.mem_singleton.mp hc]; rfl)]
    show some _ = _
    rw [← h, ← text_zero ns 0 h0]
  · have := fold_strip n hn ns [] 0 rfl (by omega)
    rw [List.nil_append, List.nil_append, h] at this
    rw [this]
    rfl
end Nt

namespace Nt
open PySem PySem.Builtin.Str
/-! ### the two sides of a line -/
def findGe : T → Option (T × T)
  | 62 :: 61 :: r => some ([], r)
  | c :: r => (findGe r).map fun p => (c :: p.1, p.2)
  | [] => none
def cutGe (t : T) : T × T := (findGe t).getD (t, [])
theorem find_cons {c : Nat} {r : T} (h : ¬ ∃ r', c = 62 ∧ r = 61 :: r') : findGe (c :: r) = (findGe r).map fun p => (c :: p.1, p.2) := by
  rw [findGe]
  exact fun r' h1 h2 => h ⟨r', h1, h2⟩
theorem find_some : ∀ {t a b : T}, findGe t = some (a, b) → t = a ++ 62 :: 61 :: b ∧ ∀ k, k < a.length → (t.drop k).take 2 ≠ [62, 61]
  | [], a, b, h => by simp [findGe] at h
  | c :: r, a, b, h => by
    by_cases hc : ∃ r', c = 62 ∧ r = 61 :: r'
    · obtain ⟨r', rfl, rfl⟩ := hc
      simp only [findGe, Option.some.injEq, Prod.mk.injEq] at h
      obtain ⟨rfl, rfl⟩ := h
      exact ⟨rfl, fun k hk => absurd hk (Nat.not_lt_zero _)⟩
    · rw [find_cons hc] at h
      cases hr : findGe r with
      | none => rw [hr] at h; cases h
      | some p =>
        rw [hr] at h
        obtain ⟨a', b'⟩ := p
        simp only [Option.map_some, Option.some.injEq, Prod.mk.injEq] at h
        obtain ⟨rfl, rfl⟩ := h
        obtain ⟨h1, h2⟩ := find_some hr
        refine ⟨by rw [h1]; rfl, fun k hk z => ?_⟩
        cases k with
        | zero =>
          rw [List.drop_zero] at z
          cases r with
          | nil => simp at z
          | cons d r' =>
            simp only [List.take_succ_cons, List.take_zero, List.cons.injEq, and_true] at z
            exact hc ⟨r', z.1, by rw [z.2]⟩
        | succ k => exact h2 k (by simpa using hk) (by simpa using z)
theorem find_none : ∀ {t : T}, findGe t = none → ∀ k, (t.drop k).take 2 ≠ [62, 61]
  | [], _, k, z => by simp at z
  | c :: r, h, k, z => by
    by_cases hc : ∃ r', c = 62 ∧ r = 61 :: r'
    · obtain ⟨r', rfl, rfl⟩ := hc
      simp [findGe] at h
    · rw [find_cons hc] at h
      have hr : findGe r = none := by
        cases hr : findGe r with
        | none => rfl
        | some p => rw [hr] at h; cases h
      cases k with
      | zero =>
        rw [List.drop_zero] at z
        cases r with
        | nil => simp at z
        | cons d r' =>
          simp only [List.take_succ_cons, List.take_zero, List.cons.injEq, and_true] at z
          exact hc ⟨r', z.1, by rw [z.2]⟩
      | succ k => exact find_none hr k (by simpa using z)
theorem at_tx {t y : T} {i : Nat} : StrLaws.At (tx t) (tx y) (tx t).length i ↔ i + y.length ≤ t.length ∧ (t.drop i).take y.length = y := by
  unfold StrLaws.At
  rw [StrLaws.subAt_eq, tx_list, tx_list, tx_len, tx_len]
  simp
theorem sub_tx (t : T) (i j : Nat) : strSub (tx t) i j = tx ((t.drop i).take (j - i)) := by
  rw [← tx_of (strSub (tx t) i j), StrLaws.strSub_toList, tx_list]
theorem part_tx (t : T) : (Txt.partition (tx t) (tx [62, 61])).1 = tx (cutGe t).1 ∧ (Txt.partition (tx t) (tx [62, 61])).2.2 = tx (cutGe t).2 := by
  unfold Txt.partition
  have two : (tx [62, 61]).length = 2 := rfl
  rcases StrLaws.occ_head (tx t) (tx [62, 61]) 1 (by omega) with ⟨h0, hn⟩ | ⟨i, r, h0, hi, hmin⟩
  · rw [h0]
    have : findGe t = none := by
      cases hf : findGe t with
      | none => rfl
      | some p =>
        obtain ⟨h1, _⟩ := find_some (a := p.1) (b := p.2) hf
        refine absurd (at_tx.mpr ⟨?_, ?_⟩) (hn p.1.length)
        · have := congrArg List.length h1
          simp at this ⊢; omega
        · have e : t.drop p.1.length = 62 :: 61 :: p.2 := by rw [h1]; simp
          rw [e]; rfl
    unfold cutGe
    rw [this]
    exact ⟨rfl, rfl⟩
  · rw [h0]
    obtain ⟨a1, a2⟩ := at_tx.mp hi
    have hl : [62, 61].length = 2 := rfl
    rw [hl] at a1 a2
    cases hf : findGe t with
    | none => exact absurd a2 (find_none hf i)
    | some p =>
      obtain ⟨h1, h2⟩ := find_some (a := p.1) (b := p.2) hf
      have e : t.drop p.1.length = 62 :: 61 :: p.2 := by rw [h1]; simp
      have tl := congrArg List.length h1
      simp at tl
      have hle : i = p.1.length := by
        rcases Nat.lt_trichotomy i p.1.length with z | z | z
        · exact absurd a2 (h2 i z)
        · exact z
        · refine absurd (at_tx.mpr ⟨?_, ?_⟩) (hmin _ z)
          · simp; omega
          · rw [e]; rfl
      unfold cutGe
      rw [hf]
      show strSub (tx t) 0 i = tx p.1 ∧ strSub (tx t) (i + (tx [62, 61]).length) (tx t).length = tx p.2
      rw [sub_tx, sub_tx, two, tx_len, hle]
      constructor
      · rw [List.drop_zero, Nat.sub_zero]
        congr 1
        have : t.take p.1.length = (p.1 ++ 62 :: 61 :: p.2).take p.1.length := by rw [← h1]
        rw [this]; simp
      · congr 1
        rw [← List.drop_drop, e, List.drop_succ_cons, List.drop_succ_cons, List.drop_zero, tl]
        apply List.take_of_length_le
        omega
theorem find_clean : ∀ {a b : T}, (∀ c ∈ a, c ≠ 62) → findGe (a ++ 62 :: 61 :: b) = some (a, b)
  | [], b, _ => by simp [findGe]
  | c :: a, b, h => by
    rw [List.cons_append, find_cons (fun ⟨r', e, _⟩ => h c List.mem_cons_self e), find_clean fun d hd => h d (List.mem_cons_of_mem _ hd)]
    rfl
/-! ### signs at the front -/
theorem starts_tx (t : T) (c : Nat) : Txt.startswith (tx t) (tx [c]) = (t.head? == some c) := by
  unfold Txt.startswith
  rw [StrLaws.subAt_eq, tx_list, tx_list, tx_len, tx_len]
  cases t with
  | nil => rfl
  | cons d r => simp
theorem drop_tx {t : T} : Txt.slice (tx t) (some 1) none = tx (t.drop 1) := by
  cases t with
  | nil => rw [PyProof.Rows.slice_beyond (by rw [tx_len]; decide)]; rfl
  | cons c r =>
    have hl : (tx (c :: r)).length = r.length + 1 := by rw [tx_len]; rfl
    rw [PyProof.Rows.slice_from_eq (b := ((tx (c :: r)).length : Int)) (by decide) (by rw [hl]; omega) rfl, tx_list, hl]
    show tx _ = _
    congr 1
    apply List.take_of_length_le
    simp
theorem join_tx : ∀ (ys : List T), Txt.join Str.empty (ys.map tx) = tx ys.flatten := fun ys => by
  have e := beq_iff_eq.mp (PyProof.Rows.join_closes (sep := Str.empty) (ys := ys.map tx) rfl)
  rw [e]
  clear e
  induction ys with
  | nil => rfl
  | cons y ys ih =>
    cases ys with
    | nil =>
      show tx y = _
      simp
    | cons z zs =>
      show tx y ++ Str.empty ++ Str.join Str.empty ((z :: zs).map tx) = _
      have e0 : tx y ++ Str.empty = tx y := by
        apply Str.ext'
        rw [Str.cps_append]
        show (tx y).cps ++ #[] = _
        simp
      rw [ih, e0, ← tx_app]
      rfl
def letters : Str := "abcdefghijklmnopqrstuvwxyz"
def figures : Str := "0123456789"
theorem letters_tx : letters = tx (List.range' 97 26) := by decide +kernel
theorem figures_tx : figures = tx (List.range' 48 10) := by decide +kernel
theorem in_letters (c : Nat) : (!(occurrences letters ⟨#[c]⟩ 0 letters.length 1).isEmpty) = isLet c := by
  rw [StrLaws.found_one, letters_tx, tx_list]
  unfold isLet
  rw [← Bool.decide_and]
  congr 1
  rw [List.mem_range'_1]
  simp only [eq_iff_iff]
  omega
theorem in_figures (c : Nat) : (!(occurrences figures ⟨#[c]⟩ 0 figures.length 1).isEmpty) = isDig c := by
  rw [StrLaws.found_one, figures_tx, tx_list]
  unfold isDig
  rw [← Bool.decide_and]
  congr 1
  rw [List.mem_range'_1]
  simp only [eq_iff_iff]
  omega
theorem idx_letters : ∀ k, k < 26 → ∃ rest, occurrences letters ⟨#[97 + k]⟩ 0 letters.length 1 = k :: rest := by
  have h : ∀ k, k < 26 → occurrences letters ⟨#[97 + k]⟩ 0 letters.length 1 = [k] := by decide +kernel
  exact fun k hk => ⟨[], h k hk⟩
/-! ### how long a text without a letter gets -/
def runs : Nat → T → Nat
  | c, [] => c
  | c, x :: r => if isLet x then max c (runs 0 r) else runs (c + 1) r
theorem runs_ge : ∀ (t : T) (c : Nat), c ≤ runs c t
  | [], c => Nat.le_refl _
  | x :: r, c => by
    rw [runs]
    split
    · exact Nat.le_max_left ..
    · exact Nat.le_trans (Nat.le_succ c) (runs_ge r (c + 1))
theorem runs_take : ∀ (t : T) (c i : Nat), runs c (t.take i) ≤ runs c t
  | [], c, i => by simp
  | x :: r, c, 0 => by rw [List.take_zero]; exact runs_ge _ _
  | x :: r, c, i + 1 => by
    rw [List.take_succ_cons, runs, runs]
    split
    · exact Nat.max_le.mpr ⟨Nat.le_max_left .., Nat.le_trans (runs_take r 0 i) (Nat.le_max_right ..)⟩
    · exact runs_take r (c + 1) i
theorem fold_runs (n : Nat) : ∀ (t : T) (ns ns' : List Int) (a a' : T), t.foldlM (step n) (ns, a) = some (ns', a') → a'.length ≤ runs a.length t
  | [], ns, ns', a, a', h => by
    simp at h
    rw [h.2]; exact Nat.le_refl _
  | c :: r, ns, ns', a, a', h => by
    rw [List.foldlM_cons] at h
    rw [runs]
    unfold step at h
    by_cases hc : isLet c = true
    · rw [if_pos hc] at h ⊢
      by_cases hk : n ≤ c - 97
      · rw [if_pos hk] at h; cases h
      · rw [if_neg hk] at h
        cases hv : rdNum a with
        | none => rw [hv] at h; cases h
        | some v =>
          rw [hv] at h
          have := fold_runs n r _ _ [] a' h
          exact Nat.le_trans this (Nat.le_max_right ..)
    · rw [if_neg hc] at h ⊢
      have := fold_runs n r _ _ (a ++ [c]) a' h
      rw [List.length_append] at this
      exact this
theorem runs_plain : ∀ (p : T) (c : Nat) (r : T), (∀ x ∈ p, isLet x = false) → runs c (p ++ r) = runs (c + p.length) r
  | [], c, r, _ => rfl
  | x :: p, c, r, h => by
    rw [List.cons_append, runs, if_neg (by rw [h x List.mem_cons_self]; exact Bool.false_ne_true), runs_plain p (c + 1) r fun y hy => h y (List.mem_cons_of_mem _ hy), List.length_cons]
    congr 1
    omega
theorem sign_plain (x : Int) : ∀ c ∈ (if x < 0 then 45 else 43) :: fig x, isLet c = false := fun c hc => by
  rcases List.mem_cons.mp hc with rfl | hc
  · split <;> rfl
  · exact fig_plain x c hc
theorem runs_text {b : Nat} : ∀ (xs : List Int) (k : Nat), k + xs.length ≤ 26 → (∀ x ∈ xs, (fig x).length + 1 ≤ b) → runs 0 (text xs k) ≤ b
  | [], k, _, _ => Nat.zero_le _
  | x :: xs, k, hk, h => by
    rw [List.length_cons] at hk
    have ih := runs_text xs (k + 1) (by omega) fun y hy => h y (List.mem_cons_of_mem _ hy)
    rw [text]
    split
    · exact ih
    · unfold part
      rw [← List.cons_append, List.append_assoc, runs_plain _ _ _ (sign_plain x)]
      show (if isLet (97 + k) then max _ (runs 0 (text xs (k + 1))) else _) ≤ b
      rw [if_pos (let_at (by omega))]
      refine Nat.max_le.mpr ⟨?_, ih⟩
      have := h x List.mem_cons_self
      simp only [List.length_cons]; omega
theorem runs_drop : ∀ (c : Nat) (r : T) (m : Nat), isLet c = false → runs m r ≤ runs m (c :: r) := fun c r m h => by
  rw [runs, if_neg (by rw [h]; exact Bool.false_ne_true)]
  exact mono r m (m + 1) (Nat.le_succ m)
where mono : ∀ (r : T) (a b : Nat), a ≤ b → runs a r ≤ runs b r
  | [], a, b, h => h
  | x :: r, a, b, h => by
    rw [runs, runs]
    split
    · exact Nat.max_le.mpr ⟨Nat.le_trans h (Nat.le_max_left ..), Nat.le_max_right ..⟩
    · exact mono r (a + 1) (b + 1) (by omega)
theorem runs_strip (t : T) : runs 0 (strip t) ≤ runs 0 t := by
  unfold strip
  split
  · exact runs_drop 43 _ 0 rfl
  · exact Nat.le_refl _
theorem fig_len {x : Int} {k : Nat} (h : x.natAbs < 10 ^ (k + 1)) : (fig x).length ≤ k + 1 := by
  unfold fig
  split
  · exact Nat.zero_le _
  · exact dig_len k _ h
theorem runs_left {ns : List Int} {b : Nat} (hn : ns.length ≤ 26) (hb : 1 ≤ b) (h : ∀ x ∈ ns, (fig x).length + 1 ≤ b) : runs 0 (left ns) ≤ b := by
  unfold left
  split
  · exact hb
  · exact Nat.le_trans (runs_strip _) (runs_text ns 0 (by omega) h)
theorem text_clean : ∀ (xs : List Int) (k : Nat), k + xs.length ≤ 26 → ∀ c ∈ text xs k, c ≠ 62
  | [], k, _, c, hc => by cases hc
  | x :: xs, k, hk, c, hc => by
    rw [List.length_cons] at hk
    rw [text] at hc
    rcases List.mem_append.mp hc with hc | hc
    · split at hc
      · cases hc
      · unfold part at hc
        rw [← List.cons_append] at hc
        rcases List.mem_append.mp hc with hc | hc
        · rcases List.mem_cons.mp hc with rfl | hc
          · split <;> decide
          · unfold fig at hc
            split at hc
            · cases hc
            · have := dig_all _ c hc; omega
        · rw [List.mem_singleton.mp hc]; omega
    · exact text_clean xs (k + 1) (by omega) c hc
theorem strip_mem {t : T} {c : Nat} (h : c ∈ strip t) : c ∈ t := by
  unfold strip at h
  split at h
  · exact List.mem_cons_of_mem _ h
  · exact h
theorem left_clean {ns : List Int} (hn : ns.length ≤ 26) : ∀ c ∈ left ns, c ≠ 62 := fun c hc => by
  unfold left at hc
  split at hc
  · rw [List.mem_singleton.mp hc]; decide
  · exact text_clean ns 0 (by omega) c (strip_mem hc)
theorem cut_line {r : List Int × Int} (h : r.1.length ≤ 26) : cutGe (line r) = (left r.1, whole r.2) := by
  unfold cutGe line
  rw [List.append_assoc]
  show (findGe (left r.1 ++ 62 :: 61 :: whole r.2)).getD _ = _
  rw [find_clean (left_clean h)]
  rfl
/-- what a line is read to -/
def rdLine (n : Nat) (t : T) : Option (List Int × Int) := (rdNums n (cutGe t).1).bind fun ns => (rdWhole (cutGe t).2).bind fun l => if line (ns, l) = t then some (ns, l) else none
theorem rd_line {r : List Int × Int} {n : Nat} (h : r.1.length = n) (hn : n ≤ 26) : rdLine n (line r) = some r := by
  unfold rdLine
  rw [cut_line (by omega)]
  show (rdNums n (left r.1)).bind _ = _
  rw [rd_left h hn]
  show (rdWhole (whole r.2)).bind _ = _
  rw [rd_whole]
  show (if line (r.1, r.2) = line r then some (r.1, r.2) else none) = _
  rw [if_pos rfl]
/-! ### how long lines are -/
theorem text_len {b : Nat} : ∀ (xs : List Int) (k : Nat), (∀ x ∈ xs, (fig x).length + 2 ≤ b) → (text xs k).length ≤ xs.length * b
  | [], _, _ => Nat.zero_le _
  | x :: xs, k, h => by
    have ih := text_len xs (k + 1) fun y hy => h y (List.mem_cons_of_mem _ hy)
    have hx := h x List.mem_cons_self
    rw [text, List.length_append, List.length_cons, Nat.succ_mul]
    have : (if x = 0 then ([] : T) else part x k).length ≤ b := by
      split
      · exact Nat.zero_le _
      · unfold part
        simp only [List.length_cons, List.length_append, List.length_nil]
        omega
    omega
theorem strip_len (t : T) : (strip t).length ≤ t.length := by
  unfold strip
  split
  · exact Nat.le_succ _
  · exact Nat.le_refl _
theorem left_len {b : Nat} {ns : List Int} (h : ∀ x ∈ ns, (fig x).length + 2 ≤ b) : (left ns).length ≤ ns.length * b + 1 := by
  unfold left
  split
  · simp
  · exact Nat.le_trans (strip_len _) (Nat.le_succ_of_le (text_len ns 0 h))
theorem whole_len {i : Int} {k : Nat} (h : i.natAbs < 10 ^ (k + 1)) : (whole i).length ≤ k + 2 := by
  unfold whole
  have := dig_len k _ h
  split
  · rw [List.length_cons]; omega
  · omega
end Nt

namespace L2
open PySem PySem.Spec PyProof.Rows Mm Nt
/-! ### what the defs of lines promise -/
def sp_shown_number : Sp := fun vs H Q _ => ∃ (x : Int) (k : Nat), vs = [.int x, .str (tx [97 + k])] ∧ nb x ≤ 1900 ∧ Sc H Q (.str (tx (part x k)))
def sp_read_whole : Sp := fun vs H Q _ => ∃ (t : T) (i : Int), vs = [.str (tx t)] ∧ t.length ≤ 640 ∧ rdWhole t = some i ∧ Sc H Q (.int i)
def sp_read_number : Sp := fun vs H Q _ => ∃ (t : T) (i : Int), vs = [.str (tx t)] ∧ t.length ≤ 639 ∧ rdNum t = some i ∧ Sc H Q (.int i)
section
variable (K : PySem.W.Frag)
def sp_shown_numbers : Sp := fun vs H Q _ => ∃ (v : V) (ns : List Int), vs = [v] ∧ (rLst K rInt).rel H v ns ∧ ns.length ≤ 26 ∧ (∀ x ∈ ns, nb x ≤ 1900) ∧ Sc H Q (.str (tx (left ns)))
def sp_shown : Sp := fun vs H Q _ => ∃ (n : Int) (v : V) (r : Rw), vs = [.int n, v] ∧ (rRow K).rel H v r ∧ (r.1.length : Int) = n ∧ r.1.length ≤ 26 ∧ (∀ x ∈ r.1, nb x ≤ 1900) ∧ nb r.2 ≤ 1900 ∧ Sc H Q (.str (tx (line r)))
def sp_read_numbers : Sp := fun vs H Q _ => ∃ (G : Hp) (n : Nat) (t : T) (ns : List Int), vs = [.int n, .str (tx t)] ∧ Same G H ∧ n ≤ 26 ∧ rdNums n t = some ns ∧ runs 0 t ≤ 639 ∧ Sr (rLst K rInt) G H Q ns
def sp_read : Sp := fun vs H Q _ => ∃ (G : Hp) (n : Nat) (t : T) (r : Rw), vs = [.int n, .str (tx t)] ∧ Same G H ∧ n ≤ 26 ∧ rdLine n t = some r ∧ runs 0 (cutGe t).1 ≤ 639 ∧ (cutGe t).2.length ≤ 640 ∧ t.length ≤ 1000000 ∧ r.1.length = n ∧ (∀ x ∈ r.1, nb x ≤ 1900) ∧ nb r.2 ≤ 1900 ∧ Sr (rRow K) G H Q r
def sp_law_line_of : Sp := fun vs H Q _ => ∃ (v : V) (r : Rw), vs = [v] ∧ (rRow K).rel H v r ∧ r.1.length ≤ 26 ∧ (∀ x ∈ r.1, nb x ≤ 1900) ∧ nb r.2 ≤ 1900 ∧ Sc H Q (.str (tx (line r)))
def sp_law_one_row : Sp := fun vs H Q _ => ∃ (G : Hp) (v : V) (cells : List Int) (n : Nat), vs = [v, .int n] ∧ Same G H ∧ (rLst K rInt).rel G v cells ∧ n ≤ 26 ∧ ∀ r : Rw, r.1.length = n → (∀ x ∈ r.1, nb x ≤ 200) → nb r.2 ≤ 200 → Sr (rRow K) G H Q r
end
theorem nb_log {x : Int} (h : nb x ≤ 1900) : x.natAbs.log2 < 1920 := by
  have := PySem.intBits_le_iff.mp h
  by_cases h0 : x.natAbs = 0
  · rw [h0]; decide
  · exact Nat.lt_of_lt_of_le ((Nat.log2_lt h0).mpr this) (by omega)
theorem nb_ten {x : Int} (h : nb x ≤ 1900) : x.natAbs < 10 ^ (599 + 1) := by
  have := PySem.intBits_le_iff.mp h
  exact Nat.lt_trans this (by decide +kernel)
theorem abs_nat (x : Int) : (if x < 0 then -x else x) = (x.natAbs : Int) := by split <;> omega
theorem str_eq (a b : T) : (decide (V.str (tx a) = V.str (tx b))) = decide (a = b) := by
  by_cases h : a = b
  · subst h; simp
  · rw [decide_eq_false h, decide_eq_false]
    intro z
    injection z with z
    exact h (tx_inj z)
theorem line_len {r : Rw} (h : r.1.length ≤ 26) (hb : ∀ x ∈ r.1, nb x ≤ 1900) (h2 : nb r.2 ≤ 1900) : (left r.1).length ≤ 16000 ∧ (whole r.2).length ≤ 601 ∧ (line r).length ≤ 17000 := by
  have a := left_len (b := 602) (ns := r.1) fun x hx => by have := fig_len (nb_ten (hb x hx)); omega
  have b := whole_len (nb_ten h2)
  have c : r.1.length * 602 ≤ 26 * 602 := Nat.mul_le_mul_right _ h
  refine ⟨by omega, by omega, ?_⟩
  unfold line
  rw [List.length_append, List.length_append]
  simp only [List.length_cons, List.length_nil]
  omega
end L2
namespace L2
open PySem PySem.Spec PyProof.Rows Mm
theorem ix_atN {n p : Nat} (h : p < n) : ixN n (p : Int) = some p := by
  unfold ixN
  simp [h]
end L2
namespace L2
open PySem PySem.Spec PyProof.Rows Mm
theorem at_lastN {xs : List V} {x : V} {k : Nat} (hl : xs.length = k + 1) (h : xs[k]? = some x) : atI xs (-1) = some x := by
  have : ixN xs.length (-1) = some k := by
    unfold ixN
    rw [hl, if_neg (by omega), if_pos (by omega)]
    congr 1
    omega
  unfold atI
  rw [this]
  exact h
end L2

namespace My
set_option linter.unusedVariables false
open PySem PySem.Spec PyProof.Rows L2 Mm Nt
def top (i : Nat) : Stmt := PySem.Challenge.pw_atleast_k07_whole_written_and_read.main.body.getD i (.Pass ⟨0, 0, 0, 0⟩)
theorem sc_law_at : FnScope ["_law_script", "_law_k"] ["_law_script", "_law_k"] (defScope (top 18)) := ⟨rfl, rfl, rfl, by decide +kernel, rfl, by decide +kernel, by decide +kernel⟩
theorem ok_law_at {P : Program} {w : World} {K : PySem.W.Frag} {mg : Str → Option Value} {base : Heap} {k : Nat} {f : Addr} {fd : FuncData} (F : Fun K "_law_at" "_law_at" (top 18) f fd) (B : Blt mg)   :
    FnOk P w K mg base CX0 (k + 1) f fd ["_law_script", "_law_k"] (sp_law_at K) := by
  refine F.ok sc_law_at (fun vs H Q E h => ?len) (fun cdv A outer s H vs Q E hr h => ?body)
  case len => obtain ⟨_, _, _, rfl, _⟩ := h; rfl
  case body =>
    obtain ⟨a, ns, j, rfl, hS, q⟩ := h
    refine ⟨_, (pss_cons (ps_if (pt_cmpR op_lt (pv 1) (pe_callB (callLen (K := K)) rfl B.len bt_len (pa_cons (pv 0) pa_nil)) (nomark _)) (pss_one (ps_ret (pe_ix (ixL (K := K)) (pv 0) (pv 1) (fun _ _ => rfl)))) pss_nil)
    (pss_one (ps_ret pe_int))), ?_⟩
    refine ⟨_, rfl, _, rfl, a, _, rfl, .inl hS, _, _, rfl, rfl, _, rfl, ?_⟩
    refine ite2 (fun c => ?_) (fun c => ?_)
    · have c' : (j : Int) < ((ns.map V.int).length : Nat) := of_decide_eq_true c
      rw [List.length_map] at c'
      exact ⟨_, rfl, _, rfl, a, _, _, _, rfl, rfl, hS, at_int (by omega), q H (Same.refl _)⟩
    · have c' : ¬ (j : Int) < ((ns.map V.int).length : Nat) := of_decide_eq_false (Bool.eq_false_iff.mpr c)
      rw [List.length_map] at c'
      have e : ns.getD j 0 = 0 := by rw [List.getD_eq_getElem?_getD, List.getElem?_eq_none (by omega)]; rfl
      rw [e] at q
      exact q H (Same.refl _)

theorem sc_law_any : FnScope ["_law_cell", "_law_size"] ["_law_cell"] (defScope (top 22)) := ⟨rfl, rfl, rfl, by decide +kernel, rfl, by decide +kernel, by decide +kernel⟩
theorem ok_law_any {P : Program} {w : World} {K : PySem.W.Frag} {mg : Str → Option Value} {base : Heap} {k : Nat} {f : Addr} {fd : FuncData} (F : Fun K "_law_any" "_law_any" (top 22) f fd) (B : Blt mg)   :
    FnOk P w K mg base CX0 (k + 1) f fd ["_law_cell"] sp_law_any := by
  refine F.ok sc_law_any (fun vs H Q E h => ?len) (fun cdv A outer s H vs Q E hr h => ?body)
  case len => obtain ⟨_, rfl, _⟩ := h; rfl
  case body =>
    obtain ⟨c, rfl, q⟩ := h
    refine ⟨_, (pss_cons (ps_set (i := 1) sc_law_any.nd rfl (Or.inl rfl) (pe_op op_mod (pe_op op_fdivB (pv 0) pe_int) (pe_op op_pow pe_int pe_int)))
    (pss_one (ps_ret (pe_op op_mulB (pv 1) (pe_ix (ixL (K := K)) (pe_lst (pa_cons pe_int (pa_cons (pe_un un_neg pe_int) pa_nil))) (pe_op op_mod (pv 0) pe_int) (fun _ _ => rfl)))))), ?_⟩
    refine ⟨_, rfl, c, 2, rfl, rfl, ⟨by decide, by decide⟩, ?_⟩
    refine ⟨10, 59, rfl, rfl, ⟨by decide, by decide, by decide⟩, ?_⟩
    refine ⟨_, _, rfl, rfl, (by show (0 : Int) < 10 ^ 59; decide), ?_⟩
    refine ⟨_, rfl, ?_⟩
    refine ⟨1, rfl, two_le, fun p hp => ?_⟩
    refine ⟨_, rfl, c, 2, rfl, rfl, (show (0 : Int) < 2 by decide), ?_⟩
    refine ⟨p, _, _, .int (if c % 2 = 0 then 1 else -1), rfl, rfl, SqL.of upd_same, ?_, ?_⟩
    · have h0 : c % 2 = 0 ∨ c % 2 = 1 := by omega
      rcases h0 with e | e <;> rw [e] <;> rfl
    refine ⟨_, _, rfl, rfl, PySem.IntMulOk.of_right (by split <;> decide), ?_⟩
    exact q _ (same_new hp _)

theorem sc_law_one_row : FnScope ["_law_cells", "_law_count", "_law_numbers", "_law_k", "_law_cell", "_law_number", "_law_least"] ["_law_cells", "_law_count"] (defScope (top 21)) := ⟨rfl, rfl, rfl, by decide +kernel, rfl, by decide +kernel, by decide +kernel⟩
theorem ok_law_one_row {P : Program} {w : World} {K : PySem.W.Frag} {mg : Str → Option Value} {base : Heap} {k : Nat} {f : Addr} {fd : FuncData} (F : Fun K "_law_one_row" "_law_one_row" (top 21) f fd) (B : Blt mg)  (D_law_any : Dep P w K mg base k "_law_any" ["_law_cell"] sp_law_any) :
    FnOk P w K mg base CX0 (k + 1) f fd ["_law_cells", "_law_count"] (sp_law_one_row K) := by
  refine F.ok sc_law_one_row (fun vs H Q E h => ?len) (fun cdv A outer s H vs Q E hr h => ?body)
  case len => obtain ⟨_, _, _, _, rfl, _⟩ := h; rfl
  case body =>
    obtain ⟨G, v, cells, n, rfl, hG, hC, hn, q⟩ := h
    obtain ⟨a, rfl, hA⟩ := rInts.mp hC
    refine ⟨_, (pss_cons (ps_set (i := 2) sc_law_one_row.nd rfl (Or.inl rfl) (pe_lst pa_nil))
    (pss_cons (ps_for PassesOwn.never rfl (pi_range1 rfl B.range (pa_cons (pv 1) pa_nil)) (pg_name (i := 3) sc_law_one_row.nd rfl (Or.inl rfl)) (pss_cons (ps_set (i := 4) sc_law_one_row.nd rfl (Or.inl rfl) pe_int)
    (pss_cons (ps_if (pt_cmpR op_lt (pv 3) (pe_callB (callLen (K := K)) rfl B.len bt_len (pa_cons (pv 0) pa_nil)) (nomark _)) (pss_one (ps_set (i := 4) sc_law_one_row.nd rfl (Or.inl rfl) (pe_ix (ixL (K := K)) (pv 0) (pv 3) (fun _ _ => rfl)))) pss_nil)
    (pss_cons (ps_set (i := 5) sc_law_one_row.nd rfl (Or.inl rfl) (pe_op op_sub (pe_op op_mod (pe_op op_add (pv 4) (pv 3)) pe_int) pe_int))
    (pss_cons (ps_if (pt_cmpR op_eq (pe_op op_mod (pv 4) pe_int) pe_int (nomark _)) (pss_one (ps_set (i := 5) sc_law_one_row.nd rfl (Or.inl rfl) (pe_callD D_law_any hr (pa_cons (pe_op op_fdivB (pv 4) pe_int) pa_nil)))) pss_nil)
    (pss_one (ps_expr (pe_bm PySem.F.plainAttrs_list PySem.F.slot_list_append PySem.F.type_list_append mt_append (pv 2) (pa_cons (pv 5) pa_nil)))))))))
    (pss_cons (ps_set (i := 6) sc_law_one_row.nd rfl (Or.inl rfl) pe_int)
    (pss_cons (ps_if (pt_cmpR (op_neN (K := K) (un_of hr)) (pv 0) (pe_lst pa_nil) (nomark _)) (pss_one (ps_set (i := 6) sc_law_one_row.nd rfl (Or.inl rfl) (pe_op op_sub (pe_op op_mod (pe_ix (ixL (K := K)) (pv 0) (pe_un un_neg pe_int) (fun _ _ => rfl)) pe_int) pe_int))) pss_nil)
    (pss_one (ps_ret (pe_tup (pa_cons (pv 2) (pa_cons (pv 6) pa_nil))))))))), ?_⟩
    refine ⟨nil_le, fun D hD => ?_⟩
    have gD : G D = none := hG.free hD
    have e0 : Ext G H G (upd H D (.lst [])) := Ext.grow hG (same_new hD _)
    refine ⟨_, rfl, (n : Int), rfl, by omega, by omega, for_range (fun i σ H' => ∃ (ns : List Int) (s3 s4 s5 s6 : Option V), σ = [some (.ref a), some (.int n), some (.ref D), s3, s4, s5, s6] ∧ Ext G H G H' ∧ H' D = some (.lst (ns.map V.int)) ∧ ns.length = i ∧ ∀ x ∈ ns, nb x ≤ 200) ⟨[], none, none, none, none, rfl, e0, upd_same, rfl, fun x hx => by cases hx⟩ ?_ ?_⟩
    · rintro i σ H' hi ⟨ns, s3, s4, s5, s6, rfl, e1, hD1, hl, hb⟩
      have hA1 := e1.sub.seq hA
      refine (show ∀ {v : V} {i : Nat} {u : TS} {D : Ends} {σ : L2.St} {H : Hp}, u D (σ.set i (some v)) H → tSeq (tAsg (tC v) (gName i)) u D σ H from fun h => h) ?_
      refine if_mid (fun σ' H2 => ∃ c : Int, σ' = [some (.ref a), some (.int n), some (.ref D), some (.int (0 + i)), some (.int c), s5, s6] ∧ H2 = H') (fun nx hnx => ?_) ?_
      · refine ⟨_, rfl, _, rfl, a, _, rfl, .inl hA1, _, _, rfl, rfl, _, rfl, ?_⟩
        by_cases hc : i < cells.length
        · refine ite_yes (decide_eq_true (by rw [List.length_map]; omega)) ⟨_, rfl, _, rfl, a, _, _, _, rfl, rfl, hA1, by rw [Int.zero_add]; exact at_int hc, hnx _ _ ⟨_, rfl, rfl⟩⟩
        · exact ite_no (decide_eq_false (by rw [List.length_map]; omega)) (hnx _ _ ⟨_, rfl, rfl⟩)
      rintro σ' H2 ⟨c, rfl, rfl⟩
      refine ⟨_, rfl, _, rfl, _, _, rfl, rfl, _, _, rfl, rfl, (show (0 : Int) < 9 by decide), _, _, rfl, rfl, ?_⟩
      have hm0 := Int.emod_nonneg (c + (0 + (i : Int))) (show (9 : Int) ≠ 0 by decide)
      have hm1 := Int.emod_lt_of_pos (c + (0 + (i : Int))) (show (0 : Int) < 9 by decide)
      dsimp only [gName]
      refine if_mid (fun σ' H3 => ∃ x : Int, σ' = [some (.ref a), some (.int n), some (.ref D), some (.int (0 + i)), some (.int c), some (.int x), s6] ∧ nb x ≤ 200 ∧ Same H2 H3) (fun nx hnx => ?_) ?_
      · refine ⟨_, rfl, _, _, rfl, rfl, (show (0 : Int) < 31 by decide), rfl, _, rfl, ?_⟩
        refine ite2 (fun _ => ?_) (fun _ => ?_)
        · refine ⟨_, rfl, _, _, rfl, rfl, ⟨by decide, by decide⟩, _, rfl, fun H3 h3 => hnx _ _ ⟨_, rfl, anyM_nb _, h3⟩⟩
        · exact hnx _ _ ⟨_, rfl, small_nb (by omega) (by omega), Same.refl _⟩
      rintro σ' H3 ⟨x, rfl, hx, h3⟩
      have e3 := e1.trans (Ext.grow e1.sub h3)
      refine ⟨_, rfl, .inl ⟨rfl, _, SqL.of (h3 _ _ hD1)⟩, _, rfl, D, _, _, rfl, rfl, h3 _ _ hD1, by rw [List.length_map, hl]; exact small_le (by omega), ?_⟩
      refine ⟨ns ++ [x], _, _, _, _, rfl, e3.put hD gD _, by rw [upd_same, List.map_append]; rfl, by rw [List.length_append, hl]; rfl, fun y hy => ?_⟩
      rcases List.mem_append.mp hy with hy | hy
      · exact hb y hy
      · rw [List.mem_singleton.mp hy]; exact hx
    · rintro σ H' ⟨ns, s3, s4, s5, s6, rfl, e1, hD1, hl, hb⟩
      rw [show (n : Int).toNat = n by omega] at hl
      have hA1 := e1.sub.seq hA
      refine (show ∀ {v : V} {i : Nat} {u : TS} {D : Ends} {σ : L2.St} {H : Hp}, u D (σ.set i (some v)) H → tSeq (tAsg (tC v) (gName i)) u D σ H from fun h => h) ?_
      dsimp only
      refine if_mid (fun σ' H2 => ∃ b : Int, σ' = [some (.ref a), some (.int n), some (.ref D), s3, s4, s5, some (.int b)] ∧ nb b ≤ 200 ∧ Ext G H G H2 ∧ H2 D = some (.lst (ns.map V.int))) (fun nx hnx => ?_) ?_
      · refine ⟨_, rfl, nil_le, fun Z hZ => ?_⟩
        have e2 := e1.trans (Ext.grow e1.sub (same_new hZ (.lst [])))
        have hD2 : upd H' Z (.lst []) D = some (.lst (ns.map V.int)) := same_new hZ _ _ _ hD1
        refine ⟨a, Z, _, _, rfl, rfl, (same_new hZ _).seq hA1, SqL.of upd_same, .inl rfl, _, rfl, ?_⟩
        by_cases hc : cells = []
        · subst hc
          exact ite_no rfl (hnx _ _ ⟨_, rfl, small_nb (by decide) (by decide), e2, hD2⟩)
        · have hlen : 0 < cells.length := by
            cases cells with
            | nil => exact absurd rfl hc
            | cons _ _ => exact Nat.succ_pos _
          have hlast : cells[cells.length - 1]? = some (cells.getD (cells.length - 1) 0) := by
            rw [List.getElem?_eq_getElem (by omega)]; simp [List.getD, show cells.length - 1 < cells.length by omega]
          refine ite_yes (by
            rw [decide_eq_false (by rw [List.length_map]; simp; exact hc)]; rfl) ?_
          refine ⟨_, rfl, _, rfl, a, _, _, _, rfl, rfl, (same_new hZ _).seq hA1, at_lastN (k := cells.length - 1) (by rw [List.length_map]; omega) (x := .int (cells.getD (cells.length - 1) 0)) (by rw [List.getElem?_map, hlast]; rfl), _, _, rfl, rfl, (show (0 : Int) < 41 by decide), _, _, rfl, rfl, ?_⟩
          have hm0 := Int.emod_nonneg (cells.getD (cells.length - 1) 0) (show (41 : Int) ≠ 0 by decide)
          have hm1 := Int.emod_lt_of_pos (cells.getD (cells.length - 1) 0) (show (0 : Int) < 41 by decide)
          exact hnx _ _ ⟨_, rfl, small_nb (by omega) (by omega), e2, hD2⟩
      rintro σ' H2 ⟨b, rfl, hbb, e2, hD2⟩
      refine ⟨_, rfl, _, rfl, two_le, fun p hp => ?_⟩
      have e3 := e2.know hD hD2 gD
      have e4 := e3.trans (Ext.new e3.sub hp (.tup [.ref D, .int b]))
      have hDp : D ≠ p := ne_of_none hD2 hp
      exact q (ns, b) hl hb hbb _ _ _ e4 ⟨p, .ref D, .int b, rfl, SqT.of upd_same, rInts.mpr ⟨D, rfl, SqL.of (by rw [upd_ne hDp, upd_same])⟩, rfl⟩

theorem sc_check_row : FnScope ["count", "row"] ["count", "row"] (defScope (top 5)) := ⟨rfl, rfl, rfl, by decide +kernel, rfl, by decide +kernel, by decide +kernel⟩
theorem ok_check_row {P : Program} {w : World} {K : PySem.W.Frag} {mg : Str → Option Value} {base : Heap} {k : Nat} {f : Addr} {fd : FuncData} (F : Fun K "check_row" "check_row" (top 5) f fd) (B : Blt mg)   :
    FnOk P w K mg base CX0 (k + 1) f fd ["count", "row"] (sp_check_row K) := by
  refine F.ok sc_check_row (fun vs H Q E h => ?len) (fun cdv A outer s H vs Q E hr h => ?body)
  case len => obtain ⟨_, _, _, rfl, _⟩ := h; rfl
  case body =>
    obtain ⟨n, v, ⟨ns, b⟩, rfl, ⟨t, u, w', rfl, hT, ⟨l, us, rfl, hL, hp⟩, rfl⟩, hl, q⟩ := h
    refine ⟨_, (pss_one (ps_if (pt_cmpR op_ne (pe_callB (callLen (K := K)) rfl B.len bt_len (pa_cons (pe_ix (ixT (K := K)) (pv 1) pe_int (fun _ _ => rfl)) pa_nil)) (pv 0) (nomark _)) (pss_one ps_never) pss_nil)), ?_⟩
    refine ⟨_, rfl, t, _, _, _, rfl, rfl, hT, rfl, l, _, rfl, .inl hL, _, rfl, rfl, _, rfl, ?_⟩
    refine iteNS ?_ (q H (Same.refl _))
    rw [hp.length, hl]

theorem sc_shown_number : FnScope ["number", "letter", "sign", "figures"] ["number", "letter"] (defScope (top 9)) := ⟨rfl, rfl, rfl, by decide +kernel, rfl, by decide +kernel, by decide +kernel⟩
theorem ok_shown_number {P : Program} {w : World} {K : PySem.W.Frag} {mg : Str → Option Value} {base : Heap} {k : Nat} {f : Addr} {fd : FuncData} (F : Fun K "shown_number" "shown_number" (top 9) f fd) (B : Blt mg)   :
    FnOk P w K mg base CX0 (k + 1) f fd ["number", "letter"] sp_shown_number := by
  refine F.ok sc_shown_number (fun vs H Q E h => ?len) (fun cdv A outer s H vs Q E hr h => ?body)
  case len => obtain ⟨_, _, rfl, _⟩ := h; rfl
  case body =>
    obtain ⟨x, k, rfl, hb, q⟩ := h
    have lg : ((if x < 0 then -x else x) : Int).natAbs.log2 < 1920 := nb_log (abs_nb hb)
    have dl : (dig x.natAbs).length ≤ 600 := dig_len 599 _ (nb_ten hb)
    have es : Str.ofString (toString (if x < 0 then -x else x)) = tx (dig x.natAbs) := by rw [abs_nat, str_nat]
    have fin : ∀ (sg fg : T), part x k = sg ++ fg ++ [97 + k] → Q (.str (tx sg ++ tx fg ++ tx [97 + k])) H := fun sg fg e => by
      rw [← tx_app, ← tx_app, ← e]; exact q H (Same.refl _)
    have l1 : ∀ c : Nat, (tx [c]).length ≤ 100000 := fun c => by rw [tx_len]; show 1 ≤ 100000; omega
    have abs1 : ∀ b : Bool, decide (x.natAbs = 1) = b → decide (V.int (if x < 0 then -x else x) = V.int 1) = b := fun b e => by
      rw [abs_nat, ← e]
      by_cases h1 : x.natAbs = 1
      · rw [h1]; rfl
      · rw [decide_eq_false h1, decide_eq_false]
        intro z; injection z with z; omega
    refine ⟨_, (pss_cons (ps_set (i := 2) sc_shown_number.nd rfl (Or.inl rfl) (pe_ifExp (pt_cmpR op_lt (pv 0) pe_int (nomark _)) pe_str pe_str))
    (pss_cons (ps_set (i := 3) sc_shown_number.nd rfl (Or.inl rfl) (pe_ifExp (pt_cmpR op_eq (pe_callB call_abs rfl B.abs bt_abs (pa_cons (pv 0) pa_nil)) pe_int (nomark _)) pe_str (pe_callTy call_str_int rfl B.str bt_str (pa_cons (pe_callB call_abs rfl B.abs bt_abs (pa_cons (pv 0) pa_nil)) pa_nil))))
    (pss_one (ps_ret (pe_fmt3 (pv 2) (pv 3) (pv 1)))))), ?_⟩
    refine ⟨_, rfl, _, _, rfl, rfl, _, rfl, ?_⟩
    by_cases hx : x < 0
    · refine ite_yes (decide_eq_true hx) ⟨_, rfl, x, rfl, rfl, _, rfl, ?_⟩
      by_cases h1 : x.natAbs = 1
      · refine ite_yes (abs1 true (decide_eq_true h1)) ⟨_, rfl, tx [45], rfl, l1 45, _, rfl, tx [], rfl, by rw [tx_len]; exact Nat.zero_le _, _, rfl, tx [97 + k], rfl, l1 _, fin [45] [] ?_⟩
        unfold Nt.part fig; rw [if_pos hx, if_pos h1]; rfl
      · refine ite_no (abs1 false (decide_eq_false h1)) ⟨_, rfl, x, rfl, _, rfl, lg, _, rfl, tx [45], rfl, l1 45, _, rfl, tx (dig x.natAbs), by rw [← es], by rw [tx_len]; omega, _, rfl, tx [97 + k], rfl, l1 _, fin [45] (dig x.natAbs) ?_⟩
        unfold Nt.part fig; rw [if_pos hx, if_neg h1]; rfl
    · refine ite_no (decide_eq_false hx) ⟨_, rfl, x, rfl, rfl, _, rfl, ?_⟩
      by_cases h1 : x.natAbs = 1
      · refine ite_yes (abs1 true (decide_eq_true h1)) ⟨_, rfl, tx [43], rfl, l1 43, _, rfl, tx [], rfl, by rw [tx_len]; exact Nat.zero_le _, _, rfl, tx [97 + k], rfl, l1 _, fin [43] [] ?_⟩
        unfold Nt.part fig; rw [if_neg hx, if_pos h1]; rfl
      · refine ite_no (abs1 false (decide_eq_false h1)) ⟨_, rfl, x, rfl, _, rfl, lg, _, rfl, tx [43], rfl, l1 43, _, rfl, tx (dig x.natAbs), by rw [← es], by rw [tx_len]; omega, _, rfl, tx [97 + k], rfl, l1 _, fin [43] (dig x.natAbs) ?_⟩
        unfold Nt.part fig; rw [if_neg hx, if_neg h1]; rfl

theorem sc_shown_numbers : FnScope ["numbers", "text"] ["numbers"] (defScope (top 10)) := ⟨rfl, rfl, rfl, by decide +kernel, rfl, by decide +kernel, by decide +kernel⟩
theorem ok_shown_numbers {P : Program} {w : World} {K : PySem.W.Frag} {mg : Str → Option Value} {base : Heap} {k : Nat} {f : Addr} {fd : FuncData} (F : Fun K "shown_numbers" "shown_numbers" (top 10) f fd) (B : Blt mg) (SL_LETTERS : StrC mg "LETTERS" Nt.letters) (D_shown_number : Dep P w K mg base k "shown_number" ["number", "letter"] sp_shown_number) :
    FnOk P w K mg base CX0 (k + 1) f fd ["numbers"] (sp_shown_numbers K) := by
  refine F.ok sc_shown_numbers (fun vs H Q E h => ?len) (fun cdv A outer s H vs Q E hr h => ?body)
  case len => obtain ⟨_, _, rfl, _⟩ := h; rfl
  case body =>
    obtain ⟨v, ns, rfl, hv, hl, hb, q⟩ := h
    obtain ⟨a, rfl, hA⟩ := rInts.mp hv
    have big : (100000 : Nat) ≤ sizeLine := by decide
    refine ⟨_, (pss_cons (ps_set (i := 1) sc_shown_numbers.nd rfl (Or.inl rfl) (pe_bm PySem.F.plainAttrs_str PySem.F.slot_str_join PySem.F.type_str_join (ms_join (K := K)) pe_str (pa_cons (pe_comp ["place", "number"] [none, none] rfl (pi_enum (K := K) rfl B.enumerate (pa_cons (pv 0) pa_nil)) (fun _ _ _ _ _ => (pgT (K := K) (n := 2) rfl (pgs_cons (pg_name (i := 0) (show List.Nodup (["place", "number"] : List Str) by decide +kernel) rfl (Or.inl rfl)) (pgs_cons (pg_name (i := 1) (show List.Nodup (["place", "number"] : List Str) by decide +kernel) rfl (Or.inl rfl)) pgs_nil)))) (fun _ _ _ _ _ => (pif_one (pt_cmpR op_ne (pv 1) pe_int (nomark _)))) (fun _ _ _ _ _ => (pe_callD D_shown_number hr (pa_cons (pv 1) (pa_cons (pe_ix ix_str (pe_globS SL_LETTERS) (pv 0) (fun _ _ => rfl)) pa_nil))))) pa_nil)))
    (pss_cons (ps_if (pt_cmpR op_eq (pv 1) pe_str (nomark _)) (pss_one (ps_ret pe_str)) pss_nil)
    (pss_one (ps_ret (pe_ifExp (pt_val (pe_bm PySem.F.plainAttrs_str PySem.F.slot_str_startswith PySem.F.type_str_startswith ms_startswith (pv 1) (pa_cons pe_str pa_nil))) (pe_slice sl_str (pv 1) (po_some pe_int) po_none) (pv 1)))))), ?_⟩
    refine ⟨rfl, _, rfl, a, _, rfl, hA, fun hz => comp_enum (xs := ns.map V.int) (fun i zs H' => Same H H' ∧ ∃ ps : List T, zs = (ps.map tx).map V.str ∧ ps.flatten = text (ns.take i) 0 ∧ ps.length ≤ i ∧ (ps.map List.length).sum ≤ i * 602) ⟨Same.refl _, [], rfl, by simp [text], Nat.le_refl _, Nat.le_refl _⟩ (fun i zs H' ⟨hs, _⟩ => hs.seq hA) ?_ ?_⟩
    · rintro i y T0 zs H' hy ⟨hs, ps, hzs, hfl, hpl, hsum⟩ hT
      obtain ⟨x, hx, rfl⟩ := int_at hy
      have hi : i < 26 := by have := len_lt hx; omega
      have hnx := hb _ (mem_at hx)
      have h1 := hs.trans (same_new hT (.tup [.int i, .int x]))
      have etx : text (ns.take (i + 1)) 0 = text (ns.take i) 0 ++ (if x = 0 then [] else part x i) := by
        rw [take_snoc hx, text_snoc, Nat.zero_add, List.length_take, Nat.min_eq_left (by have := len_lt hx; omega)]
      refine ⟨T0, _, rfl, SqT.of upd_same, rfl, _, _, rfl, _, _, rfl, rfl, Wk.trans (Wk.set rfl) (Wk.set rfl), ?_⟩
      refine ⟨_, rfl, rfl, _, rfl, ?_⟩
      by_cases h0 : x = 0
      · refine ite_no (by rw [h0]; rfl) ⟨h1, ps, hzs, by rw [etx, if_pos h0, List.append_nil]; exact hfl, by omega, by omega⟩
      · have hlet : (Nt.letters.cps.toList)[i]? = some (97 + i) := by
          rw [letters_tx, tx_list, List.getElem?_range' (by omega)]; simp
        refine ite_yes (by rw [decide_eq_false (by intro z; injection z with z; exact h0 z)]; rfl) ⟨_, rfl, _, rfl, Nt.letters, _, 97 + i, rfl, rfl, ?_, atI_nat hlet, x, i, rfl, hnx, fun H2 h2 => ⟨?_, h1.trans h2, ps ++ [part x i], ?_, ?_, ?_, ?_⟩⟩
        · rw [letters_tx, tx_len, List.length_range']; omega
        · rw [hzs, List.length_map, List.length_map]; omega
        · rw [hzs, List.map_append, List.map_append]; rfl
        · rw [etx, if_neg h0, List.flatten_append, hfl]; simp
        · rw [List.length_append, List.length_singleton]; omega
        · rw [List.map_append, List.sum_append]
          have fl := fig_len (nb_ten hnx)
          have : (part x i).length ≤ 602 := by unfold Nt.part; simp only [List.length_cons, List.length_append, List.length_nil]; omega
          simp only [List.map_cons, List.map_nil, List.sum_cons, List.sum_nil]
          omega
    · rintro zs H' D ⟨hs, ps, hzs, hfl, hpl, hsum⟩ hD
      rw [List.length_map, List.take_length] at hfl
      rw [List.length_map] at hpl hsum
      have hs' := hs.trans (same_new hD (.lst zs))
      have hlens : ((ps.map tx).map (·.length)).sum = (ps.map List.length).sum := by
        rw [List.map_map]
        exact congrArg List.sum (List.map_congr_left fun p _ => tx_len p)
      refine ⟨Str.empty, D, ps.map tx, rfl, rfl, SqL.of (by rw [upd_same, hzs]), by decide, by rw [hlens, List.length_map]; omega, ?_⟩
      rw [join_tx, hfl]
      refine ⟨_, rfl, rfl, _, rfl, ?_⟩
      have e0 : decide (V.str (tx (text ns 0)) = V.str (Str.ofString "")) = decide (text ns 0 = []) := str_eq _ []
      unfold left at q
      by_cases h0 : text ns 0 = []
      · rw [if_pos h0] at q
        refine ite_yes (by rw [e0]; exact decide_eq_true h0) ?_
        exact q _ hs'
      · rw [if_neg h0] at q
        refine ite_no (by rw [e0]; exact decide_eq_false h0) ?_
        refine ⟨_, rfl, rfl, tx (text ns 0), tx [43], rfl, rfl, _, rfl, ?_⟩
        rw [starts_tx]
        have tl : (tx (text ns 0)).length ≤ sizeLine := by
          rw [tx_len]
          have := text_len (b := 602) ns 0 fun x hx => by have := fig_len (nb_ten (hb x hx)); omega
          have : ns.length * 602 ≤ 26 * 602 := Nat.mul_le_mul_right _ hl
          omega
        by_cases hp : (text ns 0).head? = some 43
        · refine ite_yes (by rw [hp]; rfl) ⟨_, rfl, _, rfl, tx (text ns 0), rfl, tl, ?_⟩
          rw [drop_tx]
          have : strip (text ns 0) = (text ns 0).drop 1 := by
            cases ht : text ns 0 with
            | nil => exact absurd ht h0
            | cons c r =>
              rw [ht] at hp
              simp only [List.head?_cons, Option.some.injEq] at hp
              subst hp; rfl
          rw [← this]
          exact q _ hs'
        · refine ite_no (by
            rw [Bool.eq_false_iff]
            intro z
            exact hp (by simpa using z)) ⟨_, rfl, ?_⟩
          have : strip (text ns 0) = text ns 0 := by
            unfold Nt.strip
            split
            · rename_i l e
              exact absurd (by rw [e]; rfl) hp
            · rfl
          rw [this] at q
          exact q _ hs'

theorem sc_shown : FnScope ["count", "row"] ["count", "row"] (defScope (top 11)) := ⟨rfl, rfl, rfl, by decide +kernel, rfl, by decide +kernel, by decide +kernel⟩
theorem ok_shown {P : Program} {w : World} {K : PySem.W.Frag} {mg : Str → Option Value} {base : Heap} {k : Nat} {f : Addr} {fd : FuncData} (F : Fun K "shown" "shown" (top 11) f fd) (B : Blt mg)  (D_check_row : Dep P w K mg base k "check_row" ["count", "row"] (sp_check_row K)) (D_shown_numbers : Dep P w K mg base k "shown_numbers" ["numbers"] (sp_shown_numbers K)) :
    FnOk P w K mg base CX0 (k + 1) f fd ["count", "row"] (sp_shown K) := by
  refine F.ok sc_shown (fun vs H Q E h => ?len) (fun cdv A outer s H vs Q E hr h => ?body)
  case len => obtain ⟨_, _, _, rfl, _⟩ := h; rfl
  case body =>
    obtain ⟨n, v, ⟨ns, b⟩, rfl, hr0, hl, h26, hb1, hb2, q⟩ := h
    obtain ⟨t, u', w', rfl, hT, hN, rfl⟩ := id hr0
    dsimp only at hT hl h26 hb1 hb2
    have big : (100000 : Nat) ≤ sizeLine := by decide
    obtain ⟨ll, wl, tl⟩ := line_len (r := (ns, b)) h26 hb1 hb2
    dsimp only at ll wl tl
    refine ⟨_, (pss_cons (ps_expr (pe_callD D_check_row hr (pa_cons (pv 0) (pa_cons (pv 1) pa_nil))))
    (pss_one (ps_ret (pe_op op_add_str (pe_op op_add_str (pe_callD D_shown_numbers hr (pa_cons (pe_ix (ixT (K := K)) (pv 1) pe_int (fun _ _ => rfl)) pa_nil)) pe_str) (pe_callTy call_str_int rfl B.str bt_str (pa_cons (pe_ix (ixT (K := K)) (pv 1) pe_int (fun _ _ => rfl)) pa_nil)))))), ?_⟩
    refine ⟨_, rfl, _, rfl, n, .ref t, (ns, b), rfl, hr0, hl, fun H1 h1 => ?_⟩
    refine ⟨_, rfl, t, _, _, _, rfl, rfl, h1.seqT hT, rfl, u', ns, rfl, (rLst K rInt).mono h1 hN, h26, hb1, fun H2 h2 => ?_⟩
    refine ⟨tx (left ns), tx [62, 61], rfl, rfl, by rw [tx_len, tx_len]; simp only [List.length_cons, List.length_nil]; omega, ?_⟩
    refine ⟨_, rfl, t, _, _, _, rfl, rfl, (h1.trans h2).seqT hT, rfl, b, rfl, nb_log hb2, ?_⟩
    refine ⟨_, tx (whole b), rfl, by rw [← str_int], by rw [← tx_app, tx_len, tx_len, List.length_append]; simp only [List.length_cons, List.length_nil]; omega, ?_⟩
    rw [← tx_app, ← tx_app]
    exact q _ (h1.trans h2)

theorem sc_law_line_of : FnScope ["_law_row", "_law_line", "_law_letters", "_law_k", "_law_number", "_law_figures"] ["_law_row"] (defScope (top 20)) := ⟨rfl, rfl, rfl, by decide +kernel, rfl, by decide +kernel, by decide +kernel⟩
theorem ok_law_line_of {P : Program} {w : World} {K : PySem.W.Frag} {mg : Str → Option Value} {base : Heap} {k : Nat} {f : Addr} {fd : FuncData} (F : Fun K "_law_line_of" "_law_line_of" (top 20) f fd) (B : Blt mg)   :
    FnOk P w K mg base CX0 (k + 1) f fd ["_law_row"] (sp_law_line_of K) := by
  refine F.ok sc_law_line_of (fun vs H Q E h => ?len) (fun cdv A outer s H vs Q E hr h => ?body)
  case len => obtain ⟨_, _, rfl, _⟩ := h; rfl
  case body =>
    obtain ⟨v, ⟨ns, b⟩, rfl, hr0, h26, hb1, hb2, q⟩ := h
    obtain ⟨t, u', w', rfl, hT, hN, rfl⟩ := id hr0
    obtain ⟨l, rfl, hL⟩ := rInts.mp hN
    dsimp only at hT hL h26 hb1 hb2
    have big : (100000 : Nat) ≤ sizeLine := by decide
    obtain ⟨ll, wl, tl⟩ := line_len (r := (ns, b)) h26 hb1 hb2
    dsimp only at ll wl tl
    refine ⟨_, (pss_cons (ps_set (i := 1) sc_law_line_of.nd rfl (Or.inl rfl) pe_str)
    (pss_cons (ps_set (i := 2) sc_law_line_of.nd rfl (Or.inl rfl) pe_str)
    (pss_cons (ps_for PassesOwn.never rfl (pi_range1 rfl B.range (pa_cons (pe_callB (callLen (K := K)) rfl B.len bt_len (pa_cons (pe_ix (ixT (K := K)) (pv 0) pe_int (fun _ _ => rfl)) pa_nil)) pa_nil)) (pg_name (i := 3) sc_law_line_of.nd rfl (Or.inl rfl)) (pss_cons (ps_set (i := 4) sc_law_line_of.nd rfl (Or.inl rfl) (pe_ix (ixL (K := K)) (pe_ix (ixT (K := K)) (pv 0) pe_int (fun _ _ => rfl)) (pv 3) (fun _ _ => rfl)))
    (pss_cons (ps_set (i := 5) sc_law_line_of.nd rfl (Or.inl rfl) (pe_ix (ixL (K := K)) (pe_lst (pa_cons (pe_callTy call_str_int rfl B.str bt_str (pa_cons (pe_callB call_abs rfl B.abs bt_abs (pa_cons (pv 4) pa_nil)) pa_nil)) (pa_cons pe_str pa_nil))) (pe_callTy call_int1 rfl B.int bt_int (pa_cons (pe_cmpR op_eq (pe_callB call_abs rfl B.abs bt_abs (pa_cons (pv 4) pa_nil)) pe_int (nomark _)) pa_nil)) (fun _ _ => rfl)))
    (pss_one (ps_if (pt_cmpR op_lt (pv 4) pe_int (nomark _)) (pss_one (ps_set (i := 1) sc_law_line_of.nd rfl (Or.inl rfl) (pe_op op_add_str (pe_op op_add_str (pe_op op_add_str (pv 1) pe_str) (pv 5)) (pe_ix ix_str (pv 2) (pv 3) (fun _ _ => rfl))))) (pss_one (ps_if (PW.pt (pw_and (pt_cmpR op_gt (pv 4) pe_int (nomark _)) (pw_and1 (pt_cmpR op_eq (pv 1) pe_str (nomark _))))) (pss_one (ps_set (i := 1) sc_law_line_of.nd rfl (Or.inl rfl) (pe_op op_add_str (pv 5) (pe_ix ix_str (pv 2) (pv 3) (fun _ _ => rfl))))) (pss_one (ps_if (pt_cmpR op_gt (pv 4) pe_int (nomark _)) (pss_one (ps_set (i := 1) sc_law_line_of.nd rfl (Or.inl rfl) (pe_op op_add_str (pe_op op_add_str (pe_op op_add_str (pv 1) pe_str) (pv 5)) (pe_ix ix_str (pv 2) (pv 3) (fun _ _ => rfl))))) pss_nil)))))))))
    (pss_one (ps_ret (pe_op op_add_str (pe_op op_add_str (pe_ix (ixL (K := K)) (pe_lst (pa_cons (pv 1) (pa_cons pe_str pa_nil))) (pe_callTy call_int1 rfl B.int bt_int (pa_cons (pe_cmpR op_eq (pv 1) pe_str (nomark _)) pa_nil)) (fun _ _ => rfl)) pe_str) (pe_callTy call_str_int rfl B.str bt_str (pa_cons (pe_ix (ixT (K := K)) (pv 0) pe_int (fun _ _ => rfl)) pa_nil)))))))), ?_⟩
    refine ⟨_, rfl, t, _, _, _, rfl, rfl, hT, rfl, l, _, rfl, .inl hL, _, rfl, by omega, by rw [List.length_map]; omega, for_range (fun i σ H' => ∃ (s3 s4 s5 : Option V), σ = [some (.ref t), some (.str (tx (Nt.strip (text (ns.take i) 0)))), some (.str Nt.letters), s3, s4, s5] ∧ Same H H') ⟨none, none, none, rfl, Same.refl _⟩ ?_ ?_⟩
    · rintro i σ H' hi ⟨s3, s4, s5, rfl, hs⟩
      rw [List.length_map] at hi
      have hin : i < ns.length := by omega
      have hx : ns[i]? = some (ns.getD i 0) := by rw [List.getElem?_eq_getElem hin]; simp [List.getD, hin]
      have hat : atI (ns.map V.int) (0 + (i : Int)) = some (.int (ns.getD i 0)) := by rw [Int.zero_add]; exact at_int hin
      have hnx := hb1 _ (mem_at hx)
      generalize ns.getD i 0 = x at hx hat hnx
      have etx : text (ns.take (i + 1)) 0 = text (ns.take i) 0 ++ (if x = 0 then [] else Nt.part x i) := by
        rw [take_snoc hx, text_snoc, Nat.zero_add, List.length_take, Nat.min_eq_left (by omega)]
      have lg : ((if x < 0 then -x else x) : Int).natAbs.log2 < 1920 := nb_log (abs_nb hnx)
      have fl := fig_len (nb_ten hnx)
      have tlen : (Nt.strip (text (ns.take i) 0)).length ≤ 16000 := by
        have a := text_len (b := 602) (ns.take i) 0 fun y hy => by have := fig_len (nb_ten (hb1 y (List.mem_of_mem_take hy))); omega
        have : (ns.take i).length * 602 ≤ 26 * 602 := Nat.mul_le_mul_right _ (by rw [List.length_take]; omega)
        have := strip_len (text (ns.take i) 0)
        omega
      have hlet : (Nt.letters.cps.toList)[i]? = some (97 + i) := by
        rw [letters_tx, tx_list, List.getElem?_range' (by omega)]; simp
      have lett : atI Nt.letters.cps.toList (0 + (i : Int)) = some (97 + i) := by rw [Int.zero_add]; exact atI_nat hlet
      have letl : Nt.letters.length ≤ sizeLine := by rw [letters_tx, tx_len, List.length_range']; omega
      refine ⟨_, rfl, t, _, _, _, rfl, rfl, hs.seqT hT, rfl, _, rfl, l, _, _, _, rfl, rfl, hs.seq hL, hat, ?_⟩
      -- figures
      refine ⟨_, rfl, x, rfl, _, rfl, lg, two_le, fun p hp => ?_⟩
      refine ⟨_, rfl, x, rfl, rfl, .inr ⟨_, rfl, ?_⟩⟩
      have hs2 := hs.trans (same_new hp (.lst [.str (Str.ofString (toString (if x < 0 then -x else x))), .str (Str.ofString "")]))
      have efig : atI [V.str (Str.ofString (toString (if x < 0 then -x else x))), V.str (Str.ofString "")] (if decide (V.int (if x < 0 then -x else x) = V.int 1) = true then 1 else 0) = some (.str (tx (fig x))) := by
        have e1 : decide (V.int (if x < 0 then -x else x) = V.int 1) = decide (x.natAbs = 1) := by
          rw [abs_nat]
          by_cases h1 : x.natAbs = 1
          · rw [h1]; rfl
          · rw [decide_eq_false h1, decide_eq_false]
            intro z; injection z with z; omega
        rw [e1]
        unfold fig
        by_cases h1 : x.natAbs = 1
        · rw [decide_eq_true h1, if_pos rfl, if_pos h1]; exact atI_nat (j := 1) rfl
        · rw [decide_eq_false h1, if_neg Bool.false_ne_true, if_neg h1, abs_nat, str_nat]; exact atI_nat (j := 0) rfl
      refine ⟨p, _, _, _, rfl, rfl, SqL.of upd_same, efig, ?_⟩
      -- which
      refine ⟨_, rfl, _, _, rfl, rfl, _, rfl, ?_⟩
      have two := text_two (ns.take i) 0
      have e0 : decide (V.str (tx (Nt.strip (text (ns.take i) 0))) = V.str (Str.ofString "")) = decide (text (ns.take i) 0 = []) := by
        rw [show V.str (Str.ofString "") = V.str (tx []) from rfl, str_eq]
        have := strip_nil two
        by_cases h : text (ns.take i) 0 = []
        · rw [decide_eq_true h, decide_eq_true (this.mpr h)]
        · rw [decide_eq_false h, decide_eq_false (fun z => h (this.mp z))]
      by_cases hneg : x < 0
      · refine ite_yes (decide_eq_true hneg) ?_
        refine ⟨_, rfl, _, tx [45], rfl, rfl, by rw [tx_len, tx_len]; simp only [List.length_cons, List.length_nil]; omega, _, rfl, _, tx (fig x), rfl, rfl, by rw [← tx_app, tx_len, tx_len, List.length_append]; simp only [List.length_cons, List.length_nil]; omega, ?_⟩
        refine ⟨_, rfl, _, rfl, Nt.letters, _, 97 + i, rfl, rfl, letl, lett, _, tx [97 + i], rfl, rfl, by rw [← tx_app, ← tx_app, tx_len, tx_len, List.length_append, List.length_append]; simp only [List.length_cons, List.length_nil]; omega, ?_⟩
        refine ⟨some (.int (0 + i)), some (.int x), some (.str (tx (fig x))), ?_, hs2⟩
        rw [← tx_app, ← tx_app, ← tx_app, etx, if_neg (by omega)]
        have : Nt.strip (text (ns.take i) 0 ++ Nt.part x i) = Nt.strip (text (ns.take i) 0) ++ [45] ++ fig x ++ [97 + i] := by
          by_cases h : text (ns.take i) 0 = []
          · rw [h]; unfold Nt.part; rw [if_pos hneg]; rfl
          · rw [strip_app h]; unfold Nt.part; rw [if_pos hneg]; simp
        rw [this]; rfl
      · refine ite_no (decide_eq_false hneg) ?_
        refine ⟨_, rfl, _, _, rfl, rfl, _, rfl, ?_⟩
        by_cases hpos : 0 < x
        · refine ite_yes (decide_eq_true hpos) ⟨_, rfl, rfl, _, rfl, ?_⟩
          by_cases h : text (ns.take i) 0 = []
          · refine ite_yes (by rw [e0]; exact decide_eq_true h) ?_
            refine ⟨_, rfl, _, rfl, _, rfl, Nt.letters, _, 97 + i, rfl, rfl, letl, lett, tx (fig x), tx [97 + i], rfl, rfl, by rw [tx_len, tx_len]; simp only [List.length_cons, List.length_nil]; omega, ?_⟩
            refine ⟨some (.int (0 + i)), some (.int x), some (.str (tx (fig x))), ?_, hs2⟩
            rw [← tx_app, etx, if_neg (by omega), h]
            unfold Nt.part; rw [if_neg hneg]; rfl
          · refine ite_no (by rw [e0]; exact decide_eq_false h) ?_
            refine ⟨_, rfl, _, _, rfl, rfl, _, rfl, ite_yes (decide_eq_true hpos) ?_⟩
            refine ⟨_, rfl, _, tx [43], rfl, rfl, by rw [tx_len, tx_len]; simp only [List.length_cons, List.length_nil]; omega, _, rfl, _, tx (fig x), rfl, rfl, by rw [← tx_app, tx_len, tx_len, List.length_append]; simp only [List.length_cons, List.length_nil]; omega, ?_⟩
            refine ⟨_, rfl, _, rfl, Nt.letters, _, 97 + i, rfl, rfl, letl, lett, _, tx [97 + i], rfl, rfl, by rw [← tx_app, ← tx_app, tx_len, tx_len, List.length_append, List.length_append]; simp only [List.length_cons, List.length_nil]; omega, ?_⟩
            refine ⟨some (.int (0 + i)), some (.int x), some (.str (tx (fig x))), ?_, hs2⟩
            rw [← tx_app, ← tx_app, ← tx_app, etx, if_neg (by omega), strip_app h]
            unfold Nt.part; rw [if_neg hneg]
            simp only [List.append_assoc, List.cons_append, List.nil_append]
            rfl
        · refine ite_no (decide_eq_false hpos) ?_
          refine ⟨_, rfl, _, _, rfl, rfl, _, rfl, ite_no (decide_eq_false hpos) ?_⟩
          refine ⟨some (.int (0 + i)), some (.int x), some (.str (tx (fig x))), ?_, hs2⟩
          rw [etx, if_pos (by omega), List.append_nil]; rfl
    · rintro σ H' ⟨s3, s4, s5, rfl, hs⟩
      rw [List.length_map, show (ns.length : Int).toNat = ns.length by omega, List.take_length]
      have e0 : decide (V.str (tx (Nt.strip (text ns 0))) = V.str (Str.ofString "")) = decide (text ns 0 = []) := by
        rw [show V.str (Str.ofString "") = V.str (tx []) from rfl, str_eq]
        have := strip_nil (text_two ns 0)
        by_cases h : text ns 0 = []
        · rw [decide_eq_true h, decide_eq_true (this.mpr h)]
        · rw [decide_eq_false h, decide_eq_false (fun z => h (this.mp z))]
      refine ⟨_, rfl, two_le, fun p hp => ?_⟩
      have hs2 := hs.trans (same_new hp (.lst [.str (tx (Nt.strip (text ns 0))), .str (tx [48])]))
      have esel : atI [V.str (tx (Nt.strip (text ns 0))), V.str (tx [48])] (if decide (V.str (tx (Nt.strip (text ns 0))) = V.str (Str.ofString "")) = true then 1 else 0) = some (.str (tx (left ns))) := by
        rw [e0]
        unfold left
        by_cases h : text ns 0 = []
        · rw [decide_eq_true h, if_pos rfl, if_pos h]; exact atI_nat (j := 1) rfl
        · rw [decide_eq_false h, if_neg Bool.false_ne_true, if_neg h]; exact atI_nat (j := 0) rfl
      refine ⟨_, rfl, rfl, .inr ⟨_, rfl, p, _, _, _, rfl, rfl, SqL.of upd_same, esel, ?_⟩⟩
      refine ⟨tx (left ns), tx [62, 61], rfl, rfl, by rw [tx_len, tx_len]; simp only [List.length_cons, List.length_nil]; omega, ?_⟩
      refine ⟨_, rfl, t, _, _, _, rfl, rfl, hs2.seqT hT, rfl, b, rfl, nb_log hb2, ?_⟩
      refine ⟨_, tx (whole b), rfl, by rw [← str_int], by rw [← tx_app, tx_len, tx_len, List.length_append]; simp only [List.length_cons, List.length_nil]; omega, ?_⟩
      rw [← tx_app, ← tx_app]
      exact q _ hs2

theorem sc_law_whole : FnScope ["_law_found"] ["_law_found"] (defScope (top 17)) := ⟨rfl, rfl, rfl, by decide +kernel, rfl, by decide +kernel, by decide +kernel⟩
theorem ok_law_whole {P : Program} {w : World} {K : PySem.W.Frag} {mg : Str → Option Value} {base : Heap} {k : Nat} {f : Addr} {fd : FuncData} (F : Fun K "_law_whole" "_law_whole" (top 17) f fd) (B : Blt mg)   :
    FnOk P w K mg base CX0 (k + 1) f fd ["_law_found"] sp_law_whole := by
  refine F.ok sc_law_whole (fun vs H Q E h => ?len) (fun cdv A outer s H vs Q E hr h => ?body)
  case len => obtain ⟨_, rfl, _⟩ := h; rfl
  case body =>
    obtain ⟨i, rfl, q⟩ := h
    refine ⟨_, (pss_one (ps_ret (pe_and (pe_callB (callIsi (K := K)) rfl B.isinstance bt_isinstance (pa_cons (pv 0) (pa_cons (pe_bltn (v := .ty "int") rfl B.int bt_int rfl) pa_nil))) (pe_one (pe_not (pe_callB (callIsi (K := K)) rfl B.isinstance bt_isinstance (pa_cons (pv 0) (pa_cons (pe_bltn (v := .ty "bool") rfl B.bool bt_bool rfl) pa_nil)))))))), ?_⟩
    refine ⟨_, rfl, _, "int", "int", rfl, by decide, rfl, _, rfl, ?_⟩
    rw [if_pos (by decide)]
    refine ⟨_, rfl, _, "bool", "int", rfl, by decide, rfl, _, rfl, ?_⟩
    exact q H (Same.refl _)

theorem sc_law_is_row : FnScope ["_law_found", "_law_due", "_law_k"] ["_law_found", "_law_due"] (defScope (top 19)) := ⟨rfl, rfl, rfl, by decide +kernel, rfl, by decide +kernel, by decide +kernel⟩
theorem ok_law_is_row {P : Program} {w : World} {K : PySem.W.Frag} {mg : Str → Option Value} {base : Heap} {k : Nat} {f : Addr} {fd : FuncData} (F : Fun K "_law_is_row" "_law_is_row" (top 19) f fd) (B : Blt mg)  (D_law_whole : Dep P w K mg base k "_law_whole" ["_law_found"] sp_law_whole) :
    FnOk P w K mg base CX0 (k + 1) f fd ["_law_found", "_law_due"] (sp_law_is_row K) := by
  refine F.ok sc_law_is_row (fun vs H Q E h => ?len) (fun cdv A outer s H vs Q E hr h => ?body)
  case len => obtain ⟨_, _, _, rfl, _⟩ := h; rfl
  case body =>
    obtain ⟨u, v, ⟨ns, b⟩, rfl, ⟨t, u1, w1, rfl, hT, hN, rfl⟩, ⟨t', u2, w2, rfl, hT', hN', rfl⟩, hlen, q⟩ := h
    obtain ⟨l, rfl, hL⟩ := rInts.mp hN
    obtain ⟨l', rfl, hL'⟩ := rInts.mp hN'
    refine ⟨_, (pss_cons (ps_if (PW.pt (pw_or (pt_not (pt_val (pe_callB (callIsi (K := K)) rfl B.isinstance bt_isinstance (pa_cons (pv 0) (pa_cons (pe_bltn (v := .ty "tuple") rfl B.tuple bt_tuple rfl) pa_nil))))) (pw_or (pt_cmpR op_ne (pe_callB (callLen (K := K)) rfl B.len bt_len (pa_cons (pv 0) pa_nil)) pe_int (nomark _)) (pw_or1 (pt_not (pt_val (pe_callD D_law_whole hr (pa_cons (pe_ix (ixT (K := K)) (pv 0) pe_int (fun _ _ => rfl)) pa_nil)))))))) (pss_one (ps_ret pe_bl)) pss_nil)
    (pss_cons (ps_if (PW.pt (pw_or (pt_not (pt_val (pe_callB (callIsi (K := K)) rfl B.isinstance bt_isinstance (pa_cons (pe_ix (ixT (K := K)) (pv 0) pe_int (fun _ _ => rfl)) (pa_cons (pe_bltn (v := .ty "list") rfl B.list bt_list rfl) pa_nil))))) (pw_or1 (pt_cmpR op_ne (pe_callB (callLen (K := K)) rfl B.len bt_len (pa_cons (pe_ix (ixT (K := K)) (pv 0) pe_int (fun _ _ => rfl)) pa_nil)) (pe_callB (callLen (K := K)) rfl B.len bt_len (pa_cons (pe_ix (ixT (K := K)) (pv 1) pe_int (fun _ _ => rfl)) pa_nil)) (nomark _))))) (pss_one (ps_ret pe_bl)) pss_nil)
    (pss_cons (ps_for PassesOwn.never rfl (pi_range1 rfl B.range (pa_cons (pe_callB (callLen (K := K)) rfl B.len bt_len (pa_cons (pe_ix (ixT (K := K)) (pv 1) pe_int (fun _ _ => rfl)) pa_nil)) pa_nil)) (pg_name (i := 2) sc_law_is_row.nd rfl (Or.inl rfl)) (pss_one (ps_if (PW.pt (pw_or (pt_not (pt_val (pe_callD D_law_whole hr (pa_cons (pe_ix (ixL (K := K)) (pe_ix (ixT (K := K)) (pv 0) pe_int (fun _ _ => rfl)) (pv 2) (fun _ _ => rfl)) pa_nil)))) (pw_or1 (pt_cmpR op_ne (pe_ix (ixL (K := K)) (pe_ix (ixT (K := K)) (pv 0) pe_int (fun _ _ => rfl)) (pv 2) (fun _ _ => rfl)) (pe_ix (ixL (K := K)) (pe_ix (ixT (K := K)) (pv 1) pe_int (fun _ _ => rfl)) (pv 2) (fun _ _ => rfl)) (nomark _))))) (pss_one (ps_ret pe_bl)) pss_nil)))
    (pss_one (ps_ret (pe_cmpR op_eq (pe_ix (ixT (K := K)) (pv 0) pe_int (fun _ _ => rfl)) (pe_ix (ixT (K := K)) (pv 1) pe_int (fun _ _ => rfl)) (nomark _))))))), ?_⟩
    refine ⟨_, rfl, _, "tuple", "tuple", rfl, by decide, .inr ⟨rfl, _, hT⟩, _, rfl, ?_⟩
    refine ite_no (by decide) ?_
    refine ⟨_, rfl, t, _, rfl, .inr hT, rfl, _, rfl, ?_⟩
    refine ite_no rfl ?_
    refine ⟨_, rfl, t, _, _, _, rfl, rfl, hT, rfl, b, rfl, fun H1 h1 => ⟨_, rfl, ?_⟩⟩
    refine ite_no (by decide) ?_
    refine ⟨_, rfl, t, _, _, _, rfl, rfl, h1.seqT hT, rfl, _, "list", "list", rfl, by decide, .inl ⟨rfl, _, h1.seq hL⟩, _, rfl, ?_⟩
    refine ite_no (by decide) ?_
    refine ⟨_, rfl, t, _, _, _, rfl, rfl, h1.seqT hT, rfl, l, _, rfl, .inl (h1.seq hL), _, rfl, t', _, _, _, rfl, rfl, h1.seqT hT', rfl, l', _, rfl, .inl (h1.seq hL'), rfl, _, rfl, ?_⟩
    refine iteNS rfl ?_
    refine ⟨_, rfl, t', _, _, _, rfl, rfl, h1.seqT hT', rfl, l', _, rfl, .inl (h1.seq hL'), _, rfl, ?_, ?_, for_range (fun i σ H' => ∃ s2, σ = [some (.ref t), some (.ref t'), s2] ∧ Same H H') ⟨none, rfl, h1⟩ ?_ ?_⟩
    · omega
    · rw [List.length_map]; have : ns.length ≤ 10000 := hlen; show (ns.length : Int) < 2 ^ 62; omega
    · rintro i σ H' hi ⟨s2, rfl, hs⟩
      have hi' : i < ns.length := by simpa using hi
      have ez : (0 + (i : Int)) = (i : Int) := by omega
      have hat : atI (ns.map V.int) (0 + (i : Int)) = some (.int (ns.getD i 0)) := by rw [ez]; exact at_int hi'
      refine ⟨_, rfl, t, _, _, _, rfl, rfl, hs.seqT hT, rfl, _, rfl, l, _, _, _, rfl, rfl, hs.seq hL, hat, _, rfl, fun H2 h2 => ⟨_, rfl, ?_⟩⟩
      refine ite_no (by decide) ?_
      have hs2 := hs.trans h2
      refine ⟨_, rfl, t, _, _, _, rfl, rfl, hs2.seqT hT, rfl, _, rfl, l, _, _, _, rfl, rfl, hs2.seq hL, hat, _, rfl, t', _, _, _, rfl, rfl, hs2.seqT hT', rfl, _, rfl, l', _, _, _, rfl, rfl, hs2.seq hL', hat, rfl, _, rfl, ?_⟩
      exact iteNS rfl ⟨_, rfl, hs2⟩
    · rintro σ H' ⟨s2, rfl, hs⟩
      refine ⟨_, rfl, t, _, _, _, rfl, rfl, hs.seqT hT, rfl, _, rfl, t', _, _, _, rfl, rfl, hs.seqT hT', rfl, rfl, ?_⟩
      rw [decide_eq_true rfl]
      exact q H' hs

theorem sc_read_whole : FnScope ["text", "signed", "figures"] ["text"] (defScope (top 12)) := ⟨rfl, rfl, rfl, by decide +kernel, rfl, by decide +kernel, by decide +kernel⟩
theorem ok_read_whole {P : Program} {w : World} {K : PySem.W.Frag} {mg : Str → Option Value} {base : Heap} {k : Nat} {f : Addr} {fd : FuncData} (F : Fun K "read_whole" "read_whole" (top 12) f fd) (B : Blt mg) (SL_FIGURES : StrC mg "FIGURES" Nt.figures)  :
    FnOk P w K mg base CX0 (k + 1) f fd ["text"] sp_read_whole := by
  refine F.ok sc_read_whole (fun vs H Q E h => ?len) (fun cdv A outer s H vs Q E hr h => ?body)
  case len => obtain ⟨_, _, rfl, _⟩ := h; rfl
  case body =>
    obtain ⟨t, i, rfl, hl, hrd, q⟩ := h
    have big : (100000 : Nat) ≤ sizeLine := by decide
    unfold rdWhole at hrd
    by_cases hbad : figs t = [] ∨ (figs t).all isDig = false
    · rw [if_pos hbad] at hrd; cases hrd
    rw [if_neg hbad] at hrd
    have hne : figs t ≠ [] := fun z => hbad (.inl z)
    have hall : (figs t).all isDig = true := by
      cases hh : (figs t).all isDig with
      | true => rfl
      | false => exact absurd (.inr hh) hbad
    have hfl : (figs t).length ≤ 640 := by
      unfold figs
      split
      · rw [List.length_drop]; omega
      · exact hl
    have hit : PySem.intText? (tx (figs t)) = some (NumText.digitsVal (figs t) : Int) := by
      have := intText_digits (x := tx (figs t)) (by
        rw [tx_list]
        intro c hc
        have := List.all_eq_true.mp hall c hc
        simp only [isDig, Bool.and_eq_true, decide_eq_true_eq] at this
        exact this) (by rw [tx_list]; exact hne) (by rw [tx_len]; omega)
      rw [tx_list] at this
      exact this
    refine ⟨_, (pss_cons (ps_set (i := 1) sc_read_whole.nd rfl (Or.inl rfl) (pe_or (pe_bm PySem.F.plainAttrs_str PySem.F.slot_str_startswith PySem.F.type_str_startswith ms_startswith (pv 0) (pa_cons pe_str pa_nil)) (pe_one (pe_bm PySem.F.plainAttrs_str PySem.F.slot_str_startswith PySem.F.type_str_startswith ms_startswith (pv 0) (pa_cons pe_str pa_nil)))))
    (pss_cons (ps_set (i := 2) sc_read_whole.nd rfl (Or.inl rfl) (pe_ifExp (pt_val (pv 1)) (pe_slice sl_str (pv 0) (po_some pe_int) po_none) (pv 0)))
    (pss_cons (ps_if (PW.pt (pw_or (pt_cmpR op_eq (pv 2) pe_str (nomark _)) (pw_or1 (pt_not (pt_val (pe_callB (callAll (K := K) rfl) rfl B.all bt_all (pa_cons (pe_comp ["sign"] [none] rfl (pi_str (pv 2)) (fun _ _ _ _ _ => (pg_name (i := 0) (show List.Nodup (["sign"] : List Str) by decide +kernel) rfl (Or.inl rfl))) (fun _ _ _ _ _ => pif_nil) (fun _ _ _ _ _ => (pe_cmpR op_in_str (pv 0) (pe_globS SL_FIGURES) (by with_unfolding_all rfl)))) pa_nil))))))) (pss_one ps_never) pss_nil)
    (pss_one (ps_ret (pe_ifExp (pt_val (pe_bm PySem.F.plainAttrs_str PySem.F.slot_str_startswith PySem.F.type_str_startswith ms_startswith (pv 0) (pa_cons pe_str pa_nil))) (pe_un un_neg (pe_callTy call_int_str rfl B.int bt_int (pa_cons (pv 2) pa_nil))) (pe_callTy call_int_str rfl B.int bt_int (pa_cons (pv 2) pa_nil)))))))), ?_⟩
    refine seq_mid (fun σ' H' => σ' = [some (.str (tx t)), some (.bl (signed t)), none] ∧ H' = H) (fun nx hnx => ?_) ?_
    · refine ⟨_, rfl, rfl, tx t, tx [43], rfl, rfl, _, rfl, ?_⟩
      rw [starts_tx]
      by_cases hp : (t.head? == some 43) = true
      · refine ite_yes hp (hnx _ _ ⟨?_, rfl⟩)
        unfold signed; rw [hp]; rfl
      · refine ite_no (Bool.eq_false_iff.mpr hp) ⟨_, rfl, rfl, tx t, tx [45], rfl, rfl, ?_⟩
        rw [starts_tx]
        refine hnx _ _ ⟨?_, rfl⟩
        unfold signed; rw [Bool.eq_false_iff.mpr hp, Bool.false_or]; rfl
    rintro σ H' ⟨rfl, rfl⟩
    refine seq_mid (fun σ' H2 => σ' = [some (.str (tx t)), some (.bl (signed t)), some (.str (tx (figs t)))] ∧ H2 = H') (fun nx hnx => ?_) ?_
    · refine ⟨_, rfl, _, rfl, ?_⟩
      cases hs : signed t with
      | true =>
        refine ite_yes rfl ⟨_, rfl, _, rfl, tx t, rfl, by rw [tx_len]; omega, ?_⟩
        rw [drop_tx]
        refine hnx _ _ ⟨?_, rfl⟩
        unfold figs; rw [hs]; rfl
      | false =>
        refine ite_no rfl ⟨_, rfl, hnx _ _ ⟨?_, rfl⟩⟩
        unfold figs; rw [hs]; rfl
    rintro σ H2 ⟨rfl, rfl⟩
    refine ⟨_, rfl, rfl, _, rfl, ?_⟩
    have e0 : decide (V.str (tx (figs t)) = V.str (Str.ofString "")) = false := (str_eq _ []).trans (decide_eq_false hne)
    refine ite_no e0 ?_
    refine ⟨_, rfl, tx (figs t), rfl, comp_str (fun j ys H' => H' = H2 ∧ ys.length = j ∧ ys = (((figs t).take j).map isDig).map V.bl) ⟨rfl, rfl, rfl⟩ ?_ ?_⟩
    · rintro j c ys H' hc ⟨rfl, hyl, hy⟩
      rw [tx_at] at hc
      refine ⟨Wk.set rfl, tTrue_then ⟨_, rfl, _, Nt.figures, rfl, rfl, ?_, rfl, ?_, ?_⟩⟩
      · rw [hyl]; exact small_le (by have := len_lt hc; omega)
      · rw [List.length_append, hyl]; rfl
      · rw [take_snoc hc, hy, List.map_append, List.map_append, in_figures]; rfl
    rintro ys H' D ⟨rfl, _, hy⟩ hD
    rw [tx_len, List.take_length] at hy
    have eall : ((figs t).map isDig).all id = true := by rw [List.all_map]; exact hall
    refine ⟨D, (figs t).map isDig, rfl, SqL.of (by rw [upd_same, hy]), _, rfl, ?_⟩
    rw [eall]
    refine ite_no rfl ?_
    have hs' := same_new hD (.lst ys)
    refine ⟨_, rfl, rfl, tx t, tx [45], rfl, rfl, _, rfl, ?_⟩
    rw [starts_tx]
    by_cases hm : t.head? = some 45
    · rw [if_pos hm] at hrd
      cases hrd
      exact ite_yes (by rw [hm]; rfl) ⟨_, rfl, tx (figs t), _, rfl, hit, by rw [tx_len]; exact hfl, _, rfl, q _ hs'⟩
    · rw [if_neg hm] at hrd
      cases hrd
      refine ite_no ?_ ⟨_, rfl, tx (figs t), _, rfl, hit, by rw [tx_len]; exact hfl, q _ hs'⟩
      rw [Bool.eq_false_iff]
      intro z
      exact hm (by simpa using z)

theorem sc_read_number : FnScope ["text"] ["text"] (defScope (top 13)) := ⟨rfl, rfl, rfl, by decide +kernel, rfl, by decide +kernel, by decide +kernel⟩
theorem ok_read_number {P : Program} {w : World} {K : PySem.W.Frag} {mg : Str → Option Value} {base : Heap} {k : Nat} {f : Addr} {fd : FuncData} (F : Fun K "read_number" "read_number" (top 13) f fd) (B : Blt mg)  (D_read_whole : Dep P w K mg base k "read_whole" ["text"] sp_read_whole) :
    FnOk P w K mg base CX0 (k + 1) f fd ["text"] sp_read_number := by
  refine F.ok sc_read_number (fun vs H Q E h => ?len) (fun cdv A outer s H vs Q E hr h => ?body)
  case len => obtain ⟨_, _, rfl, _⟩ := h; rfl
  case body =>
    obtain ⟨t, i, rfl, hl, hrd, q⟩ := h
    have big : (100000 : Nat) ≤ sizeLine := by decide
    refine ⟨_, (pss_cons (ps_if (pt_cmpR (opInS (K := K)) (pv 0) (pe_tup (pa_cons pe_str (pa_cons pe_str (pa_cons pe_str pa_nil)))) (by with_unfolding_all rfl)) (pss_one (ps_ret (pe_callD D_read_whole hr (pa_cons (pe_op op_add_str (pv 0) pe_str) pa_nil)))) pss_nil)
    (pss_one (ps_ret (pe_callD D_read_whole hr (pa_cons (pv 0) pa_nil))))), ?_⟩
    refine ⟨_, rfl, three_le, fun p hp => ?_⟩
    refine ⟨tx t, p, [tx [], tx [43], tx [45]], rfl, rfl, SqT.of upd_same, _, rfl, ?_⟩
    have hs := same_new hp (.tup [.str (tx []), .str (tx [43]), .str (tx [45])])
    unfold rdNum at hrd
    have ex : ∀ a : T, (tx a == tx t) = decide (t = a) := fun a => by
      by_cases h : t = a
      · subst h; simp
      · rw [decide_eq_false h, Bool.eq_false_iff]
        intro z
        exact h (tx_inj (beq_iff_eq.mp z)).symm
    have eany : ([tx [], tx [43], tx [45]].any fun z => z == tx t) = decide (t = [] ∨ t = [43] ∨ t = [45]) := by
      simp only [List.any_cons, List.any_nil, Bool.or_false, ex]
      by_cases h1 : t = [] <;> by_cases h2 : t = [43] <;> by_cases h3 : t = [45] <;> simp [h1, h2, h3]
    rw [eany]
    by_cases hc : t = [] ∨ t = [43] ∨ t = [45]
    · rw [if_pos hc] at hrd
      refine ite_yes (decide_eq_true hc) ⟨_, rfl, tx t, tx [49], rfl, rfl, by rw [tx_len, tx_len]; show t.length + 1 ≤ sizeLine; omega, ?_⟩
      rw [← tx_app]
      exact ⟨t ++ [49], i, rfl, by rw [List.length_append]; show t.length + 1 ≤ 640; omega, hrd, fun H2 h2 => q _ (hs.trans h2)⟩
    · rw [if_neg hc] at hrd
      refine ite_no (decide_eq_false hc) ⟨_, rfl, t, i, rfl, by omega, hrd, fun H2 h2 => q _ (hs.trans h2)⟩

theorem sc_read_numbers : FnScope ["count", "text", "numbers", "ahead", "sign"] ["count", "text"] (defScope (top 14)) := ⟨rfl, rfl, rfl, by decide +kernel, rfl, by decide +kernel, by decide +kernel⟩
theorem ok_read_numbers {P : Program} {w : World} {K : PySem.W.Frag} {mg : Str → Option Value} {base : Heap} {k : Nat} {f : Addr} {fd : FuncData} (F : Fun K "read_numbers" "read_numbers" (top 14) f fd) (B : Blt mg) (SL_LETTERS : StrC mg "LETTERS" Nt.letters) (D_read_number : Dep P w K mg base k "read_number" ["text"] sp_read_number) :
    FnOk P w K mg base CX0 (k + 1) f fd ["count", "text"] (sp_read_numbers K) := by
  refine F.ok sc_read_numbers (fun vs H Q E h => ?len) (fun cdv A outer s H vs Q E hr h => ?body)
  case len => obtain ⟨_, _, _, _, rfl, _⟩ := h; rfl
  case body =>
    obtain ⟨G, n, t, ns, rfl, hG, hn, hrd, hrun, q⟩ := h
    have big : (100000 : Nat) ≤ sizeLine := by decide
    unfold rdNums at hrd
    obtain ⟨⟨ns', a'⟩, hfold, hns⟩ : ∃ st, t.foldlM (step n) (List.replicate n (0 : Int), ([] : T)) = some st ∧ st.1 = ns := by
      cases hf : t.foldlM (step n) (List.replicate n (0 : Int), ([] : T)) with
      | none => rw [hf] at hrd; cases hrd
      | some st => rw [hf] at hrd; exact ⟨st, rfl, Option.some.inj hrd⟩
    dsimp only at hns
    subst hns
    refine ⟨_, (pss_cons (ps_setC (i := 2) ["unknown"] [none] sc_read_numbers.nd rfl rfl (pi_range1 rfl B.range (pa_cons (pv 0) pa_nil)) (fun _ _ _ _ _ => (pg_name (i := 0) (show List.Nodup (["unknown"] : List Str) by decide +kernel) rfl (Or.inl rfl))) (fun _ _ _ _ _ => pif_nil) (fun _ _ _ _ _ => pe_int))
    (pss_cons (ps_set (i := 3) sc_read_numbers.nd rfl (Or.inl rfl) pe_str)
    (pss_cons (ps_for PassesOwn.never rfl (pi_str (pv 1)) (pg_name (i := 4) sc_read_numbers.nd rfl (Or.inl rfl)) (pss_one (ps_if (pt_cmpR op_notin_str (pv 4) (pe_globS SL_LETTERS) (by with_unfolding_all rfl)) (pss_one (ps_set (i := 3) sc_read_numbers.nd rfl (Or.inl rfl) (pe_op op_add_str (pv 3) (pv 4)))) (pss_one (ps_if (pt_cmpR op_ge (pe_bm PySem.F.plainAttrs_str PySem.F.slot_str_index PySem.F.type_str_index ms_index (pe_globS SL_LETTERS) (pa_cons (pv 4) pa_nil)) (pv 0) (nomark _)) (pss_one ps_never) (pss_cons (ps_asg (pe_callD D_read_number hr (pa_cons (pv 3) pa_nil)) (pg_sub (pv 2) (pe_bm PySem.F.plainAttrs_str PySem.F.slot_str_index PySem.F.type_str_index ms_index (pe_globS SL_LETTERS) (pa_cons (pv 4) pa_nil)) set_list))
    (pss_one (ps_set (i := 3) sc_read_numbers.nd rfl (Or.inl rfl) pe_str))))))))
    (pss_one (ps_ret (pv 2)))))), ?_⟩
    refine ⟨_, rfl, (n : Int), rfl, by omega, by omega, comp_range (fun i ys H' => H' = H ∧ ys.length = i ∧ ys = (List.replicate i (0 : Int)).map V.int) ⟨rfl, rfl, rfl⟩ ?_ ?_⟩
    · rintro i ys H' hi ⟨rfl, hl, hy⟩
      refine ⟨Wk.set rfl, tTrue_then ⟨?_, rfl, ?_, ?_⟩⟩
      · rw [hl]; exact small_le (by omega)
      · rw [List.length_append, hl]; rfl
      · rw [List.replicate_succ', List.map_append, ← hy]; rfl
    rintro ys H' D ⟨rfl, _, hy⟩ hD
    rw [show (n : Int).toNat = n by omega] at hy
    have gD : G D = none := hG.free hD
    have e1 : Ext G H' G (upd H' D (.lst ys)) := Ext.grow hG (same_new hD _)
    refine ⟨_, rfl, tx t, rfl, for_str (x := tx t) (fun i σ H2 => ∃ (ns : List Int) (a : T) (s4 : Option V), σ = [some (.int n), some (.str (tx t)), some (.ref D), some (.str (tx a)), s4] ∧ (t.take i).foldlM (step n) (List.replicate n (0 : Int), ([] : T)) = some (ns, a) ∧ ns.length = n ∧ Ext G H' G H2 ∧ H2 D = some (.lst (ns.map V.int))) ⟨_, [], none, rfl, by rw [List.take_zero]; rfl, by simp, e1, by rw [upd_same, hy]⟩ ?_ ?_⟩
    · rintro i c σ H2 hc ⟨ns1, a1, s4, rfl, hf1, hl1, e2, hD2⟩
      rw [tx_at] at hc
      have hlast := fold_runs n (t.take i) _ _ [] a1 hf1
      have hal : a1.length ≤ 639 := Nat.le_trans hlast (Nat.le_trans (runs_take t 0 i) hrun)
      obtain ⟨st, hst⟩ : ∃ st, step n (ns1, a1) c = some st := by
        have e := hfold
        rw [← List.take_append_drop i t, List.foldlM_append, hf1, List.drop_eq_getElem_cons (len_lt hc)] at e
        have ec : t[i]'(len_lt hc) = c := (List.getElem?_eq_some_iff.mp hc).2
        rw [ec] at e
        cases hs : step n (ns1, a1) c with
        | some st => exact ⟨st, rfl⟩
        | none =>
          change (List.foldlM (step n) (ns1, a1) (c :: List.drop (i + 1) t)) = _ at e
          rw [List.foldlM_cons, hs] at e
          cases e
      have hnext : (t.take (i + 1)).foldlM (step n) (List.replicate n (0 : Int), ([] : T)) = some st := by
        rw [take_snoc hc, List.foldlM_append, hf1]
        show List.foldlM (step n) (ns1, a1) [c] = some st
        rw [List.foldlM_cons, hst]; rfl
      refine ⟨_, rfl, _, Nt.letters, rfl, rfl, _, rfl, ?_⟩
      rw [in_letters]
      unfold Nt.step at hst
      by_cases hlet : isLet c = true
      · rw [if_pos hlet] at hst
        have hc97 : 97 ≤ c ∧ c ≤ 122 := by simpa [isLet] using hlet
        obtain ⟨rest, hocc⟩ := idx_letters (c - 97) (by omega)
        rw [show 97 + (c - 97) = c by omega] at hocc
        by_cases hk : n ≤ c - 97
        · rw [if_pos hk] at hst; cases hst
        rw [if_neg hk] at hst
        cases hv : rdNum a1 with
        | none => rw [hv] at hst; cases hst
        | some v =>
          rw [hv] at hst
          cases hst
          refine ite_no (by rw [hlet]; rfl) ?_
          refine ⟨rfl, _, rfl, Nt.letters, _, c - 97, rest, rfl, rfl, hocc, _, rfl, _, _, rfl, rfl, _, rfl, ?_⟩
          refine ite_no (decide_eq_false (by omega)) ?_
          refine ⟨_, rfl, a1, v, rfl, hal, hv, fun H3 h3 => ?_⟩
          have e3 := e2.trans (Ext.grow e2.sub h3)
          refine ⟨_, rfl, rfl, _, rfl, Nt.letters, _, c - 97, rest, rfl, rfl, hocc, D, _, _, c - 97, rfl, rfl, h3 _ _ hD2, ix_atN (by rw [List.length_map]; omega), ?_⟩
          refine ⟨_, [], _, rfl, hnext, by rw [List.length_set]; exact hl1, e3.put hD gD _, ?_⟩
          rw [upd_same, List.map_set]
      · rw [if_neg hlet] at hst
        cases hst
        refine ite_yes (by rw [Bool.eq_false_iff.mpr hlet]; rfl) ⟨_, rfl, _, rfl, tx a1, ⟨#[c]⟩, rfl, rfl, ?_, ?_⟩
        · rw [tx_len]; show a1.length + 1 ≤ sizeLine; omega
        · refine ⟨_, a1 ++ [c], some (.str ⟨#[c]⟩), ?_, hnext, hl1, e2, hD2⟩
          rw [tx_app]; rfl
    · rintro σ H2 ⟨ns1, a1, s4, rfl, hf1, hl1, e2, hD2⟩
      rw [tx_len, List.take_length, hfold] at hf1
      cases hf1
      refine ⟨_, rfl, ?_⟩
      exact q _ _ _ (e2.know hD hD2 gD) (rInts.mpr ⟨D, rfl, SqL.of upd_same⟩)

theorem sc_read : FnScope ["count", "line", "sides", "row"] ["count", "line"] (defScope (top 15)) := ⟨rfl, rfl, rfl, by decide +kernel, rfl, by decide +kernel, by decide +kernel⟩
theorem ok_read {P : Program} {w : World} {K : PySem.W.Frag} {mg : Str → Option Value} {base : Heap} {k : Nat} {f : Addr} {fd : FuncData} (F : Fun K "read" "read" (top 15) f fd) (B : Blt mg)  (D_read_numbers : Dep P w K mg base k "read_numbers" ["count", "text"] (sp_read_numbers K)) (D_read_whole : Dep P w K mg base k "read_whole" ["text"] sp_read_whole) (D_shown : Dep P w K mg base k "shown" ["count", "row"] (sp_shown K)) :
    FnOk P w K mg base CX0 (k + 1) f fd ["count", "line"] (sp_read K) := by
  refine F.ok sc_read (fun vs H Q E h => ?len) (fun cdv A outer s H vs Q E hr h => ?body)
  case len => obtain ⟨_, _, _, _, rfl, _⟩ := h; rfl
  case body =>
    obtain ⟨G, n, t, r, rfl, hG, hn, hrd, hrun, hcl, htl, hrl, hb1, hb2, q⟩ := h
    have big : (1000000 : Nat) ≤ sizeLine := by decide
    unfold rdLine at hrd
    obtain ⟨p1, p2⟩ := part_tx t
    cases h1 : rdNums n (cutGe t).1 with
    | none => rw [h1] at hrd; cases hrd
    | some ns =>
      rw [h1] at hrd
      change (rdWhole (cutGe t).2).bind _ = _ at hrd
      cases h2 : rdWhole (cutGe t).2 with
      | none => rw [h2] at hrd; cases hrd
      | some l =>
        rw [h2] at hrd
        change (if line (ns, l) = t then some (ns, l) else none) = _ at hrd
        by_cases hlt : line (ns, l) = t
        · rw [if_pos hlt] at hrd
          cases hrd
          dsimp only at hrl hb1 hb2
          refine ⟨_, (pss_cons (ps_set (i := 2) sc_read.nd rfl (Or.inl rfl) (pe_bm PySem.F.plainAttrs_str PySem.F.slot_str_partition PySem.F.type_str_partition ms_partition (pv 1) (pa_cons pe_str pa_nil)))
    (pss_cons (ps_set (i := 3) sc_read.nd rfl (Or.inl rfl) (pe_tup (pa_cons (pe_callD D_read_numbers hr (pa_cons (pv 0) (pa_cons (pe_ix (ixT (K := K)) (pv 2) pe_int (fun _ _ => rfl)) pa_nil))) (pa_cons (pe_callD D_read_whole hr (pa_cons (pe_ix (ixT (K := K)) (pv 2) pe_int (fun _ _ => rfl)) pa_nil)) pa_nil))))
    (pss_cons (ps_if (pt_cmpR op_ne (pe_callD D_shown hr (pa_cons (pv 0) (pa_cons (pv 3) pa_nil))) (pv 1) (nomark _)) (pss_one ps_never) pss_nil)
    (pss_one (ps_ret (pv 3)))))), ?_⟩
          refine ⟨_, rfl, rfl, tx t, tx [62, 61], rfl, rfl, rfl, by rw [tx_len]; omega, fun p hp => ?_⟩
          rw [p1, p2]
          have e1 := Ext.grow hG (same_new hp (.tup [.str (tx (cutGe t).1), .str (Txt.partition (tx t) (tx [62, 61])).2.1, .str (tx (cutGe t).2)]))
          refine ⟨_, rfl, _, rfl, p, _, _, _, rfl, rfl, SqT.of upd_same, rfl, G, n, (cutGe t).1, ns, rfl, e1.sub, hn, h1, hrun, fun G2 H2 nv e2 hnv => ?_⟩
          have hp2 : H2 p = some (.tup [.str (tx (cutGe t).1), .str (Txt.partition (tx t) (tx [62, 61])).2.1, .str (tx (cutGe t).2)]) := e2.heap _ _ upd_same
          refine ⟨_, rfl, p, _, _, _, rfl, rfl, SqT.of hp2, rfl, (cutGe t).2, l, rfl, hcl, h2, fun H3 h3 => ⟨two_le, fun z hz => ?_⟩⟩
          have e3 := (e1.trans e2).trans (Ext.grow e2.sub h3)
          have e4 := e3.trans (Ext.new e3.sub hz (.tup [nv, .int l]))
          have hrow : (rRow K).rel (upd G2 z (.tup [nv, .int l])) (.ref z) (ns, l) := ⟨z, nv, .int l, rfl, SqT.of upd_same, (rLst K rInt).mono (same_new (e3.sub.free hz) _) hnv, rfl⟩
          refine ⟨_, rfl, _, rfl, n, .ref z, (ns, l), rfl, (rRow K).mono e4.sub hrow, by rw [hrl], by rw [hrl]; exact hn, hb1, hb2, fun H5 h5 => ?_⟩
          refine ⟨_, rfl, rfl, _, rfl, ?_⟩
          refine ite_no ?_ ⟨_, rfl, q _ _ _ (e4.trans (Ext.grow e4.sub h5)) hrow⟩
          rw [str_eq, decide_eq_true hlt]; rfl
        · rw [if_neg hlt] at hrd; cases hrd

theorem sc_law : FnScope ["_law_script", "_law_count", "_law_drawn", "_law_least", "_law_row", "_law_handed", "_law_line", "_law_due"] ["_law_script"] (defScope (top 23)) := ⟨rfl, rfl, rfl, by decide +kernel, rfl, by decide +kernel, by decide +kernel⟩
theorem ok_law {P : Program} {w : World} {K : PySem.W.Frag} {mg : Str → Option Value} {base : Heap} {k : Nat} {f : Addr} {fd : FuncData} (F : Fun K "law" "law" (top 23) f fd) (B : Blt mg)  (D_law_at : Dep P w K mg base k "_law_at" ["_law_script", "_law_k"] (sp_law_at K)) (D_law_one_row : Dep P w K mg base k "_law_one_row" ["_law_cells", "_law_count"] (sp_law_one_row K)) (D_shown : Dep P w K mg base k "shown" ["count", "row"] (sp_shown K)) (D_law_line_of : Dep P w K mg base k "_law_line_of" ["_law_row"] (sp_law_line_of K)) (D_law_is_row : Dep P w K mg base k "_law_is_row" ["_law_found", "_law_due"] (sp_law_is_row K)) (D_read : Dep P w K mg base k "read" ["count", "line"] (sp_read K)) :
    FnOk P w K mg base CX0 (k + 1) f fd ["_law_script"] (sp_law K) := by
  refine F.ok sc_law (fun vs H Q E h => ?len) (fun cdv A outer s H vs Q E hr h => ?body)
  case len => obtain ⟨_, _, rfl, _⟩ := h; rfl
  case body =>
    obtain ⟨a, ns, rfl, hS, hlen, q⟩ := h
    refine ⟨_, (pss_cons (ps_set (i := 1) sc_law.nd rfl (Or.inl rfl) (pe_op op_mod (pe_callD D_law_at hr (pa_cons (pv 0) (pa_cons pe_int pa_nil))) pe_int))
    (pss_cons (ps_set (i := 2) sc_law.nd rfl (Or.inl rfl) (pe_callD D_law_one_row hr (pa_cons (pe_slice (slL (K := K)) (pv 0) (po_some pe_int) po_none) (pa_cons (pv 1) pa_nil))))
    (pss_cons (ps_for PassesOwn.never rfl (piL (K := K) (pe_lst (pa_cons (pe_ix (ixT (K := K)) (pv 2) pe_int (fun _ _ => rfl)) (pa_cons (pe_un un_neg (pe_op op_pow pe_int pe_int)) pa_nil)))) (pg_name (i := 3) sc_law.nd rfl (Or.inl rfl)) (pss_cons (ps_set (i := 4) sc_law.nd rfl (Or.inl rfl) (pe_tup (pa_cons (pe_ix (ixT (K := K)) (pv 2) pe_int (fun _ _ => rfl)) (pa_cons (pv 3) pa_nil))))
    (pss_cons (ps_set (i := 5) sc_law.nd rfl (Or.inl rfl) (pe_tup (pa_cons (pe_callTy (callList (K := K)) rfl B.list bt_list (pa_cons (pe_ix (ixT (K := K)) (pv 2) pe_int (fun _ _ => rfl)) pa_nil)) (pa_cons (pv 3) pa_nil))))
    (pss_cons (ps_set (i := 6) sc_law.nd rfl (Or.inl rfl) (pe_callD D_shown hr (pa_cons (pv 1) (pa_cons (pv 5) pa_nil))))
    (pss_cons (ps_set (i := 7) sc_law.nd rfl (Or.inl rfl) (pe_callD D_law_line_of hr (pa_cons (pv 4) pa_nil)))
    (pss_cons (ps_if (PW.pt (pw_or (pt_not (pt_val (pe_callB (callIsi (K := K)) rfl B.isinstance bt_isinstance (pa_cons (pv 6) (pa_cons (pe_bltn (v := .ty "str") rfl B.str bt_str rfl) pa_nil))))) (pw_or (pt_cmpR op_ne (pv 6) (pv 7) (nomark _)) (pw_or1 (pt_not (pt_val (pe_callD D_law_is_row hr (pa_cons (pv 5) (pa_cons (pv 4) pa_nil))))))))) (pss_one (ps_ret pe_bl)) pss_nil)
    (pss_one (ps_if (pt_not (pt_val (pe_callD D_law_is_row hr (pa_cons (pe_callD D_read hr (pa_cons (pv 1) (pa_cons (pv 7) pa_nil))) (pa_cons (pv 4) pa_nil))))) (pss_one (ps_ret pe_bl)) pss_nil))))))))
    (pss_one (ps_ret pe_bl))))), ?_⟩
    refine ⟨_, rfl, a, ns, 0, rfl, hS, fun H1 h1 => ⟨_, _, rfl, rfl, (show (0 : Int) < 27 by decide), ?_⟩⟩
    obtain ⟨n, hcnt, hn⟩ : ∃ n : Nat, ns.getD 0 0 % 27 = (n : Int) ∧ n ≤ 26 := ⟨(ns.getD 0 0 % 27).toNat, by omega, by omega⟩
    dsimp only [gName]
    rw [hcnt]
    refine ⟨_, rfl, 1, rfl, a, _, rfl, h1.seq hS, fun C hC => ?_⟩
    have ecut : cutV (ns.map V.int) (some 1) none = (ns.drop 1).map V.int := cut_from ns 1
    rw [ecut]
    have s2 : Same H (upd H1 C (.lst ((ns.drop 1).map V.int))) := h1.trans (same_new hC _)
    refine ⟨_, rfl, _, .ref C, ns.drop 1, n, rfl, Same.refl _, rInts.mpr ⟨C, rfl, SqL.of upd_same⟩, hn, fun r hr hb1 hb2 G3 H3 dv e3 hdv => ?_⟩
    obtain ⟨rn, rb⟩ := r
    dsimp only at hr hb1 hb2
    obtain ⟨t, u', w', rfl, hT, hN, rfl⟩ := id hdv
    obtain ⟨l, rfl, hL⟩ := rInts.mp hN
    dsimp only at hT hL
    have hT3 := e3.sub.seqT hT
    refine ⟨_, rfl, t, _, _, _, rfl, rfl, hT3, rfl, _, _, rfl, rfl, ⟨by decide, by decide⟩, _, rfl, two_le, fun M hM => ?_⟩
    have e4 := Ext.grow e3.sub (same_new hM (.lst [.int rb, .int (-(10 ^ 18))]))
    refine ⟨M, _, rfl, SqL.of upd_same, fun _ => for_list (xs := [V.int rb, .int (-(10 ^ 18))]) (fun i σ H' => ∃ (s3 s4 s5 s6 s7 : Option V), σ = [some (.ref a), some (.int n), some (.ref t), s3, s4, s5, s6, s7] ∧ Same G3 H' ∧ H' M = some (.lst [.int rb, .int (-(10 ^ 18))])) ⟨none, none, none, none, none, rfl, e4.sub, upd_same⟩ (fun i σ H' _ ⟨_, _, _, _, _, _, _, hM'⟩ => SqL.of hM') ?_ ?_⟩
    · rintro i x σ H5 hx ⟨s3, s4, s5, s6, s7, rfl, g5, hM5⟩
      obtain ⟨b, rfl, hbb⟩ : ∃ b : Int, x = .int b ∧ nb b ≤ 1900 := by
        have hi := len_lt hx
        match i, hi, hx with
        | 0, _, hx => cases hx; exact ⟨_, rfl, Nat.le_trans hb2 (by omega)⟩
        | 1, _, hx => cases hx; exact ⟨_, rfl, by decide +kernel⟩
      -- row
      refine ⟨_, rfl, t, _, _, _, rfl, rfl, g5.seqT hT, rfl, _, rfl, two_le, fun p hp => ?_⟩
      have e6 : Ext G3 H5 _ _ := Ext.new g5 hp (.tup [.ref l, .int b])
      have hrow : (rRow K).rel (upd G3 p (.tup [.ref l, .int b])) (.ref p) (rn, b) := ⟨p, .ref l, .int b, rfl, SqT.of upd_same, rInts.mpr ⟨l, rfl, e6.known.seq hL⟩, rfl⟩
      have hM6 : upd H5 p (.tup [.ref l, .int b]) M = some (.lst [.int rb, .int (-(10 ^ 18))]) := e6.heap _ _ hM5
      -- handed
      refine ⟨_, rfl, t, _, _, _, rfl, rfl, (e6.known.trans e6.sub).seqT hT, rfl, l, _, rfl, .inl ((e6.known.trans e6.sub).seq hL), fun l2 hl2 => ?_⟩
      have e7 := e6.trans (Ext.new e6.sub hl2 (.lst (rn.map V.int)))
      refine ⟨_, rfl, two_le, fun p2 hp2 => ?_⟩
      have e8 := e7.trans (Ext.new e7.sub hp2 (.tup [.ref l2, .int b]))
      have hl2p : l2 ≠ p2 := ne_of_none upd_same hp2
      have hrow2 : (rRow K).rel (upd (upd (upd G3 p (.tup [.ref l, .int b])) l2 (.lst (rn.map V.int))) p2 (.tup [.ref l2, .int b])) (.ref p2) (rn, b) := ⟨p2, .ref l2, .int b, rfl, SqT.of upd_same, rInts.mpr ⟨l2, rfl, SqL.of (by rw [upd_ne hl2p, upd_same])⟩, rfl⟩
      have hrow8 := (rRow K).mono ((same_new (e6.sub.free hl2) (.lst (rn.map V.int))).trans (same_new (e7.sub.free hp2) (.tup [.ref l2, .int b]))) hrow
      generalize upd (upd (upd G3 p (.tup [.ref l, .int b])) l2 (.lst (rn.map V.int))) p2 (.tup [.ref l2, .int b]) = G8 at e8 hrow2 hrow8
      have hM8 := e8.heap _ _ hM5
      generalize upd (upd (upd H5 p (.tup [.ref l, .int b])) l2 (.lst (rn.map V.int))) p2 (.tup [.ref l2, .int b]) = H8 at e8 hM8
      have hb1' : ∀ x ∈ rn, nb x ≤ 1900 := fun x hx => Nat.le_trans (hb1 x hx) (by omega)
      have hr26 : rn.length ≤ 26 := by omega
      -- line = shown(count, handed)
      refine ⟨_, rfl, _, rfl, n, .ref p2, (rn, b), rfl, (rRow K).mono e8.sub hrow2, by rw [hr], hr26, hb1', hbb, fun H9 h9 => ?_⟩
      -- due
      refine ⟨_, rfl, .ref p, (rn, b), rfl, (rRow K).mono (e8.sub.trans h9) hrow8, hr26, hb1', hbb, fun H10 h10 => ?_⟩
      have s10 := (e8.sub.trans h9).trans h10
      refine ⟨_, rfl, _, "str", "str", rfl, by decide, rfl, _, rfl, ?_⟩
      refine ite_no rfl ⟨_, rfl, _, rfl, rfl, _, rfl, ?_⟩
      refine ite_no (by rw [decide_eq_true rfl]; rfl) ⟨_, rfl, _, rfl, .ref p2, .ref p, (rn, b), rfl, (rRow K).mono s10 hrow2, (rRow K).mono s10 hrow8, by dsimp only; omega, fun H11 h11 => ⟨_, rfl, ?_⟩⟩
      refine ite_no rfl ?_
      have s11 := s10.trans h11
      have htl := line_len (r := (rn, b)) hr26 hb1' hbb
      dsimp only at htl
      refine ⟨_, rfl, _, rfl, G8, n, line (rn, b), (rn, b), rfl, s11, hn, rd_line (by exact hr) hn, ?_, ?_, by omega, hr, hb1', hbb, fun G12 H12 rv e12 hrv => ?_⟩
      · rw [cut_line (by exact hr26)]
        exact Nat.le_trans (runs_left (b := 601) hr26 (by omega) fun x hx => by have := fig_len (nb_ten (hb1' x hx)); omega) (by omega)
      · rw [cut_line (by exact hr26)]
        show (whole b).length ≤ 640
        omega
      refine ⟨_, rfl, rv, .ref p, (rn, b), rfl, (rRow K).mono e12.sub hrv, (rRow K).mono (e12.known.trans e12.sub) hrow8, by dsimp only; omega, fun H13 h13 => ⟨_, rfl, ?_⟩⟩
      refine ite_no rfl ?_
      have s13 : Same H8 H13 := (((h9.trans h10).trans h11).trans e12.heap).trans h13
      exact ⟨_, _, _, _, _, rfl, (g5.trans e8.heap).trans s13, s13 _ _ hM8⟩
    · rintro σ H5 ⟨s3, s4, s5, s6, s7, rfl, g5, hM5⟩
      exact q _

theorem lens1 {us : List Value} (hl : us.length = 1) : ∃ a0 : Value, us = [a0] := by
  match us, hl with
  | [a0], _ => exact ⟨_, rfl⟩
theorem lens2 {us : List Value} (hl : us.length = 2) : ∃ a0 a1 : Value, us = [a0, a1] := by
  match us, hl with
  | [a0, a1], _ => exact ⟨_, _, rfl⟩
theorem lens3 {us : List Value} (hl : us.length = 3) : ∃ a0 a1 a2 : Value, us = [a0, a1, a2] := by
  match us, hl with
  | [a0, a1, a2], _ => exact ⟨_, _, _, rfl⟩
theorem lens4 {us : List Value} (hl : us.length = 4) : ∃ a0 a1 a2 a3 : Value, us = [a0, a1, a2, a3] := by
  match us, hl with
  | [a0, a1, a2, a3], _ => exact ⟨_, _, _, _, rfl⟩
theorem lens5 {us : List Value} (hl : us.length = 5) : ∃ a0 a1 a2 a3 a4 : Value, us = [a0, a1, a2, a3, a4] := by
  match us, hl with
  | [a0, a1, a2, a3, a4], _ => exact ⟨_, _, _, _, _, rfl⟩
theorem lens6 {us : List Value} (hl : us.length = 6) : ∃ a0 a1 a2 a3 a4 a5 : Value, us = [a0, a1, a2, a3, a4, a5] := by
  match us, hl with
  | [a0, a1, a2, a3, a4, a5], _ => exact ⟨_, _, _, _, _, _, rfl⟩
theorem all_mk {l : PySem.W.OpenLaw} {w : World} {K : PySem.W.Frag} {h : Heap} {mg : Str → Option Value} {fa  f1 f2 f3 f4 f5 f6 f7 f8 f9 f10 f11 f12 f13 f14 f15 : Addr} (X : K.In h) (G : h.Ns mainGlobals mg) (hfa : mg "law" = some (.ref fa))
    {od1 an1 od2 an2 od3 an3 od4 an4 od5 an5 od6 an6 od7 an7 od8 an8 od9 an9 od10 an10 od11 an11 od12 an12 od13 an13 od14 an14 od15 an15 : Option Addr} {sl1 sl2 sl3 sl4 sl5 sl6 sl7 sl8 sl9 sl10 sl11 sl12 sl13 sl14 sl15 : Array (Option Value)} {oc1 kV1 dc1 pm1 cd1 ct1 oc2 kV2 dc2 pm2 cd2 ct2 oc3 kV3 dc3 pm3 cd3 ct3 oc4 kV4 dc4 pm4 cd4 ct4 oc5 kV5 dc5 pm5 cd5 ct5 oc6 kV6 dc6 pm6 cd6 ct6 oc7 kV7 dc7 pm7 cd7 ct7 oc8 kV8 dc8 pm8 cd8 ct8 oc9 kV9 dc9 pm9 cd9 ct9 oc10 kV10 dc10 pm10 cd10 ct10 oc11 kV11 dc11 pm11 cd11 ct11 oc12 kV12 dc12 pm12 cd12 ct12 oc13 kV13 dc13 pm13 cd13 ct13 oc14 kV14 dc14 pm14 cd14 ct14 oc15 kV15 dc15 pm15 cd15 ct15 : Value} {tLETTERS tFIGURES : Tok}
    (a1 : PySem.W.nsIn K mainGlobals "_law_at" = some (some (.ref f1)))
    (l1 : K.lookup f1 = some ⟨oc1, od1, .func (PySem.W.fnOf "_law_at" "_law_at" (defArgs (top 18)) (defBody (top 18)) (defScope (top 18)) .none kV1 dc1 pm1 an1 cd1 ct1), sl1⟩)
    (c1 : PySem.W.codeIn K cd1 "_law_at" = true)
    (k1 : PySem.W.keepIn K (.ref f1) = true)
    (a2 : PySem.W.nsIn K mainGlobals "_law_any" = some (some (.ref f2)))
    (l2 : K.lookup f2 = some ⟨oc2, od2, .func (PySem.W.fnOf "_law_any" "_law_any" (defArgs (top 22)) (defBody (top 22)) (defScope (top 22)) .none kV2 dc2 pm2 an2 cd2 ct2), sl2⟩)
    (c2 : PySem.W.codeIn K cd2 "_law_any" = true)
    (k2 : PySem.W.keepIn K (.ref f2) = true)
    (a3 : PySem.W.nsIn K mainGlobals "_law_one_row" = some (some (.ref f3)))
    (l3 : K.lookup f3 = some ⟨oc3, od3, .func (PySem.W.fnOf "_law_one_row" "_law_one_row" (defArgs (top 21)) (defBody (top 21)) (defScope (top 21)) .none kV3 dc3 pm3 an3 cd3 ct3), sl3⟩)
    (c3 : PySem.W.codeIn K cd3 "_law_one_row" = true)
    (k3 : PySem.W.keepIn K (.ref f3) = true)
    (a4 : PySem.W.nsIn K mainGlobals "check_row" = some (some (.ref f4)))
    (l4 : K.lookup f4 = some ⟨oc4, od4, .func (PySem.W.fnOf "check_row" "check_row" (defArgs (top 5)) (defBody (top 5)) (defScope (top 5)) .none kV4 dc4 pm4 an4 cd4 ct4), sl4⟩)
    (c4 : PySem.W.codeIn K cd4 "check_row" = true)
    (k4 : PySem.W.keepIn K (.ref f4) = true)
    (a5 : PySem.W.nsIn K mainGlobals "shown_number" = some (some (.ref f5)))
    (l5 : K.lookup f5 = some ⟨oc5, od5, .func (PySem.W.fnOf "shown_number" "shown_number" (defArgs (top 9)) (defBody (top 9)) (defScope (top 9)) .none kV5 dc5 pm5 an5 cd5 ct5), sl5⟩)
    (c5 : PySem.W.codeIn K cd5 "shown_number" = true)
    (k5 : PySem.W.keepIn K (.ref f5) = true)
    (a6 : PySem.W.nsIn K mainGlobals "shown_numbers" = some (some (.ref f6)))
    (l6 : K.lookup f6 = some ⟨oc6, od6, .func (PySem.W.fnOf "shown_numbers" "shown_numbers" (defArgs (top 10)) (defBody (top 10)) (defScope (top 10)) .none kV6 dc6 pm6 an6 cd6 ct6), sl6⟩)
    (c6 : PySem.W.codeIn K cd6 "shown_numbers" = true)
    (k6 : PySem.W.keepIn K (.ref f6) = true)
    (a7 : PySem.W.nsIn K mainGlobals "shown" = some (some (.ref f7)))
    (l7 : K.lookup f7 = some ⟨oc7, od7, .func (PySem.W.fnOf "shown" "shown" (defArgs (top 11)) (defBody (top 11)) (defScope (top 11)) .none kV7 dc7 pm7 an7 cd7 ct7), sl7⟩)
    (c7 : PySem.W.codeIn K cd7 "shown" = true)
    (k7 : PySem.W.keepIn K (.ref f7) = true)
    (a8 : PySem.W.nsIn K mainGlobals "_law_line_of" = some (some (.ref f8)))
    (l8 : K.lookup f8 = some ⟨oc8, od8, .func (PySem.W.fnOf "_law_line_of" "_law_line_of" (defArgs (top 20)) (defBody (top 20)) (defScope (top 20)) .none kV8 dc8 pm8 an8 cd8 ct8), sl8⟩)
    (c8 : PySem.W.codeIn K cd8 "_law_line_of" = true)
    (k8 : PySem.W.keepIn K (.ref f8) = true)
    (a9 : PySem.W.nsIn K mainGlobals "_law_whole" = some (some (.ref f9)))
    (l9 : K.lookup f9 = some ⟨oc9, od9, .func (PySem.W.fnOf "_law_whole" "_law_whole" (defArgs (top 17)) (defBody (top 17)) (defScope (top 17)) .none kV9 dc9 pm9 an9 cd9 ct9), sl9⟩)
    (c9 : PySem.W.codeIn K cd9 "_law_whole" = true)
    (k9 : PySem.W.keepIn K (.ref f9) = true)
    (a10 : PySem.W.nsIn K mainGlobals "_law_is_row" = some (some (.ref f10)))
    (l10 : K.lookup f10 = some ⟨oc10, od10, .func (PySem.W.fnOf "_law_is_row" "_law_is_row" (defArgs (top 19)) (defBody (top 19)) (defScope (top 19)) .none kV10 dc10 pm10 an10 cd10 ct10), sl10⟩)
    (c10 : PySem.W.codeIn K cd10 "_law_is_row" = true)
    (k10 : PySem.W.keepIn K (.ref f10) = true)
    (a11 : PySem.W.nsIn K mainGlobals "read_whole" = some (some (.ref f11)))
    (l11 : K.lookup f11 = some ⟨oc11, od11, .func (PySem.W.fnOf "read_whole" "read_whole" (defArgs (top 12)) (defBody (top 12)) (defScope (top 12)) .none kV11 dc11 pm11 an11 cd11 ct11), sl11⟩)
    (c11 : PySem.W.codeIn K cd11 "read_whole" = true)
    (k11 : PySem.W.keepIn K (.ref f11) = true)
    (a12 : PySem.W.nsIn K mainGlobals "read_number" = some (some (.ref f12)))
    (l12 : K.lookup f12 = some ⟨oc12, od12, .func (PySem.W.fnOf "read_number" "read_number" (defArgs (top 13)) (defBody (top 13)) (defScope (top 13)) .none kV12 dc12 pm12 an12 cd12 ct12), sl12⟩)
    (c12 : PySem.W.codeIn K cd12 "read_number" = true)
    (k12 : PySem.W.keepIn K (.ref f12) = true)
    (a13 : PySem.W.nsIn K mainGlobals "read_numbers" = some (some (.ref f13)))
    (l13 : K.lookup f13 = some ⟨oc13, od13, .func (PySem.W.fnOf "read_numbers" "read_numbers" (defArgs (top 14)) (defBody (top 14)) (defScope (top 14)) .none kV13 dc13 pm13 an13 cd13 ct13), sl13⟩)
    (c13 : PySem.W.codeIn K cd13 "read_numbers" = true)
    (k13 : PySem.W.keepIn K (.ref f13) = true)
    (a14 : PySem.W.nsIn K mainGlobals "read" = some (some (.ref f14)))
    (l14 : K.lookup f14 = some ⟨oc14, od14, .func (PySem.W.fnOf "read" "read" (defArgs (top 15)) (defBody (top 15)) (defScope (top 15)) .none kV14 dc14 pm14 an14 cd14 ct14), sl14⟩)
    (c14 : PySem.W.codeIn K cd14 "read" = true)
    (k14 : PySem.W.keepIn K (.ref f14) = true)
    (a15 : PySem.W.nsIn K mainGlobals "law" = some (some (.ref f15)))
    (l15 : K.lookup f15 = some ⟨oc15, od15, .func (PySem.W.fnOf "law" "law" (defArgs (top 23)) (defBody (top 23)) (defScope (top 23)) .none kV15 dc15 pm15 an15 cd15 ct15), sl15⟩)
    (c15 : PySem.W.codeIn K cd15 "law" = true)
    (k15 : PySem.W.keepIn K (.ref f15) = true)
    (gLETTERS : PySem.W.nsIn K mainGlobals "LETTERS" = some (some (.str Nt.letters tLETTERS)))
    (gFIGURES : PySem.W.nsIn K mainGlobals "FIGURES" = some (some (.str Nt.figures tFIGURES)))
    (z0 : PySem.W.nsIn K mainGlobals "len" = some none)
    (z1 : PySem.W.nsIn K mainGlobals "range" = some none)
    (z2 : PySem.W.nsIn K mainGlobals "min" = some none)
    (z3 : PySem.W.nsIn K mainGlobals "max" = some none)
    (z4 : PySem.W.nsIn K mainGlobals "abs" = some none)
    (z5 : PySem.W.nsIn K mainGlobals "sum" = some none)
    (z6 : PySem.W.nsIn K mainGlobals "all" = some none)
    (z7 : PySem.W.nsIn K mainGlobals "any" = some none)
    (z8 : PySem.W.nsIn K mainGlobals "zip" = some none)
    (z9 : PySem.W.nsIn K mainGlobals "enumerate" = some none)
    (z10 : PySem.W.nsIn K mainGlobals "sorted" = some none)
    (z11 : PySem.W.nsIn K mainGlobals "isinstance" = some none)
    (z12 : PySem.W.nsIn K mainGlobals "int" = some none)
    (z13 : PySem.W.nsIn K mainGlobals "bool" = some none)
    (z14 : PySem.W.nsIn K mainGlobals "str" = some none)
    (z15 : PySem.W.nsIn K mainGlobals "list" = some none)
    (z16 : PySem.W.nsIn K mainGlobals "tuple" = some none)
    (z17 : PySem.W.nsIn K mainGlobals "ord" = some none)
    : ∃ fd : FuncData, (∀ (s : Shared) (v : Value), BindsTo s fd ⟨[v], []⟩ [("_law_script", v)]) ∧ ∀ base : Heap, K.In base → base.Ns mainGlobals mg → FnOk l.prog w K mg base CX0 5 fa fd ["_law_script"] (sp_law K) := by
  have e := hfa.symm.trans (PySem.W.mg_of X G a15)
  cases e
  have B : Blt mg := ⟨PySem.W.mg_none_of X G z0, PySem.W.mg_none_of X G z1, PySem.W.mg_none_of X G z2, PySem.W.mg_none_of X G z3, PySem.W.mg_none_of X G z4, PySem.W.mg_none_of X G z5, PySem.W.mg_none_of X G z6, PySem.W.mg_none_of X G z7, PySem.W.mg_none_of X G z8, PySem.W.mg_none_of X G z9, PySem.W.mg_none_of X G z10, PySem.W.mg_none_of X G z11, PySem.W.mg_none_of X G z12, PySem.W.mg_none_of X G z13, PySem.W.mg_none_of X G z14, PySem.W.mg_none_of X G z15, PySem.W.mg_none_of X G z16, PySem.W.mg_none_of X G z17⟩
  have SL_LETTERS : StrC mg "LETTERS" Nt.letters := ⟨_, PySem.W.mg_of X G gLETTERS⟩
  have SL_FIGURES : StrC mg "FIGURES" Nt.figures := ⟨_, PySem.W.mg_of X G gFIGURES⟩
  have F1 := fun_mk (st := (top 18)) l1 c1 k1
  have b1 := F1.binds (ps := ["_law_script", "_law_k"]) fun _ _ _ _ _ _ us hl => by obtain ⟨_, _, rfl⟩ := lens2 hl; rfl
  have F2 := fun_mk (st := (top 22)) l2 c2 k2
  have b2 := F2.binds (ps := ["_law_cell"]) fun _ _ _ _ _ _ us hl => by obtain ⟨_, rfl⟩ := lens1 hl; rfl
  have F3 := fun_mk (st := (top 21)) l3 c3 k3
  have b3 := F3.binds (ps := ["_law_cells", "_law_count"]) fun _ _ _ _ _ _ us hl => by obtain ⟨_, _, rfl⟩ := lens2 hl; rfl
  have F4 := fun_mk (st := (top 5)) l4 c4 k4
  have b4 := F4.binds (ps := ["count", "row"]) fun _ _ _ _ _ _ us hl => by obtain ⟨_, _, rfl⟩ := lens2 hl; rfl
  have F5 := fun_mk (st := (top 9)) l5 c5 k5
  have b5 := F5.binds (ps := ["number", "letter"]) fun _ _ _ _ _ _ us hl => by obtain ⟨_, _, rfl⟩ := lens2 hl; rfl
  have F6 := fun_mk (st := (top 10)) l6 c6 k6
  have b6 := F6.binds (ps := ["numbers"]) fun _ _ _ _ _ _ us hl => by obtain ⟨_, rfl⟩ := lens1 hl; rfl
  have F7 := fun_mk (st := (top 11)) l7 c7 k7
  have b7 := F7.binds (ps := ["count", "row"]) fun _ _ _ _ _ _ us hl => by obtain ⟨_, _, rfl⟩ := lens2 hl; rfl
  have F8 := fun_mk (st := (top 20)) l8 c8 k8
  have b8 := F8.binds (ps := ["_law_row"]) fun _ _ _ _ _ _ us hl => by obtain ⟨_, rfl⟩ := lens1 hl; rfl
  have F9 := fun_mk (st := (top 17)) l9 c9 k9
  have b9 := F9.binds (ps := ["_law_found"]) fun _ _ _ _ _ _ us hl => by obtain ⟨_, rfl⟩ := lens1 hl; rfl
  have F10 := fun_mk (st := (top 19)) l10 c10 k10
  have b10 := F10.binds (ps := ["_law_found", "_law_due"]) fun _ _ _ _ _ _ us hl => by obtain ⟨_, _, rfl⟩ := lens2 hl; rfl
  have F11 := fun_mk (st := (top 12)) l11 c11 k11
  have b11 := F11.binds (ps := ["text"]) fun _ _ _ _ _ _ us hl => by obtain ⟨_, rfl⟩ := lens1 hl; rfl
  have F12 := fun_mk (st := (top 13)) l12 c12 k12
  have b12 := F12.binds (ps := ["text"]) fun _ _ _ _ _ _ us hl => by obtain ⟨_, rfl⟩ := lens1 hl; rfl
  have F13 := fun_mk (st := (top 14)) l13 c13 k13
  have b13 := F13.binds (ps := ["count", "text"]) fun _ _ _ _ _ _ us hl => by obtain ⟨_, _, rfl⟩ := lens2 hl; rfl
  have F14 := fun_mk (st := (top 15)) l14 c14 k14
  have b14 := F14.binds (ps := ["count", "line"]) fun _ _ _ _ _ _ us hl => by obtain ⟨_, _, rfl⟩ := lens2 hl; rfl
  have F15 := fun_mk (st := (top 23)) l15 c15 k15
  refine ⟨PySem.W.fnOf "law" "law" (defArgs (top 23)) (defBody (top 23)) (defScope (top 23)) .none kV15 dc15 pm15 an15 cd15 ct15, fun s v => .of_eq rfl, fun base _ _ => ?_⟩
  have okG1 := ok_law_at (P := l.prog) (w := w) (mg := mg) (base := base) (k := 0) F1 B  
  have D1 : Dep l.prog w K mg base 1 "_law_at" ["_law_script", "_law_k"] (sp_law_at K) := F1.dep okG1 b1 (PySem.W.mg_of X G a1)
  have okG2 := ok_law_any (P := l.prog) (w := w) (mg := mg) (base := base) (k := 0) F2 B  
  have D2 : Dep l.prog w K mg base 1 "_law_any" ["_law_cell"] sp_law_any := F2.dep okG2 b2 (PySem.W.mg_of X G a2)
  have okG3 := ok_law_one_row (P := l.prog) (w := w) (mg := mg) (base := base) (k := 1) F3 B  (D2.mono (by decide))
  have D3 : Dep l.prog w K mg base 2 "_law_one_row" ["_law_cells", "_law_count"] (sp_law_one_row K) := F3.dep okG3 b3 (PySem.W.mg_of X G a3)
  have okG4 := ok_check_row (P := l.prog) (w := w) (mg := mg) (base := base) (k := 0) F4 B  
  have D4 : Dep l.prog w K mg base 1 "check_row" ["count", "row"] (sp_check_row K) := F4.dep okG4 b4 (PySem.W.mg_of X G a4)
  have okG5 := ok_shown_number (P := l.prog) (w := w) (mg := mg) (base := base) (k := 0) F5 B  
  have D5 : Dep l.prog w K mg base 1 "shown_number" ["number", "letter"] sp_shown_number := F5.dep okG5 b5 (PySem.W.mg_of X G a5)
  have okG6 := ok_shown_numbers (P := l.prog) (w := w) (mg := mg) (base := base) (k := 1) F6 B SL_LETTERS (D5.mono (by decide))
  have D6 : Dep l.prog w K mg base 2 "shown_numbers" ["numbers"] (sp_shown_numbers K) := F6.dep okG6 b6 (PySem.W.mg_of X G a6)
  have okG7 := ok_shown (P := l.prog) (w := w) (mg := mg) (base := base) (k := 2) F7 B  (D4.mono (by decide)) (D6.mono (by decide))
  have D7 : Dep l.prog w K mg base 3 "shown" ["count", "row"] (sp_shown K) := F7.dep okG7 b7 (PySem.W.mg_of X G a7)
  have okG8 := ok_law_line_of (P := l.prog) (w := w) (mg := mg) (base := base) (k := 0) F8 B  
  have D8 : Dep l.prog w K mg base 1 "_law_line_of" ["_law_row"] (sp_law_line_of K) := F8.dep okG8 b8 (PySem.W.mg_of X G a8)
  have okG9 := ok_law_whole (P := l.prog) (w := w) (mg := mg) (base := base) (k := 0) F9 B  
  have D9 : Dep l.prog w K mg base 1 "_law_whole" ["_law_found"] sp_law_whole := F9.dep okG9 b9 (PySem.W.mg_of X G a9)
  have okG10 := ok_law_is_row (P := l.prog) (w := w) (mg := mg) (base := base) (k := 1) F10 B  (D9.mono (by decide))
  have D10 : Dep l.prog w K mg base 2 "_law_is_row" ["_law_found", "_law_due"] (sp_law_is_row K) := F10.dep okG10 b10 (PySem.W.mg_of X G a10)
  have okG11 := ok_read_whole (P := l.prog) (w := w) (mg := mg) (base := base) (k := 0) F11 B SL_FIGURES 
  have D11 : Dep l.prog w K mg base 1 "read_whole" ["text"] sp_read_whole := F11.dep okG11 b11 (PySem.W.mg_of X G a11)
  have okG12 := ok_read_number (P := l.prog) (w := w) (mg := mg) (base := base) (k := 1) F12 B  (D11.mono (by decide))
  have D12 : Dep l.prog w K mg base 2 "read_number" ["text"] sp_read_number := F12.dep okG12 b12 (PySem.W.mg_of X G a12)
  have okG13 := ok_read_numbers (P := l.prog) (w := w) (mg := mg) (base := base) (k := 2) F13 B SL_LETTERS (D12.mono (by decide))
  have D13 : Dep l.prog w K mg base 3 "read_numbers" ["count", "text"] (sp_read_numbers K) := F13.dep okG13 b13 (PySem.W.mg_of X G a13)
  have okG14 := ok_read (P := l.prog) (w := w) (mg := mg) (base := base) (k := 3) F14 B  (D13.mono (by decide)) (D11.mono (by decide)) (D7.mono (by decide))
  have D14 : Dep l.prog w K mg base 4 "read" ["count", "line"] (sp_read K) := F14.dep okG14 b14 (PySem.W.mg_of X G a14)
  exact ok_law (P := l.prog) (w := w) (mg := mg) (base := base) (k := 4) F15 B  (D1.mono (by decide)) (D3.mono (by decide)) (D7.mono (by decide)) (D8.mono (by decide)) (D10.mono (by decide)) (D14.mono (by decide))
theorem walk {l : PySem.W.OpenLaw} {q : Program} {loose : List Str} {XP : (Str → Option Value) → Heap → Prop} {YP : World → Heap → Prop} {d : DefRec} {K : Params → PySem.W.Frag} (hn : l.most = some 63) (hdf : d.params.defaults = [])
    (hY : ∀ (w : World) (h : Heap), YP w h → (K w.params).In h)
    (F : ∀ (w : World) (mg : Str → Option Value) (fa : Addr) (h : Heap), (K w.params).In h → h.Ns mainGlobals mg → mg d.name = some (.ref fa) →
      ∃ fd : FuncData, (∀ (s : Shared) (u : Value), BindsTo s fd ⟨[u], []⟩ [("_law_script", u)]) ∧ ∀ base : Heap, (K w.params).In base → base.Ns mainGlobals mg → FnOk l.prog w (K w.params) mg base CX0 5 fa fd ["_law_script"] (sp_law (K w.params))) :
    PySem.W.WalkO q loose XP YP l.row.toRowW d [] (fun f vs => PySem.call f vs) :=
  L2.walk_of (n := 63) (k := 5) (x := "_law_script") (CX := fun _ => CX0) (sp := fun w => sp_law (K w.params)) hn (by decide) hdf ⟨rfl, by decide, by decide⟩ hY F (fun _ _ a ns hl _ hS => ⟨a, ns, rfl, hS, hl, fun _ => rfl⟩) fun _ _ _ _ _ z => z
end My
open PySem PySem.W PyProof.Rows
set_option maxRecDepth 100000 in
set_option maxHeartbeats 0 in
theorem PySem.Challenge.cw_atleast_k07_whole_written_and_read_holds : PySem.Challenge.rw_atleast_k07_whole_written_and_read.Holds := by
  w_on; o_law; k_head; (case hw => w_witness2)
  k_fill
  refine My.walk (l := PySem.Challenge.rw_atleast_k07_whole_written_and_read) rfl rfl (fun w h Y => PySem.W.kIn_of Y) ?F
  case F =>
    intro w mg fa h KX G hmg
    refine' My.all_mk KX G hmg ?a1 ?l1 ?c1 ?k1 ?a2 ?l2 ?c2 ?k2 ?a3 ?l3 ?c3 ?k3 ?a4 ?l4 ?c4 ?k4 ?a5 ?l5 ?c5 ?k5 ?a6 ?l6 ?c6 ?k6 ?a7 ?l7 ?c7 ?k7 ?a8 ?l8 ?c8 ?k8 ?a9 ?l9 ?c9 ?k9 ?a10 ?l10 ?c10 ?k10 ?a11 ?l11 ?c11 ?k11 ?a12 ?l12 ?c12 ?k12 ?a13 ?l13 ?c13 ?k13 ?a14 ?l14 ?c14 ?k14 ?a15 ?l15 ?c15 ?k15 ?gLETTERS ?gFIGURES ?z0 ?z1 ?z2 ?z3 ?z4 ?z5 ?z6 ?z7 ?z8 ?z9 ?z10 ?z11 ?z12 ?z13 ?z14 ?z15 ?z16 ?z17
    (case a1 => k_is)
    (case l1 => k_is)
    (case c1 => k_is)
    (case k1 => k_is)
    (case a2 => k_is)
    (case l2 => k_is)
    (case c2 => k_is)
    (case k2 => k_is)
    (case a3 => k_is)
    (case l3 => k_is)
    (case c3 => k_is)
    (case k3 => k_is)
    (case a4 => k_is)
    (case l4 => k_is)
    (case c4 => k_is)
    (case k4 => k_is)
    (case a5 => k_is)
    (case l5 => k_is)
    (case c5 => k_is)
    (case k5 => k_is)
    (case a6 => k_is)
    (case l6 => k_is)
    (case c6 => k_is)
    (case k6 => k_is)
    (case a7 => k_is)
    (case l7 => k_is)
    (case c7 => k_is)
    (case k7 => k_is)
    (case a8 => k_is)
    (case l8 => k_is)
    (case c8 => k_is)
    (case k8 => k_is)
    (case a9 => k_is)
    (case l9 => k_is)
    (case c9 => k_is)
    (case k9 => k_is)
    (case a10 => k_is)
    (case l10 => k_is)
    (case c10 => k_is)
    (case k10 => k_is)
    (case a11 => k_is)
    (case l11 => k_is)
    (case c11 => k_is)
    (case k11 => k_is)
    (case a12 => k_is)
    (case l12 => k_is)
    (case c12 => k_is)
    (case k12 => k_is)
    (case a13 => k_is)
    (case l13 => k_is)
    (case c13 => k_is)
    (case k13 => k_is)
    (case a14 => k_is)
    (case l14 => k_is)
    (case c14 => k_is)
    (case k14 => k_is)
    (case a15 => k_is)
    (case l15 => k_is)
    (case c15 => k_is)
    (case k15 => k_is)
    (case gLETTERS => k_is)
    (case gFIGURES => k_is)
    (case z0 => k_is)
    (case z1 => k_is)
    (case z2 => k_is)
    (case z3 => k_is)
    (case z4 => k_is)
    (case z5 => k_is)
    (case z6 => k_is)
    (case z7 => k_is)
    (case z8 => k_is)
    (case z9 => k_is)
    (case z10 => k_is)
    (case z11 => k_is)
    (case z12 => k_is)
    (case z13 => k_is)
    (case z14 => k_is)
    (case z15 => k_is)
    (case z16 => k_is)
    (case z17 => k_is)

