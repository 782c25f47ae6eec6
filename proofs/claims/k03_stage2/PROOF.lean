import PyProof.Rows.All
import Wide.All
import OpenK.AllK
import Wide.FinOn
import Lean
import PyProof.EqAt
import PyProof.EqKinds
import PyProof.TupleCall
import PySem.Challenge.RW_stampword_k03_same_but_words
set_option Elab.async false
set_option linter.all false
set_option maxRecDepth 100000
/-! THE HAND LAYER, for ints, bools, texts, own classes, LISTS and tuples (index, slices, in, append, pop ..), calls, loops. Paste it whole ahead of your own text; what your proof does not reach may be deleted. -/
namespace L2
open PySem PySem.Spec PyProof.Rows

/-- a key: an int or a str -/
abbrev Key := Sum Int Str
def keyIs : Key → Value → Bool
  | .inl k, v => Value.isInt k v
  | .inr x, v => Value.isStrOf x v
def keyH (w : World) : Key → Int
  | .inl k => hashInt k
  | .inr x => hashStr w x
theorem keyIs_shape : ∀ {k : Key} {v : Value}, keyIs k v = true → (∃ i t, k = Sum.inl i ∧ v = Value.int i t) ∨ (∃ x t, k = Sum.inr x ∧ v = Value.str x t)
  | .inl i, v, h => by
    obtain ⟨t, e⟩ := Value.isInt_shape (k := i) (v := v) h
    exact .inl ⟨i, t, rfl, e⟩
  | .inr x, v, h => by
    obtain ⟨t, e⟩ := Value.isStrOf_shape (x := x) (v := v) h
    exact .inr ⟨x, t, rfl, e⟩
theorem keyIs_int (i : Int) (t : Tok) : keyIs (.inl i) (.int i t) = true := by simp [keyIs, Value.isInt]
theorem keyIs_str (x : Str) (t : Tok) : keyIs (.inr x) (.str x t) = true := by simp [keyIs, Value.isStrOf]
theorem key_ll (a b : Int) : decide ((Sum.inl a : Key) = Sum.inl b) = (a == b) := by
  by_cases e : a = b
  · subst e; simp
  · have h : ¬ (Sum.inl a : Key) = Sum.inl b := fun q => e (Sum.inl.inj q)
    rw [decide_eq_false h]
    exact (beq_eq_false_iff_ne.mpr e).symm
theorem key_rr (a b : Str) : decide ((Sum.inr a : Key) = Sum.inr b) = decide (a = b) := by
  by_cases e : a = b
  · subst e; simp
  · have h : ¬ (Sum.inr a : Key) = Sum.inr b := fun q => e (Sum.inr.inj q)
    rw [decide_eq_false h, decide_eq_false e]
theorem key_lr (a : Int) (b : Str) : decide ((Sum.inl a : Key) = Sum.inr b) = false := decide_eq_false (fun q => nomatch q)
theorem key_rl (a : Str) (b : Int) : decide ((Sum.inr a : Key) = Sum.inl b) = false := decide_eq_false (fun q => nomatch q)

def mixKind (prog : Program) (w : World) : PySem.KeyKind prog w Key where
  is := keyIs
  hash := keyH w
  inj := fun v a b ha hb => by
    rcases keyIs_shape ha with ⟨i, t, rfl, rfl⟩ | ⟨x, t, rfl, rfl⟩
    · rcases keyIs_shape hb with ⟨j, u, rfl, e⟩ | ⟨y, u, rfl, e⟩
      · injection e with e1 _; rw [e1]
      · exact nomatch e
    · rcases keyIs_shape hb with ⟨j, u, rfl, e⟩ | ⟨y, u, rfl, e⟩
      · exact nomatch e
      · injection e with e1 _; rw [e1]
  byValue := fun k v h => by
    rcases keyIs_shape h with ⟨i, t, rfl, rfl⟩ | ⟨x, t, rfl, rfl⟩ <;> rfl
  pyHash := fun hv h => by
    rcases keyIs_shape hv with ⟨i, t, rfl, rfl⟩ | ⟨x, t, rfl, rfl⟩
    · exact wpAny_pyHash_int h
    · exact wpAny_pyHash_str h
  eqBool := fun hu hv h => by
    rcases keyIs_shape hu with ⟨i, t, rfl, rfl⟩ | ⟨x, t, rfl, rfl⟩
    · rcases keyIs_shape hv with ⟨j, u, rfl, rfl⟩ | ⟨y, u, rfl, rfl⟩
      · rw [key_ll] at h; exact wpAny_eqBool_int h
      · rw [key_lr] at h; exact SeqAt.EqAt.int_str i t y u _ _ _ _ h
    · rcases keyIs_shape hv with ⟨j, u, rfl, rfl⟩ | ⟨y, u, rfl, rfl⟩
      · rw [key_rl] at h; exact SeqAt.EqAt.str_int x t j u _ _ _ _ h
      · rw [key_rr] at h; exact wpAny_eqBool_str h
  «strs» := fun k x t v h => by
    rcases keyIs_shape h with ⟨i, u, rfl, e⟩ | ⟨y, u, rfl, e⟩
    · exact nomatch e
    · injection e with e1 _
      subst e1
      cases v <;> rfl

theorem mixKind_int (prog : Program) (w : World) (i : Int) (t : Tok) : (mixKind prog w).is (.inl i) (.int i t) = true := keyIs_int i t
theorem mixKind_str (prog : Program) (w : World) (x : Str) (t : Tok) : (mixKind prog w).is (.inr x) (.str x t) = true := keyIs_str x t
end L2

namespace L2
open PySem PySem.Spec PyProof.Rows

/-- a value, without the heap -/
inductive V where
  | non | bl (b : Bool) | int (i : Int) | str (x : Str) | byt (b : Array UInt8) | flt (b : UInt64) | ref (a : Addr) | ty (n : String)
  deriving DecidableEq

def RelV : V → Value → Prop
  | .non, u => u = Value.none
  | .bl b, u => u = Value.bool b
  | .int i, u => ∃ t, u = Value.int i t
  | .str x, u => ∃ t, u = Value.str x t
  | .byt b, u => ∃ t, u = Value.bytes b t
  | .flt b, u => ∃ t, u = Value.float b t
  | .ref a, u => u = Value.ref a
  | .ty n, u => u = Value.type n

abbrev Vals : List V → List Value → Prop := Paired RelV
theorem Vals.length {xs : List V} {us : List Value} (r : Vals xs us) : xs.length = us.length := Paired.length r
theorem Vals.get : ∀ {xs : List V} {us : List Value} {i : Nat} {x : V}, Vals xs us → xs[i]? = some x → ∃ u, us[i]? = some u ∧ RelV x u
  | _, _, _, _, .nil, e => by simp at e
  | _, _, 0, _, .cons r _, e => by simp at e; subst e; exact ⟨_, rfl, r⟩
  | _, _, i + 1, x, .cons _ t, e => by
    obtain ⟨u, h1, h2⟩ := Vals.get (i := i) (x := x) t (by simpa using e)
    exact ⟨u, by simpa using h1, h2⟩
theorem Vals.set {x : V} {u : Value} (r : RelV x u) : ∀ {xs : List V} {us : List Value} (i : Nat), Vals xs us → Vals (xs.set i x) (us.set i u)
  | _, _, _, .nil => .nil
  | _, _, 0, .cons _ t => .cons r t
  | _, _, i + 1, .cons q t => .cons q (Vals.set r i t)
theorem Vals.append : ∀ {xs ys : List V} {us ws : List Value}, Vals xs us → Vals ys ws → Vals (xs ++ ys) (us ++ ws)
  | _, _, _, _, .nil, s => s
  | _, _, _, _, .cons r t, s => .cons r (Vals.append t s)
theorem Vals.take : ∀ {xs : List V} {us : List Value} (n : Nat), Vals xs us → Vals (xs.take n) (us.take n)
  | _, _, 0, _ => .nil
  | _, _, _ + 1, .nil => .nil
  | _, _, n + 1, .cons r t => .cons r (Vals.take n t)
theorem Vals.drop : ∀ {xs : List V} {us : List Value} (n : Nat), Vals xs us → Vals (xs.drop n) (us.drop n)
  | _, _, 0, r => r
  | _, _, _ + 1, .nil => .nil
  | _, _, n + 1, .cons _ t => Vals.drop n t

def RelO : Option V → Option Value → Prop
  | some v, some u => RelV v u
  | none, none => True
  | _, _ => False
def KV {κ : Type} : List (κ × V) → List (κ × Value) → Prop := Paired fun (p : κ × V) (q : κ × Value) => p.1 = q.1 ∧ RelV p.2 q.2

/-- a key of a dict (00_mix): an int or a text -/
def kV : Key → V
  | .inl i => .int i
  | .inr x => .str x

/-- what stands at a tracked address -/
inductive HO where
  /-- a list -/
  | lst (xs : List V)
  /-- a tuple (never changes) -/
  | tup (xs : List V)
  /-- a dict whose keys are ints and texts; one whose keys are tuples of ints and texts (the empty one is both) -/
  | dK (kvs : List (Key × V)) | dT (kvs : List (List Key × V))
  /-- a set of ints: its members, its size -/
  | set (S : Int → Bool) (n : Nat)
  /-- an instance of the class at C, its dict at dx, its attributes -/
  | ins (C dx : Addr) (fs : List (Str × V))
  /-- the dict of the instance at x -/
  | own (x : Addr)
  /-- the dict of an exception -/
  | xd (fs : List (Str × V))
  /-- a bound method, f of x -/
  | met (f x : Addr)
  /-- a range object lo, lo + 1, .. below hi -/
  | rng (lo hi : Int)
  /-- a thing that is known to the object (the script; a dict while a loop walks it): read, never written while it is so -/
  | frz (o : Obj) (u : HO)
  /-- a code object's table -/
  | tbl (ps : Array Value)
  /-- any other thing, by what is true of its one object (a def of one's own: SetO a S n := HO.ext fun h => ..) -/
  | ext (φ : Heap → Prop)

abbrev Hp := Addr → Option HO
def upd (H : Hp) (a : Addr) (o : HO) : Hp := fun b => if b = a then some o else H b
theorem upd_same {H : Hp} {a : Addr} {o : HO} : upd H a o a = some o := by unfold upd; rw [if_pos rfl]
theorem upd_ne {H : Hp} {a b : Addr} {o : HO} (h : b ≠ a) : upd H a o b = H b := by unfold upd; rw [if_neg h]
/-- two objects of different content stand apart -/
theorem ne_of {H : Hp} {a b : Addr} {o u : HO} (h : H a = some o) (h' : H b = some u) (d : o ≠ u) : a ≠ b := by
  intro e; subst e; rw [h] at h'; exact d (Option.some.inj h')
theorem ne_of_none {H : Hp} {a b : Addr} {o : HO} (h : H a = some o) (h' : H b = none) : a ≠ b := by
  intro e; subst e; rw [h] at h'; cases h'

section
variable (P : Program) (w : World)
def ObjOk (H : Hp) (h : Heap) (a : Addr) : HO → Prop
  | .lst xs => xs.length ≤ sizeLine ∧ ∃ (its : List Value) (n : Nat), Vals xs its ∧ h.get? a = some { cls := .type "list", data := .seq its.toArray n }
  | .tup xs => xs.length ≤ sizeLine ∧ ∃ its : List Value, Vals xs its ∧ IsTup h a its.toArray
  | .dK kvs => kvs.length ≤ sizeLine ∧ (a == sysModules) = false ∧ ∃ vs, KV kvs vs ∧ h.DictOf (mixKind P w) a vs
  | .dT kvs => kvs.length ≤ sizeLine ∧ (a == sysModules) = false ∧ ∃ xs : List (List Key × Addr × Value),
      Paired (fun (p : List Key × V) (q : List Key × Addr × Value) => p.1 = q.1 ∧ H q.2.1 = some (.tup (p.1.map kV)) ∧ RelV p.2 q.2.2) kvs xs ∧
      ∃ o es ep, h.get? a = some o ∧ o.ExactDict ∧ o.data = .dict es ep ∧ es.toList = xs.map (entryOfKey (tupleKind (mixKind P w))) ∧ (xs.map (·.1)).Nodup
  | .set S n => h.SetOf (intKind P w) a S n
  | .ins C dx fs => H dx = some (.own a) ∧ fs.length ≤ 1000 ∧ dx ≠ a ∧ h.get? a = some (PySem.W.instObj C dx) ∧
      ∃ mA, h.Ns1 dx mA ∧ (∀ f, RelO (fs.lookup f) (mA f)) ∧ PySem.Within mA (fs.map (·.1))
  | .own _ => ∃ o, h.get? a = some o
  | .xd fs => ∃ mA, h.Ns1 a mA ∧ ∀ f, RelO (fs.lookup f) (mA f)
  | .rng lo hi => ∃ t u v, h.get? a = some { cls := .type "range", data := .fields #[.int lo t, .int hi u, .int 1 v] }
  | .frz o u => h.get? a = some o ∧ ObjOk H h a u
  | .tbl ps => h.get? a = some { cls := .none, data := .fields ps }
  | .met f x => h.get? a = some (PySem.W.methodObj (.ref f) (.ref x))
  | .ext φ => φ h ∧ (∃ o, h.get? a = some o) ∧ ∀ h1 h2 : Heap, φ h1 → (∀ o, h1.get? a = some o → h2.get? a = some o) → φ h2
/-- the abstract heap is held -/
def HOk (H : Hp) (h : Heap) : Prop := ∀ a o, H a = some o → ObjOk P w H h a o
end

section
variable {P : Program} {w : World} {H H' : Hp} {h h' : Heap} {a : Addr} {o : HO}
theorem ObjOk.lt (x : ObjOk P w H h a o) : a < h.objs.size := by
  cases o with
  | lst xs => obtain ⟨_, _, _, _, e⟩ := x; exact Heap.lt_size e
  | tup xs => obtain ⟨_, _, _, p⟩ := x; exact p.lt
  | dK kvs => obtain ⟨_, _, _, _, o, _, _, e, _⟩ := x; exact Heap.lt_size e
  | dT kvs => obtain ⟨_, _, _, _, o, _, _, e, _⟩ := x; exact Heap.lt_size e
  | set S n => obtain ⟨o, _, _, _, e, _⟩ := x; exact Heap.lt_size e
  | ins C dx fs => obtain ⟨_, _, _, e, _⟩ := x; exact Heap.lt_size e
  | own y => obtain ⟨_, e⟩ := x; exact Heap.lt_size e
  | xd fs => obtain ⟨_, ⟨_, _, _, e, _⟩, _⟩ := x; exact Heap.lt_size e
  | rng lo hi => obtain ⟨_, _, _, e⟩ := x; exact Heap.lt_size e
  | frz ob u => obtain ⟨e, _⟩ := x; exact Heap.lt_size e
  | tbl ps => exact Heap.lt_size (show h.get? a = some _ from x)
  | met f y => exact Heap.lt_size (show h.get? a = some _ from x)
  | ext φ => obtain ⟨_, ⟨_, e⟩, _⟩ := x; exact Heap.lt_size e
theorem Paired.mapP {α β : Type} {F G : α → β → Prop} : ∀ {l₁ : List α} {l₂ : List β}, Paired F l₁ l₂ → (∀ a b, F a b → G a b) → Paired G l₁ l₂
  | _, _, .nil, _ => .nil
  | _, _, .cons r t, f => .cons (f _ _ r) (Paired.mapP t f)
/-- what an object's description leans on: its own object, its own dict, the tuples -/
theorem ObjOk.stay (x : ObjOk P w H h a o) (k : ∀ b u, (b = a ∨ H b = some (.own a)) → h.get? b = some u → h'.get? b = some u)
    (ho : ∀ b, H b = some (.own a) → H' b = some (.own a)) (ht : ∀ b xs, H b = some (.tup xs) → H' b = some (.tup xs)) : ObjOk P w H' h' a o := by
  induction o with
  | lst xs => obtain ⟨z, its, n, r, e⟩ := x; exact ⟨z, its, n, r, k _ _ (.inl rfl) e⟩
  | tup xs => obtain ⟨z, its, r, ob, e, c⟩ := x; exact ⟨z, its, r, ob, k _ _ (.inl rfl) e, c⟩
  | dK kvs => obtain ⟨z, y, vs, r, ob, es, ep, e, c⟩ := x; exact ⟨z, y, vs, r, ob, es, ep, k _ _ (.inl rfl) e, c⟩
  | dT kvs =>
    obtain ⟨z, y, xs, r, ob, es, ep, e, c⟩ := x
    exact ⟨z, y, xs, Paired.mapP r fun p q z => ⟨z.1, ht _ _ z.2.1, z.2.2⟩, ob, es, ep, k _ _ (.inl rfl) e, c⟩
  | set S n => obtain ⟨ob, es, ep, t, e, c⟩ := x; exact ⟨ob, es, ep, t, k _ _ (.inl rfl) e, c⟩
  | ins C dx fs =>
    obtain ⟨d, z, ne, e, mA, ⟨od, es, ep, e2, c⟩, r⟩ := x
    exact ⟨ho _ d, z, ne, k _ _ (.inl rfl) e, mA, ⟨od, es, ep, k _ _ (.inr d) e2, c⟩, r⟩
  | own y => obtain ⟨ob, e⟩ := x; exact ⟨ob, k _ _ (.inl rfl) e⟩
  | xd fs => obtain ⟨mA, ⟨od, es, ep, e, c⟩, r⟩ := x; exact ⟨mA, ⟨od, es, ep, k _ _ (.inl rfl) e, c⟩, r⟩
  | rng lo hi => obtain ⟨t, u, v, e⟩ := x; exact ⟨t, u, v, k _ _ (.inl rfl) e⟩
  | frz ob u ih => obtain ⟨e, q⟩ := x; exact ⟨k _ _ (.inl rfl) e, ih q⟩
  | tbl ps =>
    have e : h.get? a = some { cls := .none, data := .fields ps } := x
    show h'.get? a = some { cls := .none, data := .fields ps }
    exact k a _ (.inl rfl) e
  | met f y =>
    have e : h.get? a = some (PySem.W.methodObj (.ref f) (.ref y)) := x
    show h'.get? a = some (PySem.W.methodObj (.ref f) (.ref y))
    exact k a _ (.inl rfl) e
  | ext φ => obtain ⟨p, ⟨o, e⟩, st⟩ := x; exact ⟨st _ _ p fun o q => k _ _ (.inl rfl) q, ⟨o, k _ _ (.inl rfl) e⟩, st⟩
theorem HOk.lt (x : HOk P w H h) (e : H a = some o) : a < h.objs.size := (x a o e).lt
theorem HOk.fresh (x : HOk P w H h) (e : h.objs.size ≤ a) : H a = none := by
  cases q : H a with
  | none => rfl
  | some u => exact absurd (Nat.lt_of_lt_of_le (x.lt q) e) (Nat.lt_irrefl _)
/-- every object of the heap is kept -/
theorem HOk.kept (x : HOk P w H h) (k : ∀ b u, h.get? b = some u → h'.get? b = some u) : HOk P w H h' := fun a o e =>
  (x a o e).stay (fun b u _ q => k b u q) (fun _ q => q) fun _ _ q => q
/-- a new object is laid and tracked -/
theorem HOk.laid (x : HOk P w H h) (k : ∀ b u, h.get? b = some u → h'.get? b = some u) (hp : h.objs.size ≤ a) (new : ObjOk P w (upd H a o) h' a o) : HOk P w (upd H a o) h' := fun b u e => by
  have hn := x.fresh hp
  by_cases hb : b = a
  · subst hb; rw [upd_same] at e; cases e; exact new
  · rw [upd_ne hb] at e
    exact (x b u e).stay (fun c v _ q => k c v q) (fun c q => by rw [upd_ne (ne_of_none q hn)]; exact q) fun c xs q => by rw [upd_ne (ne_of_none q hn)]; exact q
end

/-- what may be read as u: it is u, or a known u -/
def Rd (H : Hp) (a : Addr) (u : HO) : Prop := H a = some u ∨ ∃ o, H a = some (.frz o u)
theorem Rd.ok {P : Program} {w : World} {H : Hp} {h : Heap} {a : Addr} {u : HO} (r : Rd H a u) (x : HOk P w H h) : ObjOk P w H h a u := by
  rcases r with r | ⟨o, r⟩
  · exact x a u r
  · obtain ⟨_, q⟩ := x a _ r
    exact q
/-- what may be written -/
def Mut : Option HO → Prop
  | some (.lst _) => True
  | some (.dK _) => True
  | some (.dT _) => True
  | some (.set _ _) => True
  | some (.ins _ _ _) => True
  | some (.ext _) => True
  | _ => False
section
variable {P : Program} {w : World} {H : Hp} {h h' : Heap} {x e : Addr} {o' : HO}
/-- the object at e is changed: x itself, or the dict of the instance x -/
theorem HOk.write (ok : HOk P w H h) (mu : Mut (H x)) (he : e = x ∨ H e = some (.own x)) (k : ∀ b u, b ≠ e → h.get? b = some u → h'.get? b = some u) (heo : ∃ u, h'.get? e = some u)
    (new : ObjOk P w (upd H x o') h' x o') : HOk P w (upd H x o') h' := fun b u q => by
  have nown : ∀ c y, H c = some (.own y) → c ≠ x := fun c y r z => by subst z; rw [r] at mu; exact mu
  have ntup : ∀ c xs, H c = some (.tup xs) → c ≠ x := fun c xs r z => by subst z; rw [r] at mu; exact mu
  by_cases hb : b = x
  · subst hb; rw [upd_same] at q; cases q; exact new
  · rw [upd_ne hb] at q
    by_cases hbe : b = e
    · have q' : H b = some (.own x) := by
        rcases he with z | z
        · exact absurd (hbe.trans z) hb
        · rw [hbe]; exact z
      rw [q] at q'; cases q'
      obtain ⟨v, hv⟩ := heo
      exact ⟨v, by rw [hbe]; exact hv⟩
    · refine (ok b u q).stay (fun c v hc r => k c v ?_ r) (fun c r => by rw [upd_ne (nown c b r)]; exact r) fun c xs r => by rw [upd_ne (ntup c xs r)]; exact r
      rcases hc with rfl | hc
      · exact hbe
      · rintro rfl
        rcases he with z | z
        · exact nown c b hc z
        · rw [hc] at z; cases z; exact hb rfl
end

/-! ### kept unless tracked; of the frames at fs (the callers') the slots may change (an exception that passes writes there); of the records at ex (iterators) nothing is said -/
structure Un (fs ex : List Addr) (H H' : Hp) (h h' : Heap) : Prop where
  keep : ∀ b o, h.get? b = some o → H b = none → b ∉ fs → b ∉ ex → h'.get? b = some o
  slot : ∀ b o, h.get? b = some o → H b = none → b ∈ fs → b ∉ ex → ∃ sl, h'.get? b = some { o with slots := sl }
  free : ∀ b o, h.get? b = some o → H b = none → b ∉ ex → H' b = none
  there : ∀ b o, h.get? b = some o → b ∉ ex → ∃ o', h'.get? b = some o'
  tups : ∀ b xs, H b = some (.tup xs) → H' b = some (.tup xs)
  frzs : ∀ b o u, H b = some (.frz o u) → H' b = some (.frz o u)
  tbls : ∀ b ps, H b = some (.tbl ps) → ∃ more, H' b = some (.tbl (ps ++ more))
section
variable {fs fs' ex ex' : List Addr} {H H1 H2 : Hp} {h h1 h2 h' : Heap} {a x e : Addr} {o : HO}
theorem Un.any (u : Un fs ex H H1 h h1) {b : Addr} {ob : Obj} (q : h.get? b = some ob) (n : H b = none) (hx : b ∉ ex) : ∃ sl, h1.get? b = some { ob with slots := sl } := by
  by_cases hb : b ∈ fs
  · exact u.slot b ob q n hb hx
  · exact ⟨ob.slots, u.keep b ob q n hb hx⟩
theorem Un.kept (k : ∀ b u, h.get? b = some u → h'.get? b = some u) : Un fs ex H H h h' :=
  ⟨fun b ob q _ _ _ => k b ob q, fun b ob q _ _ _ => ⟨ob.slots, k b ob q⟩, fun _ _ _ n _ => n, fun b ob q _ => ⟨ob, k b ob q⟩, fun _ _ q => q, fun _ _ _ q => q, fun _ ps q => ⟨#[], by rw [q]; simp⟩⟩
theorem Un.refl : Un fs ex H H h h := Un.kept fun _ _ q => q
theorem Un.laid (k : ∀ b u, h.get? b = some u → h'.get? b = some u) (hp : h.objs.size ≤ a) (hn : H a = none) : Un fs ex H (upd H a o) h h' where
  keep := fun b u q _ _ _ => k b u q
  slot := fun b u q _ _ _ => ⟨u.slots, k b u q⟩
  free := fun b u q n _ => by rw [upd_ne (Nat.ne_of_lt (Nat.lt_of_lt_of_le (Heap.lt_size q) hp))]; exact n
  there := fun b u q _ => ⟨u, k b u q⟩
  tups := fun b xs q => by rw [upd_ne (ne_of_none q hn)]; exact q
  frzs := fun b u xs q => by rw [upd_ne (ne_of_none q hn)]; exact q
  tbls := fun b ps q => ⟨#[], by rw [upd_ne (ne_of_none q hn), q]; simp⟩
theorem Un.write (mu : Mut (H x)) (he : e = x ∨ H e = some (.own x)) (k : ∀ b u, b ≠ e → h.get? b = some u → h'.get? b = some u) (heo : ∃ u, h'.get? e = some u) : Un fs ex H (upd H x o) h h' := by
  have hx : ∀ b, H b = none → b ≠ x := fun b n z => by subst z; rw [n] at mu; exact mu
  have hb : ∀ b, H b = none → b ≠ e := fun b n z => by
    subst z
    rcases he with r | r
    · exact hx b n r
    · rw [n] at r; cases r
  have hm : ∀ b u, H b = some u → ¬ Mut (some u) → b ≠ x := fun b u q nm z => by subst z; rw [q] at mu; exact nm mu
  refine ⟨fun b u q n _ _ => k b u (hb b n) q, fun b u q n _ _ => ⟨u.slots, k b u (hb b n) q⟩, fun b u q n _ => by rw [upd_ne (hx b n)]; exact n, fun b u q _ => ?_,
    fun b xs q => by rw [upd_ne (hm b _ q fun z => z)]; exact q, fun b u xs q => by rw [upd_ne (hm b _ q fun z => z)]; exact q, fun b ps q => ⟨#[], by rw [upd_ne (hm b _ q fun z => z), q]; simp⟩⟩
  by_cases hbe : b = e
  · subst hbe; exact heo
  · exact ⟨u, k b u hbe q⟩
end

/-! ### the heap without what is tracked -/
def trk (h : Heap) (H : Hp) : List Addr := (List.range h.objs.size).filter fun a => (H a).isSome
def hidT (h : Heap) (H : Hp) : Heap := PySem.W.hideAll h (trk h H)
theorem hidT_size (h : Heap) (H : Hp) : (hidT h H).objs.size = h.objs.size := PySem.W.hideAll_size _ _
theorem hidT_get {h : Heap} {H : Hp} {b : Addr} {o : Obj} (e : h.get? b = some o) (n : H b = none) : (hidT h H).get? b = some o :=
  PySem.W.hideAll_get _ e fun hm => by
    have q : (H b).isSome = true := (List.mem_filter.mp hm).2
    rw [n] at q; simp at q
theorem of_hidT {h : Heap} {H : Hp} {b : Addr} {o : Obj} (e : (hidT h H).get? b = some o) : h.get? b = some o ∧ H b = none := by
  have e' : h.get? b = some o := PySem.W.of_hideAll (trk h H) e
  refine ⟨e', ?_⟩
  cases q : H b with
  | none => rfl
  | some x =>
    have hm : b ∈ trk h H := List.mem_filter.mpr ⟨List.mem_range.mpr (Heap.lt_size e'), by simp [q]⟩
    have z : (hidT h H).get? b = none := PySem.W.hideAll_none (trk h H) hm
    rw [z] at e; cases e

/-! ### OpenK's ledger, filled with every new object but one -/
end L2

namespace L2
open PySem PySem.Spec PyProof.Rows

/-- the module's facts, over the base: the heap at the law's entry without what is tracked there -/
structure Mod (K : PySem.W.Frag) (mg : Str → Option Value) (base : Heap) : Prop where
  kin : K.In base
  glob : base.Ns mainGlobals mg
  blt : ∃ mb, base.Ns builtinsNs mb ∧ ∀ x : Str, x ≠ "__name__" → mb x = bootBuiltins x
  nolimit : base.NoLimit

/-- the context: a def's body (or a comprehension's block) running. base: fixed through the whole law; s₀, H₀: the entry; outer: the frames whose slots others may change (a def's callers); stack: all frames that run;
   ex: iterators that were made ahead of the entry and are walked here (a comprehension's); fn: the names whose cells were made at the entry (a def: all; a comprehension's block: its own); calm: not within an except suite; pn: pins that every state bears; xe: what is wanted of an exception that leaves the code -/
structure Cx where
  prog : Program
  w : World
  K : PySem.W.Frag
  mg : Str → Option Value
  base : Heap
  A : Around
  N : List Str
  s₀ : Shared
  H₀ : Hp
  env : Env
  outer : List Env
  stack : List Env
  ex : List Addr
  fn : Str → Bool
  calm : Bool
  pn : List (Addr × Obj)
  xe : Value → Shared → Prop
/-- the callers' frames -/
def frs (l : List Env) : List Addr := l.filterMap (·.frame)
abbrev Cx.fs (X : Cx) : List Addr := frs X.outer

def Vis (sc : Scope) (x : Str) : Prop := sc.names.lookup x = some .local ∨ sc.names.lookup x = some .cell ∨ sc.names.lookup x = some .free
def Loc (sc : Scope) (x : Str) : Prop := sc.names.lookup x = some .local ∨ sc.names.lookup x = some .cell
def Look (env : Env) (h : Heap) (m : Str → Option Value) (x : Str) (u : Value) : Prop :=
  (env.kindOf x = some .local ∧ m x = some u) ∨ ((env.kindOf x = some .cell ∨ env.kindOf x = some .free) ∧ ∃ c, env.cells.lookup x = some c ∧ h.IsCell c (some u))

structure Cx.Ok (X : Cx) : Prop where
  mod : Mod X.K X.mg X.base
  kind : X.env.scope.kind = .function
  glob : X.env.globals = mainGlobals
  blt : X.env.builtins = builtinsNs
  above : X.s₀.heap.objs.size ≤ X.env.locals
  inj : ∀ x y c, X.env.cells.lookup x = some c → X.env.cells.lookup y = some c → x = y
  has : ∀ x, (X.env.kindOf x = some .cell ∨ X.env.kindOf x = some .free) → ∃ c, X.env.cells.lookup x = some c
  cab : ∀ x c, X.fn x = true → X.env.cells.lookup x = some c → X.s₀.heap.objs.size ≤ c
  hd : X.calm = true → X.A.handled = none
  frames : X.A.frames = some X.stack
  stk : X.stack = X.outer ∨ (X.stack = X.env :: X.outer ∧ X.env.frame = some X.env.locals)
  exf : ∀ b ∈ X.ex, b ≠ X.env.locals ∧ ∀ x c, X.env.cells.lookup x = some c → c ≠ b
  bs : ∀ b o, X.base.get? b = some o → X.s₀.heap.get? b = some o ∧ X.H₀ b = none
  bsz : X.base.objs.size ≤ X.s₀.heap.objs.size
  noex : ∀ b o, X.base.get? b = some o → b ∉ X.ex
  exfs : ∀ b ∈ X.ex, b ∉ X.fs
  funs : X.s₀.heap.FunFrames X.base X.outer
  frf : ∀ b ∈ X.fs, X.H₀ b = none

structure Inv (X : Cx) (pins : List (Addr × Obj)) (σ : List (Option V)) (H : Hp) (s : Shared) : Prop where
  ok : X.Ok
  os : s.os = X.s₀.os
  bare : AllBare s.gens
  base : Un X.fs X.ex X.H₀ H X.s₀.heap s.heap
  loc : ∃ m, s.heap.Ns X.env.locals m ∧ ∀ (i : Nat) (x : Str) (v : V), X.N[i]? = some x → σ[i]? = some (some v) → Vis X.env.scope x → ∃ u, RelV v u ∧ Look X.env s.heap m x u
  cell : ∀ x c, X.env.cells.lookup x = some c → ∃ v, s.heap.IsCell c v
  free : H X.env.locals = none
  freeC : ∀ x c, X.env.cells.lookup x = some c → H c = none
  pin : ∀ p ∈ X.pn ++ pins, s.heap.get? p.1 = some p.2 ∧ H p.1 = none ∧ p.1 ≠ X.env.locals ∧ p.1 ∉ X.fs ∧ ∀ v, p.2.data ≠ .cell v
  hok : HOk X.prog X.w H s.heap
  len : σ.length = X.N.length

section
variable {X : Cx} {pins : List (Addr × Obj)} {σ : List (Option V)} {H H' : Hp} {s : Shared} {h' : Heap}

theorem Cx.Ok.nofr (ok : X.Ok) {b : Addr} {o : Obj} (e : X.base.get? b = some o) : b ∉ X.fs := fun hb => by
  have := (ok.funs.mem hb).1
  rw [e] at this; cases this
theorem Inv.bs (I : Inv X pins σ H s) : ∀ b o, X.base.get? b = some o → s.heap.get? b = some o ∧ H b = none := fun b o e =>
  ⟨I.base.keep b o (I.ok.bs b o e).1 (I.ok.bs b o e).2 (I.ok.nofr e) (I.ok.noex b o e), I.base.free b o (I.ok.bs b o e).1 (I.ok.bs b o e).2 (I.ok.noex b o e)⟩
theorem Inv.bk (I : Inv X pins σ H s) : ∀ b o, X.base.get? b = some o → s.heap.get? b = some o := fun b o e => (I.bs b o e).1
theorem Inv.mod (I : Inv X pins σ H s) : Mod X.K X.mg X.base := I.ok.mod
theorem Inv.kIn (I : Inv X pins σ H s) : X.K.In s.heap := I.ok.mod.kin.keeps I.bk
theorem Inv.lt (I : Inv X pins σ H s) : X.env.locals < s.heap.objs.size := let ⟨_, hn, _⟩ := I.loc; hn.lt
theorem Inv.sz (I : Inv X pins σ H s) : X.s₀.heap.objs.size ≤ s.heap.objs.size := Nat.le_trans I.ok.above (Nat.le_of_lt I.lt)
theorem Inv.nofs (I : Inv X pins σ H s) {a : Addr} (h : s.heap.objs.size ≤ a) : a ∉ X.fs := fun hb => by
  obtain ⟨_, o, ho, _⟩ := I.ok.funs.mem hb
  exact absurd (Nat.lt_of_lt_of_le (Heap.lt_size ho) (Nat.le_trans I.sz h)) (Nat.lt_irrefl _)
theorem Inv.cne (I : Inv X pins σ H s) : ∀ x c, X.env.cells.lookup x = some c → c ≠ X.env.locals := fun x c e z => by
  obtain ⟨v, o, ho, hd⟩ := I.cell x c e
  obtain ⟨m, ⟨o', es, ep, ho', hd', _⟩, _⟩ := I.loc
  rw [z, ho'] at ho; cases ho; rw [hd'] at hd; cases hd
theorem Inv.funs (I : Inv X pins σ H s) : s.heap.FunFrames X.base X.outer := by
  have all : ∀ (l : List Env), (∀ b ∈ frs l, b ∈ X.fs) → X.s₀.heap.FunFrames X.base l → s.heap.FunFrames X.base l := by
    intro l
    induction l with
    | nil => intro _ _; trivial
    | cons env r ih =>
      intro hs hl
      obtain ⟨hk, ⟨L, o, hf, hn, ho, hd⟩, hr⟩ := hl
      have hL : L ∈ X.fs := hs L (by unfold frs; rw [List.filterMap_cons, hf]; exact List.mem_cons_self)
      obtain ⟨sl, e⟩ := I.base.slot L o ho (I.ok.frf L hL) hL fun z => I.ok.exfs L z hL
      exact ⟨hk, ⟨L, _, hf, hn, e, hd⟩, ih (fun b hb => hs b (by unfold frs; rw [List.filterMap_cons, hf]; exact List.mem_cons_of_mem _ hb)) hr⟩
  exact all X.outer (fun _ hb => hb) I.ok.funs

/-- the frames that run, for a call -/
theorem Inv.stack (I : Inv X pins σ H s) : s.heap.FunFrames X.base X.stack := by
  rcases I.ok.stk with e | ⟨e, hf⟩
  · rw [e]; exact I.funs
  · rw [e]
    obtain ⟨m, hn, _⟩ := I.loc
    refine .cons (by rw [I.ok.kind]; decide) hf hn ?_ I.funs
    exact Heap.get?_none_of_le (Nat.le_trans I.ok.bsz I.ok.above)
theorem Inv.stkSub (I : Inv X pins σ H s) : ∀ b ∈ frs X.stack, b ∈ X.env.locals :: X.fs := fun b hb => by
  rcases I.ok.stk with e | ⟨e, hf⟩
  · rw [e] at hb; exact List.mem_cons_of_mem _ hb
  · rw [e] at hb
    unfold frs at hb
    rw [List.filterMap_cons, hf] at hb
    exact hb
theorem Inv.stkFree (I : Inv X pins σ H s) : ∀ b ∈ frs X.stack, H b = none := fun b hb => by
  rcases List.mem_cons.mp (I.stkSub b hb) with e | hb
  · rw [e]; exact I.free
  · obtain ⟨_, o, ho, _⟩ := I.ok.funs.mem hb
    exact I.base.free b o ho (I.ok.frf b hb) fun z => I.ok.exfs b z hb

/-- THE STEP: the untracked objects but the frame and the records at ch are kept (the callers' frames up to slots), the frame's map is kept, the new abstract heap is held -/
theorem Inv.step {g' : Array GenState} {t' : Nat} {d' : Drawn} {ch : List Addr} (I : Inv X pins σ H s)
    (hch : ∀ b ∈ ch, (b ∈ X.ex ∨ X.s₀.heap.objs.size ≤ b) ∧ b ≠ X.env.locals ∧ (∀ x c, X.env.cells.lookup x = some c → c ≠ b) ∧ ∀ p ∈ X.pn ++ pins, p.1 ≠ b)
    (keep : ∀ b o, b ≠ X.env.locals → b ∉ X.fs → b ∉ ch → s.heap.get? b = some o → H b = none → h'.get? b = some o)
    (slot : ∀ b o, b ≠ X.env.locals → b ∈ X.fs → b ∉ ch → s.heap.get? b = some o → H b = none → ∃ sl, h'.get? b = some { o with slots := sl }) (free : ∀ b o, b ∉ ch → s.heap.get? b = some o → H b = none → H' b = none)
    (there : ∀ b o, b ∉ ch → s.heap.get? b = some o → ∃ o', h'.get? b = some o')
    (tups : ∀ b xs, H b = some (.tup xs) → H' b = some (.tup xs)) (frzs : ∀ b o u, H b = some (.frz o u) → H' b = some (.frz o u)) (tbls : ∀ b ps, H b = some (.tbl ps) → ∃ more, H' b = some (.tbl (ps ++ more)))
    (ns : ∀ m, s.heap.Ns X.env.locals m → h'.Ns X.env.locals m) (hok : HOk X.prog X.w H' h') (hg : AllBare g') :
    Inv X pins σ H' { s with heap := h', gens := g', drawn := d', toks := t' } := by
  have neL : ∀ b o, X.s₀.heap.get? b = some o → b ≠ X.env.locals := fun b o e => Nat.ne_of_lt (Nat.lt_of_lt_of_le (Heap.lt_size e) I.ok.above)
  have neC : ∀ b o, X.s₀.heap.get? b = some o → b ∉ X.ex → b ∉ ch := fun b o e hx hb => by
    rcases (hch b hb).1 with z | z
    · exact hx z
    · exact absurd (Nat.lt_of_lt_of_le (Heap.lt_size e) z) (Nat.lt_irrefl _)
  have cellK : ∀ x c, X.env.cells.lookup x = some c → ∀ v, s.heap.IsCell c v → h'.IsCell c v := fun x c e v ⟨o, ho, hd⟩ => by
    have nch : c ∉ ch := fun z => (hch c z).2.2.1 x c e rfl
    by_cases hc : c ∈ X.fs
    · obtain ⟨sl, q⟩ := slot c o (I.cne x c e) hc nch ho (I.freeC x c e)
      exact ⟨_, q, hd⟩
    · exact ⟨o, keep c o (I.cne x c e) hc nch ho (I.freeC x c e), hd⟩
  refine ⟨I.ok, I.os, hg, ⟨fun b o e n hb hx => ?_, fun b o e n hb hx => ?_, fun b o e n hx => ?_, fun b o e hx => ?_, fun b xs e => tups b xs (I.base.tups b xs e), fun b o xs e => frzs b o xs (I.base.frzs b o xs e), fun b ps e => ?_⟩, ?_, fun x c e => ?_, ?_, fun x c e => ?_, fun p hp => ?_, hok, I.len⟩
  · exact keep b o (neL b o e) hb (neC b o e hx) (I.base.keep b o e n hb hx) (I.base.free b o e n hx)
  · obtain ⟨sl, e1⟩ := I.base.slot b o e n hb hx
    obtain ⟨sl', e2⟩ := slot b _ (neL b o e) hb (neC b o e hx) e1 (I.base.free b o e n hx)
    exact ⟨sl', e2⟩
  · obtain ⟨o', e1⟩ := I.base.there b o e hx
    exact free b o' (neC b o e hx) e1 (I.base.free b o e n hx)
  · obtain ⟨o', e1⟩ := I.base.there b o e hx
    exact there b o' (neC b o e hx) e1
  · obtain ⟨m1, e1⟩ := I.base.tbls b ps e
    obtain ⟨m2, e2⟩ := tbls b _ e1
    exact ⟨m1 ++ m2, by rw [e2, Array.append_assoc]⟩
  · obtain ⟨m, hn, hl⟩ := I.loc
    refine ⟨m, ns m hn, fun i x v e1 e2 e3 => ?_⟩
    obtain ⟨u, r, l⟩ := hl i x v e1 e2 e3
    refine ⟨u, r, ?_⟩
    rcases l with l | ⟨k, c, e, z⟩
    · exact .inl l
    · exact .inr ⟨k, c, e, cellK x c e _ z⟩
  · obtain ⟨v, z⟩ := I.cell x c e
    exact ⟨v, cellK x c e v z⟩
  · obtain ⟨m, ⟨o, _, _, ho, _⟩, _⟩ := I.loc
    exact free _ o (fun z => (hch _ z).2.1 rfl) ho I.free
  · obtain ⟨v, o, ho, hd⟩ := I.cell x c e
    exact free c o (fun z => (hch c z).2.2.1 x c e rfl) ho (I.freeC x c e)
  · obtain ⟨e, n, ne, nf, d⟩ := I.pin p hp
    have nch : p.1 ∉ ch := fun z => (hch p.1 z).2.2.2 p hp rfl
    exact ⟨keep p.1 p.2 ne nf nch e n, free p.1 p.2 nch e n, ne, nf, d⟩
/-- .. where the frame's own object is kept too -/
theorem Inv.un {t' : Nat} (I : Inv X pins σ H s) (u : Un X.fs [] H H' s.heap h') (hok : HOk X.prog X.w H' h') : Inv X pins σ H' { s with heap := h', toks := t' } := by
  obtain ⟨m, ⟨o, es, ep, ho, r⟩, _⟩ := id I.loc
  obtain ⟨sl, hL⟩ := u.any ho I.free (by simp)
  exact I.step (g' := s.gens) (d' := s.drawn) (ch := []) (fun _ z => nomatch z) (fun b o _ hb _ e n => u.keep b o e n hb (by simp)) (fun b o _ hb _ e n => u.slot b o e n hb (by simp)) (fun b o _ e n => u.free b o e n (by simp)) (fun b o _ e => u.there b o e (by simp)) u.tups u.frzs u.tbls (fun m' hm => by
    obtain ⟨o', es', ep', ho', r'⟩ := hm
    rw [ho] at ho'; cases ho'
    exact ⟨_, es', ep', hL, r'⟩) hok I.bare
/-- behind a call (or a comprehension's block): the slots of this frame may have changed too, the records at ch may have turned -/
theorem Inv.call {g' : Array GenState} {t' : Nat} {d' : Drawn} {ch : List Addr} (I : Inv X pins σ H s) (u : Un (frs X.stack) ch H H' s.heap h') (hok : HOk X.prog X.w H' h') (hg : AllBare g')
    (hch : ∀ b ∈ ch, (b ∈ X.ex ∨ X.s₀.heap.objs.size ≤ b) ∧ b ≠ X.env.locals ∧ (∀ x c, X.env.cells.lookup x = some c → c ≠ b) ∧ ∀ p ∈ X.pn ++ pins, p.1 ≠ b) :
    Inv X pins σ H' { s with heap := h', gens := g', drawn := d', toks := t' } := by
  obtain ⟨m, ⟨o, es, ep, ho, r⟩, _⟩ := id I.loc
  obtain ⟨sl, hL⟩ := u.any ho I.free fun z => (hch _ z).2.1 rfl
  exact I.step (ch := ch) hch (fun b o hL hb hc e n => u.keep b o e n (fun z => (List.mem_cons.mp (I.stkSub b z)).elim hL hb) hc) (fun b o _ _ hc e n => u.any e n hc) (fun b o hc e n => u.free b o e n hc) (fun b o hc e => u.there b o e hc) u.tups u.frzs u.tbls (fun m' hm => by
    obtain ⟨o', es', ep', ho', r'⟩ := hm
    rw [ho] at ho'; cases ho'
    exact ⟨_, es', ep', hL, r'⟩) hok hg
/-- an untracked record of ours (an iterator) has turned -/
theorem Inv.turned {t' : Nat} {it : Addr} (I : Inv X pins σ H s) (k : ∀ b o, b ≠ it → s.heap.get? b = some o → h'.get? b = some o) (hn : H it = none) (hL : it ≠ X.env.locals)
    (h1 : it ∈ X.ex ∨ X.s₀.heap.objs.size ≤ it) (h2 : ∀ x c, X.env.cells.lookup x = some c → c ≠ it) (h3 : ∀ p ∈ X.pn ++ pins, p.1 ≠ it) : Inv X pins σ H { s with heap := h', toks := t' } := by
  have nit : ∀ b u, H b = some u → b ≠ it := fun b u e z => by rw [z, hn] at e; cases e
  refine I.step (g' := s.gens) (d' := s.drawn) (ch := [it]) (fun b hb => ?_) (fun b o _ _ hc e _ => k b o (fun z => hc (by simp [z])) e) (fun b o _ _ hc e _ => ⟨o.slots, k b o (fun z => hc (by simp [z])) e⟩) (fun _ _ _ _ n => n)
    (fun b o hc e => ⟨o, k b o (fun z => hc (by simp [z])) e⟩) (fun _ _ e => e) (fun _ _ _ e => e) (fun b ps e => ⟨#[], by rw [e]; simp⟩) (fun m hm => ?_) (fun b u e => ?_) I.bare
  · have e : b = it := by simpa using hb
    subst e
    exact ⟨h1, hL, h2, h3⟩
  · obtain ⟨o, es, ep, ho, r⟩ := hm
    exact ⟨o, es, ep, k _ o (Ne.symm hL) ho, r⟩
  · refine (I.hok b u e).stay (fun c v hc q => k c v ?_ q) (fun _ q => q) fun _ _ q => q
    rcases hc with z | z
    · rw [z]; exact nit b u e
    · exact nit c _ z
theorem Inv.tok (I : Inv X pins σ H s) (t : Nat) : Inv X pins σ H { s with toks := t } := I.un (h' := s.heap) (t' := t) Un.refl I.hok
/-- all objects kept -/
theorem Inv.kept {t' : Nat} (I : Inv X pins σ H s) (k : ∀ b u, s.heap.get? b = some u → h'.get? b = some u) : Inv X pins σ H { s with heap := h', toks := t' } := I.un (Un.kept k) (I.hok.kept k)
/-- a new object laid and tracked -/
theorem Inv.laid {a : Addr} {o : HO} {t' : Nat} (I : Inv X pins σ H s) (k : ∀ b u, s.heap.get? b = some u → h'.get? b = some u) (hp : s.heap.objs.size ≤ a) (new : ObjOk X.prog X.w (upd H a o) h' a o) :
    Inv X pins σ (upd H a o) { s with heap := h', toks := t' } := I.un (Un.laid k hp (I.hok.fresh hp)) (I.hok.laid k hp new)
/-- an object written -/
theorem Inv.write {x e : Addr} {o : HO} {t' : Nat} (I : Inv X pins σ H s) (mu : Mut (H x)) (he : e = x ∨ H e = some (.own x)) (k : ∀ b u, b ≠ e → s.heap.get? b = some u → h'.get? b = some u) (heo : ∃ u, h'.get? e = some u)
    (new : ObjOk X.prog X.w (upd H x o) h' x o) : Inv X pins σ (upd H x o) { s with heap := h', toks := t' } := I.un (Un.write mu he k heo) (I.hok.write mu he k heo new)
theorem Inv.pins_of {pins' : List (Addr × Obj)} (I : Inv X pins σ H s) (h : ∀ p ∈ pins', s.heap.get? p.1 = some p.2 ∧ H p.1 = none ∧ p.1 ≠ X.env.locals ∧ p.1 ∉ X.fs ∧ ∀ v, p.2.data ≠ .cell v) : Inv X pins' σ H s :=
  ⟨I.ok, I.os, I.bare, I.base, I.loc, I.cell, I.free, I.freeC, fun p hp => (List.mem_append.mp hp).elim (fun z => I.pin p (List.mem_append_left _ z)) (h p), I.hok, I.len⟩

theorem nodup_ix {N : List Str} (hN : N.Nodup) {i j : Nat} {x : Str} (a : N[i]? = some x) (b : N[j]? = some x) : i = j := by
  obtain ⟨h1, e1⟩ := List.getElem?_eq_some_iff.mp a
  obtain ⟨h2, e2⟩ := List.getElem?_eq_some_iff.mp b
  exact (List.getElem_inj hN).mp (e1.trans e2.symm)

/-- a name is stored; what changed -/
theorem store_ok2 {M : Model} {A : Around} {E : Value → Shared → Prop} {i : Nat} {x : Str} {v : V} {u : Value} {Q : Unit → Shared → Prop} (I : Inv X pins σ H s) (hN : X.N.Nodup) (hi : X.N[i]? = some x) (hx : Loc X.env.scope x) (r : RelV v u)
    (h : ∀ s', Inv X pins (σ.set i (some v)) H s' → (∃ a, Heap.SameBut a s.heap s'.heap ∧ (a = X.env.locals ∨ X.env.cells.lookup x = some a)) → Q () s') (hf : X.fn x = true ∨ X.env.scope.names.lookup x = some .local := by first | exact .inl rfl | exact .inr rfl | assumption) : wpAny M A (storeName X.env x u) Q E s := by
  obtain ⟨m, hn, hl⟩ := id I.loc
  have hcls : (X.env.scope.kind == .class || (X.env.scope.kind == .module && X.env.locals != X.env.globals)) = false := by rw [I.ok.kind]; rfl
  have hiσ : i < σ.length := by rw [I.len]; exact (List.getElem?_eq_some_iff.mp hi).1
  have cne := I.cne
  have tracked : ∀ {a : Addr} {h' : Heap}, (∃ o, s.heap.get? a = some o ∧ H a = none) → Heap.SameBut a s.heap h' → HOk X.prog X.w H h' := fun {a h'} ha hs b ob e => by
    obtain ⟨_, _, hfree⟩ := ha
    refine (I.hok b ob e).stay (fun c w' hc q => (hs.2 c ?_).trans q) (fun _ q => q) fun _ _ q => q
    rintro rfl
    rcases hc with rfl | hc
    · rw [hfree] at e; cases e
    · rw [hfree] at hc; cases hc
  rcases hx with hk | hk
  · refine wpAny_storeName_local hk hn (fun h' hn' hs => ?_) hcls
    obtain ⟨oL, _, _, hoL, _⟩ := id hn
    refine h _ ⟨I.ok, I.os, I.bare, ⟨fun b o e n hb hx => ?_, fun b o e n hb hx => ?_, I.base.free, fun b o e hx => ?_, I.base.tups, I.base.frzs, I.base.tbls⟩, ⟨_, hn', fun j y v' e1 e2 e3 => ?_⟩, fun y c e => ?_, I.free, I.freeC, fun p hp => ?_, tracked ⟨oL, hoL, I.free⟩ hs, by simpa using I.len⟩ ⟨_, hs, .inl rfl⟩
    · exact (hs.2 b (Nat.ne_of_lt (Nat.lt_of_lt_of_le (Heap.lt_size e) I.ok.above))).trans (I.base.keep b o e n hb hx)
    · obtain ⟨sl, e1⟩ := I.base.slot b o e n hb hx
      exact ⟨sl, (hs.2 b (Nat.ne_of_lt (Nat.lt_of_lt_of_le (Heap.lt_size e) I.ok.above))).trans e1⟩
    · obtain ⟨o', e1⟩ := I.base.there b o e hx
      exact ⟨o', (hs.2 b (Nat.ne_of_lt (Nat.lt_of_lt_of_le (Heap.lt_size e) I.ok.above))).trans e1⟩
    · by_cases hj : j = i
      · subst hj
        rw [hi] at e1; cases e1
        rw [List.getElem?_set_self hiσ] at e2
        cases e2
        exact ⟨u, r, .inl ⟨hk, by simp⟩⟩
      · rw [List.getElem?_set_ne (Ne.symm hj)] at e2
        obtain ⟨u', r', q⟩ := hl j y v' e1 e2 e3
        refine ⟨u', r', ?_⟩
        rcases q with ⟨k, e⟩ | ⟨k, c, e, z⟩
        · refine .inl ⟨k, ?_⟩
          have : y ≠ x := fun e => hj (nodup_ix hN e1 (e ▸ hi))
          simp [this, e]
        · exact .inr ⟨k, c, e, z.sameBut hs (cne y c e)⟩
    · obtain ⟨w', z⟩ := I.cell y c e
      exact ⟨w', z.sameBut hs (cne y c e)⟩
    · obtain ⟨e, n, ne, nf, d⟩ := I.pin p hp
      exact ⟨(hs.2 p.1 ne).trans e, n, ne, nf, d⟩
  · have hfn : X.fn x = true := by
      rcases hf with z | z
      · exact z
      · rw [z] at hk; cases hk
    obtain ⟨c, hc⟩ := I.ok.has x (.inl hk)
    obtain ⟨w', z⟩ := I.cell x c hc
    refine wpAny_storeName_cell I.ok.kind hk hc z (fun h' hc' hs => ?_)
    obtain ⟨oc, hoc, hocd⟩ := id z
    refine h { s with heap := h' } ⟨I.ok, I.os, I.bare, ⟨fun b o e n hb hx => ?_, fun b o e n hb hx => ?_, I.base.free, fun b o e hx => ?_, I.base.tups, I.base.frzs, I.base.tbls⟩, ⟨m, hn.sameBut hs (Ne.symm (cne x c hc)), fun j y v' e1 e2 e3 => ?_⟩, fun y c' e => ?_, I.free, I.freeC, fun p hp => ?_, tracked ⟨oc, hoc, I.freeC x c hc⟩ hs, by simpa using I.len⟩ ⟨c, hs, .inr hc⟩
    · exact (hs.2 b (Nat.ne_of_lt (Nat.lt_of_lt_of_le (Heap.lt_size e) (I.ok.cab x c hfn hc)))).trans (I.base.keep b o e n hb hx)
    · obtain ⟨sl, e1⟩ := I.base.slot b o e n hb hx
      exact ⟨sl, (hs.2 b (Nat.ne_of_lt (Nat.lt_of_lt_of_le (Heap.lt_size e) (I.ok.cab x c hfn hc)))).trans e1⟩
    · obtain ⟨o', e1⟩ := I.base.there b o e hx
      exact ⟨o', (hs.2 b (Nat.ne_of_lt (Nat.lt_of_lt_of_le (Heap.lt_size e) (I.ok.cab x c hfn hc)))).trans e1⟩
    · by_cases hj : j = i
      · subst hj
        rw [hi] at e1; cases e1
        rw [List.getElem?_set_self hiσ] at e2
        cases e2
        exact ⟨u, r, .inr ⟨.inl hk, c, hc, hc'⟩⟩
      · rw [List.getElem?_set_ne (Ne.symm hj)] at e2
        obtain ⟨u', r', q⟩ := hl j y v' e1 e2 e3
        refine ⟨u', r', ?_⟩
        rcases q with q | ⟨k, c', e, z'⟩
        · exact .inl q
        · refine .inr ⟨k, c', e, z'.sameBut hs ?_⟩
          rintro rfl
          exact hj (nodup_ix hN e1 (I.ok.inj _ _ _ e hc ▸ hi))
    · by_cases hcc : c' = c
      · subst hcc; exact ⟨_, hc'⟩
      · obtain ⟨w2, z2⟩ := I.cell y c' e
        exact ⟨w2, z2.sameBut hs hcc⟩
    · obtain ⟨e, n, ne, nf, d⟩ := I.pin p hp
      refine ⟨(hs.2 p.1 ?_).trans e, n, ne, nf, d⟩
      intro q
      rw [q, hoc] at e
      have q' : oc = p.2 := Option.some.inj e
      exact d w' (by rw [← q']; exact hocd)
theorem store_ok {M : Model} {A : Around} {E : Value → Shared → Prop} {i : Nat} {x : Str} {v : V} {u : Value} {Q : Unit → Shared → Prop} (I : Inv X pins σ H s) (hN : X.N.Nodup) (hi : X.N[i]? = some x) (hx : Loc X.env.scope x) (r : RelV v u)
    (h : ∀ s', Inv X pins (σ.set i (some v)) H s' → Q () s') (hf : X.fn x = true ∨ X.env.scope.names.lookup x = some .local := by first | exact .inl rfl | exact .inr rfl | assumption) : wpAny M A (storeName X.env x u) Q E s :=
  store_ok2 I hN hi hx r (fun s' I' _ => h s' I') hf
/-- behind a call or a block, the state as it is -/
theorem Inv.call' {s' : Shared} {ch : List Addr} (I : Inv X pins σ H s) (ho : s'.os = s.os) (u : Un (frs X.stack) ch H H' s.heap s'.heap) (hok : HOk X.prog X.w H' s'.heap) (hg : AllBare s'.gens)
    (hch : ∀ b ∈ ch, (b ∈ X.ex ∨ X.s₀.heap.objs.size ≤ b) ∧ b ≠ X.env.locals ∧ (∀ x c, X.env.cells.lookup x = some c → c ≠ b) ∧ ∀ p ∈ X.pn ++ pins, p.1 ≠ b) : Inv X pins σ H' s' := by
  obtain ⟨h', g', d', t', o'⟩ := s'
  have e : o' = s.os := ho
  subst e
  exact I.call (g' := g') (t' := t') (d' := d') u hok hg hch
end

/-! ### the judgements -/
/-- an exception: its class, its own dict's address (where it has one), the abstract heap behind it -/
abbrev XK := Value → Option Addr → Hp → Prop
abbrev St := List (Option V)
abbrev VK := V → Hp → Prop
/-- an expression's reading; a test's; an argument list's -/
abbrev TE := St → Hp → VK → Prop
abbrev TT := St → Hp → (Bool → Hp → Prop) → Prop
abbrev TA := St → Hp → (List V → Hp → Prop) → Prop
/-- what is wanted behind a statement -/
structure Ends where
  nx : St → Hp → Prop
  rt : VK
  bk : St → Hp → Prop := fun _ _ => False
  ct : St → Hp → Prop := fun _ _ => False
abbrev TS := Ends → St → Hp → Prop

def EP (X : Cx) (pins : List (Addr × Obj)) (σ : St) (Q : VK) (u : Value) (s' : Shared) : Prop := ∃ v H', Inv X pins σ H' s' ∧ RelV v u ∧ Q v H'
def TP (X : Cx) (pins : List (Addr × Obj)) (σ : St) (Q : Bool → Hp → Prop) (b : Bool) (s' : Shared) : Prop := ∃ H', Inv X pins σ H' s' ∧ Q b H'
def AP (X : Cx) (pins : List (Addr × Obj)) (σ : St) (Q : List V → Hp → Prop) (us : List Value) (s' : Shared) : Prop := ∃ vs H', Inv X pins σ H' s' ∧ Vals vs us ∧ Q vs H'
def SP (X : Cx) (pins : List (Addr × Obj)) (D : Ends) (f : Flow) (s' : Shared) : Prop :=
  match f with
  | .next => ∃ σ' H', Inv X pins σ' H' s' ∧ D.nx σ' H'
  | .brk => ∃ σ' H', Inv X pins σ' H' s' ∧ D.bk σ' H'
  | .cont => ∃ σ' H', Inv X pins σ' H' s' ∧ D.ct σ' H'
  | .ret u => ∃ v σ' H', Inv X pins σ' H' s' ∧ RelV v u ∧ D.rt v H'

def PE (X : Cx) (e : Expr) (t : TE) : Prop :=
  ∀ (pins : List (Addr × Obj)) (s : Shared) (σ : St) (H : Hp) (Q : VK), Inv X pins σ H s → t σ H Q → wpAny (model X.prog X.w) X.A (eval e X.env) (EP X pins σ Q) X.xe s
def PT (X : Cx) (e : Expr) (t : TT) : Prop :=
  ∀ (pins : List (Addr × Obj)) (s : Shared) (σ : St) (H : Hp) (Q : Bool → Hp → Prop), Inv X pins σ H s → t σ H Q → wpAny (model X.prog X.w) X.A (isTrue e X.env (eval e X.env)) (TP X pins σ Q) X.xe s
/-- a test whatever its 'whole' is (and, or) -/
def PW (X : Cx) (e : Expr) (t : TT) : Prop :=
  ∀ (whole : Sem Value) (pins : List (Addr × Obj)) (s : Shared) (σ : St) (H : Hp) (Q : Bool → Hp → Prop), Inv X pins σ H s → t σ H Q → wpAny (model X.prog X.w) X.A (isTrue e X.env whole) (TP X pins σ Q) X.xe s
theorem PW.pt {X : Cx} {e : Expr} {t : TT} (h : PW X e t) : PT X e t := h _
/-- an argument list (no star), from the left -/
def PA (X : Cx) (es : List Expr) (t : TA) : Prop :=
  ∀ (pos : Pos) (pins : List (Addr × Obj)) (s : Shared) (σ : St) (H : Hp) (Q : List V → Hp → Prop), Inv X pins σ H s → t σ H Q → wpAny (model X.prog X.w) X.A (spliced (backTo pos (starEach es X.env))) (AP X pins σ Q) X.xe s
def PS (X : Cx) (st : Stmt) (t : TS) : Prop :=
  ∀ (pins : List (Addr × Obj)) (s : Shared) (σ : St) (H : Hp) (D : Ends), Inv X pins σ H s → t D σ H → wpAny (model X.prog X.w) X.A (exec st X.env) (SP X pins D) X.xe s
def PSs (X : Cx) (st : List Stmt) (t : TS) : Prop :=
  ∀ (pins : List (Addr × Obj)) (s : Shared) (σ : St) (H : Hp) (D : Ends), Inv X pins σ H s → t D σ H → wpAny (model X.prog X.w) X.A (execs st X.env) (SP X pins D) X.xe s
/-- weaken the end -/
theorem thn {α : Type} {t : Sem α} {Q Q' : α → Shared → Prop} {M : Model} {A : Around} {E : Value → Shared → Prop} {s : Shared} (h : wpAny M A t Q E s) (hQ : ∀ a s, Q a s → Q' a s) : wpAny M A t Q' E s := wpAny_mono h hQ fun _ _ x => x
end L2

namespace L2
open PySem PySem.Spec PyProof.Rows
section
variable {X : Cx}

/-! ### names and constants -/
def tVar (i : Nat) : TE := fun σ H Q => ∃ v, σ[i]? = some (some v) ∧ Q v H
def tC (v : V) : TE := fun _ H Q => Q v H
theorem pe_var {i : Nat} {x : Str} {pos : Pos} (hN : X.N[i]? = some x) (hv : Vis X.env.scope x) (hd : (x == ("__debug__" : Str)) = false := by decide) (hcd : (x == ("__classdict__" : Str)) = false := by decide) : PE X (.Name x pos) (tVar i) := by
  intro pins s σ H Q I h
  obtain ⟨v, e, h⟩ := h
  obtain ⟨m, hn, hl⟩ := I.loc
  obtain ⟨u, r, l⟩ := hl i x v hN e hv
  have fin : EP X pins σ Q u s := ⟨v, H, I, r, h⟩
  rcases l with ⟨hk, hm⟩ | ⟨hk, c, hc, hcell⟩
  · exact wpAny_Name (wpAny_loadName_local I.ok.kind hk hn hm fin) hd
  · rcases hk with hk | hk
    · exact wpAny_Name (wpAny_loadName_cell I.ok.kind hk hc hcell fin) hd
    · exact wpAny_Name (wpAny_loadName_free I.ok.kind hk hc hcell fin hcd) hd
theorem pe_int {i j pos} : PE X (.Constant (.int i) j pos) (tC (.int i)) := fun _ _ _ H _ I h => wpAny_Constant_int ⟨.int i, H, I.tok _, ⟨_, rfl⟩, h⟩
theorem pe_bl {b j pos} : PE X (.Constant (.bool b) j pos) (tC (.bl b)) := fun _ _ _ H _ I h => Constant_bool ⟨.bl b, H, I, rfl, h⟩
theorem pe_non {j pos} : PE X (.Constant .none j pos) (tC .non) := fun _ _ _ H _ I h => Constant_none ⟨.non, H, I, rfl, h⟩
theorem pe_str {x j pos} : PE X (.Constant (.str x) j pos) (tC (.str x)) := fun _ _ _ H _ I h => Calls.Constant_str ⟨.str x, H, I.tok _, ⟨_, rfl⟩, h⟩

/-- a global name of the def -/
def Gl (X : Cx) (x : Str) : Prop := X.env.kindOf x = some .globalImplicit
theorem ld_glob {E : Value → Shared → Prop} {pins : List (Addr × Obj)} {s : Shared} {σ : St} {H : Hp} {x : Str} {u : Value} {pos : Pos} {Q : Value → Shared → Prop} (I : Inv X pins σ H s) (hg : Gl X x) (hm : X.mg x = some u) (h : Q u s)
    (hd : (x == ("__debug__" : Str)) = false := by decide) : wpAny (model X.prog X.w) X.A (eval (.Name x pos) X.env) Q E s :=
  Calls.Name_function_global I.ok.kind hg (Calls.loadGlobal_global (by rw [I.ok.glob]; exact I.mod.glob.keeps I.bk) hm h) hd
theorem ld_blt {E : Value → Shared → Prop} {pins : List (Addr × Obj)} {s : Shared} {σ : St} {H : Hp} {x : Str} {u : Value} {pos : Pos} {Q : Value → Shared → Prop} (I : Inv X pins σ H s) (hg : Gl X x) (hm : X.mg x = none) (hv : bootBuiltins x = some u) (h : Q u s)
    (hn : x ≠ "__name__" := by decide) (hd : (x == ("__debug__" : Str)) = false := by decide) : wpAny (model X.prog X.w) X.A (eval (.Name x pos) X.env) Q E s := by
  obtain ⟨mb, h1, h2⟩ := I.mod.blt
  exact Calls.Name_function_global I.ok.kind hg (Calls.loadGlobal_builtin (by rw [I.ok.glob]; exact I.mod.glob.keeps I.bk) hm (by rw [I.ok.blt]; exact h1.keeps I.bk) ((h2 x hn).trans hv) h) hd
theorem pe_bltn {x : Str} {v : V} {u : Value} {pos : Pos} (hg : Gl X x) (hm : X.mg x = none) (hv : bootBuiltins x = some u) (r : RelV v u) (hn : x ≠ "__name__" := by decide) (hd : (x == ("__debug__" : Str)) = false := by decide) : PE X (.Name x pos) (tC v) :=
  fun _ _ _ H _ I h => ld_blt I hg hm hv ⟨v, H, I, r, h⟩ hn hd

/-! ### arithmetic -/
variable {a b : Expr} {ta tb : TE} {pos : Pos}

/-! ### comparisons -/
def PC (X : Cx) (op : CmpOp) (a b : Expr) (t : TE) : Prop :=
  ∀ (pins : List (Addr × Obj)) (s : Shared) (σ : St) (H : Hp) (Q : VK), Inv X pins σ H s → t σ H Q →
    wpAny (model X.prog X.w) X.A (eval a X.env) (fun v s₁ => wpAny (model X.prog X.w) X.A (eval b X.env) (fun u s₂ => wpAny (model X.prog X.w) X.A (compareOp op v u) (EP X pins σ Q) X.xe s₂) X.xe s₁) X.xe s
/-- a comparison as a value, as a test -/
def tB (t : TE) : TT := fun σ H Q => t σ H fun x H1 => ∃ c, x = .bl c ∧ Q c H1
theorem pt_cmp {op : CmpOp} {t : TE} (h : PC X op a b t) (h1 : behindInMarks op b = false := by first | exact nobehind _ (by decide) (by decide) | rfl) : PT X (.Compare a [op] [b] pos) (tB t) := by
  intro pins s σ H Q I hw
  refine wpAny_isTrue_Compare1 (thn (h pins s σ H _ I hw) fun v s1 h1 => thn h1 fun u s2 h2 => thn h2 fun c s3 ⟨x, H1, I1, r1, q1⟩ => ?_) h1
  obtain ⟨d, rfl, q⟩ := q1
  cases r1
  exact wpAny_truthy_bool ⟨H1, I1, q⟩
/-- an expression whose value is a bool, as a test -/
theorem pt_val {e : Expr} {t : TE} (h : PE X e t) (he : ∀ whole, isTrue e X.env whole = (do let v ← whole; standAt e.pos; holding [v] (truthy v)) := by intro _; rfl) : PT X e (tB t) := by
  intro pins s σ H Q I hw
  refine isTrue_plain (thn (h pins s σ H _ I hw) fun v s1 ⟨x, H1, I1, r1, q1⟩ => ?_) (he _)
  obtain ⟨d, rfl, q⟩ := q1
  cases r1
  exact wpAny_truthy_bool ⟨H1, I1, q⟩

/-! ### and, or, not -/
variable {tA tB' : TT} {rest : List Expr}
def tAnd (t u : TT) : TT := fun σ H Q => t σ H fun c H1 => if c = true then u σ H1 Q else Q false H1
def tOr (t u : TT) : TT := fun σ H Q => t σ H fun c H1 => if c = true then Q true H1 else u σ H1 Q
def tNot (t : TT) : TT := fun σ H Q => t σ H fun c H1 => Q (!c) H1
theorem pw_and1 (ha : PT X a tA) : PW X (.BoolOp .And [a] pos) tA := by
  intro wh pins s σ H Q I h
  refine isTrue_and (thn (ha pins s σ H Q I h) fun c s1 e => ?_)
  cases c with
  | true => exact isTrue_and_nil e
  | false => exact e
theorem pw_or1 (ha : PT X a tA) : PW X (.BoolOp .Or [a] pos) tA := by
  intro wh pins s σ H Q I h
  refine isTrue_or (thn (ha pins s σ H Q I h) fun c s1 e => ?_)
  cases c with
  | false => exact isTrue_or_nil e
  | true => exact e
theorem pw_and (ha : PT X a tA) (hb : PW X (.BoolOp .And (b :: rest) pos) tB') : PW X (.BoolOp .And (a :: b :: rest) pos) (tAnd tA tB') := by
  intro wh pins s σ H Q I h
  refine isTrue_and (thn (ha pins s σ H _ I h) fun c s1 ⟨H1, I1, q1⟩ => ?_)
  cases c with
  | true => exact hb wh pins s1 σ H1 Q I1 q1
  | false => exact ⟨H1, I1, q1⟩
theorem pw_or (ha : PT X a tA) (hb : PW X (.BoolOp .Or (b :: rest) pos) tB') : PW X (.BoolOp .Or (a :: b :: rest) pos) (tOr tA tB') := by
  intro wh pins s σ H Q I h
  refine isTrue_or (thn (ha pins s σ H _ I h) fun c s1 ⟨H1, I1, q1⟩ => ?_)
  cases c with
  | true => exact ⟨H1, I1, q1⟩
  | false => exact hb wh pins s1 σ H1 Q I1 q1
theorem pt_not (ha : PT X a tA) : PT X (.UnaryOp .Not a pos) (tNot tA) := by
  intro pins s σ H Q I h
  exact isTrue_not (ha pins s σ H (fun c H1 => Q (!c) H1) I h)
/-- .. as values (bools) -/
def tAndV (ta tb : TE) : TE := fun σ H Q => ta σ H fun x H1 => ∃ c, x = .bl c ∧ if c = true then tb σ H1 Q else Q (.bl false) H1
theorem pe_one {op} {t : TE} (h : PE X a t) : PE X (.BoolOp op [a] pos) t := fun pins s σ H Q I hw => BoolOp_one (h pins s σ H Q I hw)
theorem pe_and (ha : PE X a ta) (hb : PE X (.BoolOp .And (b :: rest) pos) tb) : PE X (.BoolOp .And (a :: b :: rest) pos) (tAndV ta tb) := by
  intro pins s σ H Q I h
  refine BoolOp_and (thn (ha pins s σ H _ I h) fun v s1 ⟨x, H1, I1, r1, q1⟩ => ?_)
  obtain ⟨c, rfl, q1⟩ := q1
  cases r1
  refine wpAny_truthy_bool ?_
  cases c with
  | true => exact hb pins s1 σ H1 Q I1 q1
  | false => exact ⟨.bl false, H1, I1, rfl, q1⟩
end
end L2

namespace L2
open PySem PySem.Spec PyProof.Rows

/-! ### a list, a tuple that is read: tracked, frozen, or an object of the module -/
def SqL (K : PySem.W.Frag) (H : Hp) (a : Addr) (xs : List V) : Prop :=
  Rd H a (.lst xs) ∨
    ∃ (o : Obj) (its : Array Value) (n : Nat), K.lookup a = some o ∧ o.cls = .type "list" ∧ o.dict = none ∧ o.data = .seq its n ∧ its.size ≤ sizeLine ∧ Vals xs its.toList
def SqT (K : PySem.W.Frag) (H : Hp) (a : Addr) (xs : List V) : Prop :=
  Rd H a (.tup xs) ∨
    ∃ (o : Obj) (its : Array Value) (n : Nat), K.lookup a = some o ∧ o.cls = .type "tuple" ∧ o.data = .seq its n ∧ its.size ≤ sizeLine ∧ Vals xs its.toList
def absV : Value → Option V
  | .none => some .non
  | .bool b => some (.bl b)
  | .int i _ => some (.int i)
  | .str x _ => some (.str x)
  | .bytes b _ => some (.byt b)
  | .float b _ => some (.flt b)
  | .ref a => some (.ref a)
  | .type n => some (.ty n)
  | _ => none
theorem RelV.abs {x : V} {u : Value} (r : RelV x u) : absV u = some x := by
  cases x with
  | non => cases r; rfl
  | bl _ => cases r; rfl
  | int _ => obtain ⟨t, rfl⟩ := r; rfl
  | str _ => obtain ⟨t, rfl⟩ := r; rfl
  | byt _ => obtain ⟨t, rfl⟩ := r; rfl
  | flt _ => obtain ⟨t, rfl⟩ := r; rfl
  | ref _ => cases r; rfl
  | ty _ => cases r; rfl
theorem RelV.inj {x y : V} {u : Value} (r : RelV x u) (q : RelV y u) : x = y := Option.some.inj (r.abs.symm.trans q.abs)
theorem Vals.inj : ∀ {xs ys : List V} {us : List Value}, Vals xs us → Vals ys us → xs = ys
  | _, _, _, .nil, .nil => rfl
  | _, _, _, .cons r t, .cons r' t' => by rw [r.inj r', Vals.inj t t']
section
variable {X : Cx} {pins : List (Addr × Obj)} {σ : St} {H : Hp} {s : Shared} {a : Addr} {xs ys : List V}
theorem SqL.of {K : PySem.W.Frag} (h : H a = some (.lst xs)) : SqL K H a xs := .inl (.inl h)
theorem SqT.of {K : PySem.W.Frag} (h : H a = some (.tup xs)) : SqT K H a xs := .inl (.inl h)
theorem Inv.list (I : Inv X pins σ H s) (h : SqL X.K H a xs) : ∃ its : List Value, Vals xs its ∧ PlainL s.heap a its.toArray ∧ xs.length ≤ sizeLine := by
  rcases h with h | ⟨o, its, n, hk, hc, hd, hs, hz, r⟩
  · obtain ⟨z, its, n, r, e⟩ := h.ok I.hok
    exact ⟨its, r, ⟨_, n, e, rfl, rfl, rfl⟩, z⟩
  · refine ⟨its.toList, r, ⟨o, n, I.kIn a o hk, hc, hd, by simpa using hs⟩, ?_⟩
    have e := r.length
    simp only [Array.length_toList] at e
    omega
theorem Inv.tuple (I : Inv X pins σ H s) (h : SqT X.K H a xs) : ∃ its : List Value, Vals xs its ∧ IsTup s.heap a its.toArray ∧ xs.length ≤ sizeLine := by
  rcases h with h | ⟨o, its, n, hk, hc, hs, hz, r⟩
  · obtain ⟨z, its, r, p⟩ := h.ok I.hok
    exact ⟨its, r, p, z⟩
  · refine ⟨its.toList, r, ⟨o, I.kIn a o hk, hc, n, by simpa using hs⟩, ?_⟩
    have e := r.length
    simp only [Array.length_toList] at e
    omega
theorem Inv.list_inj (I : Inv X pins σ H s) (h : SqL X.K H a xs) (h' : SqL X.K H a ys) : xs = ys := by
  obtain ⟨its, r, ⟨o, n, e, _, _, d⟩, _⟩ := I.list h
  obtain ⟨its', r', ⟨o', n', e', _, _, d'⟩, _⟩ := I.list h'
  rw [e] at e'; cases e'
  rw [d] at d'
  injection d' with d1 _
  have : its = its' := by simpa using congrArg Array.toList d1
  subst this
  exact r.inj r'
theorem Inv.tuple_inj (I : Inv X pins σ H s) (h : SqT X.K H a xs) (h' : SqT X.K H a ys) : xs = ys := by
  obtain ⟨its, r, ⟨o, e, _, n, d⟩, _⟩ := I.tuple h
  obtain ⟨its', r', ⟨o', e', _, n', d'⟩, _⟩ := I.tuple h'
  rw [e] at e'; cases e'
  rw [d] at d'
  injection d' with d1 _
  have : its = its' := by simpa using congrArg Array.toList d1
  subst this
  exact r.inj r'
end

/-! ### another wish about exceptions -/
abbrev Cx.wish (X : Cx) (E : Value → Shared → Prop) : Cx := { X with xe := E }
/-- no exception leaves -/
abbrev Cx.nox (X : Cx) : Cx := X.wish fun _ _ => False
theorem Cx.Ok.wish {X : Cx} (ok : X.Ok) (E : Value → Shared → Prop) : (X.wish E).Ok :=
  ⟨ok.mod, ok.kind, ok.glob, ok.blt, ok.above, ok.inj, ok.has, ok.cab, ok.hd, ok.frames, ok.stk, ok.exf, ok.bs, ok.bsz, ok.noex, ok.exfs, ok.funs, ok.frf⟩
theorem Cx.Ok.unwish {X : Cx} {E : Value → Shared → Prop} (ok : (X.wish E).Ok) : X.Ok :=
  ⟨ok.mod, ok.kind, ok.glob, ok.blt, ok.above, ok.inj, ok.has, ok.cab, ok.hd, ok.frames, ok.stk, ok.exf, ok.bs, ok.bsz, ok.noex, ok.exfs, ok.funs, ok.frf⟩
section
variable {X : Cx} {pins : List (Addr × Obj)} {σ : St} {H : Hp} {s : Shared} {E : Value → Shared → Prop}
theorem Inv.wish (I : Inv X pins σ H s) (E : Value → Shared → Prop) : Inv (X.wish E) pins σ H s := ⟨I.ok.wish E, I.os, I.bare, I.base, I.loc, I.cell, I.free, I.freeC, I.pin, I.hok, I.len⟩
theorem Inv.unwish (I : Inv (X.wish E) pins σ H s) : Inv X pins σ H s := ⟨I.ok.unwish, I.os, I.bare, I.base, I.loc, I.cell, I.free, I.freeC, I.pin, I.hok, I.len⟩
theorem SP.unwish {D : Ends} {f : Flow} {s' : Shared} (h : SP (X.wish E) pins D f s') : SP X pins D f s' := by
  cases f with
  | next => obtain ⟨σ', H', I, q⟩ := h; exact ⟨σ', H', I.unwish, q⟩
  | brk => obtain ⟨σ', H', I, q⟩ := h; exact ⟨σ', H', I.unwish, q⟩
  | cont => obtain ⟨σ', H', I, q⟩ := h; exact ⟨σ', H', I.unwish, q⟩
  | ret u => obtain ⟨v, σ', H', I, r, q⟩ := h; exact ⟨v, σ', H', I.unwish, r, q⟩
theorem PSs.nox {st : List Stmt} {t : TS} (h : PSs X.nox st t) : PSs X st t := fun pins s σ H D I hw =>
  wpAny_mono (h pins s σ H D (I.wish _) hw) (fun _ _ q => q.unwish) fun _ _ z => False.elim z
end

/-! ### blocks and small statements -/
section
variable {X : Cx} {st : Stmt} {rest : List Stmt} {t u : TS} {e : Expr} {te : TE} {pos : Pos}
def tNext : TS := fun D σ H => D.nx σ H
def tSeq (t u : TS) : TS := fun D σ H => t { D with nx := u D } σ H
theorem pss_nil : PSs X [] tNext := fun _ _ σ H _ I h => wpAny_execs_nil ⟨σ, H, I, h⟩
theorem pss_cons (h1 : PS X st t) (h2 : PSs X rest u) : PSs X (st :: rest) (tSeq t u) := by
  intro pins s σ H D I h
  refine wpAny_execs_cons (thn (h1 pins s σ H { D with nx := u D } I h) fun f s1 q => ?_)
  cases f with
  | next =>
    obtain ⟨σ', H', I', q⟩ := q
    exact h2 pins s1 σ' H' D I' q
  | ret v => exact q
  | brk => exact q
  | cont => exact q
theorem pss_one (h1 : PS X st t) : PSs X [st] t := by
  intro pins s σ H D I h
  refine wpAny_execs_cons (thn (h1 pins s σ H D I h) fun f s1 q => ?_)
  cases f with
  | next => exact wpAny_execs_nil q
  | ret v => exact q
  | brk => exact q
  | cont => exact q
/-- in a def's body nothing is shown -/
theorem Inv.quiet {pins : List (Addr × Obj)} {σ : St} {H : Hp} {s : Shared} (I : Inv X pins σ H s) : interactive X.env = false := by simp [interactive, I.ok.kind]
/-- an expression whose value is dropped -/
def tDrop (te : TE) : TS := fun D σ H => te σ H fun _ H1 => D.nx σ H1
theorem ps_expr (he : PE X e te) (hs : swapsWith e none pos.line X.env = pure false := by rfl) : PS X (.Expr e pos) (tDrop te) := by
  intro pins s σ H D I h
  exact wpAny_Expr_any (thn (he pins s σ H _ I h) fun v s1 ⟨x, H1, I1, r1, q1⟩ => ⟨σ, H1, I1, q1⟩) I.quiet hs
def tRet (te : TE) : TS := fun D σ H => te σ H D.rt
theorem ps_ret (he : PE X e te) : PS X (.Return (some e) pos) (tRet te) := by
  intro pins s σ H D I h
  exact wpAny_Return_some (thn (he pins s σ H _ I h) fun v s1 ⟨x, H1, I1, r1, q1⟩ => ⟨x, σ, H1, I1, r1, q1⟩)
def tIfS (c : TT) (t u : TS) : TS := fun D σ H => c σ H fun b H1 => if b = true then t D σ H1 else u D σ H1
theorem ps_if {c : Expr} {a b : List Stmt} {tc : TT} (hc : PT X c tc) (ha : PSs X a t) (hb : PSs X b u) : PS X (.If c a b pos) (tIfS tc t u) := by
  intro pins s σ H D I h
  refine wpAny_If (thn (hc pins s σ H _ I h) fun d s1 ⟨H1, I1, q1⟩ => ?_)
  cases d with
  | true => exact ha pins s1 σ H1 D I1 q1
  | false => exact hb pins s1 σ H1 D I1 q1
end

/-! ### targets -/
abbrev TG := V → St → Hp → (St → Hp → Prop) → Prop
abbrev TGs := List V → St → Hp → (St → Hp → Prop) → Prop
def PG (X : Cx) (target : Expr) (t : TG) : Prop :=
  ∀ (pins : List (Addr × Obj)) (s : Shared) (σ : St) (H : Hp) (v : V) (u : Value) (Q : St → Hp → Prop), Inv X pins σ H s → RelV v u → t v σ H Q →
    wpAny (model X.prog X.w) X.A (assign target X.env u) (fun _ s' => ∃ σ' H', Inv X pins σ' H' s' ∧ Q σ' H') X.xe s
/-- several targets, one after another -/
def PGs (X : Cx) (ts : List Expr) (t : TGs) : Prop :=
  ∀ (pins : List (Addr × Obj)) (s : Shared) (σ : St) (H : Hp) (vs : List V) (us : List Value) (Q : St → Hp → Prop), Inv X pins σ H s → Vals vs us → t vs σ H Q →
    wpAny (model X.prog X.w) X.A (assignInOrder ((assignEach ts X.env).map (·.2)) us) (fun _ s' => ∃ σ' H', Inv X pins σ' H' s' ∧ Q σ' H') X.xe s
/-- o[i] = v, by values -/
abbrev TSet := V → V → V → Hp → (Hp → Prop) → Prop
def PSet (X : Cx) (t : TSet) : Prop :=
  ∀ (pins : List (Addr × Obj)) (s : Shared) (σ : St) (H : Hp) (o i v : V) (ov iv u : Value) (Q : Hp → Prop), Inv X pins σ H s → RelV o ov → RelV i iv → RelV v u → t o i v H Q →
    wpAny (model X.prog X.w) X.A (setItem ov iv u) (fun _ s' => ∃ H', Inv X pins σ H' s' ∧ Q H') X.xe s
/-- a op= b, by values -/
abbrev TIp := V → V → Hp → VK → Prop
def PIp (X : Cx) (op : Operator) (t : TIp) : Prop :=
  ∀ (pins : List (Addr × Obj)) (s : Shared) (σ : St) (H : Hp) (x y : V) (v u : Value) (Q : VK), Inv X pins σ H s → RelV x v → RelV y u → t x y H Q →
    wpAny (model X.prog X.w) X.A (inplaceOp op v u) (EP X pins σ Q) X.xe s
section
variable {X : Cx} {pos : Pos}
def gName (i : Nat) : TG := fun v σ H Q => Q (σ.set i (some v)) H
theorem pg_name {i : Nat} {x : Str} (hN : X.N.Nodup) (hi : X.N[i]? = some x) (hx : Loc X.env.scope x) (hf : X.fn x = true ∨ X.env.scope.names.lookup x = some .local := by first | exact .inl rfl | exact .inr rfl | assumption) : PG X (.Name x pos) (gName i) := by
  intro pins s σ H v u Q I r h
  exact wpAny_assign_Name (store_ok I hN hi hx r (fun s' I' => ⟨_, H, I', h⟩) hf)
def gNil : TGs := fun vs σ H Q => vs = [] ∧ Q σ H
def gCons (t : TG) (u : TGs) : TGs := fun vs σ H Q => ∃ v r, vs = v :: r ∧ t v σ H fun σ' H' => u r σ' H' Q
theorem pgs_nil : PGs X [] gNil := by
  intro pins s σ H vs us Q I r h
  obtain ⟨e, h⟩ := h
  subst e
  cases r
  exact assignInOrder_nil ⟨σ, H, I, h⟩
theorem pgs_cons {e : Expr} {es : List Expr} {t : TG} {u : TGs} (h1 : PG X e t) (h2 : PGs X es u)
    (hs : (assignEach (e :: es) X.env).map (·.2) = assign e X.env :: (assignEach es X.env).map (·.2) := by rfl) : PGs X (e :: es) (gCons t u) := by
  intro pins s σ H vs us Q I r h
  obtain ⟨v, vr, e1, h⟩ := h
  subst e1
  cases r with
  | cons r rr =>
    rw [hs]
    refine assignInOrder_cons (thn (h1 pins s σ H _ _ _ I r h) fun _ s1 ⟨σ1, H1, I1, q1⟩ => ?_)
    exact h2 pins s1 σ1 H1 _ _ Q I1 rr q1
/-- (a, b, ..) = a tuple of that length -/
def gTup (K : PySem.W.Frag) (n : Nat) (t : TGs) : TG := fun v σ H Q => ∃ a xs, v = .ref a ∧ SqT K H a xs ∧ xs.length = n ∧ t xs σ H Q
theorem pg_tup {es : List Expr} {k : Nat} {t : TGs} {n : Nat} (hc : X.calm = true) (h : PGs X es t)
    (hn : (assignEach es X.env).length = n := by rfl) (hst : (assignEach es X.env).findIdx? (·.1) = none := by rfl) : PG X (.Tuple es k pos) (gTup X.K n t) := by
  intro pins s σ H v u Q I r hw
  obtain ⟨a, xs, e1, hq, hl, hw⟩ := hw
  subst e1
  cases r
  obtain ⟨its, rv, ht, hz⟩ := I.tuple hq
  refine assign_Tuple_tuple (I.ok.hd hc) ht (by simp [hn, ← hl, rv.length]) hst fun h' hx => ?_
  have I1 : Inv X pins σ H { s with heap := h' } := I.kept (t' := s.toks) fun b o e => hx b o (Nat.ne_of_lt (Heap.lt_size e)) e
  exact h pins _ σ H xs _ Q I1 (by simpa using rv) hw
/-- o[i] = .. -/
def gSub (to ti : TE) (t : TSet) : TG := fun v σ H Q => to σ H fun o H1 => ti σ H1 fun i H2 => t o i v H2 fun H3 => Q σ H3
theorem pg_sub {o i : Expr} {to ti : TE} {t : TSet} (ho : PE X o to) (hi : PE X i ti) (hs : PSet X t)
    (ha : ∀ v, assign (.Subscript o i pos) X.env v = (do
      let ov ← holding [v] (eval o X.env)
      let iv ← holding [v, ov] (eval i X.env)
      standAt pos
      holding [v, ov, iv] (setItem ov iv v)
      release [v, ov, iv] []) := by intro _; rfl) : PG X (.Subscript o i pos) (gSub to ti t) := by
  intro pins s σ H v u Q I r h
  rw [ha]
  refine wpAny_bind (wpAny_holding (thn (ho pins s σ H _ I h) fun ov s1 ⟨x, H1, I1, r1, q1⟩ => ?_))
  refine wpAny_bind (wpAny_holding (thn (hi pins s1 σ H1 _ I1 q1) fun iv s2 ⟨y, H2, I2, r2, q2⟩ => ?_))
  refine wpAny_bind (wpAny_standAt (wpAny_bind (wpAny_holding (thn (hs pins s2 σ H2 x y v ov iv u _ I2 r1 r2 r q2) fun _ s3 ⟨H3, I3, q3⟩ => ?_))))
  exact wpAny_release ⟨σ, H3, I3, q3⟩
/-- target = value -/
def tAsg (te : TE) (g : TG) : TS := fun D σ H => te σ H fun x H1 => g x σ H1 D.nx
theorem ps_asg {tg e : Expr} {te : TE} {g : TG} (he : PE X e te) (hg : PG X tg g) (hs : swapsWithSole [tg] e pos.line X.env = pure false := by rfl) (hw : swappedStores [tg] e X.env = pure none := by rfl)
    (h1 : (assignEach [tg] X.env).map (·.2) = [assign tg X.env] := by rfl) : PS X (.Assign [tg] e pos) (tAsg te g) := by
  intro pins s σ H D I h
  refine wpAny_Assign_stores (thn (he pins s σ H _ I h) fun v s1 ⟨x, H1, I1, r1, q1⟩ => ?_) hs hw
  rw [h1]
  exact thn (hg pins s1 σ H1 x v _ I1 r1 q1) fun _ s2 q => q
/-- name = value -/
theorem ps_set {i : Nat} {x : Str} {e : Expr} {te : TE} {pos' : Pos} (hN : X.N.Nodup) (hi : X.N[i]? = some x) (hx : Loc X.env.scope x) (he : PE X e te) (hs : swapsWith e (some (.Name x pos')) pos.line X.env = pure false := by rfl) (hf : X.fn x = true ∨ X.env.scope.names.lookup x = some .local := by first | exact .inl rfl | exact .inr rfl | assumption) :
    PS X (.Assign [.Name x pos'] e pos) (tAsg te (gName i)) := by
  intro pins s σ H D I h
  refine wpAny_Assign_Name (thn (he pins s σ H _ I h) fun v s1 ⟨y, H1, I1, r1, q1⟩ => ?_) hs
  exact store_ok I1 hN hi hx r1 (fun s2 I2 => ⟨_, H1, I2, q1⟩) hf
/-- name op= e -/
def tAug (i : Nat) (te : TE) (ti : TIp) : TS := fun D σ H => ∃ x, σ[i]? = some (some x) ∧ te σ H fun y H1 => ti x y H1 fun z H2 => D.nx (σ.set i (some z)) H2
theorem ps_aug {i : Nat} {x : Str} {e : Expr} {te : TE} {op : Operator} {ti : TIp} {pos' : Pos} (hN : X.N.Nodup) (hi : X.N[i]? = some x) (hx : Loc X.env.scope x) (he : PE X e te) (ho : PIp X op ti) (hf : X.fn x = true ∨ X.env.scope.names.lookup x = some .local := by first | exact .inl rfl | exact .inr rfl | assumption) :
    PS X (.AugAssign (.Name x pos') op e pos) (tAug i te ti) := by
  intro pins s σ H D I h
  obtain ⟨v, e1, h⟩ := h
  obtain ⟨m, hn, hl⟩ := I.loc
  have vis : Vis X.env.scope x := by rcases hx with k | k; exact .inl k; exact .inr (.inl k)
  obtain ⟨u, r, l⟩ := hl i x v hi e1 vis
  refine wpAny_AugAssign_Name ?_
  have go : wpAny (model X.prog X.w) X.A (eval e X.env) (fun w s₂ => wpAny (model X.prog X.w) X.A (inplaceOp op u w) (fun r s₃ => wpAny (model X.prog X.w) X.A (storeName X.env x r) (fun _ => SP X pins D .next) X.xe s₃) X.xe s₂) X.xe s := by
    refine thn (he pins s σ H _ I h) fun w s1 ⟨y, H1, I1, r1, q1⟩ => ?_
    refine thn (ho pins s1 σ H1 v y u w _ I1 r r1 q1) fun z s2 ⟨zv, H2, I2, r2, q2⟩ => ?_
    exact store_ok I2 hN hi hx r2 (fun s3 I3 => ⟨_, H2, I3, q2⟩) hf
  rcases l with ⟨hk, hm⟩ | ⟨hk, c, hc, hcell⟩
  · exact wpAny_loadName_local I.ok.kind hk hn hm go
  · rcases hk with hk | hk
    · exact wpAny_loadName_cell I.ok.kind hk hc hcell go
    · rcases hx with k | k
      · have : X.env.scope.names.lookup x = some .free := hk
        rw [k] at this; cases this
      · have : X.env.scope.names.lookup x = some .free := hk
        rw [k] at this; cases this
/-- ints -/
def ipI (f : Int → Int → Int) : TIp := fun x y H Q => ∃ i j, x = .int i ∧ y = .int j ∧ Q (.int (f i j)) H
theorem ip_add : PIp X .Add (ipI fun i j => i + j) := by
  intro pins s σ H x y v u Q I r1 r2 h
  obtain ⟨i, j, e1, e2, q⟩ := h
  subst e1; subst e2
  obtain ⟨t, rfl⟩ := r1
  obtain ⟨t', rfl⟩ := r2
  exact iadd_int ⟨.int _, H, I.tok _, ⟨_, rfl⟩, q⟩
end

/-! ### while -/
section
variable {X : Cx} {pos : Pos}
/-- the invariant W with its measure -/
def tWhile (c : TT) (tb : TS) : TS := fun D σ H => ∃ W : Nat → St → Hp → Prop, (∃ m, W m σ H) ∧ ∀ m σ H, W m σ H →
  c σ H fun b H1 => if b = true then ∃ N : St → Hp → Prop, (∀ σ' H', N σ' H' → ∃ m', m' < m ∧ W m' σ' H') ∧ tb { D with nx := N, ct := N, bk := D.nx } σ H1 else D.nx σ H1
theorem ps_while {c : Expr} {body : List Stmt} {tc : TT} {tb : TS} (hp : PassesOwn (model X.prog X.w) X.A X.env X.xe) (hc : PT X c tc) (hb : PSs X body tb) : PS X (.While c body [] pos) (tWhile tc tb) := by
  intro pins s σ H D I h
  obtain ⟨W, ⟨m0, w0⟩, turn⟩ := h
  refine wpAny_While (codeAny_whileLoop (fun n s' => ∃ σ' H', Inv X pins σ' H' s' ∧ W n σ' H') ?_ m0 ⟨σ, H, I, w0⟩)
  rintro n s1 ⟨σ1, H1, I1, w1⟩
  refine wpAny_passesOwn hp (thn (hc pins s1 σ1 H1 _ I1 (turn n σ1 H1 w1)) fun b s2 ⟨H2, I2, q2⟩ => ?_)
  cases b with
  | true =>
    obtain ⟨N, hN, q2⟩ := q2
    rw [if_pos rfl]
    refine wpAny_passesOwn hp (thn (hb pins s2 σ1 H2 _ I2 q2) fun f s3 q3 => ?_)
    cases f with
    | next =>
      obtain ⟨σ3, H3, I3, n3⟩ := q3
      obtain ⟨m', hm, w3⟩ := hN σ3 H3 n3
      exact ⟨m', hm, σ3, H3, I3, w3⟩
    | cont =>
      obtain ⟨σ3, H3, I3, n3⟩ := q3
      obtain ⟨m', hm, w3⟩ := hN σ3 H3 n3
      exact ⟨m', hm, σ3, H3, I3, w3⟩
    | brk => exact q3
    | ret v => exact q3
  | false =>
    rw [if_neg Bool.false_ne_true]
    exact wpAny_execs_nil ⟨σ1, H2, I2, q2⟩
end

/-! ### what a loop or a comprehension walks -/
/-- at turn i: it yields x (the heap may grow), or it stops -/
structure It where
  go : Nat → Hp → Prop
  yld : Nat → Hp → V → Hp → Prop
  stop : Nat → Hp → Prop
/-- the iterator's own objects may turn: they are not the frame's, not pinned, younger than the entry (or a comprehension's own) -/
def FpOk (X : Cx) (pins : List (Addr × Obj)) (H : Hp) (b : Addr) : Prop :=
  H b = none ∧ b ≠ X.env.locals ∧ b ∉ X.fs ∧ (b ∈ X.ex ∨ X.s₀.heap.objs.size ≤ b) ∧ (∀ x c, X.env.cells.lookup x = some c → c ≠ b) ∧ ∀ p ∈ X.pn ++ pins, p.1 ≠ b
theorem Inv.fpOk {X : Cx} {pins : List (Addr × Obj)} {σ : St} {H H' : Hp} {s : Shared} {b : Addr} (I : Inv X pins σ H s) (hb : s.heap.objs.size ≤ b) (hn : H' b = none) : FpOk X pins H' b := by
  refine ⟨hn, Nat.ne_of_gt (Nat.lt_of_lt_of_le I.lt hb), I.nofs hb, .inr (Nat.le_trans I.sz hb), fun x c e z => ?_, fun p hp z => ?_⟩
  · obtain ⟨v, q⟩ := I.cell x c e
    exact absurd (Nat.lt_of_lt_of_le q.lt (by rw [z]; exact hb)) (Nat.lt_irrefl _)
  · exact absurd (Nat.lt_of_lt_of_le (Heap.lt_size (I.pin p hp).1) (by rw [z]; exact hb)) (Nat.lt_irrefl _)
structure Turn (P : Program) (w : World) (K : PySem.W.Frag) (tg : Expr) (J : It) (fp : List Addr) (it : Addr) (tn : Nat → Heap → Prop) : Prop where
  mem : it ∈ fp
  obj : ∀ i h, tn i h → ∀ b ∈ fp, ∃ o, h.get? b = some o ∧ ∀ v, o.data ≠ .cell v
  keep : ∀ i h h', tn i h → (∀ b ∈ fp, ∀ o, h.get? b = some o → h'.get? b = some o) → tn i h'
  item : ∀ (X : Cx), X.prog = P → X.w = w → X.K = K → X.calm = true → ∀ (i : Nat) (pins : List (Addr × Obj)) (s : Shared) (σ : St) (H : Hp) (E : Value → Shared → Prop), Inv X pins σ H s → (∀ b ∈ fp, FpOk X pins H b) → tn i s.heap → J.go i H →
    wpAny (model P w) X.A (pyNext (.ref it)) (fun r s1 => ∃ u, r = some u ∧
      wpAny (model P w) X.A (letOwnedTupleGo tg (.ref it) u) (fun _ s2 => ∃ x H', Inv X pins σ H' s2 ∧ RelV x u ∧ J.yld i H x H' ∧ tn (i + 1) s2.heap ∧ ∀ b ∈ fp, H' b = none) E s1) E s
  done : ∀ (X : Cx), X.prog = P → X.w = w → X.K = K → X.calm = true → ∀ (i : Nat) (pins : List (Addr × Obj)) (s : Shared) (σ : St) (H : Hp) (E : Value → Shared → Prop), Inv X pins σ H s → (∀ b ∈ fp, FpOk X pins H b) → tn i s.heap → J.stop i H →
    wpAny (model P w) X.A (pyNext (.ref it)) (fun r s1 => r = none ∧ Inv X pins σ H s1) E s
  self : ∀ (A : Around) (i : Nat) (s : Shared) (Q : Value → Shared → Prop) (E : Value → Shared → Prop), tn i s.heap → Q (.ref it) s → wpAny (model P w) A (pyIter (.ref it)) Q E s
abbrev TI := St → Hp → (It → Hp → Prop) → Prop
/-- an iterator has come -/
def PIE (X : Cx) (pins : List (Addr × Obj)) (σ : St) (tg : Expr) (R : It → Hp → Prop) (itv : Value) (s2 : Shared) : Prop :=
  ∃ (it : Addr) (fp : List Addr) (tn : Nat → Heap → Prop) (J : It) (H' : Hp), itv = .ref it ∧ Inv X pins σ H' s2 ∧ Turn X.prog X.w X.K tg J fp it tn ∧ tn 0 s2.heap ∧ (∀ b ∈ fp, FpOk X pins H' b) ∧ R J H'
def PI (X : Cx) (tg iter : Expr) (wi : TI) : Prop :=
  ∀ (pins : List (Addr × Obj)) (s : Shared) (σ : St) (H : Hp) (R : It → Hp → Prop), Inv X pins σ H s → wi σ H R →
    wpAny (model X.prog X.w) X.A (eval iter X.env) (fun v s1 => wpAny (model X.prog X.w) X.A (pyIter v) (PIE X pins σ tg R) X.xe s1) X.xe s

/-- the step ahead of the store is nothing for an iterator that keeps no tuple -/
theorem go_of {M : Model} {A : Around} {E : Value → Shared → Prop} {s : Shared} {tg : Expr} {it : Addr} {u : Value} {o : Obj} {n : String} {vs : Array Value} {Q : Unit → Shared → Prop} (ho : s.heap.get? it = some o) (hc : o.cls = .type n) (hd : o.data = .fields vs)
    (hn : ["enumerate", "zip", "dict_itemiterator", "dict_reverseitemiterator", "odict_iterator", "itertools.zip_longest", "itertools.pairwise"].contains n = false) (hQ : Q () s) : wpAny M A (letOwnedTupleGo tg (.ref it) u) Q E s := by
  unfold letOwnedTupleGo
  cases tg <;> first
    | exact wpAny_pure hQ
    | (cases u <;> first
        | exact wpAny_pure hQ
        | (refine wpAny_bind (wpAny_load ho ?_)
           rw [hc, hd]
           show wpAny M A (if (["enumerate", "zip", "dict_itemiterator", "dict_reverseitemiterator", "odict_iterator", "itertools.zip_longest", "itertools.pairwise"].contains n && vs[0]? == some (rawInt _)) = true then _ else _) Q E s
           rw [if_neg (by intro h; rw [hn, Bool.false_and] at h; cases h)]
           exact wpAny_pure hQ))

/-- the list at a, as it stands at each turn (a loop may append to it) -/
def Itl (K : PySem.W.Frag) (a : Addr) : It :=
  ⟨fun i H => ∃ xs x, SqL K H a xs ∧ xs[i]? = some x, fun i H x H' => H' = H ∧ ∀ xs, SqL K H a xs → xs[i]? = some x, fun i H => ∃ xs, SqL K H a xs ∧ xs.length ≤ i⟩
/-- lo, lo + 1, .. (n of them) -/
def Itr (lo : Int) (n : Nat) : It := ⟨fun i _ => i < n, fun i H x H' => H' = H ∧ x = .int (lo + i), fun i _ => n ≤ i⟩
theorem turn_list {P : Program} {w : World} {K : PySem.W.Frag} {tg : Expr} (a it : Addr) : Turn P w K tg (Itl K a) [it] it (fun i h => h.IsListIter it a i) where
  mem := by simp
  obj := fun i h st b hb => by
    have e : b = it := by simpa using hb
    subst e
    obtain ⟨o, e, c, d⟩ := st
    exact ⟨o, e, fun v z => by rw [d] at z; cases z⟩
  keep := fun i h h' st k => st.at fun o e => k it (by simp) o e
  item := by
    intro X hP hw hK hc i pins s σ H E I hf st hg
    subst hP hw hK
    obtain ⟨xs, x, hq, hx⟩ := hg
    obtain ⟨its, rv, p, hz⟩ := I.list hq
    obtain ⟨u, hu, ru⟩ := rv.get hx
    obtain ⟨f0, f1, f2, f3, f4, f5⟩ := hf it (by simp)
    refine wpAny_pyNext_list_item st p.isList (x := u) (by simpa using hu) fun h' st' sb => ?_
    have I1 : Inv X pins σ H { s with heap := h' } := I.turned (t' := s.toks) (fun b o hb e => (sb.2 b hb).trans e) f0 f1 f3 f4 f5
    obtain ⟨o, e, c, d⟩ := id st'
    exact ⟨u, rfl, go_of (s := { s with heap := h' }) e c d (by decide) ⟨x, H, I1, ru, ⟨rfl, fun ys hy => by rw [I.list_inj hy hq]; exact hx⟩, st', fun b hb => (hf b hb).1⟩⟩
  done := by
    intro X hP hw hK hc i pins s σ H E I hf st hg
    subst hP hw hK
    obtain ⟨xs, hq, hx⟩ := hg
    obtain ⟨its, rv, p, hz⟩ := I.list hq
    obtain ⟨f0, f1, f2, f3, f4, f5⟩ := hf it (by simp)
    have hl := rv.length
    exact wpAny_pyNext_list_end (I.ok.hd hc) st p.isList (by simp; omega) fun h' eb => ⟨rfl, I.turned (t' := s.toks) (fun b o hb e => eb b o hb e) f0 f1 f3 f4 f5⟩
  self := fun _ _ _ _ _ st h => wpAny_pyIter_listiter st h
theorem turn_range {P : Program} {w : World} {K : PySem.W.Frag} {tg : Expr} (it : Addr) (lo : Int) (n : Nat) : Turn P w K tg (Itr lo n) [it] it (fun i h => IsRangeIter h it (lo + (i : Nat) * 1) ((n : Int) - (i : Nat)) 1) where
  mem := by simp
  obj := fun i h st b hb => by
    have e : b = it := by simpa using hb
    subst e
    exact ⟨_, st, fun v z => by
      have z' : Data.fields _ = Data.cell v := z
      cases z'⟩
  keep := fun i h h' st k => k it (by simp) _ st
  item := by
    intro X hP hw hK hc i pins s σ H E I hf st hg
    subst hP hw hK
    obtain ⟨f0, f1, f2, f3, f4, f5⟩ := hf it (by simp)
    have W := Walks.range (prog := X.prog) (w := X.w) (I.ok.hd hc) it lo 1 n
    refine W.item i s _ _ hg st fun v h' tk hv st' kk => ?_
    obtain ⟨t, rfl⟩ := hv
    have I1 : Inv X pins σ H { s with heap := h', toks := tk } := I.turned (fun b o hb e => kk b o (by simpa using hb) e) f0 f1 f3 f4 f5
    refine ⟨_, rfl, go_of (s := { s with heap := h', toks := tk }) (n := "range_iterator") st' rfl rfl (by decide) ⟨.int (lo + i), H, I1, ⟨t, ?_⟩, ⟨rfl, rfl⟩, st', fun b hb => (hf b hb).1⟩⟩
    rw [Int.mul_one]
  done := by
    intro X hP hw hK hc i pins s σ H E I hf st hg
    subst hP hw hK
    obtain ⟨f0, f1, f2, f3, f4, f5⟩ := hf it (by simp)
    exact wpAny_pyNext_range_end (I.ok.hd hc) st (by have : n ≤ i := hg; omega) fun h' eb => ⟨rfl, I.turned (t' := s.toks) (fun b o hb e => eb b o hb e) f0 f1 f3 f4 f5⟩
  self := fun _ _ _ _ _ st h => wpAny_pyIter_rangeiter st h
end L2

namespace L2
open PySem PySem.Spec PyProof.Rows
section
variable {X : Cx} {tg : Expr}
def iList (K : PySem.W.Frag) (tl : TE) : TI := fun σ H R => tl σ H fun x H1 => ∃ a, x = .ref a ∧ (∃ xs, SqL K H1 a xs) ∧ R (Itl K a) H1
theorem pi_list {l : Expr} {tl : TE} (hl : PE X l tl) : PI X tg l (iList X.K tl) := by
  intro pins s σ H R I h
  refine thn (hl pins s σ H _ I h) fun v s1 ⟨x, H1, I1, r1, q1⟩ => ?_
  obtain ⟨a, e, ⟨xs, hq⟩, q⟩ := q1
  subst e
  cases r1
  obtain ⟨its, rv, p, hz⟩ := I1.list hq
  refine wpAny_pyIter_list p.isList ?_
  refine ⟨s1.heap.objs.size, [s1.heap.objs.size], _, _, H1, rfl, I1.kept (t' := s1.toks) fun b o e => Heap.get?_push_of_some _ e, turn_list a _, ⟨_, Heap.get?_push_size _ rfl, rfl, rfl⟩, fun b hb => ?_, q⟩
  have e : b = s1.heap.objs.size := by simpa using hb
  subst e
  exact I1.fpOk (Nat.le_refl _) (I1.hok.fresh (Nat.le_refl _))
/-- a range object just made, walked -/
theorem range_it {pins : List (Addr × Obj)} {σ : St} {H : Hp} {s : Shared} {R : It → Hp → Prop} {E : Value → Shared → Prop} {lo hi : Int} {t u v : Tok} {tk : Nat} (I : Inv X pins σ H s) (h1 : -(2 ^ 62) ≤ lo) (h2 : lo < 2 ^ 62) (h3 : -(2 ^ 62) ≤ hi) (h4 : hi < 2 ^ 62)
    (q : R (Itr lo (hi - lo).toNat) H) : wpAny (model X.prog X.w) X.A (pyIter (.ref s.heap.objs.size)) (PIE X pins σ tg R) E { s with heap := s.heap.push { cls := .type "range", data := .fields #[.int lo t, .int hi u, .int 1 v] }, toks := tk } := by
  refine wpAny_pyIter_range (IsRange.new ..) (small_one h1 h2 h3 h4) ?_
  have I1 : Inv X pins σ H { s with heap := s.heap.push { cls := .type "range", data := .fields #[.int lo t, .int hi u, .int 1 v] }, toks := tk } := I.kept fun b o e => Heap.get?_push_of_some _ e
  refine ⟨(s.heap.push { cls := .type "range", data := .fields #[.int lo t, .int hi u, .int 1 v] }).objs.size, [(s.heap.push { cls := .type "range", data := .fields #[.int lo t, .int hi u, .int 1 v] }).objs.size], _, _, H, rfl,
    I1.kept (t' := tk) fun b o e => Heap.get?_push_of_some _ e, turn_range _ lo (hi - lo).toNat, ?_, fun b hb => ?_, q⟩
  · have e1 : lo + ((0 : Nat) : Int) * 1 = lo := by simp
    have e2 : (((hi - lo).toNat : Nat) : Int) - ((0 : Nat) : Int) = Builtin.Range.rangeSize lo hi 1 := by rw [rangeSize_one]; split <;> omega
    show IsRangeIter _ _ (lo + ((0 : Nat) : Int) * 1) ((((hi - lo).toNat : Nat) : Int) - ((0 : Nat) : Int)) 1
    rw [e1, e2]
    exact Heap.get?_push_size _ rfl
  · have e : b = (s.heap.push { cls := .type "range", data := .fields #[.int lo t, .int hi u, .int 1 v] }).objs.size := by simpa using hb
    subst e
    exact I1.fpOk (Nat.le_refl _) (I1.hok.fresh (Nat.le_refl _))
def iRng1 (ta : TA) : TI := fun σ H R => ta σ H fun vs H1 => ∃ j : Int, vs = [.int j] ∧ -(2 ^ 62) ≤ j ∧ j < 2 ^ 62 ∧ R (Itr 0 j.toNat) H1
theorem pi_range1 {a : Expr} {ta : TA} {p pos : Pos} (hg : Gl X "range") (hm : X.mg "range" = none) (ha : PA X [a] ta) (hs : starEach [a] X.env = [(false, eval a X.env)] := by rfl) : PI X tg (.Call (.Name "range" p) [a] [] pos) (iRng1 ta) := by
  intro pins s σ H R I h
  refine Call_ (ld_blt I hg hm boot_range (PyProof.Rows.callWith_type1 (thn (ha pos pins s σ H _ I h) fun us s1 ⟨vs, H1, I1, r1, q1⟩ => ?_) hs rfl))
  obtain ⟨j, e, q1, q2, q⟩ := q1
  subst e
  cases r1 with
  | cons r rr =>
    cases rr
    obtain ⟨t, rfl⟩ := r
    exact call_range_1 (range_it I1 (by omega) (by omega) q1 q2 (by simpa using q))

/-! ### for -/
/-- W: the invariant by the turn and a measure; N: what the body is to reach -/
def tFor (wi : TI) (g : TG) (tb : TS) : TS := fun D σ H => wi σ H fun J H1 => ∃ W : Nat → Nat → St → Hp → Prop, (∃ m, W 0 m σ H1) ∧ ∀ i m σ H, W i m σ H →
  (J.stop i H ∧ D.nx σ H) ∨ (J.go i H ∧ ∃ N : St → Hp → Prop, (∀ σ' H', N σ' H' → ∃ m', m' < m ∧ W (i + 1) m' σ' H') ∧ ∀ x H', J.yld i H x H' → g x σ H' fun σ2 H2 => tb { D with nx := N, ct := N, bk := D.nx } σ2 H2)
/-- the records at fp as they stand -/
def pinsAt (fp : List Addr) (h : Heap) : List (Addr × Obj) := fp.filterMap fun b => (h.get? b).map fun o => (b, o)
theorem mem_pinsAt {fp : List Addr} {h : Heap} {b : Addr} {o : Obj} (hb : b ∈ fp) (e : h.get? b = some o) : (b, o) ∈ pinsAt fp h := List.mem_filterMap.mpr ⟨b, hb, by rw [e]; rfl⟩
theorem of_pinsAt {fp : List Addr} {h : Heap} {p : Addr × Obj} (hp : p ∈ pinsAt fp h) : p.1 ∈ fp ∧ h.get? p.1 = some p.2 := by
  obtain ⟨b, hb, e⟩ := List.mem_filterMap.mp hp
  cases q : h.get? b with
  | none => rw [q] at e; cases e
  | some o =>
    rw [q] at e
    have e' : (b, o) = p := Option.some.inj e
    subst e'
    exact ⟨hb, q⟩
theorem Inv.pinned {pins : List (Addr × Obj)} {σ : St} {H : Hp} {s : Shared} {fp : List Addr} (I : Inv X pins σ H s) (hf : ∀ b ∈ fp, FpOk X pins H b) (ho : ∀ b ∈ fp, ∃ o, s.heap.get? b = some o ∧ ∀ v, o.data ≠ .cell v) : Inv X (pins ++ pinsAt fp s.heap) σ H s :=
  I.pins_of fun p hp => (List.mem_append.mp hp).elim (fun z => I.pin p (List.mem_append_right _ z)) fun z => by
    obtain ⟨hb, e⟩ := of_pinsAt z
    obtain ⟨f0, f1, f2, _⟩ := hf p.1 hb
    obtain ⟨o, e', d⟩ := ho p.1 hb
    rw [e] at e'; cases e'
    exact ⟨e, f0, f1, f2, d⟩
theorem Inv.unpinned {pins pl : List (Addr × Obj)} {σ : St} {H : Hp} {s : Shared} (I : Inv X (pins ++ pl) σ H s) : Inv X pins σ H s := I.pins_of fun p hp => I.pin p (List.mem_append_right _ (List.mem_append_left _ hp))
theorem ps_for {iter : Expr} {body : List Stmt} {wi : TI} {g : TG} {tb : TS} {pos : Pos} (hp : PassesOwn (model X.prog X.w) X.A X.env X.xe) (hc : X.calm = true) (hi : PI X tg iter wi) (hg : PG X tg g) (hb : PSs X body tb)
    (hs : ∀ x, foldedSetIterable iter X.env x = pure x := by intro _; rfl) : PS X (.For tg iter body [] pos) (tFor wi g tb) := by
  intro pins s σ H D I h
  refine wpAny_For (thn (hi pins s σ H _ I h) fun v s1 h1 => thn h1 fun itv s2 h2 => ?_) hs
  obtain ⟨it, fp, tn, J, H2, e, I2, T, st2, f2, W, ⟨m0, w0⟩, turn⟩ := h2
  subst e
  -- what stays true of the iterator's objects through the loop
  have stat : ∀ {H' : Hp}, (∀ b ∈ fp, H' b = none) → ∀ b ∈ fp, FpOk X pins H' b := fun hn b hb => ⟨hn b hb, (f2 b hb).2⟩
  refine codeAny_forLoop_any (fun n s' => ∃ i σ' H', Inv X pins σ' H' s' ∧ tn i s'.heap ∧ (∀ b ∈ fp, H' b = none) ∧ W i n σ' H') ?_ m0 ⟨0, σ, H2, I2, st2, fun b hb => (f2 b hb).1, w0⟩
  rintro n s3 ⟨i, σ3, H3, I3, st3, fr3, w3⟩
  rcases turn i n σ3 H3 w3 with ⟨stop, qn⟩ | ⟨go, N, hN, step⟩
  · refine wpAny_passesOwn hp (thn (T.done X rfl rfl rfl hc i pins s3 σ3 H3 X.xe I3 (stat fr3) st3 stop) fun r s4 ⟨hr, I4⟩ => ?_)
    subst hr
    exact wpAny_execs_nil ⟨σ3, H3, I4, qn⟩
  · refine wpAny_passesOwn hp (thn (T.item X rfl rfl rfl hc i pins s3 σ3 H3 X.xe I3 (stat fr3) st3 go) fun r s4 ⟨u, hr, h4⟩ => ?_)
    subst hr
    refine wpAny_passesOwn hp (thn h4 fun _ s5 ⟨x, H5, I5, r5, y5, st5, fr5⟩ => ?_)
    have I5' := I5.pinned (stat fr5) (T.obj _ _ st5)
    refine wpAny_passesOwn hp (thn (hg _ s5 σ3 H5 x u _ I5' r5 (step x H5 y5)) fun _ s6 ⟨σ6, H6, I6, q6⟩ => ?_)
    refine wpAny_passesOwn hp (thn (hb _ s6 σ6 H6 _ I6 q6) fun f s7 q7 => ?_)
    have again : ∀ {σ7 : St} {H7 : Hp}, Inv X (pins ++ pinsAt fp s5.heap) σ7 H7 s7 → N σ7 H7 → ∃ m, m < n ∧ ∃ i σ' H', Inv X pins σ' H' s7 ∧ tn i s7.heap ∧ (∀ b ∈ fp, H' b = none) ∧ W i m σ' H' := fun {σ7 H7} I7 n7 => by
      obtain ⟨m', hm, w7⟩ := hN σ7 H7 n7
      refine ⟨m', hm, i + 1, σ7, H7, I7.unpinned, T.keep _ _ _ st5 fun b hb o e => (I7.pin (b, o) (List.mem_append_right _ (List.mem_append_right _ (mem_pinsAt hb e)))).1, fun b hb => ?_, w7⟩
      obtain ⟨o, e, d⟩ := T.obj _ _ st5 b hb
      exact (I7.pin (b, o) (List.mem_append_right _ (List.mem_append_right _ (mem_pinsAt hb e)))).2.1
    cases f with
    | next => obtain ⟨σ7, H7, I7, n7⟩ := q7; exact again I7 n7
    | cont => obtain ⟨σ7, H7, I7, n7⟩ := q7; exact again I7 n7
    | brk => obtain ⟨σ7, H7, I7, q7⟩ := q7; exact ⟨σ7, H7, I7.unpinned, q7⟩
    | ret v => obtain ⟨x7, σ7, H7, I7, r7, q7⟩ := q7; exact ⟨x7, σ7, H7, I7.unpinned, r7, q7⟩
end

/-! ### the forms one uses -/
/-- over a list that the body leaves as it is -/
theorem for_list {K : PySem.W.Frag} {a : Addr} {xs : List V} {g : TG} {tb : TS} {D : Ends} {σ : St} {H : Hp} (Pv : Nat → St → Hp → Prop) (h0 : Pv 0 σ H) (hl : ∀ i σ H, i ≤ xs.length → Pv i σ H → SqL K H a xs)
    (hs : ∀ i x σ H, xs[i]? = some x → Pv i σ H → g x σ H fun σ2 H2 => tb { D with nx := Pv (i + 1), ct := Pv (i + 1), bk := D.nx } σ2 H2) (hd : ∀ σ H, Pv xs.length σ H → D.nx σ H) :
    ∃ W : Nat → Nat → St → Hp → Prop, (∃ m, W 0 m σ H) ∧ ∀ i m σ H, W i m σ H →
      ((Itl K a).stop i H ∧ D.nx σ H) ∨ ((Itl K a).go i H ∧ ∃ N : St → Hp → Prop, (∀ σ' H', N σ' H' → ∃ m', m' < m ∧ W (i + 1) m' σ' H') ∧ ∀ x H', (Itl K a).yld i H x H' → g x σ H' fun σ2 H2 => tb { D with nx := N, ct := N, bk := D.nx } σ2 H2) := by
  refine ⟨fun i m σ H => m = xs.length - i ∧ i ≤ xs.length ∧ Pv i σ H, ⟨xs.length, by simp, Nat.zero_le _, h0⟩, ?_⟩
  rintro i m σ H ⟨rfl, hi, p⟩
  have q := hl i σ H hi p
  by_cases hlt : i < xs.length
  · refine .inr ⟨⟨xs, xs[i], q, by simp [hlt]⟩, Pv (i + 1), fun σ' H' p' => ⟨xs.length - (i + 1), by omega, rfl, hlt, p'⟩, fun x H' y => ?_⟩
    obtain ⟨e, y⟩ := y
    subst e
    exact hs i x σ _ (y xs q) p
  · have e : i = xs.length := by omega
    subst e
    exact .inl ⟨⟨xs, q, Nat.le_refl _⟩, hd σ H p⟩
theorem for_range {lo : Int} {n : Nat} {g : TG} {tb : TS} {D : Ends} {σ : St} {H : Hp} (Pv : Nat → St → Hp → Prop) (h0 : Pv 0 σ H)
    (hs : ∀ i σ H, i < n → Pv i σ H → g (.int (lo + i)) σ H fun σ2 H2 => tb { D with nx := Pv (i + 1), ct := Pv (i + 1), bk := D.nx } σ2 H2) (hd : ∀ σ H, Pv n σ H → D.nx σ H) :
    ∃ W : Nat → Nat → St → Hp → Prop, (∃ m, W 0 m σ H) ∧ ∀ i m σ H, W i m σ H →
      ((Itr lo n).stop i H ∧ D.nx σ H) ∨ ((Itr lo n).go i H ∧ ∃ N : St → Hp → Prop, (∀ σ' H', N σ' H' → ∃ m', m' < m ∧ W (i + 1) m' σ' H') ∧ ∀ x H', (Itr lo n).yld i H x H' → g x σ H' fun σ2 H2 => tb { D with nx := N, ct := N, bk := D.nx } σ2 H2) := by
  refine ⟨fun i m σ H => m = n - i ∧ i ≤ n ∧ Pv i σ H, ⟨n, by simp, Nat.zero_le _, h0⟩, ?_⟩
  rintro i m σ H ⟨rfl, hi, p⟩
  by_cases hlt : i < n
  · refine .inr ⟨hlt, Pv (i + 1), fun σ' H' p' => ⟨n - (i + 1), by omega, rfl, hlt, p'⟩, fun x H' y => ?_⟩
    obtain ⟨e, y⟩ := y
    subst e y
    exact hs i σ _ hlt p
  · have e : i = n := by omega
    subst e
    exact .inl ⟨Nat.le_refl _, hd σ H p⟩
end L2

namespace L2
open PySem PySem.Spec PyProof.Rows

abbrev R2 := V → V → Hp → VK → Prop
/-- a two-place operation on values: f is binaryOp op, inplaceOp op or compareOp op -/
def OpR (X : Cx) (f : Value → Value → Sem Value) (r : R2) : Prop :=
  ∀ (pins : List (Addr × Obj)) (s : Shared) (σ : St) (H : Hp) (x y : V) (v u : Value) (Q : VK), Inv X pins σ H s → RelV x v → RelV y u → r x y H Q →
    wpAny (model X.prog X.w) X.A (f v u) (EP X pins σ Q) X.xe s
/-- a one-place operation -/
def UnR (X : Cx) (f : Value → Sem Value) (r : V → Hp → VK → Prop) : Prop :=
  ∀ (pins : List (Addr × Obj)) (s : Shared) (σ : St) (H : Hp) (x : V) (v : Value) (Q : VK), Inv X pins σ H s → RelV x v → r x H Q →
    wpAny (model X.prog X.w) X.A (f v) (EP X pins σ Q) X.xe s
/-- a call of a value that is known (a builtin, a type) with values -/
def CallR (X : Cx) (f : Value) (r : List V → Hp → VK → Prop) : Prop :=
  ∀ (pins : List (Addr × Obj)) (s : Shared) (σ : St) (H : Hp) (xs : List V) (us : List Value) (Q : VK), Inv X pins σ H s → Vals xs us → r xs H Q →
    wpAny (model X.prog X.w) X.A (call f us) (EP X pins σ Q) X.xe s

def tOp (r : R2) (ta tb : TE) : TE := fun σ H Q => ta σ H fun x H1 => tb σ H1 fun y H2 => r x y H2 Q
def tUn (r : V → Hp → VK → Prop) (ta : TE) : TE := fun σ H Q => ta σ H fun x H1 => r x H1 Q
/-- ints in, under C, and a value out -/
def rI (C : Int → Int → Prop) (g : Int → Int → V) : R2 := fun x y H Q => ∃ i j, x = .int i ∧ y = .int j ∧ C i j ∧ Q (g i j) H
def rI0 (g : Int → Int → V) : R2 := fun x y H Q => ∃ i j, x = .int i ∧ y = .int j ∧ Q (g i j) H
def rU (g : Int → V) : V → Hp → VK → Prop := fun x H Q => ∃ i, x = .int i ∧ Q (g i) H

section
variable {X : Cx} {a b c : Expr} {ta tb tc : TE} {pos : Pos}

theorem binT (ha : PE X a ta) (hb : PE X b tb) {pins : List (Addr × Obj)} {s : Shared} {σ : St} {H : Hp} {R : V → V → Hp → Prop} (I : Inv X pins σ H s)
    (h : ta σ H fun x H1 => tb σ H1 fun y H2 => R x y H2) {Q : Value → Shared → Prop} {f : Value → Value → Sem Value}
    (hf : ∀ v u s2 x y H2, Inv X pins σ H2 s2 → RelV x v → RelV y u → R x y H2 → wpAny (model X.prog X.w) X.A (f v u) Q X.xe s2) :
    wpAny (model X.prog X.w) X.A (eval a X.env) (fun v s₁ => wpAny (model X.prog X.w) X.A (eval b X.env) (fun u s₂ => wpAny (model X.prog X.w) X.A (f v u) Q X.xe s₂) X.xe s₁) X.xe s := by
  refine thn (ha pins s σ H _ I h) fun v s1 ⟨x, H1, I1, r1, q1⟩ => ?_
  refine thn (hb pins s1 σ H1 _ I1 q1) fun u s2 ⟨y, H2, I2, r2, q2⟩ => ?_
  exact hf v u s2 x y H2 I2 r1 r2 q2

theorem pe_op {op : Operator} {r : R2} (ho : OpR X (binaryOp op) r) (ha : PE X a ta) (hb : PE X b tb) : PE X (.BinOp a op b pos) (tOp r ta tb) := by
  intro pins s σ H Q I h
  exact wpAny_BinOp (binT ha hb I h fun v u s2 x y H2 I2 rx ry q => ho pins s2 σ H2 x y v u Q I2 rx ry q)
theorem pe_un {op : UnaryOp} {r : V → Hp → VK → Prop} (ho : UnR X (unaryOp op) r) (ha : PE X a ta) : PE X (.UnaryOp op a pos) (tUn r ta) := by
  intro pins s σ H Q I h
  exact UnaryOp_ (thn (ha pins s σ H _ I h) fun v s1 ⟨x, H1, I1, r1, q1⟩ => ho pins s1 σ H1 x v Q I1 r1 q1)

/-! ### ints -/
theorem opI {f : Value → Value → Sem Value} {C : Int → Int → Prop} {g : Int → Int → Int}
    (rule : ∀ (i j : Int) (t u : Tok) (s : Shared) (Q : Value → Shared → Prop) (E : Value → Shared → Prop), C i j → Q (.int (g i j) s.toks) { s with toks := s.toks + 1 } → wpAny (model X.prog X.w) X.A (f (.int i t) (.int j u)) Q E s) :
    OpR X f (rI C fun i j => .int (g i j)) := by
  intro pins s σ H x y v u Q I rx ry h
  obtain ⟨i, j, rfl, rfl, hc, q⟩ := h
  obtain ⟨t, rfl⟩ := rx
  obtain ⟨t', rfl⟩ := ry
  exact rule i j t t' s _ _ hc ⟨.int (g i j), H, I.tok _, ⟨_, rfl⟩, q⟩
theorem opI0 {f : Value → Value → Sem Value} {g : Int → Int → Int}
    (rule : ∀ (i j : Int) (t u : Tok) (s : Shared) (Q : Value → Shared → Prop) (E : Value → Shared → Prop), Q (.int (g i j) s.toks) { s with toks := s.toks + 1 } → wpAny (model X.prog X.w) X.A (f (.int i t) (.int j u)) Q E s) :
    OpR X f (rI0 fun i j => .int (g i j)) := by
  intro pins s σ H x y v u Q I rx ry h
  obtain ⟨i, j, rfl, rfl, q⟩ := h
  obtain ⟨t, rfl⟩ := rx
  obtain ⟨t', rfl⟩ := ry
  exact rule i j t t' s _ _ ⟨.int (g i j), H, I.tok _, ⟨_, rfl⟩, q⟩
theorem opB0 {f : Value → Value → Sem Value} {g : Int → Int → Bool}
    (rule : ∀ (i j : Int) (t u : Tok) (s : Shared) (Q : Value → Shared → Prop) (E : Value → Shared → Prop), Q (.bool (g i j)) s → wpAny (model X.prog X.w) X.A (f (.int i t) (.int j u)) Q E s) :
    OpR X f (rI0 fun i j => .bl (g i j)) := by
  intro pins s σ H x y v u Q I rx ry h
  obtain ⟨i, j, rfl, rfl, q⟩ := h
  obtain ⟨t, rfl⟩ := rx
  obtain ⟨t', rfl⟩ := ry
  exact rule i j t t' s _ _ ⟨.bl (g i j), H, I, rfl, q⟩

def CDiv (i j : Int) : Prop := 0 < j ∧ j < 1073741824
def CPow (i j : Int) : Prop := 0 ≤ j ∧ j ≤ 1000000 ∧ i.natAbs < 2 ^ 64
def CMul (i j : Int) : Prop := (-(2 ^ 64) < i ∧ i < 2 ^ 64) ∨ (-(2 ^ 64) < j ∧ j < 2 ^ 64)
theorem CMul.ok {i j : Int} (h : CMul i j) : IntMulOk i j := by
  rcases h with ⟨h1, h2⟩ | ⟨h1, h2⟩
  · exact .of_left (intBits_le_64 h1 h2)
  · exact .of_right (intBits_le_64 h1 h2)

theorem op_add : OpR X (binaryOp .Add) (rI0 fun i j => .int (i + j)) := opI0 fun _ _ _ _ _ _ _ q => add_int q
theorem op_sub : OpR X (binaryOp .Sub) (rI0 fun i j => .int (i - j)) := opI0 fun _ _ _ _ _ _ _ q => sub_int q
theorem op_mul : OpR X (binaryOp .Mult) (rI CMul fun i j => .int (i * j)) := opI fun _ _ _ _ _ _ _ hc q => mul_int q hc.ok
/-- // by a positive divisor -/
theorem op_fdiv : OpR X (binaryOp .FloorDiv) (rI CDiv fun i j => .int (i / j)) := opI fun i j _ _ _ _ _ hc q => by
  have h1 : (0 : Int) < j := hc.1
  have h2 : j < 1073741824 := hc.2
  exact floordiv_int (by omega) (by rw [Int.fdiv_eq_ediv_of_nonneg i (by omega)]; exact q) (.inl (PyProof.noPylong_small (by omega)))
/-- % by a positive divisor of any size -/
theorem op_mod : OpR X (binaryOp .Mod) (rI (fun _ j => 0 < j) fun i j => .int (i % j)) := opI fun i j _ _ _ _ _ hc q => by
  have h1 : (0 : Int) < j := hc
  exact mod_int' (by omega) (by rw [Int.fmod_eq_emod_of_nonneg i (by omega)]; exact q)
theorem op_pow : OpR X (binaryOp .Pow) (rI CPow fun i j => .int (i ^ j.toNat)) := opI fun _ _ _ _ _ _ _ hc q => pow_int_small hc.1 hc.2.1 hc.2.2 q

theorem unI {f : Value → Sem Value} {g : Int → Int}
    (rule : ∀ (i : Int) (t : Tok) (s : Shared) (Q : Value → Shared → Prop) (E : Value → Shared → Prop), Q (.int (g i) s.toks) { s with toks := s.toks + 1 } → wpAny (model X.prog X.w) X.A (f (.int i t)) Q E s) :
    UnR X f (rU fun i => .int (g i)) := by
  intro pins s σ H x v Q I rx h
  obtain ⟨i, rfl, q⟩ := h
  obtain ⟨t, rfl⟩ := rx
  exact rule i t s _ _ ⟨.int (g i), H, I.tok _, ⟨_, rfl⟩, q⟩
theorem un_neg : UnR X (unaryOp .USub) (rU fun i => .int (-i)) := unI fun _ _ _ _ _ q => neg_int q

/-! ### bools among ints: n += (a < b) -/
end

/-! ### comparisons -/
/-- the scalars that == tells apart as data does -/
def scal : V → V → Bool
  | .non, .non => true | .non, .int _ => true | .int _, .non => true | .non, .bl _ => true | .bl _, .non => true | .non, .str _ => true | .str _, .non => true
  | .int _, .int _ => true | .bl _, .bl _ => true | .str _, .str _ => true | .byt _, .byt _ => true
  | .int _, .str _ => true | .str _, .int _ => true | .bl _, .str _ => true | .str _, .bl _ => true
  | _, _ => false
def rEq : R2 := fun x y H Q => scal x y = true ∧ Q (.bl (decide (x = y))) H
def rNe : R2 := fun x y H Q => scal x y = true ∧ Q (.bl (!decide (x = y))) H

theorem dec_int {i j : Int} : decide (V.int i = V.int j) = (i == j) := by
  rw [Bool.eq_iff_iff]
  simp
theorem dec_bl {i j : Bool} : decide (V.bl i = V.bl j) = (i == j) := by
  rw [Bool.eq_iff_iff]
  simp
theorem dec_str {i j : Str} : decide (V.str i = V.str j) = (i == j) := by
  rw [Bool.eq_iff_iff]
  simp
theorem dec_byt {i j : Array UInt8} : decide (V.byt i = V.byt j) = (i.toList == j.toList) := by
  rw [Bool.eq_iff_iff]
  cases i
  cases j
  simp

section
variable {X : Cx} {a b c : Expr} {ta tb tc : TE} {pos : Pos}
theorem fin_bl {pins : List (Addr × Obj)} {σ : St} {H : Hp} {s : Shared} {Q : VK} {k k' : Bool} (I : Inv X pins σ H s) (q : Q (.bl k) H) (e : k = k') : EP X pins σ Q (.bool k') s := by
  subst e
  exact ⟨.bl k, H, I, rfl, q⟩
theorem op_eq : OpR X (compareOp .Eq) rEq := by
  intro pins s σ H x y v u Q I rx ry h
  obtain ⟨hs, q⟩ := h
  cases x with
  | non =>
    cases rx
    cases y with
    | non => cases ry; exact PySem.EqNone.eq_none_none (fin_bl I q (by simp))
    | bl j => cases ry; exact PySem.EqNone.eq_none_bool (fin_bl I q (by simp))
    | int j => obtain ⟨t', rfl⟩ := ry; exact PySem.EqNone.eq_none_int (fin_bl I q (by simp))
    | str j => obtain ⟨t', rfl⟩ := ry; exact PySem.EqNone.eq_none_str (fin_bl I q (by simp))
    | _ => exact absurd (show false = true from hs) Bool.false_ne_true
  | bl i =>
    cases rx
    cases y with
    | non => cases ry; exact PySem.EqNone.eq_bool_none (fin_bl I q (by simp))
    | bl j => cases ry; exact eq_bool (fin_bl I q dec_bl)
    | str j => obtain ⟨t', rfl⟩ := ry; exact PySem.EqMixed.eq_bool_str (fin_bl I q (by simp))
    | _ => exact absurd (show false = true from hs) Bool.false_ne_true
  | int i =>
    obtain ⟨t, rfl⟩ := rx
    cases y with
    | non => cases ry; exact PySem.EqNone.eq_int_none (fin_bl I q (by simp))
    | int j => obtain ⟨t', rfl⟩ := ry; exact eq_int (fin_bl I q dec_int)
    | str j => obtain ⟨t', rfl⟩ := ry; exact PySem.EqMixed.eq_int_str (fin_bl I q (by simp))
    | _ => exact absurd (show false = true from hs) Bool.false_ne_true
  | str i =>
    obtain ⟨t, rfl⟩ := rx
    cases y with
    | non => cases ry; exact PySem.EqNone.eq_str_none (fin_bl I q (by simp))
    | bl j => cases ry; exact PySem.EqMixed.eq_str_bool (fin_bl I q (by simp))
    | int j => obtain ⟨t', rfl⟩ := ry; exact PySem.EqMixed.eq_str_int (fin_bl I q (by simp))
    | str j => obtain ⟨t', rfl⟩ := ry; exact eq_str (fin_bl I q dec_str)
    | _ => exact absurd (show false = true from hs) Bool.false_ne_true
  | byt i =>
    obtain ⟨t, rfl⟩ := rx
    cases y with
    | byt j => obtain ⟨t', rfl⟩ := ry; exact PySem.W.eq_bytes (fin_bl I q dec_byt)
    | _ => exact absurd (show false = true from hs) Bool.false_ne_true
  | _ => cases y <;> exact absurd (show false = true from hs) Bool.false_ne_true
theorem op_ne : OpR X (compareOp .NotEq) rNe := by
  intro pins s σ H x y v u Q I rx ry h
  obtain ⟨hs, q⟩ := h
  cases x with
  | non =>
    cases rx
    cases y with
    | non => cases ry; exact PySem.EqNone.ne_none_none (fin_bl I q (by simp))
    | bl j => cases ry; exact PySem.EqNone.ne_none_bool (fin_bl I q (by simp))
    | int j => obtain ⟨t', rfl⟩ := ry; exact PySem.EqNone.ne_none_int (fin_bl I q (by simp))
    | str j => obtain ⟨t', rfl⟩ := ry; exact PySem.EqNone.ne_none_str (fin_bl I q (by simp))
    | _ => exact absurd (show false = true from hs) Bool.false_ne_true
  | bl i =>
    cases rx
    cases y with
    | non => cases ry; exact PySem.EqNone.ne_bool_none (fin_bl I q (by simp))
    | bl j => cases ry; exact ne_bool (fin_bl I q (congrArg not dec_bl))
    | str j => obtain ⟨t', rfl⟩ := ry; exact PySem.EqMixed.ne_bool_str (fin_bl I q (by simp))
    | _ => exact absurd (show false = true from hs) Bool.false_ne_true
  | int i =>
    obtain ⟨t, rfl⟩ := rx
    cases y with
    | non => cases ry; exact PySem.EqNone.ne_int_none (fin_bl I q (by simp))
    | int j => obtain ⟨t', rfl⟩ := ry; exact ne_int (fin_bl I q (congrArg not dec_int))
    | str j => obtain ⟨t', rfl⟩ := ry; exact PySem.EqMixed.ne_int_str (fin_bl I q (by simp))
    | _ => exact absurd (show false = true from hs) Bool.false_ne_true
  | str i =>
    obtain ⟨t, rfl⟩ := rx
    cases y with
    | non => cases ry; exact PySem.EqNone.ne_str_none (fin_bl I q (by simp))
    | bl j => cases ry; exact PySem.EqMixed.ne_str_bool (fin_bl I q (by simp))
    | int j => obtain ⟨t', rfl⟩ := ry; exact PySem.EqMixed.ne_str_int (fin_bl I q (by simp))
    | str j => obtain ⟨t', rfl⟩ := ry; exact ne_str (fin_bl I q (congrArg not dec_str))
    | _ => exact absurd (show false = true from hs) Bool.false_ne_true
  | byt i =>
    obtain ⟨t, rfl⟩ := rx
    cases y with
    | byt j => obtain ⟨t', rfl⟩ := ry; exact PySem.W.ne_bytes (fin_bl I q (congrArg not dec_byt))
    | _ => exact absurd (show false = true from hs) Bool.false_ne_true
  | _ => cases y <;> exact absurd (show false = true from hs) Bool.false_ne_true

theorem op_lt : OpR X (compareOp .Lt) (rI0 fun i j => .bl (decide (i < j))) := opB0 fun _ _ _ _ _ _ _ q => lt_int q
theorem op_gt : OpR X (compareOp .Gt) (rI0 fun i j => .bl (decide (j < i))) := opB0 fun _ _ _ _ _ _ _ q => gt_int q
theorem op_ge : OpR X (compareOp .GtE) (rI0 fun i j => .bl (decide (j ≤ i))) := opB0 fun _ _ _ _ _ _ _ q => ge_int q

theorem nomark (b : Expr) {op : CmpOp} (h : op ≠ .In := by decide) (h2 : op ≠ .NotIn := by decide) : behindInMarks op b = false := by
  have e1 : (op == CmpOp.In) = false := by cases op <;> first | rfl | exact absurd rfl h
  have e2 : (op == CmpOp.NotIn) = false := by cases op <;> first | rfl | exact absurd rfl h2
  cases b <;> simp [behindInMarks, e1, e2]
/-- a comparison as a value; hm: nomark b, or (for in, not in) by with_unfolding_all rfl -/
theorem pe_cmpR {op : CmpOp} {r : R2} (ho : OpR X (compareOp op) r) (ha : PE X a ta) (hb : PE X b tb) (hm : behindInMarks op b = false) : PE X (.Compare a [op] [b] pos) (tOp r ta tb) := by
  intro pins s σ H Q I h
  exact wpAny_Compare1 (binT ha hb I h fun v u s2 x y H2 I2 rx ry q => ho pins s2 σ H2 x y v u Q I2 rx ry q) hm
/-- a reading of a value as a test -/
def tTest (t : TE) : TT := fun σ H Q => t σ H fun x H' => ∃ k, x = .bl k ∧ Q k H'
theorem pt_cmpR {op : CmpOp} {r : R2} (ho : OpR X (compareOp op) r) (ha : PE X a ta) (hb : PE X b tb) (hm : behindInMarks op b = false) : PT X (.Compare a [op] [b] pos) (tTest (tOp r ta tb)) := by
  intro pins s σ H Q I h
  refine wpAny_isTrue_Compare1 (thn (ha pins s σ H _ I h) fun v s1 ⟨x, H1, I1, r1, q1⟩ => thn (hb pins s1 σ H1 _ I1 q1) fun u s2 ⟨y, H2, I2, r2, q2⟩ =>
    thn (ho pins s2 σ H2 x y v u _ I2 r1 r2 q2) fun c s3 ⟨z, H3, I3, r3, k, e, q3⟩ => ?_) hm
  subst e
  cases r3
  exact wpAny_truthy_bool ⟨H3, I3, q3⟩
/-- a op1 b op2 c -/
def tChain (r r' : R2) (ta tb tc : TE) : TE := fun σ H Q => ta σ H fun x H1 => tb σ H1 fun y H2 => r x y H2 fun z H3 => ∃ k, z = .bl k ∧
  (if k = true then tc σ H3 fun w' H4 => r' y w' H4 Q else Q (.bl false) H3)
theorem pt_chain {op op' : CmpOp} {r r' : R2} (ho : OpR X (compareOp op) r) (ho' : OpR X (compareOp op') r') (ha : PE X a ta) (hb : PE X b tb) (hc : PE X c tc)
    (hm : lastMarks [op, op'] [b, c] = false := by with_unfolding_all rfl) : PT X (.Compare a [op, op'] [b, c] pos) (tTest (tChain r r' ta tb tc)) := by
  intro pins s σ H Q I h
  refine isTrue_chain (thn (ha pins s σ H _ I h) fun v s1 ⟨x, H1, I1, r1, q1⟩ => test_link (thn (hb pins s1 σ H1 _ I1 q1) fun u s2 ⟨y, H2, I2, r2, q2⟩ =>
    thn (ho pins s2 σ H2 x y v u _ I2 r1 r2 q2) fun d s3 ⟨z, H3, I3, r3, k, e, q3⟩ => ?_)) hm
  subst e
  cases r3
  refine wpAny_truthy_bool ?_
  cases k with
  | false =>
    obtain ⟨k', e', q'⟩ := q3
    cases e'
    exact ite_ff ⟨H3, I3, q'⟩
  | true =>
    refine ite_tt (test_last (thn (hc pins s3 σ H3 _ I3 q3) fun w' s4 ⟨z', H4, I4, r4, q4⟩ => thn (ho' pins s4 σ H4 y z' u w' _ I4 r2 r4 q4) fun d' s5 ⟨z2, H5, I5, r5, k2, e2, q5⟩ => ?_))
    subst e2
    cases r5
    exact wpAny_truthy_bool ⟨H5, I5, q5⟩

/-! ### truth -/
theorem line63 : (sizeLine : Nat) < 2 ^ 63 := by rw [sizeLine_eq]; decide

/-! ### strs and bytes -/
theorem op_add_str : OpR X (binaryOp .Add) (fun x y H Q => ∃ i j, x = .str i ∧ y = .str j ∧ i.length + j.length ≤ sizeLine ∧ Q (.str (i ++ j)) H) := by
  intro pins s σ H x y v u Q I rx ry h
  obtain ⟨i, j, rfl, rfl, hz, q⟩ := h
  obtain ⟨t, rfl⟩ := rx
  obtain ⟨t', rfl⟩ := ry
  exact add_str (fun t' tk => ⟨.str (i ++ j), H, I.tok _, ⟨_, rfl⟩, q⟩) hz

/-! ### scalar builtins, by CallR -/
theorem vals1 {x : V} {us : List Value} (r : Vals [x] us) : ∃ u, us = [u] ∧ RelV x u := by
  cases r with
  | cons r1 r2 => cases r2; exact ⟨_, rfl, r1⟩
theorem vals2 {x y : V} {us : List Value} (r : Vals [x, y] us) : ∃ u w', us = [u, w'] ∧ RelV x u ∧ RelV y w' := by
  cases r with
  | cons r1 r2 =>
    cases r2 with
    | cons r3 r4 => cases r4; exact ⟨_, _, rfl, r1, r3⟩
theorem call_abs : CallR X (.builtin "abs") (fun xs H Q => ∃ i, xs = [.int i] ∧ Q (.int (if i < 0 then -i else i)) H) := by
  intro pins s σ H xs us Q I r h
  obtain ⟨i, rfl, q⟩ := h
  obtain ⟨u, rfl, t, rfl⟩ := vals1 r
  exact call_abs_int fun u tk => ⟨.int (if i < 0 then -i else i), H, I.tok _, ⟨_, rfl⟩, q⟩
theorem call_min2 (hc : X.calm = true) : CallR X (.builtin "min") (fun xs H Q => ∃ i j, xs = [.int i, .int j] ∧ Q (.int (if j < i then j else i)) H) := by
  intro pins s σ H xs us Q I r h
  obtain ⟨i, j, rfl, q⟩ := h
  obtain ⟨u, w', rfl, ⟨t, rfl⟩, ⟨t', rfl⟩⟩ := vals2 r
  refine min_two_ints (I.ok.hd hc) fun h' tk k => ⟨_, H, I.kept k, ?_, q⟩
  by_cases hj : j < i
  · rw [if_pos hj, if_pos hj]; exact ⟨_, rfl⟩
  · rw [if_neg hj, if_neg hj]; exact ⟨_, rfl⟩
theorem call_int1 : CallR X (.type "int") (fun xs H Q => (∃ i, xs = [.int i] ∧ Q (.int i) H) ∨ ∃ k, xs = [.bl k] ∧ Q (.int (if k then 1 else 0)) H) := by
  intro pins s σ H xs us Q I r h
  rcases h with ⟨i, rfl, q⟩ | ⟨k, rfl, q⟩
  · obtain ⟨u, rfl, t, rfl⟩ := vals1 r
    exact call_int_int ⟨.int i, H, I, ⟨_, rfl⟩, q⟩
  · obtain ⟨u, rfl, r1⟩ := vals1 r
    cases r1
    exact call_int_bool ⟨.int (if k then 1 else 0), H, I.tok _, ⟨_, rfl⟩, q⟩
end
end L2

namespace L2
open PySem PySem.Spec PyProof.Rows

/-! ### an instance, its attributes a map -/
structure ObjM (h : Heap) (x dx C : Addr) (mA : Str → Option Value) : Prop where
  obj : h.get? x = some (PySem.W.instObj C dx)
  ns : h.Ns1 dx mA
  ne : dx ≠ x

theorem lookIn_ns {h : Heap} {dx : Addr} {mA : Str → Option Value} (n : h.Ns1 dx mA) : ∃ od, h.get? dx = some od ∧ ∀ name, PySem.W.lookIn name od = some (mA name) := by
  obtain ⟨o, es, ep, ho, hd, hk, _, hm⟩ := n
  refine ⟨o, ho, fun name => ?_⟩
  have e := hm name
  unfold nsFind findBy at e
  rw [← Array.find?_toList] at e
  unfold PySem.W.lookIn
  rw [hd]
  dsimp only
  split
  · rename_i y q
    rw [q] at e
    exact congrArg some e
  · rename_i q
    rw [q] at e
    have a : es.toList.any (·.refKey) = false := by
      rw [List.any_eq_false]
      intro y hy
      obtain ⟨z, t, hkey⟩ := hk y (Array.mem_toList_iff.mp hy)
      simp [DictEntry.refKey, hkey]
    have a' : ¬ es.toList.any (·.refKey) = true := by rw [a]; exact Bool.false_ne_true
    rw [if_neg a']
    exact congrArg some e

theorem ObjM.look {h : Heap} {x dx C : Addr} {mA : Str → Option Value} (I : ObjM h x dx C mA) : ∃ od, PySem.W.InstAt h x (PySem.W.instObj C dx) C (some od) ∧ ∀ name, PySem.W.lookIn name od = some (mA name) :=
  let ⟨od, ho, hl⟩ := lookIn_ns I.ns
  ⟨od, ⟨I.obj, rfl, rfl, ho⟩, hl⟩

section
variable {prog : Program} {w : World} {A : Around} {E : Value → Shared → Prop} {s : Shared} {K : PySem.W.Frag} {x dx C f : Addr} {mA : Str → Option Value} {name : Str} {v : Value}

end

/-! ### the attributes as a list of pairs -/

theorem RelO.some_of {v : V} {o : Option Value} (r : RelO (some v) o) : ∃ u, o = some u ∧ RelV v u := by
  cases o with
  | none => exact (show False from r).elim
  | some u => exact ⟨u, rfl, r⟩

section
variable {P : Program} {w : World} {H H' : Hp} {h h' : Heap} {a C dx : Addr} {fs fs' : List (Str × V)}
theorem ins_get (hok : HOk P w H h) (e : H a = some (.ins C dx fs)) : ∃ mA, ObjM h a dx C mA ∧ (∀ f, RelO (fs.lookup f) (mA f)) ∧ PySem.Within mA (fs.map (·.1)) ∧ fs.length ≤ 1000 ∧ H dx = some (.own a) := by
  obtain ⟨d, z, ne, ob, mA, n, r, q⟩ := (show ObjOk P w H h a (.ins C dx fs) from hok a _ e)
  exact ⟨mA, ⟨ob, n, ne⟩, r, q, z, d⟩
end

/-! ### what of the text a class must have -/
structure Cls (K : PySem.W.Frag) (C : Addr) : Prop where
  pg : PySem.W.plainGet K C Str.empty = true
  hd : PySem.W.hasDictIn K C = true
  po : PySem.W.plainOver K C = true
  sa : PySem.W.findIn K (.ref C) "__setattr__" = some (some (.builtin "object.__setattr__"))
theorem Cls.get {K : PySem.W.Frag} {C : Addr} (c : Cls K C) (f : Str) : PySem.W.plainGet K C f = true := c.pg

section
variable {X : Cx} {pins : List (Addr × Obj)} {σ : St} {H : Hp} {s : Shared} {a C dx : Addr} {fs : List (Str × V)} {f : Str} {v : V} {A : Around} {E : Value → Shared → Prop}

end

/-! ### readings and rules -/

section
variable {X : Cx} {o e value : Expr} {f : Str} {pos pos' tpos : Pos} {ta tv : TE}

end

/-! ### isinstance -/
section
variable {X : Cx} {pins : List (Addr × Obj)} {σ : St} {H : Hp} {s : Shared} {A : Around} {E : Value → Shared → Prop} {Q : Value → Shared → Prop} {c : Value} {b : Bool}
/-- the type of a value, as the fragment's deciders take it; for an instance its class -/
inductive TyOf (K : PySem.W.Frag) (H : Hp) : V → Value → Prop where
  | non : TyOf K H .non (.type "NoneType")
  | bl (x : Bool) : TyOf K H (.bl x) (.type "bool")
  | int (i : Int) : TyOf K H (.int i) (.type "int")
  | str (x : Str) : TyOf K H (.str x) (.type "str")
  | flt (x : UInt64) : TyOf K H (.flt x) (.type "float")
  | lst {a : Addr} {xs : List V} (e : H a = some (.lst xs)) : TyOf K H (.ref a) (.type "list")
  | frz {a : Addr} {o : Obj} {xs : List V} (e : H a = some (.frz o (.lst xs))) : TyOf K H (.ref a) (.type "list")
  | tup {a : Addr} {xs : List V} (e : H a = some (.tup xs)) : TyOf K H (.ref a) (.type "tuple")
  | dK {a : Addr} {kvs : List (Key × V)} (e : H a = some (.dK kvs)) : TyOf K H (.ref a) (.type "dict")
  | dT {a : Addr} {kvs : List (List Key × V)} (e : H a = some (.dT kvs)) : TyOf K H (.ref a) (.type "dict")
  | ins {a C dx : Addr} {fs : List (Str × V)} (e : H a = some (.ins C dx fs)) (cl : Cls K C) (ha : PySem.W.findIn K (.ref C) "__class__" = some (some (.builtin "object.__class__")))
      (hn : PySem.W.specialIn K (.builtin "object.__class__") "__get__" = some (some (.builtin "getset_descriptor.__get__"))) (htk : PySem.W.takesIn K (.builtin "object.__class__") = some true)
      (hm : PySem.W.mroIn K C (.type "object") = some true) : TyOf K H (.ref a) (.ref C)
/-- isinstance(x, c) for one class c, a built-in or an own one: kitOne's answer -/
theorem isinst_ok {x : V} {u t : Value} (I : Inv X pins σ H s) (rx : RelV x u) (ty : TyOf X.K H x t) (e : PySem.W.kitOne X.K t c = some b) (h : ∀ tk, Q (.bool b) { s with toks := tk }) :
    wpAny (model X.prog X.w) A (call (.builtin "isinstance") [u, c]) Q E s := by
  cases ty with
  | non => cases (show u = Value.none from rx); exact PySem.W.kia_one PySem.W.kitx_none I.kIn True.intro e (fun z => nomatch z) h
  | bl y => cases (show u = Value.bool y from rx); exact PySem.W.kia_one PySem.W.kitx_bool I.kIn True.intro e (fun z => nomatch z) h
  | int i => obtain ⟨t, q⟩ := (show ∃ t, u = Value.int i t from rx); cases q; exact PySem.W.kia_one PySem.W.kitx_int I.kIn True.intro e (fun z => nomatch z) h
  | str y => obtain ⟨t, q⟩ := (show ∃ t, u = Value.str y t from rx); cases q; exact PySem.W.kia_one PySem.W.kitx_str I.kIn True.intro e (fun z => nomatch z) h
  | flt y => obtain ⟨t, q⟩ := (show ∃ t, u = Value.float y t from rx); cases q; exact PySem.W.kia_one PySem.W.kitx_float I.kIn True.intro e (fun z => nomatch z) h
  | @lst a xs ea =>
    cases (show u = Value.ref a from rx)
    obtain ⟨_, _, n, _, h1⟩ := (show ObjOk X.prog X.w H s.heap a (.lst xs) from I.hok a _ ea)
    exact PySem.W.kia_one PySem.W.kitx_list I.kIn ⟨_, h1, rfl⟩ e (fun z => nomatch z) h
  | @frz a ob xs ea =>
    cases (show u = Value.ref a from rx)
    obtain ⟨_, _, _, n, _, h1⟩ := (show ObjOk X.prog X.w H s.heap a (.frz ob (.lst xs)) from I.hok a _ ea)
    exact PySem.W.kia_one PySem.W.kitx_list I.kIn ⟨_, h1, rfl⟩ e (fun z => nomatch z) h
  | @tup a xs ea =>
    cases (show u = Value.ref a from rx)
    obtain ⟨_, _, _, p⟩ := (show ObjOk X.prog X.w H s.heap a (.tup xs) from I.hok a _ ea)
    obtain ⟨o, h1, h2, _⟩ := p
    exact PySem.W.kia_one PySem.W.kitx_tuple I.kIn ⟨o, h1, h2⟩ e (fun z => nomatch z) h
  | @dK a kvs ea =>
    cases (show u = Value.ref a from rx)
    obtain ⟨_, _, vs, _, p⟩ := (show ObjOk X.prog X.w H s.heap a (.dK kvs) from I.hok a _ ea)
    obtain ⟨o, es, ep, h1, h2, _⟩ := p
    exact PySem.W.kia_one PySem.W.kitx_dict I.kIn ⟨o, h1, h2.1⟩ e (fun z => nomatch z) h
  | @dT a kvs ea =>
    cases (show u = Value.ref a from rx)
    obtain ⟨_, _, xs, _, o, es, ep, h1, h2, _⟩ := (show ObjOk X.prog X.w H s.heap a (.dT kvs) from I.hok a _ ea)
    exact PySem.W.kia_one PySem.W.kitx_dict I.kIn ⟨o, h1, h2.1⟩ e (fun z => nomatch z) h
  | @ins a C dx fs ea cl ha hn htk hm =>
    cases (show u = Value.ref a from rx)
    obtain ⟨mA, O, _⟩ := ins_get I.hok ea
    obtain ⟨od, J, _⟩ := O.look
    exact PySem.W.kia_one (PySem.W.kitx_own (cl.get _) cl.hd ha hn htk hm) I.kIn J e (fun z => nomatch z) h
end
end L2

namespace L2
open PySem PySem.Spec PyProof.Rows

/-! ### room -/
structure Room (k : Nat) (A : Around) : Prop where
  hd : A.handled = none
  dp : A.depth + 3 * k + 5 < recursionLimit
  un : A.units + 16 * k + 200 < cLine
theorem Room.mono {j k : Nat} {A : Around} (r : Room k A) (h : j ≤ k) : Room j A := ⟨r.hd, by have := r.dp; omega, by have := r.un; omega⟩
theorem Room.deeper {k : Nat} {A : Around} (r : Room (k + 1) A) (env : Env) : Room k (A.deeper env) :=
  ⟨r.hd, by have := r.dp; show A.depth + 1 + 3 * k + 5 < _; omega, by have := r.un; show A.units + 3 + 16 * k + 200 < _; omega⟩
theorem Room.depth {k : Nat} {A : Around} (r : Room k A) : A.depth < recursionLimit := by have := r.dp; omega
theorem Room.units {k : Nat} {A : Around} (r : Room k A) : A.units + 64 < cLine := by have := r.un; omega
theorem Room.units0 {k : Nat} {A : Around} (r : Room k A) : A.units < cLine := by have := r.un; omega

/-! ### argument lists and displays -/
def tNil : TA := fun _ H Q => Q [] H
def tCons (ta : TE) (tr : TA) : TA := fun σ H Q => ta σ H fun x H1 => tr σ H1 fun xs H2 => Q (x :: xs) H2
section
variable {X : Cx} {e : Expr} {es : List Expr} {te : TE} {t : TA} {pos : Pos}
theorem pa_nil : PA X [] tNil := fun _ _ _ _ H Q I h => Calls.spliced_nil ⟨[], H, I, .nil, h⟩
theorem pa_cons (ha : PE X e te) (hr : PA X es t) (hs : starEach (e :: es) X.env = (false, eval e X.env) :: starEach es X.env := by rfl) : PA X (e :: es) (tCons te t) := by
  intro pos pins s σ H Q I h
  rw [hs]
  show wpAny _ _ (spliced ((false, eval e X.env) :: backTo pos (starEach es X.env))) _ _ s
  refine Calls.spliced_cons (thn (ha pins s σ H _ I h) fun u s1 ⟨x, H1, I1, r1, q1⟩ => ?_)
  exact thn (hr pos pins s1 σ H1 _ I1 q1) fun us s2 ⟨xs, H2, I2, r2, q2⟩ => ⟨x :: xs, H2, I2, .cons r1 r2, q2⟩

/-- a tuple, a list of written items -/
def tTup (t : TA) : TE := fun σ H Q => t σ H fun xs H1 => xs.length ≤ sizeLine ∧ ∀ p, H1 p = none → Q (.ref p) (upd H1 p (.tup xs))
def tLst (t : TA) : TE := fun σ H Q => t σ H fun xs H1 => xs.length ≤ sizeLine ∧ ∀ p, H1 p = none → Q (.ref p) (upd H1 p (.lst xs))
theorem pe_tup {x1} (h : PA X es t) : PE X (.Tuple es x1 pos) (tTup t) := by
  intro pins s σ H Q I hq
  refine wpAny_Tuple_spliced (thn (h pos pins s σ H _ I hq) fun us s1 ⟨xs, H1, I1, r, z, q⟩ => ⟨by rw [← r.length]; exact z, ?_⟩)
  have hf : H1 s1.heap.objs.size = none := I1.hok.fresh (Nat.le_refl _)
  refine ⟨.ref s1.heap.objs.size, upd H1 s1.heap.objs.size (.tup xs), I1.laid (t' := s1.toks) (fun b u e => Heap.get?_push_of_some _ e) (Nat.le_refl _) ?_, rfl, q _ hf⟩
  exact ⟨z, us, r, ⟨_, Heap.get?_push_size _ rfl, rfl, _, rfl⟩⟩
theorem pe_lst (h : PA X es t) : PE X (.List es pos) (tLst t) := by
  intro pins s σ H Q I hq
  refine wpAny_List_spliced (thn (h pos pins s σ H _ I hq) fun us s1 ⟨xs, H1, I1, r, z, q⟩ => ⟨by rw [← r.length]; exact z, ?_⟩)
  have hf : H1 s1.heap.objs.size = none := I1.hok.fresh (Nat.le_refl _)
  refine ⟨.ref s1.heap.objs.size, upd H1 s1.heap.objs.size (.lst xs), I1.laid (t' := s1.toks) (fun b u e => Heap.get?_push_of_some _ e) (Nat.le_refl _) ?_, rfl, q _ hf⟩
  exact ⟨z, us, 0, r, Heap.get?_push_size _ rfl⟩
end

/-! ### what a def promises -/
/-- a def's promise: the bound arguments in the parameters' order, the heap, the wanted end, the wanted exception -/
abbrev Sp := List V → Hp → VK → XK → Prop
/-- how an exception lies behind a call (file 08 gives it): the callers' frames, abstract heap and state ahead of the call, the wish, the exception, the state -/
abbrev CXT := List Env → Hp → Shared → XK → Value → Shared → Prop

/-- the state at a call -/
structure Env0 (P : Program) (w : World) (K : PySem.W.Frag) (mg : Str → Option Value) (base : Heap) (A : Around) (outer : List Env) (s : Shared) (H : Hp) : Prop where
  frames : A.frames = some outer
  mod : Mod K mg base
  bs : ∀ b o, base.get? b = some o → s.heap.get? b = some o ∧ H b = none
  bsz : base.objs.size ≤ s.heap.objs.size
  funs : s.heap.FunFrames base outer
  frf : ∀ b ∈ frs outer, H b = none
  hok : HOk P w H s.heap
  bare : AllBare s.gens
/-- a call's end -/
def CE (outer : List Env) (P : Program) (w : World) (H : Hp) (s : Shared) (Q : VK) (u : Value) (s' : Shared) : Prop :=
  ∃ v H', s'.os = s.os ∧ AllBare s'.gens ∧ Un (frs outer) [] H H' s.heap s'.heap ∧ HOk P w H' s'.heap ∧ RelV v u ∧ Q v H'
def CR (CX : CXT) (outer : List Env) (P : Program) (w : World) (H : Hp) (s : Shared) (Q : VK) (E : XK) (r : Result) (s' : Shared) : Prop :=
  match r with
  | .ok (.ret u) => CE outer P w H s Q u s'
  | .ok _ => False
  | .error e => CX outer H s E e s'
structure FnOk (P : Program) (w : World) (K : PySem.W.Frag) (mg : Str → Option Value) (base : Heap) (CX : CXT) (k : Nat) (f : Addr) (fd : FuncData) (ps : List Str) (sp : Sp) : Prop where
  len : ∀ vs H Q E, sp vs H Q E → vs.length = ps.length
  run : ∀ (A : Around) (outer : List Env) (s : Shared) (H : Hp) (args : Args) (us : List Value) (vs : List V) (Q : VK) (E : XK), Room k A → Env0 P w K mg base A outer s H → BindsTo s fd args (ps.zip us) → Vals vs us → sp vs H Q E →
    codeAny (model P w) A (.call (.ref f) args) (CR CX outer P w H s Q E) s

section
variable {X : Cx} {pins : List (Addr × Obj)} {σ : St} {H : Hp} {s s' : Shared}
/-- from a body: what a callee wants -/
theorem Inv.env0 (I : Inv X pins σ H s) : Env0 X.prog X.w X.K X.mg X.base X.A X.stack s H :=
  ⟨I.ok.frames, I.ok.mod, I.bs, Nat.le_trans I.ok.bsz I.sz, I.stack, I.stkFree, I.hok, I.bare⟩
/-- behind a call -/
theorem Inv.after {Q : VK} {u : Value} (I : Inv X pins σ H s) (h : CE X.stack X.prog X.w H s Q u s') : EP X pins σ Q u s' := by
  obtain ⟨v, H', os, bare, un, hok, r, q⟩ := h
  obtain ⟨hh, g, d, t, os'⟩ := s'
  obtain rfl : os' = s.os := os
  exact ⟨v, H', I.call (h' := hh) (g' := g) (d' := d) (t' := t) (ch := []) un hok bare (fun b z => absurd z (by simp)), r, q⟩
end

/-! ### calls -/
/-- f(..): the written arguments, then the defaults dvs; E: what is wanted of an exception -/
def tCall (sp : Sp) (dvs : List V) (E : XK) (t : TA) : TE := fun σ H Q => t σ H fun vs H1 => sp (vs ++ dvs) H1 Q E

/-- how the parameters are bound: us the positional arguments, kw the keywords' values by name, ds the defaults that fill up -/
def Binds (K : PySem.W.Frag) (fd : FuncData) (ps : List Str) (ds : List Value) : Prop :=
  ∀ (s : Shared) (us : List Value), K.In s.heap → (us ++ ds).length = ps.length → BindsTo s fd ⟨us, []⟩ (ps.zip (us ++ ds))
/-- every parameter is given -/
theorem Binds.all {K : PySem.W.Frag} {fd : FuncData} {ps : List Str} (h : ∀ us : List Value, us.length = ps.length → bindArgs fd ⟨us, []⟩ = pure (ps.zip us)) : Binds K fd ps [] := fun s us _ hl => by
  rw [List.append_nil] at hl ⊢
  exact .of_eq (h us hl)

/-- an exception of a callee reaches what this body wants of exceptions -/
def Passes (CX : CXT) (X : Cx) (E : XK) : Prop := ∀ (pins : List (Addr × Obj)) (σ : St) (H : Hp) (s : Shared) (e : Value) (s' : Shared), Inv X pins σ H s → CX X.stack H s E e s' → X.xe e s'

section
variable {X : Cx} {CX : CXT} {k : Nat} {f C : Addr} {fd : FuncData} {ps : List Str} {sp : Sp} {dvs : List V} {ds : List Value} {E : XK} {x m : Str} {p pos apos : Pos} {e o : Expr} {es : List Expr} {ta : TE} {t : TA}

/-- the callee runs -/
theorem run_fn {pins : List (Addr × Obj)} {σ : St} {H : Hp} {s : Shared} {Q : VK} {us : List Value} {vs : List V} (F : FnOk X.prog X.w X.K X.mg X.base CX k f fd ps sp) (hr : Room k X.A) (hb : Binds X.K fd ps ds) (hd : Vals dvs ds) (hx : Passes CX X E)
    (I : Inv X pins σ H s) (r : Vals vs us) (h : sp (vs ++ dvs) H Q E) : wpAny (model X.prog X.w) X.A (call (.ref f) us) (EP X pins σ Q) X.xe s := by
  have r2 : Vals (vs ++ dvs) (us ++ ds) := r.append hd
  have hl : (us ++ ds).length = ps.length := by rw [← r2.length]; exact F.len _ _ _ _ h
  refine wpAny_call (codeAny_mono (F.run X.A X.stack s H ⟨us, []⟩ (us ++ ds) (vs ++ dvs) Q E hr I.env0 (hb s us I.kIn hl) r2 h) fun r s' hq => ?_)
  cases r with
  | error e => exact hx pins σ H s e s' I hq
  | ok fl =>
    cases fl with
    | ret u => exact I.after hq
    | next => exact False.elim hq
    | brk => exact False.elim hq
    | cont => exact False.elim hq

theorem pe_call (F : FnOk X.prog X.w X.K X.mg X.base CX k f fd ps sp) (hr : Room k X.A) (hg : Gl X x) (hm : X.mg x = some (.ref f)) (hk : PySem.W.keepIn X.K (.ref f) = true) (hb : Binds X.K fd ps ds) (hd : Vals dvs ds) (hx : Passes CX X E)
    (ha : PA X (e :: es) t) (hdb : (x == ("__debug__" : Str)) = false := by decide) (he : starEach (e :: es) X.env = (false, eval e X.env) :: starEach es X.env := by rfl) (hpl : (backTo pos (starEach es X.env)).any (·.1) = false := by rfl) :
    PE X (.Call (.Name x p) (e :: es) [] pos) (tCall sp dvs E t) := by
  intro pins s σ H Q I h
  refine wpAny_Call_Name_kw (ld_glob I hg hm ?_ hdb)
  refine PySem.W.callWith_K (h₀ := X.base) I.ok.mod.kin hk (thn (ha pos pins s σ H _ I h) fun us s1 ⟨vs, H1, I1, r, q⟩ => ⟨I1.kIn, ?_⟩) he hpl
  exact run_fn F hr hb hd hx I1 r q

end

/-! ### keywords -/
section
variable {X : Cx} {CX : CXT} {k : Nat} {f C : Addr} {fd : FuncData} {ps ks : List Str} {sp : Sp} {E : XK} {x m : Str} {p pos apos kpos : Pos} {e o : Expr} {es : List Expr} {kws : List Keyword} {te ta : TE} {t tk : TA} {nm : Option Str}

variable {g : List Value → List Value → List Value} {gV : List V → List V → List V}
end

/-! ### a def's body keeps its promise -/
/-- names: the parameters first -/
structure FnScope (N P : List Str) (sc : Scope) : Prop where
  kind : sc.kind = .function
  co : sc.isCoroutine = false
  gen : sc.isGenerator = false
  nd : N.Nodup
  pre : N.take P.length = P
  par : ∀ x ∈ P, sc.names.lookup x = some .local ∨ sc.names.lookup x = some .cell
  nofree : ∀ y ∈ sc.names, y.2 ≠ .free

theorem bindL_out {kindOf : Str → Option NameKind} {x : Str} : ∀ {binds : List (Str × Value)} {m : Str → Option Value}, (∀ v, (x, v) ∉ binds) → bindL kindOf binds m x = m x
  | [], _, _ => rfl
  | (n, v) :: r, m, h => by
    unfold bindL
    rw [bindL_out fun w hw => h w (List.mem_cons_of_mem _ hw)]
    split
    · have : x ≠ n := by rintro rfl; exact h v List.mem_cons_self
      simp [this]
    · rfl
theorem bindC_out {kindOf : Str → Option NameKind} {x : Str} : ∀ {binds : List (Str × Value)} {m : Str → Option Value}, (∀ v, (x, v) ∉ binds) → bindC kindOf binds m x = m x
  | [], _, _ => rfl
  | (n, v) :: r, m, h => by
    unfold bindC
    rw [bindC_out fun w hw => h w (List.mem_cons_of_mem _ hw)]
    split
    · rfl
    · have : x ≠ n := by rintro rfl; exact h v List.mem_cons_self
      simp [this]
theorem bindL_get {kindOf : Str → Option NameKind} {x : Str} {v : Value} : ∀ {P : List Str} {vs : List Value} {i : Nat} {m : Str → Option Value}, P.Nodup → P[i]? = some x → vs[i]? = some v → kindOf x = some .local →
    bindL kindOf (P.zip vs) m x = some v
  | [], _, _, _, _, h, _, _ => by simp at h
  | _ :: _, [], _, _, _, _, h, _ => by simp at h
  | p :: P, w :: vs, 0, m, nd, h1, h2, hk => by
    simp at h1 h2; subst h1; subst h2
    show bindL kindOf ((p, w) :: P.zip vs) m p = _
    unfold bindL
    rw [bindL_out fun v hv => (List.nodup_cons.mp nd).1 (List.of_mem_zip hv).1, if_pos hk]
    simp
  | p :: P, w :: vs, i + 1, m, nd, h1, h2, hk => by
    show bindL kindOf ((p, w) :: P.zip vs) m x = _
    unfold bindL
    exact bindL_get (i := i) (List.nodup_cons.mp nd).2 (by simpa using h1) (by simpa using h2) hk
theorem bindC_get {kindOf : Str → Option NameKind} {x : Str} {v : Value} : ∀ {P : List Str} {vs : List Value} {i : Nat} {m : Str → Option Value}, P.Nodup → P[i]? = some x → vs[i]? = some v → kindOf x ≠ some .local →
    bindC kindOf (P.zip vs) m x = some v
  | [], _, _, _, _, h, _, _ => by simp at h
  | _ :: _, [], _, _, _, _, h, _ => by simp at h
  | p :: P, w :: vs, 0, m, nd, h1, h2, hk => by
    simp at h1 h2; subst h1; subst h2
    show bindC kindOf ((p, w) :: P.zip vs) m p = _
    unfold bindC
    rw [bindC_out fun v hv => (List.nodup_cons.mp nd).1 (List.of_mem_zip hv).1, if_neg hk]
    simp
  | p :: P, w :: vs, i + 1, m, nd, h1, h2, hk => by
    show bindC kindOf ((p, w) :: P.zip vs) m x = _
    unfold bindC
    exact bindC_get (i := i) (List.nodup_cons.mp nd).2 (by simpa using h1) (by simpa using h2) hk

/-- the names' values at the entry -/
def start (N : List Str) (vs : List V) : St := vs.map some ++ List.replicate (N.length - vs.length) none

/-- the context of a def's body, at its entry; an exception leaves the frame, then lies as CX says -/
def cxOf (CX : CXT) (P : Program) (w : World) (K : PySem.W.Frag) (mg : Str → Option Value) (base : Heap) (N : List Str) (qual : Str) (scope : Scope) (f : Addr) (cd : Value) (A : Around) (outer : List Env) (s : Shared) (H : Hp) (E : XK) : Cx where
  prog := P
  w := w
  K := K
  mg := mg
  base := base
  A := A.deeper (envOfC qual scope s.heap.objs.size f cd)
  N := N
  s₀ := s
  H₀ := H
  env := envOfC qual scope s.heap.objs.size f cd
  outer := outer
  stack := envOfC qual scope s.heap.objs.size f cd :: outer
  ex := []
  calm := true
  fn := fun _ => true
  pn := []
  xe := fun e s' => wpAny (model P w) (A.deeper (envOfC qual scope s.heap.objs.size f cd)) (leaving (envOfC qual scope s.heap.objs.size f cd) e) (fun _ s'' => CX outer H s E e s'') (fun e' s'' => CX outer H s E e' s'') s'

theorem cell_has {sc : Scope} {n : Nat} {x : Str} (h : sc.names.lookup x = some .cell) : ∃ c, (cellsFrom n sc.names []).lookup x = some c := by
  have q := PySem.W.cellsFrom_some sc.names n [] (.inl h)
  exact Option.isSome_iff_exists.mp q

theorem inv_start {CX : CXT} {P : Program} {w : World} {K : PySem.W.Frag} {mg : Str → Option Value} {base : Heap} {N ps : List Str} {qual : Str} {scope : Scope} {f : Addr} {cd : Value} {A : Around} {outer : List Env} {s s1 : Shared} {H : Hp} {E : XK} {us : List Value} {vs : List V}
    (S : FnScope N ps scope) (hd : A.handled = none) (e0 : Env0 P w K mg base A outer s H) (hl : vs.length = ps.length) (r : Vals vs us)
    (x : InCallC s s.heap.objs.size (bindL (envOfC qual scope s.heap.objs.size f cd).kindOf (ps.zip us) fun _ => none) (cellsFrom (s.heap.objs.size + 1) scope.names []) (bindC (envOfC qual scope s.heap.objs.size f cd).kindOf (ps.zip us) fun _ => none) s1) :
    Inv (cxOf CX P w K mg base N qual scope f cd A outer s H E) [] (start N vs) H s1 := by
  have hpl : ps.length ≤ N.length := by have := congrArg List.length S.pre; rw [List.length_take] at this; omega
  obtain ⟨h1, tk, rfl, hk⟩ := x.done
  have noA : ∀ b : Addr, b ∉ (cxOf CX P w K mg base N qual scope f cd A outer s H E).ex := fun b z => absurd (show b ∈ ([] : List Addr) from z) (by simp)
  refine ⟨⟨e0.mod, S.kind, rfl, rfl, Nat.le_refl _, fun y z c h1 h2 => ?_, fun y hy => ?_, fun y c _ h => ?_, fun _ => hd, Around.frames_deeper e0.frames, .inr ⟨rfl, rfl⟩, fun b z => absurd z (noA b), e0.bs, e0.bsz, fun b _ _ => noA b, fun b z => absurd z (noA b), e0.funs, e0.frf⟩,
    rfl, e0.bare, Un.kept hk, ⟨_, x.toInCall.ns, fun i y v h1 h2 h3 => ?_⟩, fun y c h => ⟨_, x.cell y c h⟩, e0.hok.fresh (Nat.le_refl _), fun y c h => ?_, fun p hp => absurd (show p ∈ ([] : List (Addr × Obj)) from hp) (by simp), e0.hok.kept hk, ?_⟩
  · exact name_of_addr x.apart (PySem.mem_of_lookup h1) (PySem.mem_of_lookup h2)
  · have hy : scope.names.lookup y = some .cell ∨ scope.names.lookup y = some .free := hy
    rcases hy with hy | hy
    · exact cell_has hy
    · exact absurd rfl (S.nofree _ (PySem.mem_of_lookup hy))
  · exact Nat.le_of_lt (x.above y c (PySem.mem_of_lookup h))
  · have hi : i < vs.length := by
      unfold start at h2
      by_cases hi : i < vs.length
      · exact hi
      · rw [List.getElem?_append_right (by simpa using hi)] at h2
        rw [List.getElem?_replicate] at h2
        split at h2 <;> cases h2
    have ha : vs[i]? = some v := by
      unfold start at h2
      rw [List.getElem?_append_left (by simpa using hi), List.getElem?_map] at h2
      cases e : vs[i]? with
      | none => rw [e] at h2; cases h2
      | some a => rw [e] at h2; cases h2; rfl
    obtain ⟨u, hu, rv⟩ := r.get ha
    have hp : ps[i]? = some y := by
      rw [← S.pre, List.getElem?_take_of_lt (by omega)]; exact h1
    have ndP : ps.Nodup := by rw [← S.pre]; exact S.nd.sublist (List.take_sublist _ _)
    refine ⟨u, rv, ?_⟩
    rcases S.par y (List.mem_of_getElem? hp) with k | k
    · exact .inl ⟨k, bindL_get ndP hp hu k⟩
    · obtain ⟨c, e⟩ := cell_has (n := s.heap.objs.size + 1) k
      refine .inr ⟨.inl k, c, e, ?_⟩
      have q := x.cell y c e
      rw [bindC_get ndP hp hu (by show scope.names.lookup y ≠ _; rw [k]; decide)] at q
      exact q
  · exact e0.hok.fresh (Nat.le_of_lt (x.above y c (PySem.mem_of_lookup h)))
  · unfold start
    show _ = N.length
    rw [List.length_append, List.length_map, List.length_replicate]
    omega

/-- THE RULE: a def (or a method) of the text, by its body. The body's reading t is chosen for each entry; it is run at the parameters' values -/
theorem fn_of {CX : CXT} {P : Program} {w : World} {K : PySem.W.Frag} {mg : Str → Option Value} {base : Heap} {k : Nat} {f : Addr} {name qual : Str} {params : Arguments} {body : List Stmt} {scope : Scope} {dV kV doc pm cdv ct oc : Value} {an od : Option Addr}
    {osl : Array (Option Value)} {N ps : List Str} {sp : Sp} (lk : K.lookup f = some ⟨oc, od, .func (PySem.W.fnOf name qual params body scope dV kV doc pm an cdv ct), osl⟩) (hcd : PySem.W.codeIn K cdv qual = true) (S : FnScope N ps scope)
    (len : ∀ vs H Q E, sp vs H Q E → vs.length = ps.length)
    (hbody : ∀ (A : Around) (outer : List Env) (s : Shared) (H : Hp) (vs : List V) (Q : VK) (E : XK), Room k (A.deeper (envOfC qual scope s.heap.objs.size f cdv)) → sp vs H Q E →
      ∃ t, PSs (cxOf CX P w K mg base N qual scope f cdv A outer s H E) body t ∧ t { nx := fun _ H' => Q .non H', rt := Q } (start N vs) H) :
    FnOk P w K mg base CX (k + 1) f (PySem.W.fnOf name qual params body scope dV kV doc pm an cdv ct) ps sp := by
  refine ⟨len, fun A outer s H args us vs Q E hr e0 hb r hsp => ?_⟩
  have hl := len _ _ _ _ hsp
  have KX : K.In s.heap := e0.mod.kin.keeps fun b o e => (e0.bs b o e).1
  have lim : s.heap.NoLimit := e0.mod.nolimit.keeps fun b o e => (e0.bs b o e).1
  have hkind : ∀ y ∈ ps.zip us, scope.names.lookup y.1 = some .local ∨ (scope.names.lookup y.1 = some .cell ∧ ((cellsFrom (s.heap.objs.size + 1) scope.names []).lookup y.1).isSome = true) := fun ⟨n, v⟩ hy => by
    rcases S.par n (List.of_mem_zip hy).1 with q | q
    · exact .inl q
    · exact .inr ⟨q, PySem.W.cellsFrom_some _ _ _ (.inl q)⟩
  refine codeAny_call_function hr.depth (KX _ _ lk) rfl S.co S.gen rfl (PySem.W.codeRec_of KX hcd) (hb _ _ _ _ ?_)
  refine wpAny_newFunctionEnv_cells S.kind hkind fun env he s1 x => ?_
  subst he
  refine ⟨lim.keeps x.toInCall.keep, codeAny_func ?_⟩
  obtain ⟨t, ht, hq⟩ := hbody A outer s H vs Q E (hr.deeper _) hsp
  have I : Inv (cxOf CX P w K mg base N qual scope f cdv A outer s H E) [] (start N vs) H s1 := inv_start S hr.hd e0 hl r x
  refine wpAny_mono (ht [] s1 (start N vs) H _ I hq) (fun fl s' hs => ?_) fun e s' hs => hs
  have fin : ∀ {σ' : St} {H' : Hp} {v : V} {u : Value}, Inv (cxOf CX P w K mg base N qual scope f cdv A outer s H E) [] σ' H' s' → RelV v u → Q v H' → CE outer P w H s Q u s' :=
    fun {σ' H' v u} J rv q => ⟨v, H', J.os, J.bare, J.base, J.hok, rv, q⟩
  cases fl with
  | ret u =>
    obtain ⟨v, σ', H', J, rv, q⟩ := hs
    exact fin J rv q
  | next =>
    obtain ⟨σ', H', J, q⟩ := hs
    exact fin (v := V.non) (u := Value.none) J rfl q
  | brk =>
    obtain ⟨_, _, _, q⟩ := hs
    exact False.elim q
  | cont =>
    obtain ⟨_, _, _, q⟩ := hs
    exact False.elim q
end L2

namespace L2
open PySem PySem.Spec PyProof.Rows
section
variable {X : Cx} {x : Str} {p pos : Pos} {e : Expr} {es : List Expr} {t : TA} {id T : String} {r : List V → Hp → VK → Prop}

def tCB (r : List V → Hp → VK → Prop) (t : TA) : TE := fun σ H Q => t σ H fun vs H1 => r vs H1 Q
/-- f(e, ..), f a built-in function -/
theorem pe_callB (hc : CallR X (.builtin id) r) (hg : Gl X x) (hm : X.mg x = none) (hv : bootBuiltins x = some (.builtin id)) (ha : PA X (e :: es) t) (hn : x ≠ "__name__" := by decide) (hdb : (x == ("__debug__" : Str)) = false := by decide)
    (he : starEach (e :: es) X.env = (false, eval e X.env) :: starEach es X.env := by rfl) (hpl : (backTo pos (starEach es X.env)).any (·.1) = false := by rfl) : PE X (.Call (.Name x p) (e :: es) [] pos) (tCB r t) := by
  intro pins s σ H Q I h
  refine wpAny_Call_Name_kw (ld_blt I hg hm hv ?_ hn hdb)
  exact PyProof.Rows.callWith_builtin1 (thn (ha pos pins s σ H _ I h) fun us s1 ⟨vs, H1, I1, r1, q1⟩ => hc pins s1 σ H1 vs us Q I1 r1 q1) he hpl
/-- T(e, ..), T a built-in type -/
theorem pe_callTy (hc : CallR X (.type T) r) (hg : Gl X x) (hm : X.mg x = none) (hv : bootBuiltins x = some (.type T)) (ha : PA X (e :: es) t) (hn : x ≠ "__name__" := by decide) (hdb : (x == ("__debug__" : Str)) = false := by decide)
    (he : starEach (e :: es) X.env = (false, eval e X.env) :: starEach es X.env := by rfl) (hpl : (backTo pos (starEach es X.env)).any (·.1) = false := by rfl) : PE X (.Call (.Name x p) (e :: es) [] pos) (tCB r t) := by
  intro pins s σ H Q I h
  refine wpAny_Call_Name_kw (ld_blt I hg hm hv ?_ hn hdb)
  exact PyProof.Rows.callWith_type1 (thn (ha pos pins s σ H _ I h) fun us s1 ⟨vs, H1, I1, r1, q1⟩ => hc pins s1 σ H1 vs us Q I1 r1 q1) he hpl
end
end L2

namespace HT
open PySem PyProof.Rows

section
open PySem.SeqAt
open PySem.AutoSeq1 (wpAny_loadPart')
open PySem.MeetsSeq PySem.MeetsSeq2 PySem.MeetsSeq3

end

section
variable {prog : Program} {w : World} {A : Around} {E : Value → Shared → Prop} {s : Shared}

/-- t + u, t not empty -/
theorem cat_tup {t b : Addr} {vs ws : List Value} {Q : Value → Shared → Prop} (ht : IsTup s.heap t vs.toArray) (hb : IsTup s.heap b ws.toArray) (hv : vs ≠ [])
    (h1 : ws = [] → Q (.ref t) s) (h2 : ws ≠ [] → Q (.ref s.heap.objs.size) { s with heap := s.heap.push { cls := .type "tuple", data := .seq (vs ++ ws).toArray } })
    (hsz : vs.length + ws.length ≤ sizeLine) : wpAny (model prog w) A (binaryOp .Add (.ref t) (.ref b)) Q E s := by
  obtain ⟨⟨cls, dd, data, sl⟩, ho, hc, n, hd⟩ := id ht
  obtain ⟨⟨cls2, dd2, data2, sl2⟩, ho2, hc2, n2, hd2⟩ := id hb
  simp only at hc hd hc2 hd2
  subst hc hd hc2 hd2
  have e : vs.toArray ++ ws.toArray = (vs ++ ws).toArray := by simp
  by_cases hw : ws = []
  · exact concat_meets ⟨_, ho, rfl⟩ ⟨_, ho2, rfl⟩ noFill_tuple_add seq_tuple_add PySem.F.slot_tuple_add PySem.F.entry_tuple_add (PySem.F.args_tuple_add_2 _ _)
      (tuple_addW1 t b vs.toArray ws.toArray n n2 dd dd2 sl sl2 (by simpa using hv) (by simp [hw])) ⟨ho, ho2, h1 hw⟩
  · refine concat_meets ⟨_, ho, rfl⟩ ⟨_, ho2, rfl⟩ noFill_tuple_add seq_tuple_add PySem.F.slot_tuple_add PySem.F.entry_tuple_add (PySem.F.args_tuple_add_2 _ _)
      (tuple_addW2 t b vs.toArray ws.toArray n n2 dd dd2 sl sl2 (by simpa using hv) (by simpa using hw) (by rw [List.size_toArray, List.size_toArray]; exact hsz)) ⟨ho, ho2, ?_⟩
    rw [e]
    exact h2 hw

/-! ### t[a:b], not the whole -/
/-- a slice's bound as a place among n (d where it is left out) -/
def sIx (n d : Nat) : Option Int → Nat
  | none => d
  | some v => if v < 0 then (v + (n : Int)).toNat else min v.toNat n
theorem sIx_none (n d : Nat) : sIx n d none = d := rfl
theorem sIx_nat (n d k : Nat) : sIx n d (some (k : Int)) = min k n := by
  show (if (k : Int) < 0 then ((k : Int) + (n : Int)).toNat else min (k : Int).toNat n) = min k n
  rw [if_neg (by omega), Int.toNat_natCast]
theorem sIx_le (n d : Nat) (hd : d ≤ n) (o : Option Int) : sIx n d o ≤ n := by
  cases o with
  | none => exact hd
  | some v =>
    show (if v < 0 then (v + (n : Int)).toNat else min v.toNat n) ≤ n
    by_cases hv : v < 0
    · rw [if_pos hv]; omega
    · rw [if_neg hv]; exact Nat.min_le_right _ _
theorem clip_eq (v : Int) (n d : Nat) : (if v < 0 then max (v + (n : Int)) 0 else min v (n : Int)) = ((sIx n d (some v) : Nat) : Int) := by
  show (if v < 0 then max (v + (n : Int)) 0 else min v (n : Int)) = (((if v < 0 then (v + (n : Int)).toNat else min v.toNat n) : Nat) : Int)
  by_cases hv : v < 0
  · simp only [if_pos hv]; omega
  · simp only [if_neg hv]; omega
theorem adjust_gen (lo hi : Option Int) (n : Nat) : Builtin.Slice.sliceAdjust lo hi 1 (n : Int) = (((sIx n 0 lo : Nat) : Int), ((sIx n n hi : Nat) : Int)) := by
  have h1 : ¬ ((1 : Int) < 0) := by omega
  unfold Builtin.Slice.sliceAdjust
  simp only [h1, if_false]
  refine Prod.ext ?_ ?_
  · cases lo with
    | none => rfl
    | some v => exact clip_eq v n 0
  · cases hi with
    | none => rfl
    | some v => exact clip_eq v n n
theorem places_gen (i j : Nat) : Builtin.Slice.slicePlaces (i : Int) (j : Int) 1 = j - i := by
  unfold Builtin.Slice.slicePlaces
  have h1 : (1 : Int) > 0 := by omega
  simp only [h1, if_true, Int.ediv_one]
  split <;> omega
theorem slicePart_ {v : Value} {o : Option Int} {Q : Option Int → Shared → Prop} (p : IsPart v o) (h : Q o s) : wpAny (model prog w) A (Builtin.Slice.slicePartIndex v) Q E s := by
  cases p with
  | none => exact slicePart_none h
  | int i t => exact slicePart_int h
theorem sliceApplied_gen {sl : Addr} {vl vu : Value} {lo hi : Option Int} {n : Nat} {Q : Int × Int × Nat → Shared → Prop} (hs : s.heap.IsSliceOf sl vl vu .none) (pl : IsPart vl lo) (pu : IsPart vu hi)
    (h : Q (((sIx n 0 lo : Nat) : Int), 1, sIx n n hi - sIx n 0 lo) s) : wpAny (model prog w) A (Builtin.Slice.sliceApplied (.ref sl) (pure (n : Int))) Q E s := by
  obtain ⟨os, hos, hcs, hds⟩ := id hs
  unfold Builtin.Slice.sliceApplied Builtin.Slice.sliceFields
  refine wpAny_bind (wpAny_bind (wpAny_field hos hds (x := vl) rfl (wpAny_bind (wpAny_field hos hds (x := vu) rfl (wpAny_bind (wpAny_field hos hds (x := .none) rfl (wpAny_pure ?_)))))))
  refine wpAny_bind (slicePart_none ?_)
  show wpAny _ _ (if ((1 : Int) == 0) = true then _ else _) _ _ s
  rw [if_neg (by decide)]
  refine wpAny_bind (slicePart_ pl (wpAny_bind (slicePart_ pu (wpAny_bind (wpAny_pure ?_)))))
  show wpAny _ _ (match Builtin.Slice.sliceAdjust lo hi 1 (n : Int) with | (lo, hi) => pure (lo, (1 : Int), Builtin.Slice.slicePlaces lo hi 1)) _ _ s
  rw [adjust_gen lo hi n]
  show wpAny _ _ (pure (((sIx n 0 lo : Nat) : Int), (1 : Int), Builtin.Slice.slicePlaces ((sIx n 0 lo : Nat) : Int) ((sIx n n hi : Nat) : Int) 1)) _ _ s
  rw [places_gen]
  exact wpAny_pure h
theorem pick_gen (xs : Array Value) (i k : Nat) : ((List.range k).filterMap fun (m : Nat) => xs[((i : Int) + (m : Int) * 1).toNat]?).toArray = ((xs.toList.drop i).take k).toArray := by
  have e : (fun (m : Nat) => xs[((i : Int) + (m : Int) * 1).toNat]?) = fun m => xs[i + m]? := by
    funext m
    have : ((i : Int) + (m : Int) * 1).toNat = i + m := by omega
    rw [this]
  rw [e]
  have := pick_run xs i k
  rw [List.filterMap_map] at this
  have e2 : ((fun x => xs[x]?) ∘ fun x => i + x) = fun m => xs[i + m]? := rfl
  rw [e2] at this
  rw [this]

theorem getItem_tuple_cut {t sl : Addr} {items : Array Value} {vl vu : Value} {lo hi : Option Int} {Q : Value → Shared → Prop} (ht : IsTup s.heap t items) (hs : s.heap.IsSliceOf sl vl vu .none) (pl : IsPart vl lo) (pu : IsPart vu hi)
    (hw : ¬ (sIx items.size 0 lo = 0 ∧ sIx items.size items.size hi = items.size))
    (h : Q (.ref s.heap.objs.size) { s with heap := s.heap.push { cls := .type "tuple", data := .seq ((items.toList.drop (sIx items.size 0 lo)).take (sIx items.size items.size hi - sIx items.size 0 lo)).toArray } })
    (hsz : items.size ≤ sizeLine) : wpAny (model prog w) A (getItem (.ref t) (.ref sl)) Q E s := by
  have htake : sizeOk (.seq ((items.toList.drop (sIx items.size 0 lo)).take (sIx items.size items.size hi - sIx items.size 0 lo)).toArray) := by
    show ((items.toList.drop (sIx items.size 0 lo)).take (sIx items.size items.size hi - sIx items.size 0 lo)).toArray.size ≤ sizeLine
    rw [List.size_toArray, List.length_take, List.length_drop, Array.length_toList]
    omega
  have hj : sIx items.size items.size hi ≤ items.size := sIx_le _ _ (Nat.le_refl _) hi
  obtain ⟨os, hos, hcs, hds⟩ := id hs
  have hTs : s.TypeIs (.ref sl) "slice" := ⟨os, hos, hcs⟩
  unfold getItem
  try with_reducible refine wpAny_holding ?_
  first | refine wpAny_bind (wpAny_pure ?_) | skip
  refine wpAny_bind (wpAny_sequenceKey ht.typeIs (by decide) ?_)
  refine wpAny_bind (wpAny_callSpecial?_slot (name := Str.ofString "__getitem__") ht.typeIs PyProof.Rows.slot_tuple_getitem
    (wpAny_call_entry PyProof.Rows.slot_tuple_getitem ht.typeIs entry_tuple_getitem ?_ (args_tuple_getitem _ _)))
  show wpAny _ _ (Builtin.Tuple.tupleItemsOf (.ref t) >>= _) _ _ s
  refine wpAny_bind (tupleItemsOf_ ht ?_)
  refine wpAny_bind (wpAny_typeOf hTs ?_)
  rw [if_pos (by decide)]
  refine wpAny_bind (sliceApplied_gen hs pl pu ?_)
  have hno : ¬ ((((sIx items.size 0 lo : Nat) : Int) == 0 && (1 : Int) == 1 && (sIx items.size items.size hi - sIx items.size 0 lo) == items.size) = true) := by
    intro q
    rw [Bool.and_eq_true, Bool.and_eq_true] at q
    have q1 : ((sIx items.size 0 lo : Nat) : Int) = 0 := eq_of_beq q.1.1
    have q2 : sIx items.size items.size hi - sIx items.size 0 lo = items.size := eq_of_beq q.2
    exact hw ⟨by omega, by omega⟩
  show wpAny _ _ (if (((sIx items.size 0 lo : Nat) : Int) == 0 && (1 : Int) == 1 && (sIx items.size items.size hi - sIx items.size 0 lo) == items.size) = true then _ else _) _ _ s
  rw [if_neg hno, pick_gen]
  first
    | exact wpAny_bind (m := Builtin.Tuple.tupleExact _) (wpAny_newObj_type (wpAny_pure ⟨_, rfl, wpAny_pure h⟩) htake)
    | exact wpAny_bind (m := Builtin.Tuple.tupleExact _) (wpAny_newObj_type (wpAny_bind (wpAny_pure (wpAny_pure ⟨_, rfl, wpAny_pure h⟩))) htake)
    | exact wpAny_bind (wpAny_bind (m := Builtin.Tuple.tupleExact _) (wpAny_newObj_type (wpAny_pure (wpAny_pure ⟨_, rfl, wpAny_pure h⟩)) htake))
    | exact wpAny_bind (wpAny_bind (m := Builtin.Tuple.tupleExact _) (wpAny_newObj_type (wpAny_pure ⟨_, rfl, wpAny_pure h⟩) htake))
end
end HT

namespace L2
open PySem PySem.Spec PyProof.Rows

/-! ### the parts of a slice -/
abbrev TO := St → Hp → (Option Int → Hp → Prop) → Prop
/-- a slice's part (left out, or an int) -/
def PO (X : Cx) (e : Option Expr) (t : TO) : Prop :=
  ∀ (pins : List (Addr × Obj)) (s : Shared) (σ : St) (H : Hp) (Q : Option Int → Hp → Prop), Inv X pins σ H s → t σ H Q →
    wpAny (model X.prog X.w) X.A (evalPart e X.env) (fun u s' => ∃ o H', Inv X pins σ H' s' ∧ IsPart u o ∧ Q o H') X.xe s
def tNoPart : TO := fun _ H Q => Q none H
def tPart (t : TE) : TO := fun σ H Q => t σ H fun x H1 => ∃ i, x = .int i ∧ Q (some i) H1

section
variable {X : Cx} {e : Expr} {te : TE} {lo hi : Option Expr} {tl th : TO} {pos p2 : Pos}

theorem po_none : PO X none tNoPart := by
  intro pins s σ H Q I h
  rw [evalPart_none]
  exact wpAny_pure ⟨none, H, I, .none, h⟩
theorem po_some (h : PE X e te) : PO X (some e) (tPart te) := by
  intro pins s σ H Q I hw
  rw [evalPart_some]
  refine thn (h pins s σ H _ I hw) fun u s1 ⟨x, H1, I1, r1, q1⟩ => ?_
  obtain ⟨i, rfl, q⟩ := q1
  obtain ⟨t, rfl⟩ := r1
  exact ⟨some i, H1, I1, .int i t, q⟩

/-- what a slice of a value is, by values: the slice object stands at sl -/
def SlR (X : Cx) (r : V → Option Int → Option Int → Hp → VK → Prop) : Prop :=
  ∀ (pins : List (Addr × Obj)) (s : Shared) (σ : St) (H : Hp) (x : V) (v vl vu : Value) (lo hi : Option Int) (sl : Addr) (Q : VK), Inv X pins σ H s → RelV x v → s.heap.IsSliceOf sl vl vu .none → IsPart vl lo → IsPart vu hi → r x lo hi H Q →
    ∃ T id, typeLookup (.type T) "__getitem__" = pure (some (.builtin id)) ∧ s.TypeIs v T ∧ wpAny (model X.prog X.w) X.A (getItem v (.ref sl)) (EP X pins σ Q) X.xe s
def tSl (r : V → Option Int → Option Int → Hp → VK → Prop) (te : TE) (tl th : TO) : TE := fun σ H Q => te σ H fun x H1 => tl σ H1 fun l H2 => th σ H2 fun u H3 => r x l u H3 Q
/-- a[lo:hi], any a -/
theorem pe_slice {r : V → Option Int → Option Int → Hp → VK → Prop} (hr : SlR X r) (he : PE X e te) (hl : PO X lo tl) (hu : PO X hi th) : PE X (.Subscript e (.Slice lo hi none p2) pos) (tSl r te tl th) := by
  intro pins s σ H Q I h
  refine Subscript_ (thn (he pins s σ H _ I h) fun v s1 ⟨x, H1, I1, r1, q1⟩ => ?_)
  refine wpAny_Slice (thn (hl pins s1 σ H1 _ I1 q1) fun vl s2 ⟨l, H2, I2, pl, q2⟩ => thn (hu pins s2 σ H2 _ I2 q2) fun vu s3 ⟨u, H3, I3, pu, q3⟩ => ?_)
  rw [evalPart_none]
  refine wpAny_pure ?_
  have I4 : Inv X pins σ H3 { s3 with heap := s3.heap.push { cls := .type "slice", data := .fields #[vl, vu, .none] } } := I3.kept (t' := s3.toks) fun b ob q => Heap.get?_push_of_some _ q
  obtain ⟨T, id, hT, ht, hg⟩ := hr pins { s3 with heap := s3.heap.push { cls := .type "slice", data := .fields #[vl, vu, .none] } } σ H3 x v vl vu l u s3.heap.objs.size Q I4 r1 (Heap.IsSliceOf.new ..) pl pu q3
  show wpAny (model X.prog X.w) X.A (subscriptTail e (.Slice lo hi none p2) v (.ref s3.heap.objs.size)) (EP X pins σ Q) X.xe { s3 with heap := s3.heap.push { cls := .type "slice", data := .fields #[vl, vu, .none] } }
  exact tail_any (ops := [.ref s3.heap.objs.size, v]) ht hT hg (by with_unfolding_all rfl)

/-- the items of xs[lo:hi] -/
def cutV (xs : List V) (lo hi : Option Int) : List V := (xs.drop (HT.sIx xs.length 0 lo)).take (HT.sIx xs.length xs.length hi - HT.sIx xs.length 0 lo)
theorem cutV_length (xs : List V) (lo hi : Option Int) : (cutV xs lo hi).length ≤ xs.length := by
  unfold cutV
  rw [List.length_take, List.length_drop]
  omega
/-- t[lo:hi], not the whole of it (the whole would be t itself) -/
def rSlT (K : PySem.W.Frag) : V → Option Int → Option Int → Hp → VK → Prop := fun x lo hi H Q => ∃ a xs, x = .ref a ∧ SqT K H a xs ∧
  ¬ (HT.sIx xs.length 0 lo = 0 ∧ HT.sIx xs.length xs.length hi = xs.length) ∧ ∀ p, H p = none → Q (.ref p) (upd H p (.tup (cutV xs lo hi)))
theorem sl_tup : SlR X (rSlT X.K) := by
  intro pins s σ H x v vl vu lo hi sl Q I rx hs pl pu h
  obtain ⟨a, xs, rfl, hx, hw, q⟩ := h
  cases rx
  obtain ⟨its, r, ht, hz⟩ := I.tuple hx
  have hlen : its.toArray.size = xs.length := by rw [List.size_toArray]; exact r.length.symm
  refine ⟨"tuple", _, PyProof.Rows.slot_tuple_getitem.lookup, ht.typeIs, ?_⟩
  refine HT.getItem_tuple_cut ht hs pl pu (by rw [hlen]; exact hw) ?_ (by rw [hlen]; exact hz)
  rw [hlen]
  refine ⟨.ref s.heap.objs.size, _, I.laid (t' := s.toks) (o := .tup (cutV xs lo hi)) (fun b ob q => Heap.get?_push_of_some _ q) (Nat.le_refl _) ?_, rfl, q _ (I.hok.fresh (Nat.le_refl _))⟩
  exact ⟨Nat.le_trans (cutV_length xs lo hi) hz, _, (r.drop (HT.sIx xs.length 0 lo)).take (HT.sIx xs.length xs.length hi - HT.sIx xs.length 0 lo), IsTup.new _ _⟩

/-! ### t < u, t + u -/
/-- t + u, t not empty: u empty gives t itself -/
def rCatT (K : PySem.W.Frag) : R2 := fun x y H Q => ∃ a b xs ys, x = .ref a ∧ y = .ref b ∧ SqT K H a xs ∧ SqT K H b ys ∧ xs ≠ [] ∧ xs.length + ys.length ≤ sizeLine ∧
  (ys = [] → Q (.ref a) H) ∧ (ys ≠ [] → ∀ p, H p = none → Q (.ref p) (upd H p (.tup (xs ++ ys))))
theorem Vals.nil_iff {xs : List V} {us : List Value} (r : Vals xs us) : us = [] ↔ xs = [] := by
  cases r with
  | nil => simp
  | cons _ _ => simp
theorem op_catT : OpR X (binaryOp .Add) (rCatT X.K) := by
  intro pins s σ H x y v u Q I rx ry h
  obtain ⟨a, b, xs, ys, rfl, rfl, ha, hb, hx, hz, q1, q2⟩ := h
  cases rx
  cases ry
  obtain ⟨its, r1, p1, _⟩ := I.tuple ha
  obtain ⟨its2, r2, p2, _⟩ := I.tuple hb
  refine HT.cat_tup p1 p2 (fun z => hx (r1.nil_iff.mp z)) (fun z => ⟨.ref a, H, I, rfl, q1 (r2.nil_iff.mp z)⟩) (fun z => ?_) (by rw [← r1.length, ← r2.length]; exact hz)
  refine ⟨.ref s.heap.objs.size, _, I.laid (t' := s.toks) (o := .tup (xs ++ ys)) (fun b ob q => Heap.get?_push_of_some _ q) (Nat.le_refl _) ?_, rfl, q2 (fun w => z (r2.nil_iff.mpr w)) _ (I.hok.fresh (Nat.le_refl _))⟩
  exact ⟨by rw [List.length_append]; exact hz, _, r1.append r2, IsTup.new _ _⟩
end
end L2

namespace L2
open PySem PySem.Spec PyProof.Rows

/-! ### places -/
/-- the place that an index of any sign means -/
def ixN (n : Nat) (i : Int) : Option Nat := if 0 ≤ i then (if i < n then some i.toNat else none) else if -(n : Int) ≤ i then some (i + n).toNat else none
def atI {α : Type} (xs : List α) (i : Int) : Option α := (ixN xs.length i).bind fun j => xs[j]?
theorem ixN_seq {n : Nat} {i : Int} {j : Nat} (h : ixN n i = some j) : seqIndex? i n = some j ∧ j < n ∧ -(n : Int) ≤ i ∧ i < n := by
  unfold ixN at h
  by_cases h0 : 0 ≤ i
  · rw [if_pos h0] at h
    by_cases h1 : i < n
    · rw [if_pos h1] at h
      have e : i.toNat = j := Option.some.inj h
      exact ⟨by rw [seqIndex_of h0 h1, e], by omega, by omega, h1⟩
    · rw [if_neg h1] at h; cases h
  · rw [if_neg h0] at h
    by_cases h1 : -(n : Int) ≤ i
    · rw [if_pos h1] at h
      have e : (i + n).toNat = j := Option.some.inj h
      exact ⟨by rw [seqIndex_neg (by omega) h1, e], by omega, h1, by omega⟩
    · rw [if_neg h1] at h; cases h
theorem atI_get {α : Type} {xs : List α} {i : Int} {v : α} (h : atI xs i = some v) : ∃ j, seqIndex? i xs.length = some j ∧ xs[j]? = some v ∧ j < xs.length ∧ -(xs.length : Int) ≤ i ∧ i < xs.length := by
  unfold atI at h
  cases e : ixN xs.length i with
  | none => rw [e] at h; cases h
  | some j =>
    rw [e] at h
    obtain ⟨h1, h2, h3, h4⟩ := ixN_seq e
    exact ⟨j, h1, h, h2, h3, h4⟩
theorem atI_nat {α : Type} {xs : List α} {j : Nat} {v : α} (h : xs[j]? = some v) : atI xs (j : Int) = some v := by
  have hj : j < xs.length := (List.getElem?_eq_some_iff.mp h).1
  have e : ixN xs.length (j : Int) = some j := by
    unfold ixN
    rw [if_pos (by omega), if_pos (by omega)]; simp
  unfold atI; rw [e]; exact h
theorem atI_last {α : Type} (xs : List α) (v : α) : atI (xs ++ [v]) (-1) = some v := by
  have hl : (xs ++ [v]).length = xs.length + 1 := by simp
  have e : ixN (xs ++ [v]).length (-1) = some xs.length := by
    unfold ixN
    rw [hl, if_neg (by decide), if_pos (by omega)]
    congr 1
    omega
  unfold atI
  rw [e]
  show (xs ++ [v])[xs.length]? = some v
  simp

/-! ### what may be subscripted -/
/-- what stands as an index of a plain subscript -/
def PlainIx (b : Expr) : Prop := ∀ o i, subscripted b false o i = operate [o, i] (getItem o i)
/-- a subscript by values -/
def IxR (X : Cx) (r : R2) : Prop :=
  ∀ (value slice : Expr) (pins : List (Addr × Obj)) (s : Shared) (σ : St) (H : Hp) (x y : V) (v u : Value) (Q : VK), Inv X pins σ H s → RelV x v → RelV y u → r x y H Q →
    subscripted slice false v u = operate [v, u] (getItem v u) → wpAny (model X.prog X.w) X.A (subscriptTail value slice v u) (EP X pins σ Q) X.xe s
/-- a call of a builtin's method by values: the receiver, the arguments -/
def MtR (X : Cx) (id : String) (r : V → List V → Hp → VK → Prop) : Prop :=
  ∀ (pins : List (Addr × Obj)) (s : Shared) (σ : St) (H : Hp) (x : V) (xs : List V) (v : Value) (us : List Value) (Q : VK), Inv X pins σ H s → RelV x v → Vals xs us → r x xs H Q →
    wpAny (model X.prog X.w) X.A (call (.builtin id) (v :: us)) (EP X pins σ Q) X.xe s
section
variable {X : Cx} {a b : Expr} {ta tb : TE} {pos : Pos}
/-- a[b] -/
theorem pe_ix {r : R2} (hr : IxR X r) (ha : PE X a ta) (hb : PE X b tb) (hs : PlainIx b) : PE X (.Subscript a b pos) (tOp r ta tb) := by
  intro pins s σ H Q I h
  exact Subscript_ (binT ha hb I h fun v u s2 x y H2 I2 rx ry q => hr a b pins s2 σ H2 x y v u Q I2 rx ry q (hs _ _))

def rIxL (K : PySem.W.Frag) : R2 := fun x y H Q => ∃ p xs i v, x = .ref p ∧ y = .int i ∧ SqL K H p xs ∧ atI xs i = some v ∧ Q v H
def rIxT (K : PySem.W.Frag) : R2 := fun x y H Q => ∃ p xs i v, x = .ref p ∧ y = .int i ∧ SqT K H p xs ∧ atI xs i = some v ∧ Q v H
def rIxS : R2 := fun x y H Q => ∃ z i c, x = .str z ∧ y = .int i ∧ z.length ≤ sizeLine ∧ atI z.cps.toList i = some c ∧ Q (.str ⟨#[c]⟩) H
theorem ix_list : IxR X (rIxL X.K) := by
  intro value slice pins s σ H x y v u Q I rx ry h hs
  obtain ⟨p, xs, i, z, rfl, rfl, hq, he, q⟩ := h
  cases rx
  obtain ⟨t, rfl⟩ := ry
  obtain ⟨its, r, pl, hz⟩ := I.list hq
  obtain ⟨j, h1, h2, h3, h4, h5⟩ := atI_get he
  obtain ⟨w, ew, rw'⟩ := r.get h2
  have hl := r.length
  have hn := line63
  have fin : EP X pins σ Q w s := ⟨z, H, I, rw', q⟩
  by_cases h0 : 0 ≤ i
  · have hj : i.toNat = j := by
      rw [seqIndex_of h0 h5] at h1
      exact Option.some.inj h1
    exact item_listR pl.isList h0 (by omega) (by rw [hj]; simpa using ew) fin hs
  · have hj : (i + (its.toArray.size : Int)).toNat = j := by
      rw [seqIndex_neg (by omega) h4] at h1
      rw [List.size_toArray, ← hl]
      exact Option.some.inj h1
    exact subscriptTail_builtinR (x := w) pl.isList.typeIs slot_list_getitem.lookup
      (wpAny_getItem_list_neg (Q := fun r s' => r = w ∧ EP X pins σ Q r s') pl.isList (by omega) (by rw [List.size_toArray] <;> omega) (by omega) (by rw [hj]; simpa using ew) ⟨rfl, fin⟩) hs
theorem ix_tup : IxR X (rIxT X.K) := by
  intro value slice pins s σ H x y v u Q I rx ry h hs
  obtain ⟨p, xs, i, z, rfl, rfl, hq, he, q⟩ := h
  cases rx
  obtain ⟨t, rfl⟩ := ry
  obtain ⟨its, r, pl, hz⟩ := I.tuple hq
  obtain ⟨j, h1, h2, h3, h4, h5⟩ := atI_get he
  obtain ⟨w, ew, rw'⟩ := r.get h2
  have hl := r.length
  have hn := line63
  have fin : EP X pins σ Q w s := ⟨z, H, I, rw', q⟩
  exact subscriptTail_builtinR (x := w) pl.typeIs slot_tuple_getitem.lookup
    (getItem_tuple (j := j) (Q := fun r s' => r = w ∧ EP X pins σ Q r s') pl (by omega) (by omega) (by rw [List.size_toArray, ← hl]; exact h1) (by simpa using ew) ⟨rfl, fin⟩) hs
theorem ix_str : IxR X rIxS := by
  intro value slice pins s σ H x y v u Q I rx ry h hs
  obtain ⟨z, i, c, rfl, rfl, hz, he, q⟩ := h
  obtain ⟨t, rfl⟩ := rx
  obtain ⟨t', rfl⟩ := ry
  obtain ⟨j, h1, h2, h3, h4, h5⟩ := atI_get he
  have hl : z.cps.toList.length = z.length := by simp [Str.length]
  rw [hl] at h1 h4 h5
  have hn := line63
  exact tail_any (typeIs_str s z t) slot_str_getitem.lookup (getItem_str (c := c) (by
    have e1 : decide (i < -(2 ^ 63 : Int)) = false := decide_eq_false (by omega)
    have e2 : decide (i ≥ 2 ^ 63) = false := decide_eq_false (by omega)
    rw [e1, e2, Bool.or_false]) (by rw [h1]; simpa using h2) ⟨.str ⟨#[c]⟩, H, I.tok _, ⟨_, rfl⟩, q⟩) hs

/-! ### xs[i] = v, any sign -/
/-- the list's object behind a store -/
theorem mapSeq_set (its : List Value) (n j : Nat) (u : Value) : Obj.mapSeq (·.setIfInBounds j u) { cls := .type "list", data := .seq its.toArray n } = { cls := .type "list", data := .seq (its.set j u).toArray n } := by
  simp [Obj.mapSeq]
theorem Inv.lst {pins : List (Addr × Obj)} {σ : St} {H : Hp} {s : Shared} {p : Addr} {xs : List V} (I : Inv X pins σ H s) (h : H p = some (.lst xs)) :
    ∃ (its : List Value) (n : Nat), Vals xs its ∧ s.heap.get? p = some { cls := .type "list", data := .seq its.toArray n } ∧ xs.length ≤ sizeLine := by
  obtain ⟨z, its, n, r, e⟩ := I.hok p _ h
  exact ⟨its, n, r, e, z⟩
/-- the list at p is written by an update of its object -/
theorem Inv.lstUpd {pins : List (Addr × Obj)} {σ : St} {H : Hp} {s : Shared} {p : Addr} {xs ys : List V} {its its' : List Value} {n n' : Nat} {f : Obj → Obj} (I : Inv X pins σ H s) (h : H p = some (.lst xs))
    (ho : s.heap.get? p = some { cls := .type "list", data := .seq its.toArray n }) (hf : f { cls := .type "list", data := .seq its.toArray n } = { cls := .type "list", data := .seq its'.toArray n' }) (r : Vals ys its') (hz : ys.length ≤ sizeLine) (t : Nat) :
    Inv X pins σ (upd H p (.lst ys)) { s with heap := s.heap.update p f, toks := t } := by
  have e : (s.heap.update p f).get? p = some { cls := .type "list", data := .seq its'.toArray n' } := by
    rw [Heap.get?_update_self f ho (by rw [hf] <;> rfl), hf]
  refine I.write (x := p) (e := p) (by rw [h]; trivial) (.inl rfl) (fun b u hb q => (Heap.get?_update_other _ _ (Ne.symm hb)).trans q) ⟨_, e⟩ ?_
  exact ⟨hz, its', n', r, e⟩
def rSetL : V → V → V → Hp → (Hp → Prop) → Prop := fun o i v H Q => ∃ p xs k j, o = .ref p ∧ i = .int k ∧ H p = some (.lst xs) ∧ ixN xs.length k = some j ∧ Q (upd H p (.lst (xs.set j v)))
theorem set_list : PSet X rSetL := by
  intro pins s σ H o i v ov iv u Q I ro ri rv h
  obtain ⟨p, xs, k, j, rfl, rfl, hp, hj, q⟩ := h
  cases ro
  obtain ⟨t, rfl⟩ := ri
  obtain ⟨its, n, r, ho, hz⟩ := I.lst hp
  obtain ⟨h1, h2, h3, h4⟩ := ixN_seq hj
  have hl := r.length
  have hn := line63
  have I' : Inv X pins σ (upd H p (.lst (xs.set j v))) { s with heap := s.heap.update p (Obj.mapSeq (·.setIfInBounds j u)) } :=
    I.lstUpd hp ho (mapSeq_set its n j u) (r.set rv j) (by rw [List.length_set]; exact hz) s.toks
  by_cases h0 : 0 ≤ k
  · have hk : k.toNat = j := by
      rw [seqIndex_of h0 h4] at h1
      exact Option.some.inj h1
    exact PySem.W.ki_setAt ho h0 (by omega) (by rw [List.size_toArray, ← hl]; exact h4) (by rw [hk]; exact ⟨_, I', q⟩)
  · have hk : (k + (its.toArray.size : Int)).toNat = j := by
      rw [seqIndex_neg (by omega) h3] at h1
      rw [List.size_toArray, ← hl]
      exact Option.some.inj h1
    exact PySem.W.ki_setBack ho (by omega) (by rw [List.size_toArray, ← hl]; exact h3) (by omega) (by rw [hk]; exact ⟨_, I', q⟩)

/-! ### slices -/
theorem slice_bounds (lo hi : Option Int) (n : Nat) : (sliceBounds lo hi none n).1 = ((HT.sIx n 0 lo : Nat) : Int) ∧ (sliceBounds lo hi none n).2.1 = ((HT.sIx n n hi : Nat) : Int) ∧ (sliceBounds lo hi none n).2.2 = 1 := by
  refine ⟨?_, ?_, rfl⟩
  · cases lo with
    | none => simp [sliceBounds, HT.sIx]
    | some i =>
      simp only [sliceBounds, HT.sIx, Option.getD_none, show (1 : Int) > 0 by decide, if_true]
      by_cases h : i < 0
      · simp only [h, if_true] <;> omega
      · simp only [h, if_false] <;> omega
  · cases hi with
    | none => simp [sliceBounds, HT.sIx]
    | some i =>
      simp only [sliceBounds, HT.sIx, Option.getD_none, show (1 : Int) > 0 by decide, if_true]
      by_cases h : i < 0
      · simp only [h, if_true] <;> omega
      · simp only [h, if_false] <;> omega
theorem slicePick_cut (its : List Value) (lo hi : Option Int) : slicePick its.toArray lo hi none = ((its.drop (HT.sIx its.length 0 lo)).take (HT.sIx its.length its.length hi - HT.sIx its.length 0 lo)).toArray := by
  obtain ⟨h1, h2, h3⟩ := slice_bounds lo hi its.toArray.size
  unfold slicePick
  rw [h1, h2, h3]
  simp only [sliceRange_one, pick_run, List.size_toArray] <;> rfl
/-- xs[lo:hi] of a list: a new list -/
def rSlL (K : PySem.W.Frag) : V → Option Int → Option Int → Hp → VK → Prop := fun x lo hi H Q => ∃ a xs, x = .ref a ∧ SqL K H a xs ∧ ∀ p, H p = none → Q (.ref p) (upd H p (.lst (cutV xs lo hi)))
theorem sl_list : SlR X (rSlL X.K) := by
  intro pins s σ H x v vl vu lo hi sl Q I rx hs pl pu h
  obtain ⟨a, xs, rfl, hx, q⟩ := h
  cases rx
  obtain ⟨its, r, ht, hz⟩ := I.list hx
  have hlen := r.length
  refine ⟨"list", _, slot_list_getitem.lookup, ht.isList.typeIs, ?_⟩
  refine wpAny_getItem_list_slice ht.isList hs pl pu .none (by simp) ?_ (by rw [List.size_toArray] <;> omega)
  rw [slicePick_cut, ← hlen]
  refine ⟨.ref s.heap.objs.size, _, I.laid (t' := s.toks) (o := .lst (cutV xs lo hi)) (fun b ob q => Heap.get?_push_of_some _ q) (Nat.le_refl _) ?_, rfl, q _ (I.hok.fresh (Nat.le_refl _))⟩
  exact ⟨Nat.le_trans (cutV_length xs lo hi) hz, _, 0, (r.drop (HT.sIx xs.length 0 lo)).take (HT.sIx xs.length xs.length hi - HT.sIx xs.length 0 lo), Heap.get?_push_size _ rfl⟩

/-! ### in, not in: flat items -/
def flatV : V → Bool
  | .non => true
  | .bl _ => true
  | .int _ => true
  | .str _ => true
  | _ => false
/-- == of flat values -/
def eqV : V → V → Bool
  | .non, .non => true
  | .bl a, .bl b => a == b
  | .bl a, .int b => (if a then 1 else 0) == b
  | .int a, .bl b => a == (if b then 1 else 0)
  | .int a, .int b => a == b
  | .str a, .str b => a == b
  | _, _ => false
theorem eqAt_V {A : Around} {s : Shared} {y x : V} {u v : Value} (ry : RelV y u) (rx : RelV x v) (fy : flatV y = true) (fx : flatV x = true) : SeqAt.EqAt A s u v (eqV y x) := by
  cases y with
  | non =>
    cases ry
    cases x with
    | non => cases rx; exact SeqAt.EqAt.same _
    | bl b => cases rx; exact SeqAt.EqAt.none_bool b
    | int b => obtain ⟨t, rfl⟩ := rx; exact SeqAt.EqAt.none_int b t
    | str b => obtain ⟨t, rfl⟩ := rx; exact SeqAt.EqAt.none_str b t
    | _ => exact absurd (show false = true from fx) Bool.false_ne_true
  | bl a =>
    cases ry
    cases x with
    | non => cases rx; exact SeqAt.EqAt.bool_none a
    | bl b => cases rx; exact SeqAt.EqAt.bool_bool a b
    | int b => obtain ⟨t, rfl⟩ := rx; exact SeqAt.EqAt.bool_int a b t
    | str b => obtain ⟨t, rfl⟩ := rx; exact SeqAt.EqAt.bool_str a b t
    | _ => exact absurd (show false = true from fx) Bool.false_ne_true
  | int a =>
    obtain ⟨t', rfl⟩ := ry
    cases x with
    | non => cases rx; exact SeqAt.EqAt.int_none a t'
    | bl b => cases rx; exact SeqAt.EqAt.int_bool a t' b
    | int b => obtain ⟨t, rfl⟩ := rx; exact SeqAt.EqAt.int_int a t' b t
    | str b => obtain ⟨t, rfl⟩ := rx; exact SeqAt.EqAt.int_str a t' b t
    | _ => exact absurd (show false = true from fx) Bool.false_ne_true
  | str a =>
    obtain ⟨t', rfl⟩ := ry
    cases x with
    | non => cases rx; exact SeqAt.EqAt.str_none a t'
    | bl b => cases rx; exact SeqAt.EqAt.str_bool a t' b
    | int b => obtain ⟨t, rfl⟩ := rx; exact SeqAt.EqAt.str_int a t' b t
    | str b => obtain ⟨t, rfl⟩ := rx; exact SeqAt.EqAt.str_str a t' b t
    | _ => exact absurd (show false = true from fx) Bool.false_ne_true
  | _ => exact absurd (show false = true from fy) Bool.false_ne_true
/-- the items' answers, read off the values (a value's own answer does not lean on its token) -/
def eqU (x : V) (u : Value) : Bool := match u with
  | .none => eqV .non x
  | .bool b => eqV (.bl b) x
  | .int i _ => eqV (.int i) x
  | .str z _ => eqV (.str z) x
  | _ => false
theorem eqU_of {x y : V} {u : Value} (r : RelV y u) (f : flatV y = true) : eqU x u = eqV y x := by
  cases y with
  | non => cases r; rfl
  | bl b => cases r; rfl
  | int i => obtain ⟨t, rfl⟩ := r; rfl
  | str z => obtain ⟨t, rfl⟩ := r; rfl
  | _ => exact absurd (show false = true from f) Bool.false_ne_true
theorem any_eqU {x : V} : ∀ {xs : List V} {us : List Value}, Vals xs us → xs.all flatV = true → us.any (eqU x) = xs.any fun y => eqV y x
  | _, _, .nil, _ => rfl
  | y :: xs, u :: us, .cons r t, f => by
    rw [List.all_cons, Bool.and_eq_true] at f
    rw [List.any_cons, List.any_cons, eqU_of r f.1, any_eqU t f.2]
theorem mem_eqAt {A : Around} {s : Shared} {x : V} {v : Value} (rx : RelV x v) (fx : flatV x = true) : ∀ {xs : List V} {us : List Value}, Vals xs us → xs.all flatV = true → ∀ u ∈ us, SeqAt.EqAt A s u v (eqU x u)
  | _, _, .nil, _ => fun u hu => by cases hu
  | y :: xs, u :: us, .cons r t, f => fun u' hu => by
    rw [List.all_cons, Bool.and_eq_true] at f
    rcases List.mem_cons.mp hu with rfl | hu
    · rw [eqU_of r f.1]; exact eqAt_V r rx f.1 fx
    · exact mem_eqAt rx fx t f.2 u' hu
def inV (x : V) (xs : List V) : Bool := xs.any fun y => eqV y x
/-- x in a list or tuple of flat items -/
def rIn (K : PySem.W.Frag) (neg : Bool) : R2 := fun x y H Q => ∃ p xs, y = .ref p ∧ (SqL K H p xs ∨ SqT K H p xs) ∧ flatV x = true ∧ xs.all flatV = true ∧ Q (.bl (if neg then !inV x xs else inV x xs)) H
theorem op_in_seq : OpR X (compareOp .In) (rIn X.K false) := by
  intro pins s σ H x y v u Q I rx ry h
  obtain ⟨p, xs, rfl, hq, fx, fs, q⟩ := h
  cases ry
  rcases hq with hq | hq
  · obtain ⟨its, r, pl, hz⟩ := I.list hq
    refine SeqAt.in_listAt (eqU x) pl.isList (fun w hw => mem_eqAt rx fx r fs w (by simpa using hw)) ⟨.bl _, H, I, rfl, ?_⟩
    rw [show its.toArray.any (eqU x) = its.any (eqU x) by simp, any_eqU r fs]
    exact q
  · obtain ⟨its, r, pl, hz⟩ := I.tuple hq
    refine SeqAt.in_tupleAt (eqU x) pl (fun w hw => mem_eqAt rx fx r fs w (by simpa using hw)) ⟨.bl _, H, I, rfl, ?_⟩
    rw [show its.toArray.any (eqU x) = its.any (eqU x) by simp, any_eqU r fs]
    exact q

/-! ### len, list(x), tuple(x) of any list or tuple that is read -/
theorem call_len_seq : CallR X (.builtin "len") (fun xs H Q => ∃ p ys, xs = [.ref p] ∧ (SqL X.K H p ys ∨ SqT X.K H p ys) ∧ Q (.int ys.length) H) := by
  intro pins s σ H xs us Q I r h
  obtain ⟨p, ys, rfl, hq, q⟩ := h
  obtain ⟨u, rfl, rx⟩ := vals1 r
  cases rx
  have hn := line63
  rcases hq with hq | hq
  · obtain ⟨its, r', pl, hz⟩ := I.list hq
    have hlen := r'.length
    exact Calls.call_len_list pl.isList (by simp only [List.size_toArray] <;> omega) ⟨.int ys.length, H, I.tok _, ⟨s.toks + 1, by rw [List.size_toArray, hlen]⟩, q⟩
  · obtain ⟨its, r', pl, hz⟩ := I.tuple hq
    have hlen := r'.length
    exact len_tuple pl (by simp only [List.size_toArray] <;> omega) ⟨.int ys.length, H, I.tok _, ⟨s.toks + 1, by rw [List.size_toArray, hlen]⟩, q⟩
theorem call_list_of : CallR X (.type "list") (fun xs H Q => ∃ p ys, xs = [.ref p] ∧ (SqL X.K H p ys ∨ SqT X.K H p ys) ∧ ∀ l, H l = none → Q (.ref l) (upd H l (.lst ys))) := by
  intro pins s σ H xs us Q I r h
  obtain ⟨p, ys, rfl, hq, q⟩ := h
  obtain ⟨u, rfl, rx⟩ := vals1 r
  cases rx
  have fin : ∀ (its : List Value), Vals ys its → ys.length ≤ sizeLine → ∀ (h' : Heap) (c' : Nat), (∀ b o', s.heap.get? b = some o' → h'.get? b = some o') →
      h'.get? s.heap.objs.size = some { cls := .type "list", dict := none, data := .seq its.toArray c', slots := #[] } → EP X pins σ Q (.ref s.heap.objs.size) { s with heap := h' } := fun its r' hz h' c' kp e =>
    ⟨.ref s.heap.objs.size, _, I.laid (t' := s.toks) kp (Nat.le_refl _) (show ObjOk X.prog X.w _ h' _ (.lst ys) from ⟨hz, its, c', r', e⟩), rfl, q _ (I.hok.fresh (Nat.le_refl _))⟩
  rcases hq with hq | hq
  · obtain ⟨its, r', pl, hz⟩ := I.list hq
    have hlen := r'.length
    obtain ⟨o, ho, hc, n, hd⟩ := pl.isList
    exact call_list_seq p (.inl rfl) ho hc hd (fun h' c' kp e => fin its r' hz h' c' kp e) (by simp only [List.size_toArray] <;> omega)
  · obtain ⟨its, r', pl, hz⟩ := I.tuple hq
    have hlen := r'.length
    obtain ⟨o, ho, hc, n, hd⟩ := pl
    exact call_list_seq p (.inr rfl) ho hc hd (fun h' c' kp e => fin its r' hz h' c' kp e) (by simp only [List.size_toArray] <;> omega)
theorem call_tuple_of : CallR X (.type "tuple") (fun xs H Q => ∃ p ys, xs = [.ref p] ∧ ((SqL X.K H p ys ∧ ∀ l, H l = none → Q (.ref l) (upd H l (.tup ys))) ∨ (SqT X.K H p ys ∧ Q (.ref p) H))) := by
  intro pins s σ H xs us Q I r h
  obtain ⟨p, ys, rfl, h⟩ := h
  obtain ⟨u, rfl, rx⟩ := vals1 r
  cases rx
  rcases h with ⟨hq, q⟩ | ⟨hq, q⟩
  · obtain ⟨its, r', pl, hz⟩ := I.list hq
    have hlen := r'.length
    refine call_tuple_list pl.isList (fun h' kp => ?_) (by simp only [List.size_toArray] <;> omega)
    have I1 : Inv X pins σ H { s with heap := h' } := I.kept (t' := s.toks) kp
    have I2 : Inv X pins σ (upd H h'.objs.size (.tup ys)) { s with heap := h'.push { cls := .type "tuple", data := .seq its.toArray } } :=
      I1.laid (t' := s.toks) (fun b o e => Heap.get?_push_of_some _ e) (Nat.le_refl _) (show ObjOk X.prog X.w _ _ _ (.tup ys) from ⟨hz, its, r', IsTup.new _ _⟩)
    exact ⟨.ref h'.objs.size, _, I2, rfl, q _ (I1.hok.fresh (Nat.le_refl _))⟩
  · obtain ⟨its, r', pl, hz⟩ := I.tuple hq
    exact call_tuple_same pl ⟨.ref p, H, I, rfl, q⟩

/-! ### the call of a builtin's method: o.m(..) -/
/-- the value is of that builtin type -/
def tyV (K : PySem.W.Frag) (T : String) (x : V) (H : Hp) : Prop := match x with
  | .str _ => T = "str"
  | .int _ => T = "int"
  | .ref p => (T = "list" ∧ ∃ xs, SqL K H p xs) ∨ (T = "tuple" ∧ ∃ o, K.lookup p = some o ∧ o.cls = .type "tuple" ∧ o.dict = none) ∨
      (T = "dict" ∧ ((∃ kvs, H p = some (.dK kvs)) ∨ ∃ kvs, H p = some (.dT kvs))) ∨ (T = "set" ∧ ∃ S n, H p = some (.set S n))
  | _ => False
theorem tyV_is {pins : List (Addr × Obj)} {σ : St} {H : Hp} {s : Shared} {T : String} {x : V} {v : Value} (I : Inv X pins σ H s) (r : RelV x v) (ty : tyV X.K T x H) :
    s.TypeIs v T ∧ ∀ a, v = .ref a → ∃ ob, s.heap.get? a = some ob ∧ ob.dict = none := by
  cases x with
  | str z =>
    obtain ⟨t, rfl⟩ := r
    cases (show T = "str" from ty)
    exact ⟨typeIs_str s z t, fun _ e => nomatch e⟩
  | int i =>
    obtain ⟨t, rfl⟩ := r
    cases (show T = "int" from ty)
    exact ⟨typeIs_int s i t, fun _ e => nomatch e⟩
  | ref p =>
    cases r
    rcases ty with ⟨rfl, xs, hq⟩ | ⟨rfl, o, hk, hc, hd⟩ | ⟨rfl, hk⟩ | ⟨rfl, S, n, hk⟩
    · obtain ⟨its, _, pl, _⟩ := I.list hq
      refine ⟨pl.isList.typeIs, fun a e => ?_⟩
      cases e
      obtain ⟨o, n, e, c, hd, _⟩ := pl
      exact ⟨o, e, hd⟩
    · refine ⟨⟨o, I.kIn p o hk, hc⟩, fun a e => ?_⟩
      cases e
      exact ⟨o, I.kIn _ o hk, hd⟩
    · have z : ∃ o, s.heap.get? p = some o ∧ o.ExactDict := by
        rcases hk with ⟨kvs, hk⟩ | ⟨kvs, hk⟩
        · obtain ⟨_, _, _, _, o, _, _, e, ex, _⟩ := I.hok p _ hk
          exact ⟨o, e, ex⟩
        · obtain ⟨_, _, _, _, o, _, _, e, ex, _⟩ := I.hok p _ hk
          exact ⟨o, e, ex⟩
      obtain ⟨o, e, ex⟩ := z
      refine ⟨⟨o, e, ex.1⟩, fun a e2 => ?_⟩
      cases e2
      exact ⟨o, e, ex.2.1⟩
    · obtain ⟨o, _, _, _, e, ex, _⟩ := I.hok p _ hk
      refine ⟨⟨o, e, ex.1⟩, fun a e2 => ?_⟩
      cases e2
      exact ⟨o, e, ex.2.1⟩
  | _ => exact False.elim ty
def tBM0 (K : PySem.W.Frag) (T : String) (r : V → List V → Hp → VK → Prop) (to : TE) : TE := fun σ H Q => to σ H fun x H1 => tyV K T x H1 ∧ r x [] H1 Q
def tBM (K : PySem.W.Frag) (T : String) (r : V → List V → Hp → VK → Prop) (to : TE) (t : TA) : TE := fun σ H Q => to σ H fun x H1 => tyV K T x H1 ∧ t σ H1 fun xs H2 => r x xs H2 Q
variable {o e : Expr} {es : List Expr} {to : TE} {t : TA} {name : Str} {apos cpos : Pos} {T id : String} {r : V → List V → Hp → VK → Prop}
theorem pe_bm0 (pa : PlainAttrs T) (slot : Slot T name id) (hty : typeOf (.builtin id) = pure (.type "method_descriptor")) (hm : MtR X id r) (ho : PE X o to)
    (hbase : attributeBase o name X.env (eval o X.env) = eval o X.env := by rfl) (hline : (apos.endLine == cpos.line) = true := by rfl) : PE X (.Call (.Attribute o name apos) [] [] cpos) (tBM0 X.K T r to) := by
  intro pins s σ H Q I h
  refine wpAny_Call_method0_late hbase hline (thn (ho pins s σ H _ I h) fun v s1 ⟨x, H1, I1, r1, ty, q1⟩ => ?_)
  obtain ⟨h1, h2⟩ := tyV_is I1 r1 ty
  exact ⟨T, id, pa, slot, hty, h1, h2, Calls.callWith_builtin rfl (PySem.evalArgs_none (hm pins s1 σ H1 x [] v [] Q I1 r1 .nil q1))⟩
theorem pe_bm (pa : PlainAttrs T) (slot : Slot T name id) (hty : typeOf (.builtin id) = pure (.type "method_descriptor")) (hm : MtR X id r) (ho : PE X o to) (ha : PA X (e :: es) t)
    (hbase : attributeBase o name X.env (eval o X.env) = eval o X.env := by rfl)
    (hfew : ((backTo cpos (starEach (e :: es) X.env)).all (fun x => !x.1) && (backToKw cpos (keywordEach [] X.env)).all (fun x => x.1.isSome)
      && decide ((e :: es).length + ([] : List Keyword).length + (if ([] : List Keyword).isEmpty then 0 else 1) < 30)) = true := by rfl)
    (hline : (apos.endLine == cpos.line) = true := by rfl) (hs : starEach (e :: es) X.env = (false, eval e X.env) :: starEach es X.env := by rfl) (hplain : (backTo cpos (starEach es X.env)).any (·.1) = false := by rfl) :
    PE X (.Call (.Attribute o name apos) (e :: es) [] cpos) (tBM X.K T r to t) := by
  intro pins s σ H Q I h
  refine wpAny_Call_method_late hbase hfew hline rfl (thn (ho pins s σ H _ I h) fun v s1 ⟨x, H1, I1, r1, ty, q1⟩ => ?_)
  obtain ⟨h1, h2⟩ := tyV_is I1 r1 ty
  refine ⟨T, id, pa, slot, hty, h1, h2, ?_⟩
  have hA := ha cpos pins s1 σ H1 _ I1 q1
  rw [hs] at hA ⊢
  refine Calls.callWith_builtin (by show (false || (backTo cpos (starEach es X.env)).any (·.1)) = false; rw [hplain] <;> rfl) (Calls.evalArgs_plain ?_)
  exact thn hA fun us s2 ⟨vs, H2, I2, r2, q2⟩ => hm pins s2 σ H2 x vs v us Q I2 r1 r2 q2
/- xs.append(e), list.index on a module's tuple .. are MtR facts of 06m -/
end
end L2

namespace L2
open PySem PySem.Spec PyProof.Rows

def MtM (X : Cx) (id : String) (r : V → List V → Hp → VK → Prop) : Prop :=
  ∀ (pins : List (Addr × Obj)) (s : Shared) (σ : St) (H : Hp) (x : V) (xs : List V) (v : Value) (us : List Value) (Q : VK), Inv X pins σ H s → RelV x v → Vals xs us → r x xs H Q →
    wpAny (model X.prog X.w) X.A (call (.builtin id) (v :: us)) (EP X pins σ Q) X.xe s

/-! ### lists of values -/
theorem Vals.one : ∀ {x : V} {us : List Value}, Vals [x] us → ∃ u, us = [u] ∧ RelV x u
  | _, _, .cons r .nil => ⟨_, rfl, r⟩
theorem Vals.two : ∀ {x y : V} {us : List Value}, Vals [x, y] us → ∃ u v, us = [u, v] ∧ RelV x u ∧ RelV y v
  | _, _, _, .cons r (.cons q .nil) => ⟨_, _, rfl, r, q⟩
theorem Vals.zero : ∀ {us : List Value}, Vals [] us → us = []
  | _, .nil => rfl
theorem Vals.dropLast {xs : List V} {us : List Value} (h : Vals xs us) : Vals xs.dropLast us.dropLast := by
  induction h with
  | nil => exact .nil
  | cons r t ih =>
    cases t with
    | nil => exact .nil
    | cons q t' => exact .cons r ih
theorem erase_last {α : Type} (l : List α) : l.eraseIdx (l.length - 1) = l.dropLast := by
  induction l with
  | nil => rfl
  | cons a r ih =>
    cases r with
    | nil => rfl
    | cons b r =>
      have e : (a :: b :: r).length - 1 = ((b :: r).length - 1) + 1 := by
        have h1 : (a :: b :: r).length = r.length + 2 := rfl
        have h2 : (b :: r).length = r.length + 1 := rfl
        omega
      rw [e, List.eraseIdx_cons_succ, ih]
      all_goals rfl

section
variable {X : Cx} {pins : List (Addr × Obj)} {σ : St} {H : Hp} {s : Shared} {l b : Addr} {xs ys zs : List V}

/-! ### the two steps: a tracked list is rewritten, a new list is laid -/
theorem Inv.lset {its its' : List Value} {n : Nat} {f : Array Value → Array Value} {t' : Nat} (I : Inv X pins σ H s) (hH : H l = some (.lst xs))
    (e : s.heap.get? l = some { cls := .type "list", data := .seq its.toArray n }) (hf : f its.toArray = its'.toArray) (hv : Vals ys its') (hz : ys.length ≤ sizeLine) :
    Inv X pins σ (upd H l (.lst ys)) { s with heap := s.heap.update l (Obj.mapSeq f), toks := t' } := by
  have q := PySem.IsL.update e f
  rw [hf] at q
  refine I.write (x := l) (e := l) (by rw [hH]; exact trivial) (.inl rfl) (fun b' u hb hu => (Heap.get?_update_other s.heap (Obj.mapSeq f) (Ne.symm hb)).trans hu) ⟨_, q⟩ ?_
  exact ⟨hz, its', _, hv, q⟩
theorem Inv.lnew {its : List Value} {t' : Nat} (I : Inv X pins σ H s) (hv : Vals ys its) (hz : ys.length ≤ sizeLine) :
    Inv X pins σ (upd H s.heap.objs.size (.lst ys)) { s with heap := s.heap.push { cls := .type "list", data := .seq its.toArray }, toks := t' } :=
  I.laid (fun _ _ q => Heap.get?_push_of_some _ q) (Nat.le_refl _) ⟨hz, its, 0, hv, Heap.get?_push_size _ rfl⟩
theorem Inv.fresh (I : Inv X pins σ H s) : H s.heap.objs.size = none := I.hok.fresh (Nat.le_refl _)
theorem Inv.lstM (I : Inv X pins σ H s) (hH : H l = some (.lst xs)) : xs.length ≤ sizeLine ∧ ∃ (its : List Value) (n : Nat), Vals xs its ∧ xs.length = its.length ∧ s.heap.get? l = some { cls := .type "list", data := .seq its.toArray n } := by
  obtain ⟨z, its, n, r, e⟩ := I.hok l _ hH
  exact ⟨z, its, n, r, r.length, e⟩

theorem notLongL {n : Nat} (h : n ≤ sizeLine) : Builtin.List.listTooLong n = false := by
  unfold Builtin.List.listTooLong
  exact decide_eq_false (by omega)
end

section
variable {X : Cx}

/-! ### methods -/
def rAppend : V → List V → Hp → VK → Prop := fun x vs H Q => ∃ l xs y, x = .ref l ∧ vs = [y] ∧ H l = some (.lst xs) ∧ xs.length < sizeLine ∧ Q .non (upd H l (.lst (xs ++ [y])))
theorem mt_append : MtM X "list.append" rAppend := by
  intro pins s σ H x vs v us Q I rx rv h
  obtain ⟨l, xs, y, rfl, rfl, hH, hz, q⟩ := h
  cases rx
  obtain ⟨u, rfl, ru⟩ := rv.one
  obtain ⟨z, its, n, r, hl, e⟩ := I.lstM hH
  refine call_meets F.slot_list_append ⟨_, e, rfl⟩ F.entry_list_append (F.args_list_append_2 _ _) (PySem.list_append l its.toArray n u (by rw [List.size_toArray]; omega)) ⟨e, ?_⟩
  refine ⟨.non, _, I.lset (its' := its ++ [u]) hH e (by simp) (r.append (.cons ru .nil)) ?_, rfl, q⟩
  rw [List.length_append, List.length_singleton]
  omega

def rExtend : V → List V → Hp → VK → Prop := fun x vs H Q => ∃ l b xs zs, x = .ref l ∧ vs = [.ref b] ∧ H l = some (.lst xs) ∧ H b = some (.lst zs) ∧ xs.length + zs.length ≤ sizeLine ∧ Q .non (upd H l (.lst (xs ++ zs)))
theorem mt_extend : MtM X "list.extend" rExtend := by
  intro pins s σ H x vs v us Q I rx rv h
  obtain ⟨l, b, xs, zs, rfl, rfl, hH, hB, hz, q⟩ := h
  cases rx
  obtain ⟨u, rfl, ru⟩ := rv.one
  cases ru
  obtain ⟨z, its, n, r, hl, e⟩ := I.lstM hH
  obtain ⟨z2, its2, n2, r2, hl2, e2⟩ := I.lstM hB
  have hsz : its.toArray.size + its2.toArray.size ≤ sizeLine := by rw [List.size_toArray, List.size_toArray]; omega
  have hlong : ¬ (!its.toArray.isEmpty && Builtin.List.listTooLong (its.toArray.size + its2.toArray.size)) = true := by
    rw [notLongL hsz, Bool.and_false]
    exact Bool.false_ne_true
  refine call_meets F.slot_list_extend ⟨_, e, rfl⟩ F.entry_list_extend (F.args_list_extend_2 _ _)
    (AutoSeq1.list_extend_list_list_0 l its.toArray n b its2.toArray n2 hlong (by rw [List.size_toArray]; omega) (by omega)) ⟨e, e2, ?_⟩
  refine ⟨.non, _, I.lset (its' := its ++ its2) hH e (by simp) (r.append r2) ?_, rfl, q⟩
  rw [List.length_append]
  omega

def rPop : V → List V → Hp → VK → Prop := fun x vs H Q => ∃ l xs y, x = .ref l ∧ vs = [] ∧ H l = some (.lst xs) ∧ xs[xs.length - 1]? = some y ∧ Q y (upd H l (.lst xs.dropLast))
theorem mt_pop : MtM X "list.pop" rPop := by
  intro pins s σ H x vs v us Q I rx rv h
  obtain ⟨l, xs, y, rfl, rfl, hH, hy, q⟩ := h
  cases rx
  have hus := rv.zero
  subst hus
  obtain ⟨z, its, n, r, hl, e⟩ := I.lstM hH
  obtain ⟨u, hu, ru⟩ := r.get hy
  have hy' : its.toArray[its.toArray.size - 1]? = some u := by
    show its.toArray[its.length - 1]? = some u
    rw [← Array.getElem?_toList, ← hl]
    exact hu
  refine call_meets F.slot_list_pop ⟨_, e, rfl⟩ F.entry_list_pop (F.args_list_pop_1 _) (MeetsSeq.list_pop_last l its.toArray n u hy' (by rw [List.size_toArray]; omega)) ⟨e, ?_⟩
  refine ⟨y, _, I.lset (its' := its.dropLast) hH e ?_ r.dropLast ?_, ru, q⟩
  · show its.toArray.eraseIdxIfInBounds (its.toArray.size - 1) = its.dropLast.toArray
    rw [List.size_toArray, List.eraseIdxIfInBounds_toArray, erase_last]
  · rw [List.length_dropLast]
    omega

/-! ### list + list, list += list, list * int -/
def rCat : R2 := fun x y H Q => ∃ l b xs zs, x = .ref l ∧ y = .ref b ∧ H l = some (.lst xs) ∧ H b = some (.lst zs) ∧ xs.length + zs.length ≤ sizeLine ∧ ∀ p, H p = none → Q (.ref p) (upd H p (.lst (xs ++ zs)))
theorem op_cat : OpR X (binaryOp .Add) rCat := by
  intro pins s σ H x y v u Q I rx ry h
  obtain ⟨l, b, xs, zs, rfl, rfl, hH, hB, hz, q⟩ := h
  cases rx
  cases ry
  obtain ⟨z, its, n, r, hl, e⟩ := I.lstM hH
  obtain ⟨z2, its2, n2, r2, hl2, e2⟩ := I.lstM hB
  refine PySem.P.add_list e e2 ?_ (by rw [List.size_toArray, List.size_toArray]; omega)
  have ea : its.toArray ++ its2.toArray = (its ++ its2).toArray := by simp
  rw [ea]
  exact ⟨.ref _, _, I.lnew (t' := s.toks) (r.append r2) (by rw [List.length_append]; omega), rfl, q _ I.fresh⟩

/-! ### del xs[i] -/
end

/-! ### xs[a:b] = ys -/
section
variable {prog : Program} {w : World} {A : Around} {E : Value → Shared → Prop} {s : Shared}
end

section
variable {X : Cx}
end
end L2

namespace L2
open PySem PySem.Spec PyProof.Rows

/-! ### lists of pairs as tables -/
section
variable {κ : Type} [DecidableEq κ]
def valV (kvs : List (κ × V)) (k : κ) : Option V := (kvs.find? fun kv => decide (kv.1 = k)).map (·.2)
/-- in its place, or at the end -/
def putK (kvs : List (κ × V)) (k : κ) (v : V) : List (κ × V) :=
  if (kvs.any fun kv => decide (kv.1 = k)) = true then kvs.map (fun kv => if kv.1 = k then (kv.1, v) else kv) else kvs ++ [(k, v)]

theorem valV_pos {p : κ × V} {r : List (κ × V)} {k : κ} (e : p.1 = k) : valV (p :: r) k = some p.2 := by simp [valV, List.find?_cons, e]
theorem valV_neg {p : κ × V} {r : List (κ × V)} {k : κ} (e : ¬ p.1 = k) : valV (p :: r) k = valV r k := by simp [valV, List.find?_cons, e]
theorem valV_any (k : κ) : ∀ kvs : List (κ × V), (kvs.any fun kv => decide (kv.1 = k)) = (valV kvs k).isSome
  | [] => rfl
  | p :: r => by
    rw [List.any_cons]
    by_cases e : p.1 = k
    · simp only [valV_pos e, decide_eq_true e, Bool.true_or, Option.isSome_some]
    · rw [valV_neg e, decide_eq_false e, Bool.false_or]; exact valV_any k r
theorem valV_map (k j : κ) (y : V) : ∀ kvs : List (κ × V), valV (kvs.map fun kv => if kv.1 = k then (kv.1, y) else kv) j = (valV kvs j).map fun x => if j = k then y else x
  | [] => rfl
  | p :: r => by
    have ih := valV_map k j y r
    rw [List.map_cons]
    by_cases h : p.1 = k
    · rw [if_pos h]
      by_cases e : p.1 = j
      · rw [valV_pos (p := (p.1, y)) e, valV_pos e, Option.map_some, if_pos (e.symm.trans h)]
      · rw [valV_neg (p := (p.1, y)) e, valV_neg e, ih]
    · rw [if_neg h]
      by_cases e : p.1 = j
      · rw [valV_pos (p := p) e, valV_pos e, Option.map_some, if_neg (fun z => h (e.trans z))]
      · rw [valV_neg (p := p) e, valV_neg e, ih]
theorem valV_snoc (k j : κ) (y : V) : ∀ kvs : List (κ × V), valV kvs k = none → valV (kvs ++ [(k, y)]) j = if j = k then some y else valV kvs j
  | [], _ => by
    by_cases e : k = j
    · rw [if_pos e.symm]; exact valV_pos (p := (k, y)) e
    · rw [if_neg (fun z => e z.symm)]; exact valV_neg (p := (k, y)) e
  | p :: r, hn => by
    rw [List.cons_append]
    have hk : ¬ p.1 = k := fun z => by rw [valV_pos z] at hn; cases hn
    rw [valV_neg hk] at hn
    have ih := valV_snoc k j y r hn
    by_cases e : p.1 = j
    · rw [valV_pos e, valV_pos e, if_neg (fun z => hk (e.trans z))]
    · rw [valV_neg e, valV_neg e, ih]
theorem valV_put (kvs : List (κ × V)) (k j : κ) (y : V) : valV (putK kvs k y) j = if j = k then some y else valV kvs j := by
  unfold putK
  by_cases a : (kvs.any fun kv => decide (kv.1 = k)) = true
  · rw [if_pos a, valV_map]
    rw [valV_any] at a
    by_cases e : j = k
    · obtain ⟨x, hx⟩ := Option.isSome_iff_exists.mp a
      rw [if_pos e, e, hx, Option.map_some, if_pos rfl]
    · rw [if_neg e]
      cases valV kvs j with
      | none => rfl
      | some x => rw [Option.map_some, if_neg e]
  · rw [if_neg a]
    refine valV_snoc k j y kvs ?_
    rw [valV_any] at a
    cases q : valV kvs k with
    | none => rfl
    | some x => rw [q] at a; exact (a rfl).elim
theorem length_putK (kvs : List (κ × V)) (k : κ) (v : V) : (putK kvs k v).length ≤ kvs.length + 1 := by
  unfold putK
  split
  · rw [List.length_map]; omega
  · rw [List.length_append, List.length_cons, List.length_nil]; omega

theorem RelO.isSome_eq {o : Option V} {u : Option Value} (r : RelO o u) : o.isSome = u.isSome := by
  cases o with
  | none => cases u with
    | none => rfl
    | some _ => exact (show False from r).elim
  | some _ => cases u with
    | none => exact (show False from r).elim
    | some _ => rfl
theorem RelO.getD {o : Option V} {u : Option Value} {d : V} {d' : Value} (r : RelO o u) (rd : RelV d d') : RelV (o.getD d) (u.getD d') := by
  cases o with
  | none => cases u with
    | none => exact rd
    | some _ => exact (show False from r).elim
  | some _ => cases u with
    | none => exact (show False from r).elim
    | some _ => exact r

/-- raw tables of the same keys -/
theorem KV.val {kvs : List (κ × V)} {vs : List (κ × Value)} (r : KV kvs vs) (k : κ) : RelO (valV kvs k) (valueAt vs k) := by
  unfold KV at r
  induction r with
  | nil => exact True.intro
  | @cons p q ps qs h t ih =>
    obtain ⟨h1, h2⟩ := h
    by_cases e : p.1 = k
    · have e' : q.1 = k := h1.symm.trans e
      have b : valueAt (q :: qs) k = some q.2 := by simp [valueAt, List.find?_cons, e']
      rw [valV_pos e, b]; exact h2
    · have e' : ¬ q.1 = k := fun z => e (h1.trans z)
      have b : valueAt (q :: qs) k = valueAt qs k := by simp [valueAt, List.find?_cons, e']
      rw [valV_neg e, b]; exact ih
theorem KV.any {kvs : List (κ × V)} {vs : List (κ × Value)} (r : KV kvs vs) (k : κ) : (kvs.any fun kv => decide (kv.1 = k)) = vs.any fun kv => decide (kv.1 = k) := by
  unfold KV at r
  induction r with
  | nil => rfl
  | cons h t ih => rw [List.any_cons, List.any_cons, ih, h.1]
theorem KV.repl {kvs : List (κ × V)} {vs : List (κ × Value)} (r : KV kvs vs) (k : κ) {y : V} {u : Value} (ry : RelV y u) :
    KV (kvs.map fun kv => if kv.1 = k then (kv.1, y) else kv) (vs.map fun kv => if kv.1 = k then (kv.1, u) else kv) := by
  unfold KV at r ⊢
  induction r with
  | nil => exact .nil
  | @cons p q ps qs h t ih =>
    rw [List.map_cons, List.map_cons]
    refine .cons ?_ ih
    obtain ⟨h1, h2⟩ := h
    by_cases e : p.1 = k
    · rw [if_pos e, if_pos (h1.symm.trans e)]; exact ⟨h1, ry⟩
    · rw [if_neg e, if_neg (fun z => e (h1.trans z))]; exact ⟨h1, h2⟩
theorem KV.put {kvs : List (κ × V)} {vs : List (κ × Value)} (r : KV kvs vs) (k : κ) {y : V} {u : Value} (ry : RelV y u) : KV (putK kvs k y) (stored vs k u) := by
  unfold putK stored
  rw [r.any k]
  by_cases e : (vs.any fun kv => decide (kv.1 = k)) = true
  · rw [if_pos e, if_pos e]; exact r.repl k ry
  · rw [if_neg e, if_neg e]; exact Paired.snoc r ⟨rfl, ry⟩
theorem KV.length {kvs : List (κ × V)} {vs : List (κ × Value)} (r : KV kvs vs) : kvs.length = vs.length := Paired.length r
end

/-! ### a tracked dict, its keys ints and texts or tuples of these -/
theorem kV_is {P : Program} {w : World} {k : Key} {u : Value} (r : RelV (kV k) u) : (mixKind P w).is k u = true := by
  cases k with
  | inl i => obtain ⟨t, e⟩ := (show ∃ t, u = Value.int i t from r); subst e; exact mixKind_int P w i t
  | inr x => obtain ⟨t, e⟩ := (show ∃ t, u = Value.str x t from r); subst e; exact mixKind_str P w x t
theorem items_are {P : Program} {w : World} : ∀ {ks : List Key} {us : List Value}, Vals (ks.map kV) us → ItemsAre (mixKind P w) ks us
  | [], _, r => by rw [List.map_nil] at r; cases r; exact .nil
  | k :: ks, _, r => by
    rw [List.map_cons] at r
    cases r with
    | cons h t => exact .cons (kV_is h) (items_are t)

/-- raw entries of a dict with tuple keys -/
abbrev KT (H : Hp) : List (List Key × V) → List (List Key × Addr × Value) → Prop := Paired fun p q => p.1 = q.1 ∧ H q.2.1 = some (.tup (p.1.map kV)) ∧ RelV p.2 q.2.2
theorem KT.val {H : Hp} {kvs : List (List Key × V)} {xs : List (List Key × Addr × Value)} (r : KT H kvs xs) (k : List Key) : RelO (valV kvs k) ((atKey xs k).map (·.2)) := by
  induction r with
  | nil => exact True.intro
  | @cons p q ps qs h t ih =>
    obtain ⟨h1, _, h2⟩ := h
    by_cases e : p.1 = k
    · have e' : q.1 = k := h1.symm.trans e
      have b : atKey (q :: qs) k = some q.2 := by simp [atKey, List.find?_cons, e']
      rw [valV_pos e, b]; exact h2
    · have e' : ¬ q.1 = k := fun z => e (h1.trans z)
      have b : atKey (q :: qs) k = atKey qs k := by simp [atKey, List.find?_cons, e']
      rw [valV_neg e, b]; exact ih
theorem KT.repl {H : Hp} {kvs : List (List Key × V)} {xs : List (List Key × Addr × Value)} (r : KT H kvs xs) (k : List Key) {y : V} {u : Value} (ry : RelV y u) :
    KT H (kvs.map fun kv => if kv.1 = k then (kv.1, y) else kv) (xs.map (putAt k u)) := by
  induction r with
  | nil => exact .nil
  | @cons p q ps qs h t ih =>
    rw [List.map_cons, List.map_cons]
    refine .cons ?_ ih
    obtain ⟨h1, h2, h3⟩ := h
    unfold putAt
    by_cases e : p.1 = k
    · rw [if_pos e, if_pos (h1.symm.trans e)]; exact ⟨h1, h2, ry⟩
    · rw [if_neg e, if_neg (fun z => e (h1.trans z))]; exact ⟨h1, h2, h3⟩
theorem KT.put {H : Hp} {kvs : List (List Key × V)} {xs : List (List Key × Addr × Value)} (r : KT H kvs xs) (k : List Key) {b : Addr} {y : V} {u : Value} (hb : H b = some (.tup (k.map kV))) (ry : RelV y u) :
    KT H (putK kvs k y) (storedH xs k b u) := by
  have e : (kvs.any fun kv => decide (kv.1 = k)) = (atKey xs k).isSome := by
    rw [valV_any, (r.val k).isSome_eq, Option.isSome_map]
  unfold putK storedH
  rw [e]
  by_cases q : (atKey xs k).isSome = true
  · rw [if_pos q, if_pos q]; exact r.repl k ry
  · rw [if_neg q, if_neg q]; exact Paired.snoc r ⟨rfl, hb, ry⟩
theorem KT.keeps {H H' : Hp} {kvs : List (List Key × V)} {xs : List (List Key × Addr × Value)} (r : KT H kvs xs) (ht : ∀ b ys, H b = some (.tup ys) → H' b = some (.tup ys)) : KT H' kvs xs :=
  Paired.mapP r fun _ _ z => ⟨z.1, ht _ _ z.2.1, z.2.2⟩

section
variable {P : Program} {w : World} {H : Hp} {h : Heap} {a : Addr}
theorem rd_of {u : HO} (ok : HOk P w H h) (e : Rd H a u) : ObjOk P w H h a u := e.ok ok
theorem dk_rd {kvs : List (Key × V)} (ok : HOk P w H h) (e : Rd H a (.dK kvs)) : kvs.length ≤ sizeLine ∧ (a == sysModules) = false ∧ ∃ vs, KV kvs vs ∧ h.DictOf (mixKind P w) a vs :=
  show ObjOk P w H h a (.dK kvs) from rd_of ok e
theorem dk_of {kvs : List (Key × V)} (ok : HOk P w H h) (e : H a = some (.dK kvs)) : kvs.length ≤ sizeLine ∧ (a == sysModules) = false ∧ ∃ vs, KV kvs vs ∧ h.DictOf (mixKind P w) a vs := dk_rd ok (.inl e)
/-- a tracked tuple of ints and texts is a key -/
theorem key_of {ks : List Key} (ok : HOk P w H h) (e : H a = some (.tup (ks.map kV))) : (tupleKind (mixKind P w)).is h ks a := by
  obtain ⟨_, its, r, o, h1, h2, n, h3⟩ := (show ObjOk P w H h a (.tup (ks.map kV)) from ok a _ e)
  exact ⟨o, its.toArray, n, h1, h2, h3, by simpa using items_are r⟩
theorem dt_rd {kvs : List (List Key × V)} (ok : HOk P w H h) (e : Rd H a (.dT kvs)) : kvs.length ≤ sizeLine ∧ (a == sysModules) = false ∧
    ∃ xs, KT H kvs xs ∧ h.DictOfH (tupleKind (mixKind P w)) a xs := by
  obtain ⟨z, y, xs, r, o, es, ep, h1, h2, h3, h4, h5⟩ := (show ObjOk P w H h a (.dT kvs) from rd_of ok e)
  refine ⟨z, y, xs, r, o, es, ep, h1, h2, h3, h4, fun x hx => ?_, h5⟩
  have all : ∀ {l : List (List Key × V)} {m : List (List Key × Addr × Value)}, KT H l m → ∀ x ∈ m, (tupleKind (mixKind P w)).is h x.1 x.2.1 := by
    intro l m q
    induction q with
    | nil => intro x hx; exact nomatch hx
    | @cons p q ps qs hq t ih =>
      intro x hx
      rcases List.mem_cons.mp hx with e | hx
      · subst e
        exact key_of ok (by rw [← hq.1]; exact hq.2.1)
      · exact ih x hx
  exact all r x hx
theorem dt_of {kvs : List (List Key × V)} (ok : HOk P w H h) (e : H a = some (.dT kvs)) : kvs.length ≤ sizeLine ∧ (a == sysModules) = false ∧
    ∃ xs, KT H kvs xs ∧ h.DictOfH (tupleKind (mixKind P w)) a xs := dt_rd ok (.inl e)
end

/-- what the dict at a holds at the key y -/
def DGet (H : Hp) (a : Addr) (y : V) (r : Option V) : Prop :=
  (∃ kvs k, Rd H a (.dK kvs) ∧ y = kV k ∧ r = valV kvs k) ∨ ∃ kvs k b, Rd H a (.dT kvs) ∧ y = .ref b ∧ H b = some (.tup (k.map kV)) ∧ r = valV kvs k
/-- the heap behind a[y] = v -/
def DPut (H : Hp) (a : Addr) (y v : V) (H' : Hp) : Prop :=
  (∃ kvs k, H a = some (.dK kvs) ∧ y = kV k ∧ kvs.length < sizeLine ∧ H' = upd H a (.dK (putK kvs k v))) ∨
  ∃ kvs k b, H a = some (.dT kvs) ∧ y = .ref b ∧ H b = some (.tup (k.map kV)) ∧ kvs.length < sizeLine ∧ H' = upd H a (.dT (putK kvs k v))
theorem DGet.k {H : Hp} {a : Addr} {kvs : List (Key × V)} {k : Key} (e : H a = some (.dK kvs)) : DGet H a (kV k) (valV kvs k) := .inl ⟨kvs, k, .inl e, rfl, rfl⟩
theorem DPut.k {H : Hp} {a : Addr} {kvs : List (Key × V)} {k : Key} {v : V} (e : H a = some (.dK kvs)) (hl : kvs.length < sizeLine) : DPut H a (kV k) v (upd H a (.dK (putK kvs k v))) := .inl ⟨kvs, k, e, rfl, hl, rfl⟩

section
variable {X : Cx} {pins : List (Addr × Obj)} {σ : St} {H : Hp} {s : Shared} {a : Addr} {y v : V} {u r : Value} {o : Option V} {A : Around} {E : Value → Shared → Prop}

theorem Inv.big (I : Inv X pins σ H s) : sysModules < s.heap.objs.size := by
  have h : mainGlobals < s.heap.objs.size := (I.mod.glob.keeps I.bk).lt
  exact Nat.lt_trans (by decide) h

/-- d[y], there -/
theorem d_getItem {Q : Value → Shared → Prop} (hu : A.units + 1 < cLine) (I : Inv X pins σ H s) (g : DGet H a y (some v)) (ry : RelV y u) (h : ∀ w' s', Inv X pins σ H s' → RelV v w' → Q w' s') :
    wpAny (model X.prog X.w) A (getItem (.ref a) u) Q E s := by
  rcases g with ⟨kvs, k, e, ey, l⟩ | ⟨kvs, k, b, e, ey, eb, l⟩
  · subst ey
    obtain ⟨z, hd, vs, rel, dd⟩ := dk_rd I.hok e
    obtain ⟨w', hw, rw'⟩ := RelO.some_of (v := v) (o := valueAt vs k) (by rw [l]; exact rel.val k)
    exact wpAny_getItem_of (kV_is ry) dd.mapOf hw (h w' _ (I.tok _) rw')
  · subst ey
    cases (show u = Value.ref b from ry)
    obtain ⟨z, hd, xs, rel, dd⟩ := dt_rd I.hok e
    obtain ⟨w', hw, rw'⟩ := RelO.some_of (v := v) (o := (atKey xs k).map (·.2)) (by rw [l]; exact rel.val k)
    obtain ⟨p, hp, hp2⟩ := Option.map_eq_some_iff.mp hw
    refine wpAny_getItem_heap (tupleKind_room_in1 hu) (key_of I.hok eb) dd hp ?_
    rw [hp2]
    exact h w' _ (I.tok _) rw'
/-- y in d -/
theorem d_in {Q : Value → Shared → Prop} (hu : A.units + 1 < cLine) (I : Inv X pins σ H s) (g : DGet H a y o) (ry : RelV y u) (h : ∀ s', Inv X pins σ H s' → Q (.bool o.isSome) s') :
    wpAny (model X.prog X.w) A (compareOp .In u (.ref a)) Q E s := by
  rcases g with ⟨kvs, k, e, ey, l⟩ | ⟨kvs, k, b, e, ey, eb, l⟩
  · subst ey
    obtain ⟨z, hd, vs, rel, dd⟩ := dk_rd I.hok e
    refine wpAny_in_of (kV_is ry) hd dd.mapOf ?_
    rw [← (rel.val k).isSome_eq, ← l]
    exact h _ (I.tok _)
  · subst ey
    cases (show u = Value.ref b from ry)
    obtain ⟨z, hd, xs, rel, dd⟩ := dt_rd I.hok e
    refine wpAny_in_heap (tupleKind_room_in1 hu) (key_of I.hok eb) hd dd ?_
    have q := (rel.val k).isSome_eq
    rw [Option.isSome_map] at q
    rw [← q, ← l]
    exact h _ (I.tok _)
theorem d_notIn {Q : Value → Shared → Prop} (hu : A.units + 1 < cLine) (I : Inv X pins σ H s) (g : DGet H a y o) (ry : RelV y u) (h : ∀ s', Inv X pins σ H s' → Q (.bool (!o.isSome)) s') :
    wpAny (model X.prog X.w) A (compareOp .NotIn u (.ref a)) Q E s := by
  rcases g with ⟨kvs, k, e, ey, l⟩ | ⟨kvs, k, b, e, ey, eb, l⟩
  · subst ey
    obtain ⟨z, hd, vs, rel, dd⟩ := dk_rd I.hok e
    refine wpAny_notIn_of (kV_is ry) hd dd.mapOf ?_
    rw [← (rel.val k).isSome_eq, ← l]
    exact h _ (I.tok _)
  · subst ey
    cases (show u = Value.ref b from ry)
    obtain ⟨z, hd, xs, rel, dd⟩ := dt_rd I.hok e
    refine wpAny_notIn_heap (tupleKind_room_in1 hu) (key_of I.hok eb) hd dd ?_
    have q := (rel.val k).isSome_eq
    rw [Option.isSome_map] at q
    rw [← q, ← l]
    exact h _ (I.tok _)
/-- a dict's object is replaced -/
theorem d_write {h' : Heap} {t' : Nat} {ob : HO} (I : Inv X pins σ H s) (mu : Mut (H a)) (hs : Heap.SameBut a s.heap h') (he : ∃ q, h'.get? a = some q) (new : ObjOk X.prog X.w (upd H a ob) h' a ob) :
    Inv X pins σ (upd H a ob) { s with heap := h', toks := t' } :=
  I.write (x := a) (e := a) mu (.inl rfl) (fun b q hb z => (hs.2 b hb).trans z) he new
theorem dk_new {P : Program} {w : World} {H' : Hp} {h' : Heap} {kvs : List (Key × V)} {vs : List (Key × Value)} (z : kvs.length ≤ sizeLine) (hd : (a == sysModules) = false) (rel : KV kvs vs) (dd : h'.DictOf (mixKind P w) a vs) :
    ObjOk P w H' h' a (.dK kvs) := ⟨z, hd, vs, rel, dd⟩
/-- d[y] = v -/
theorem d_setItem {H' : Hp} {Q : Unit → Shared → Prop} (hu : A.units + 1 < cLine) (I : Inv X pins σ H s) (g : DPut H a y v H') (ry : RelV y u) (rv : RelV v r) (h : ∀ s', Inv X pins σ H' s' → Q () s') :
    wpAny (model X.prog X.w) A (setItem (.ref a) u r) Q E s := by
  rcases g with ⟨kvs, k, e, ey, l, eH⟩ | ⟨kvs, k, b, e, ey, eb, l, eH⟩
  · subst ey eH
    obtain ⟨z, hd, vs, rel, dd⟩ := dk_of I.hok e
    have hz : vs.length ≤ sizeLine := by rw [← rel.length]; exact z
    have hl : (putK kvs k v).length ≤ sizeLine := by have := length_putK kvs k v; omega
    refine wpAny_setItem_pairs (hsz := hz) (kV_is ry) dd fun h' dd' hs => h _ ?_
    have he : ∃ q, h'.get? a = some q := let ⟨q, _, _, hq, _⟩ := dd'; ⟨q, hq⟩
    exact d_write I (by rw [e]; exact True.intro) hs he (dk_new hl hd (rel.put k rv) dd')
  · subst ey eH
    cases (show u = Value.ref b from ry)
    obtain ⟨z, hd, xs, rel, dd⟩ := dt_of I.hok e
    have hz : xs.length ≤ sizeLine := by rw [← Paired.length rel]; exact z
    have hl : (putK kvs k v).length ≤ sizeLine := by have := length_putK kvs k v; omega
    refine wpAny_setItem_heap (hsz := hz) (tupleKind_room_in1 hu) (key_of I.hok eb) dd fun h' dd' hs => h _ ?_
    obtain ⟨q, es, ep, hq, h2, h3, h4, _, h5⟩ := dd'
    refine d_write I (by rw [e]; exact True.intro) hs ⟨q, hq⟩ ⟨hl, hd, _, (rel.put k eb rv).keeps fun c ys ec => ?_, q, es, ep, hq, h2, h3, h4, h5⟩
    rw [upd_ne (ne_of ec e (fun z => nomatch z))]
    exact ec
end

section
variable {X : Cx} {pins : List (Addr × Obj)} {σ : St} {H : Hp} {s : Shared} {a : Addr} {kvs : List (Key × V)} {k : Key} {u : Value} {A : Around} {E : Value → Shared → Prop}
end

/-! ### readings and rules -/
/-- the element of a subscription, not a slice -/
def NoSl (i : Expr) : Prop := ∀ ov iv, subscripted i false ov iv = operate [ov, iv] (getItem ov iv)
theorem subD_of {prog : Program} {w : World} {A : Around} {E : Value → Shared → Prop} {s : Shared} {env : Env} {value slice : Expr} {pos : Pos} {T id : String} {Q : Value → Shared → Prop}
    (hl : typeLookup (.type T) "__getitem__" = pure (some (.builtin id))) (hs : NoSl slice)
    (h : wpAny (model prog w) A (eval value env) (fun o s₁ => wpAny (model prog w) A (eval slice env) (fun i s₂ => s₂.TypeIs o T ∧ wpAny (model prog w) A (getItem o i) Q E s₂) E s₁) E s) :
    wpAny (model prog w) A (eval (.Subscript value slice pos) env) Q E s := by
  refine Subscript_ (wpAny_mono h (fun o s₁ h₁ => wpAny_mono h₁ (fun i s₂ h₂ => ?_) fun _ _ x => x) fun _ _ x => x)
  obtain ⟨hT, h₂⟩ := h₂
  unfold subscriptTail
  refine wpAny_bind ?_
  rw [getitemInPython_of_ne hT.not_modules]
  refine wpAny_bind (wpAny_specialOf hT hl ?_)
  have fin : wpAny (model prog w) A (subscripted slice false o i) (fun r s₃ => wpAny (model prog w) A (letTemporaryGo value o r >>= fun _ => pure r) Q E s₃) E s₂ := by
    rw [hs o i]
    exact wpAny_operating (wpAny_mono h₂ (fun r s₃ h₃ => wpAny_bind (wpAny_letTemporaryGo (wpAny_pure h₃))) fun _ _ x => x)
  first
    | exact wpAny_pure (wpAny_bind fin)
    | exact wpAny_bind (wpAny_pure (wpAny_bind fin))
    | exact wpAny_bind fin

theorem dict_typeIs {X : Cx} {pins : List (Addr × Obj)} {σ : St} {H : Hp} {s : Shared} {a : Addr} {y : V} {o : Option V} (I : Inv X pins σ H s) (g : DGet H a y o) : s.TypeIs (.ref a) "dict" := by
  rcases g with ⟨kvs, k, e, _, _⟩ | ⟨kvs, k, b, e, _, _, _⟩
  · obtain ⟨_, _, vs, _, dd⟩ := dk_rd I.hok e
    exact dd.typeIs
  · obtain ⟨_, _, xs, _, dd⟩ := dt_rd I.hok e
    exact dd.typeIs

/-- d[y] -/
def tDGet (td ty : TE) : TE := fun σ H Q => td σ H fun x H1 => ty σ H1 fun y H2 => ∃ a v, x = .ref a ∧ DGet H2 a y (some v) ∧ Q v H2
/-- y in d, y not in d -/
def tDIn (ty td : TE) : TE := fun σ H Q => ty σ H fun y H1 => td σ H1 fun x H2 => ∃ a o, x = .ref a ∧ DGet H2 a y o ∧ Q (.bl o.isSome) H2
def tDNotIn (ty td : TE) : TE := fun σ H Q => ty σ H fun y H1 => td σ H1 fun x H2 => ∃ a o, x = .ref a ∧ DGet H2 a y o ∧ Q (.bl (!o.isSome)) H2
/-- d[y] = v -/
def sDPut (td ty tv : TE) : TS := fun D σ H => tv σ H fun v H1 => td σ H1 fun x H2 => ty σ H2 fun y H3 => ∃ a H4, x = .ref a ∧ DPut H3 a y v H4 ∧ D.nx σ H4

section
variable {X : Cx} {o i e value : Expr} {pos pos' tpos : Pos} {td ty tv : TE}
theorem pe_dget (hu : X.A.units + 1 < cLine) (ho : PE X o td) (hi : PE X i ty) (hs : NoSl i) : PE X (.Subscript o i pos) (tDGet td ty) := by
  intro pins s σ H Q I h
  refine subD_of PySem.F.slot_dict_getitem.lookup hs (thn (ho pins s σ H _ I h) fun u s1 ⟨x, H1, I1, rx, q1⟩ => thn (hi pins s1 σ H1 _ I1 q1) fun iv s2 ⟨y, H2, I2, ry, a, v, ex, g, q2⟩ => ?_)
  subst ex
  obtain rfl : u = Value.ref a := rx
  exact ⟨dict_typeIs I2 g, d_getItem hu I2 g ry fun w' s3 I3 rw' => ⟨v, H2, I3, rw', q2⟩⟩
theorem pc_din (hu : X.A.units + 1 < cLine) (hi : PE X i ty) (ho : PE X o td) : PC X .In i o (tDIn ty td) := by
  intro pins s σ H Q I h
  refine thn (hi pins s σ H _ I h) fun iv s1 ⟨y, H1, I1, ry, q1⟩ => thn (ho pins s1 σ H1 _ I1 q1) fun u s2 ⟨x, H2, I2, rx, a, ov, ex, g, q2⟩ => ?_
  subst ex
  obtain rfl : u = Value.ref a := rx
  exact d_in hu I2 g ry fun s3 I3 => ⟨.bl ov.isSome, H2, I3, rfl, q2⟩
theorem pc_dnotin (hu : X.A.units + 1 < cLine) (hi : PE X i ty) (ho : PE X o td) : PC X .NotIn i o (tDNotIn ty td) := by
  intro pins s σ H Q I h
  refine thn (hi pins s σ H _ I h) fun iv s1 ⟨y, H1, I1, ry, q1⟩ => thn (ho pins s1 σ H1 _ I1 q1) fun u s2 ⟨x, H2, I2, rx, a, ov, ex, g, q2⟩ => ?_
  subst ex
  obtain rfl : u = Value.ref a := rx
  exact d_notIn hu I2 g ry fun s3 I3 => ⟨.bl (!ov.isSome), H2, I3, rfl, q2⟩
theorem ps_dput (hu : X.A.units + 1 < cLine) (ho : PE X o td) (hi : PE X i ty) (hv : PE X value tv) (hs : swapsWith value (some (.Subscript o i pos')) pos.line X.env = pure false) :
    PS X (.Assign [.Subscript o i pos'] value pos) (sDPut td ty tv) := by
  intro pins s σ H D I h
  refine wpAny_Assign_Subscript (thn (hv pins s σ H _ I h) fun r s1 ⟨v, H1, I1, rv, q1⟩ => thn (ho pins s1 σ H1 _ I1 q1) fun u s2 ⟨x, H2, I2, rx, q2⟩ => thn (hi pins s2 σ H2 _ I2 q2) fun iv s3 ⟨y, H3, I3, ry, a, H4, ex, g, q3⟩ => ?_) hs
  subst ex
  obtain rfl : u = Value.ref a := rx
  exact d_setItem hu I3 g ry rv fun s4 I4 => ⟨σ, H4, I4, q3⟩
end

/-! ### displays -/
theorem dk_empty {P : Program} {w : World} {H : Hp} (h : Heap) (hb : sysModules < h.objs.size) : ObjOk P w H (h.push { cls := .type "dict", data := .dict #[] }) h.objs.size (.dK []) :=
  ⟨Nat.zero_le _, beq_eq_false_iff_ne.mpr (Ne.symm (Nat.ne_of_lt hb)), [], .nil, Heap.DictOf.new h⟩
/-- {}, to be a dict of the kind that is wanted -/
def tDNewK : TE := fun _ H Q => ∀ p, H p = none → Q (.ref p) (upd H p (.dK []))
section
variable {X : Cx} {pos : Pos}
theorem pe_dnewK : PE X (.Dict [] [] pos) tDNewK := fun pins s σ H Q I h =>
  wpAny_Dict_empty ⟨.ref s.heap.objs.size, _, I.laid (a := s.heap.objs.size) (o := .dK []) (t' := s.toks) (fun _ _ q => Heap.get?_push_of_some _ q) (Nat.le_refl _) (dk_empty s.heap I.big), rfl, h _ (I.hok.fresh (Nat.le_refl _))⟩
end

/-! ### methods -/
structure M2 (X : Cx) (o : Expr) (m : Str) (apos : Pos) (e f : Expr) (cpos : Pos) : Prop where
  base : attributeBase o m X.env (eval o X.env) = eval o X.env
  few : ((backTo cpos (starEach [e, f] X.env)).all (fun x => !x.1) && (backToKw cpos (keywordEach [] X.env)).all (fun x => x.1.isSome)
    && decide (([e, f] : List Expr).length + ([] : List Keyword).length + (if ([] : List Keyword).isEmpty then 0 else 1) < 30)) = true
  line : (apos.endLine == cpos.line) = true
  trees : backTo cpos (starEach [e, f] X.env) = [(false, eval e X.env), (false, eval f X.env)]

/-- a is a dict, whatever its keys -/
def IsD (H : Hp) (a : Addr) : Prop := (∃ kvs, Rd H a (.dK kvs)) ∨ ∃ kvs, Rd H a (.dT kvs)
theorem isD_at {X : Cx} {pins : List (Addr × Obj)} {σ : St} {H : Hp} {s : Shared} {a : Addr} (I : Inv X pins σ H s) (d : IsD H a) :
    s.TypeIs (.ref a) "dict" ∧ (∀ b, Value.ref a = .ref b → ∃ ob, s.heap.get? b = some ob ∧ ob.dict = none) ∧ (a == sysModules) = false := by
  rcases d with ⟨kvs, e⟩ | ⟨kvs, e⟩
  · obtain ⟨_, hd, vs, _, dd⟩ := dk_rd I.hok e
    refine ⟨dd.typeIs, fun b q => ?_, hd⟩
    cases q
    obtain ⟨ob, _, _, h1, h2, _⟩ := dd
    exact ⟨ob, h1, h2.2.1⟩
  · obtain ⟨_, hd, xs, _, dd⟩ := dt_rd I.hok e
    refine ⟨dd.typeIs, fun b q => ?_, hd⟩
    cases q
    obtain ⟨ob, _, _, h1, h2, _⟩ := dd
    exact ⟨ob, h1, h2.2.1⟩

section
variable {X : Cx} {pins : List (Addr × Obj)} {σ : St} {H : Hp} {s : Shared} {a : Addr} {y d : V} {u r : Value} {o : Option V} {A : Around} {E : Value → Shared → Prop}
/-- d.get(y, x) -/
theorem d_get2 {Q : Value → Shared → Prop} (hu : A.units + 1 < cLine) (I : Inv X pins σ H s) (g : DGet H a y o) (ry : RelV y u) (rd : RelV d r) (h : ∀ w' s', Inv X pins σ H s' → RelV (o.getD d) w' → Q w' s') :
    wpAny (model X.prog X.w) A (call (.builtin "dict.get") [.ref a, u, r]) Q E s := by
  rcases g with ⟨kvs, k, e, ey, l⟩ | ⟨kvs, k, b, e, ey, eb, l⟩
  · subst ey
    obtain ⟨z, hd, vs, rel, dd⟩ := dk_rd I.hok e
    refine call_meetsIn PySem.F.slot_dict_get dd.typeIs PySem.F.entry_dict_get (PySem.F.args_dict_get_3 _ _ _) (meets_dict_get_default (mixKind X.prog X.w) a (kV_is ry) hd r) ⟨_, dd.mapOf, h _ _ (I.tok _) ?_⟩
    rw [l]
    exact (rel.val k).getD rd
  · subst ey
    cases (show u = Value.ref b from ry)
    obtain ⟨z, hd, xs, rel, dd⟩ := dt_rd I.hok e
    refine call_meetsIn PySem.F.slot_dict_get dd.typeIs PySem.F.entry_dict_get (PySem.F.args_dict_get_3 _ _ _) (meetsH_dict_get_default (tupleKind (mixKind X.prog X.w)) a b hd r) ⟨tupleKind_room_in1 hu, k, xs, key_of I.hok eb, dd, h _ _ (I.tok _) ?_⟩
    rw [l]
    exact (rel.val k).getD rd
end

def tDGet2 (td ty tx : TE) : TE := fun σ H Q => td σ H fun x H1 => ∃ a, x = .ref a ∧ IsD H1 a ∧ ty σ H1 fun y H2 => tx σ H2 fun z H3 => ∃ o, DGet H3 a y o ∧ Q (o.getD z) H3
section
variable {X : Cx} {o e f : Expr} {apos cpos : Pos} {td ty tx : TE}
theorem pe_dget2 (hu : X.A.units + 1 < cLine) (ho : PE X o td) (he : PE X e ty) (hf : PE X f tx) (m : M2 X o "get" apos e f cpos) : PE X (.Call (.Attribute o "get" apos) [e, f] [] cpos) (tDGet2 td ty tx) := by
  intro pins s σ H Q I h
  refine wpAny_Call_method m.base m.few m.line PySem.F.plainAttrs_dict PySem.F.slot_dict_get PySem.F.type_dict_get (thn (ho pins s σ H _ I h) fun u s1 ⟨x, H1, I1, rx, a, ex, d, q1⟩ => ?_)
  subst ex
  obtain rfl : u = Value.ref a := rx
  obtain ⟨t1, t2, _⟩ := isD_at I1 d
  refine ⟨t1, t2, ?_⟩
  rw [m.trees]
  refine Calls.callWith_builtin rfl (Calls.evalArgs_plain (Calls.spliced_cons (thn (he pins s1 σ H1 _ I1 q1) fun iv s2 ⟨y, H2, I2, ry, q2⟩ =>
    Calls.spliced_cons (thn (hf pins s2 σ H2 _ I2 q2) fun fv s3 ⟨z, H3, I3, rz, ov, g, q3⟩ => Calls.spliced_nil ?_))))
  exact d_get2 hu I3 g ry rz fun w' s4 I4 rw' => ⟨_, H3, I4, rw', q3⟩
end

/-! ### dict(d): a copy -/
section
variable {X : Cx} {pins : List (Addr × Obj)} {σ : St} {H : Hp} {s : Shared} {a : Addr} {kvs : List (Key × V)} {A : Around} {E : Value → Shared → Prop}
theorem d_copyOf {Q : Value → Shared → Prop} (I : Inv X pins σ H s) (e : Rd H a (.dK kvs)) (h : ∀ p s', H p = none → Inv X pins σ (upd H p (.dK kvs)) s' → Q (.ref p) s') : wpAny (model X.prog X.w) A (call (.type "dict") [.ref a]) Q E s := by
  obtain ⟨z, hd, vs, rel, dd⟩ := dk_rd I.hok e
  refine kt_call_dict hd dd (by rw [← rel.length]; exact z) fun h' dd' hs => ?_
  refine h _ _ (I.hok.fresh (Nat.le_refl _)) (I.laid (a := s.heap.objs.size) (o := .dK kvs) (t' := s.toks) (fun b q hq => ?_) (Nat.le_refl _) (dk_new z (beq_eq_false_iff_ne.mpr (Ne.symm (Nat.ne_of_lt I.big))) rel dd'))
  exact (hs.2 b (Nat.ne_of_lt (Heap.lt_size hq))).trans (Heap.get?_push_of_some _ hq)
end

section
variable {X : Cx} {pins : List (Addr × Obj)} {σ : St} {H : Hp} {s : Shared} {a : Addr} {y : V} {u : Value} {A : Around} {E : Value → Shared → Prop}
end
end L2

namespace Att
open PySem PySem.W PySem.Calls PyProof.Rows

/-! ### the script -/
theorem ints_of_wellAll {P : Params} {h : Heap} : ∀ (ns : List Int) (vs : List Value), WellAll P h vs (ns.map WData.int) → IntsAre vs ns := by
  intro ns
  induction ns with
  | nil =>
    intro vs w
    rw [List.map_nil] at w
    cases w
    exact .nil
  | cons n ns ih =>
    intro vs w
    rw [List.map_cons] at w
    cases w with
    | cons a b =>
      cases a
      exact .cons _ _ (ih _ b)

theorem script_of {l : OpenLaw} {n : Nat} (hn : l.most = some n) {P : Params} {h : Heap} {args : List WData} {vals : List Value}
    (hpre : l.row.toRowW.claim.pre args = true) (hwl : WellAll P h vals args) :
    ∃ a vs ns, vals = [Value.ref a] ∧ args = [WData.list (ns.map WData.int)] ∧ h.get? a = some { cls := .type "list", data := .seq vs.toArray } ∧ IntsAre vs ns ∧ ns.length ≤ n := by
  have hsh : WShape.hasAll [] args [.list .int] = true := (pre_splitW hpre).1
  have hc : l.pre.holds [] { args := args } = true := (pre_splitW hpre).2
  obtain ⟨d, r, rfl, h1, h2⟩ := hasAllW_cons hsh
  obtain rfl := hasAllW_nil h2
  obtain ⟨xs, rfl, h3⟩ := hasW_list h1
  obtain ⟨ns, rfl⟩ := items_int h3
  have hlen : ns.length ≤ n := by
    unfold OpenLaw.pre at hc
    have h4 : (WTm.not (.lt (.lit (.int (n : Int))) (.len (.arg 0)))).holds [] { args := [.list (ns.map .int)] } = true := by
      have h4 := (holds_andW hc).1
      rw [hn] at h4
      exact h4
    have h5 := condW_of h4 (w_not (w_lt w_lit (w_len_list (w_arg rfl))))
    rw [List.length_map] at h5
    refine Nat.le_of_not_lt fun q => ?_
    have q' : (n : Int) < ((ns.length : Nat) : Int) := by omega
    first
      | (rw [decide_eq_true q'] at h5; exact absurd h5 (by decide))
      | (simp at h5; omega)
  cases hwl with
  | cons w1 w2 =>
    cases w2
    cases w1 with
    | list ho hall => exact ⟨_, _, ns, rfl, rfl, ho, ints_of_wellAll ns _ hall, hlen⟩

theorem post_true (l : OpenLaw) (args : List WData) : l.row.toRowW.claim.post args (.bool true) args = true :=
  postW_of (r := l.row.toRowW) (X := (true == true))
    (show WShape.has [] (.bool true) .bool = true by first | rfl | decide | simp [WShape.has, WShape.arms, WShape.armsAll])
    (show (WTm.eq .res (.lit (.bool true))).value [] { args := args, res := some (.bool true), after := args } = some (.bool (true == true)) from w_eq_bool (w_res rfl) w_lit) rfl

/-! ### the attachment: holds_open's last premise (the goal 'hc' behind k_head) from a wpAny of the law's body -/

/-- the same from a codeAny of the CALL (for a layer whose function contracts speak of calls) -/
theorem attach_call {l : OpenLaw} {n : Nat} {q : Program} {loose : List Str} {XP : (Str → Option Value) → Heap → Prop} {YP : World → Heap → Prop} {d : DefRec}
    (hn : l.most = some n) (hdf : d.params.defaults = [])
    (call : ∀ (w : World) (s₀ s₁ : Shared) (mg mb : Str → Option Value) (fa : Addr) (o : Obj) (pm cd doc : Value) (a : Addr) (vs : List Value) (ns : List Int),
      Ground q loose [] XP w s₀ mg mb s₁.heap → YP w s₁.heap →
      s₁.heap.get? fa = some o → o.data = .func (docDef d.name d.params d.body d.scope pm cd doc) → s₁.heap.CodeRec cd d.name → mg d.name = some (.ref fa) →
      s₁.heap.get? a = some { cls := .type "list", data := .seq vs.toArray } → IntsAre vs ns → ns.length ≤ n → s₁.gens = #[] →
      codeAny (model l.prog w) callerA (.call (.ref fa) ⟨[.ref a], []⟩) (fun r s' => r = .ok (.ret (.bool true)) ∧ OldK s₁.heap s'.heap ∧ s'.os = s₁.os ∧ AllBare s'.gens) s₁) :
    WalkO q loose XP YP l.row.toRowW d [] (fun f vs => PySem.call f vs) := by
  intro w s₀ s₁ mg mb G Y fa o pm cd doc dV kV ho hd hcd hD hmg hg args vals as hpre hlay hrd hwl hlo
  obtain rfl : dV = .none := Dflts.none hD hdf
  obtain rfl : kV = .none := Dflts.noKw hD
  obtain ⟨a, vs, ns, rfl, rfl, hobj, hints, hlen⟩ := script_of hn hpre hwl
  refine enter_call (codeAny_mono (call w s₀ s₁ mg mb fa o pm cd doc a vs ns G Y ho (fd_plain hd) hcd hmg hobj hints hlen hg) fun r s' hq => ?_)
  obtain ⟨rfl, h2, h3, h4⟩ := hq
  exact ⟨.inl ⟨.bool true, .bool true, [], rfl, fun _ => rfl, .bool true, post_true l _, fun _ => ⟨List.Pairwise.nil, fun _ hm => (nomatch hm)⟩⟩, h2, h3, h4⟩

/-! ### rules over ANY heap (no ledger) from facts about the written part K: the library's own take a ledger (News) for what they write -/
section
variable {prog : Program} {w : World} {A : Around} {E : Value → Shared → Prop} {s : Shared} {K : Frag}

/-! the whole heap as the ledger: makes every rule that writes through a ledger a rule over any heap -/

end
end Att

namespace L2
open PySem PySem.Spec PyProof.Rows

theorem vals_ints : ∀ {vs : List Value} {ns : List Int}, IntsAre vs ns → Vals (ns.map V.int) vs
  | _, _, .nil => .nil
  | _, _, .cons n t h => .cons ⟨t, rfl⟩ (vals_ints h)

/-- nothing is tracked but the script, known to the object (or it is an object of the module) -/
def Only (H : Hp) : Prop := ∀ b, H b = none ∨ ∃ o xs, H b = some (.frz o (.lst xs))

/-- THE HEAD: the law's promise, at the heap behind the top. F, the promise of the law's def, may use that base is part of the heap (so K.In base, base.Ns mainGlobals mg stand in Mod) -/
theorem law_call {P : Program} {w : World} {K : PySem.W.Frag} {mg mb : Str → Option Value} {CX : CXT} {k : Nat} {fa a : Addr} {fd : FuncData} {x : Str} {sp : Sp} {s₁ : Shared} {vs : List Value} {ns : List Int}
    (KX : K.In s₁.heap) (hns : s₁.heap.Ns mainGlobals mg) (hb : s₁.heap.Ns builtinsNs mb) (hbb : ∀ x : Str, x ≠ "__name__" → mb x = bootBuiltins x) (hlim : s₁.heap.NoLimit) (hg : s₁.gens = #[])
    (ha : s₁.heap.get? a = some { cls := .type "list", data := .seq vs.toArray }) (hi : IntsAre vs ns) (hl : ns.length ≤ sizeLine) (hr : Room k callerA)
    (F : ∀ base : Heap, K.In base → base.Ns mainGlobals mg → FnOk P w K mg base CX k fa fd [x] sp) (hbind : ∀ (s : Shared) (u : Value), BindsTo s fd ⟨[u], []⟩ [(x, u)])
    (hsp : ∀ H : Hp, Only H → SqL K H a (ns.map V.int) → sp [.ref a] H (fun v _ => v = .bl true) fun _ _ _ => False)
    (hCX : ∀ H e s', CX [] H s₁ (fun _ _ _ => False) e s' → False) :
    codeAny (model P w) callerA (.call (.ref fa) ⟨[.ref a], []⟩) (fun r s' => r = .ok (.ret (.bool true)) ∧ OldK s₁.heap s'.heap ∧ s'.os = s₁.os ∧ AllBare s'.gens) s₁ := by
  have rv := vals_ints hi
  have lenV := hi.length
  -- from an abstract heap in which nothing but the script may be tracked
  have core : ∀ H : Hp, Only H → SqL K H a (ns.map V.int) → HOk P w H s₁.heap → (∀ b, H b ≠ none → b = a) → (H a ≠ none → K.lookup a = none) →
      codeAny (model P w) callerA (.call (.ref fa) ⟨[.ref a], []⟩) (fun r s' => r = .ok (.ret (.bool true)) ∧ OldK s₁.heap s'.heap ∧ s'.os = s₁.os ∧ AllBare s'.gens) s₁ := by
    intro H hO hS hok hA hK
    have base_of : ∀ {b : Addr} {o : Obj}, s₁.heap.get? b = some o → H b = none → (hidT s₁.heap H).get? b = some o := fun e n => hidT_get e n
    have noA : ∀ {b : Addr} {o : Obj} {es : Array DictEntry} {ep : Nat}, s₁.heap.get? b = some o → o.data = .dict es ep → H b = none := fun {b o es ep} e d => by
      cases q : H b with
      | none => rfl
      | some u =>
        have e' : b = a := hA b (by rw [q]; simp)
        subst e'
        rw [ha] at e; cases e
        have d' : Data.seq vs.toArray _ = Data.dict es ep := d
        cases d'
    have nsK : ∀ {b : Addr} {m : Str → Option Value}, s₁.heap.Ns b m → (hidT s₁.heap H).Ns b m := fun {b m} ⟨o, es, ep, e, d, r⟩ => ⟨o, es, ep, base_of e (noA e d), d, r⟩
    have hKb : K.In (hidT s₁.heap H) := fun b o e => base_of (KX b o e) (by
      cases q : H b with
      | none => rfl
      | some u =>
        have e' : b = a := hA b (by rw [q]; simp)
        subst e'
        rw [hK (by rw [q]; simp)] at e; cases e)
    have hM : Mod K mg (hidT s₁.heap H) := ⟨hKb, nsK hns, ⟨mb, nsK hb, hbb⟩, let ⟨mc, h1, h2⟩ := hlim; ⟨mc, nsK h1, h2⟩⟩
    have e0 : Env0 P w K mg (hidT s₁.heap H) callerA [] s₁ H := ⟨rfl, hM, fun b o e => of_hidT e, Nat.le_of_eq (hidT_size _ _), trivial, fun b hb => absurd (show b ∈ ([] : List Addr) from hb) (by simp), hok, .of_eq hg⟩
    refine codeAny_mono ((F _ hKb (nsK hns)).run callerA [] s₁ H ⟨[.ref a], []⟩ [.ref a] [.ref a] _ _ hr e0 (hbind s₁ (.ref a)) (.cons rfl .nil) (hsp H hO hS)) fun r s' h => ?_
    cases r with
    | error e => exact (hCX H e s' h).elim
    | ok fl =>
      cases fl with
      | next => exact False.elim h
      | brk => exact False.elim h
      | cont => exact False.elim h
      | ret u =>
        obtain ⟨v, H', os, bare, un, hok', r', q⟩ := h
        have q' : v = .bl true := q
        subst q'
        obtain rfl : u = Value.bool true := r'
        refine ⟨rfl, OldK.of_keep fun b o e => ?_, os, bare⟩
        cases q : H b with
        | none => exact un.keep b o e q (by intro z; exact absurd (show b ∈ ([] : List Addr) from z) (by simp)) (by simp)
        | some u =>
          rcases hO b with z | ⟨ob, xs, z⟩
          · rw [q] at z; cases z
          · have z2 := un.frzs b ob _ z
            obtain ⟨e1, _⟩ := hok b _ z
            obtain ⟨e2, _⟩ := hok' b _ z2
            rw [e] at e1; cases e1
            exact e2
  cases hk : K.lookup a with
  | some o =>
    -- the script is one of the module's own objects
    have e := KX a o hk
    rw [ha] at e
    cases e
    refine core (fun _ => none) (fun _ => .inl rfl) (.inr ⟨_, vs.toArray, _, hk, rfl, rfl, rfl, by rw [List.size_toArray, lenV]; exact hl, by simpa using rv⟩) (fun b u z => by have z' : (none : Option HO) = some u := z; cases z') (fun b z => absurd rfl z) fun z => absurd rfl z
  | none =>
    refine core (fun b => if b = a then some (.frz { cls := .type "list", data := .seq vs.toArray } (.lst (ns.map V.int))) else none) (fun b => ?_) (.inl (.inr ⟨{ cls := .type "list", data := .seq vs.toArray }, if_pos rfl⟩)) (fun b u z => ?_) (fun b z => ?_) fun _ => hk
    · by_cases hb : b = a
      · exact .inr ⟨_, _, if_pos hb⟩
      · exact .inl (if_neg hb)
    · by_cases hb : b = a
      · have z' := (if_pos hb).symm.trans z
        cases z'
        subst hb
        exact ⟨ha, by rw [List.length_map]; exact hl, vs, _, rv, ha⟩
      · have z' := (if_neg hb).symm.trans z
        cases z'
    · by_cases hb : b = a
      · exact hb
      · exact absurd (if_neg hb) z
end L2

namespace L2
open PySem PySem.Spec PyProof.Rows

/-- the goal that k_head leaves (case hc), from the law's promise. F gives the function object fd (K's own) once, then the promise over every base -/
theorem walk_of {l : PySem.W.OpenLaw} {n k : Nat} {q : Program} {loose : List Str} {XP : (Str → Option Value) → Heap → Prop} {YP : World → Heap → Prop} {d : DefRec} {K : Params → PySem.W.Frag} {CX : World → CXT} {sp : World → Sp} {x : Str}
    (hn : l.most = some n) (hn2 : n ≤ sizeLine) (hdf : d.params.defaults = []) (hr : Room k callerA)
    (hY : ∀ (w : World) (h : Heap), YP w h → (K w.params).In h)
    (F : ∀ (w : World) (mg : Str → Option Value) (fa : Addr) (h : Heap), (K w.params).In h → h.Ns mainGlobals mg → mg d.name = some (.ref fa) →
      ∃ fd : FuncData, (∀ (s : Shared) (u : Value), BindsTo s fd ⟨[u], []⟩ [(x, u)]) ∧
        ∀ base : Heap, (K w.params).In base → base.Ns mainGlobals mg → FnOk l.prog w (K w.params) mg base (CX w) k fa fd [x] (sp w))
    (hsp : ∀ (w : World) (H : Hp) (a : Addr) (ns : List Int), ns.length ≤ n → Only H → SqL (K w.params) H a (ns.map V.int) → sp w [.ref a] H (fun v _ => v = .bl true) fun _ _ _ => False)
    (hCX : ∀ (w : World) (H : Hp) (s : Shared) (e : Value) (s' : Shared), CX w [] H s (fun _ _ _ => False) e s' → False) :
    PySem.W.WalkO q loose XP YP l.row.toRowW d [] (fun f vs => PySem.call f vs) := by
  refine Att.attach_call hn hdf fun w s₀ s₁ mg mb fa o pm cd doc a vs ns G Y ho hd hcd hmg hobj hints hlen hg => ?_
  have KX := hY w _ Y
  obtain ⟨fd, hb, hF⟩ := F w mg fa _ KX G.T.g hmg
  exact law_call KX G.T.g G.T.b G.T.builtins G.T.nolimit hg hobj hints (Nat.le_trans hlen hn2) hr hF hb (fun H hO hS => hsp w H a ns hlen hO hS) fun H e s' => hCX w H s₁ e s'
end L2

/- THE LAST THEOREM (shape; LID, My.* are yours):
   My.Adr: a structure of the addresses that your layer names (classes, functions); My.Txt K t: a structure (Prop) of the equations over K;
   My.txt_mk : {K} {implicit addresses ..} (e1 : nsIn K mainGlobals "law" = some (some (.ref f))) (e2 : K.lookup f = some ⟨oc, od, .func (fnOf "law" "law" params body scope dV kV doc pm an cdv ct), sl⟩) (e3 : codeIn K cdv "law" = true) .. : ∃ t, My.Txt K t

set_option maxRecDepth 100000 in
set_option maxHeartbeats 0 in
theorem PySem.Challenge.cw_LID_holds : PySem.Challenge.rw_LID.Holds := by
  w_on; o_law; k_head; (case hw => w_witness2)
  k_fill
  refine L2.walk_of (l := PySem.Challenge.rw_LID) (n := 63) (k := 40) (x := "script") (CX := fun w => ..) (sp := fun _ => My.sp_law) rfl (by decide) rfl ⟨rfl, by decide, by decide⟩ (fun w h Y => PySem.W.kIn_of Y) ?F ?S ?C
  case F =>
    intro w mg fa h KX G hmg
    have T : ∃ t, My.Txt (L2.KOf KX) t := by
      dsimp only [L2.KOf]                          -- K must stand as «<heap const> w.params» for k_is
      refine' My.txt_mk ?e1 ?e2 ?e3 ..
      (case e1 => PySem.W.k_is)                    -- in the order: a name -> its address -> its object -> its parts
      (case e2 => PySem.W.k_is)
      ..
    obtain ⟨t, T⟩ := T
    have e0 := hmg.symm.trans (PySem.W.mg_of KX G T.law)
    cases e0                                       -- fa is the law's own address
    exact ⟨_, fun s u => .of_eq rfl, fun base kb nb => My.law_fn T kb nb⟩     -- if «.of_eq rfl» comes too early: refine' ⟨_, ?b, fun base kb nb => My.law_fn T kb nb⟩; exact fun s u => .of_eq rfl
  case S => exact fun w H a ns hl hO hS => ..
  case C => exact ..
(the tactic k_is has no namespace: write k_is) -/

/-! SHORT WORDS over the layer: a def of the text, its body, what a loop and a test want. -/
namespace L2
open PySem PySem.Spec PyProof.Rows

/-! ### the text by places -/
def defArgs (s : Stmt) : Arguments := match s with
  | .FunctionDef _ a _ _ _ _ _ _ _ _ => a
  | _ => { posonlyargs := [], args := [], vararg := none, kwonlyargs := [], kw_defaults := [], kwarg := none, defaults := [] }
def defBody (s : Stmt) : List Stmt := match s with
  | .FunctionDef _ _ b _ _ _ _ _ _ _ => b
  | _ => []
def defScope (s : Stmt) : Scope := match s with
  | .FunctionDef _ _ _ _ _ _ sc _ _ _ => sc
  | _ => { kind := .function, names := [], isGenerator := false, isCoroutine := false }

/-! ### no exception leaves a def -/
abbrev CX0 : CXT := fun _ _ _ _ _ _ => False
abbrev E0 : XK := fun _ _ _ => False
theorem pass0 {X : Cx} : Passes CX0 X E0 := fun _ _ _ _ _ _ _ h => h.elim

/-! ### a def (or method) of the text as it stands behind the top -/
structure Fun (K : PySem.W.Frag) (x qual : Str) (st : Stmt) (f : Addr) (fd : FuncData) : Prop where
  ex : ∃ (oc : Value) (od : Option Addr) (kV doc pm : Value) (an : Option Addr) (cdv ct : Value) (osl : Array (Option Value)),
    fd = PySem.W.fnOf x qual (defArgs st) (defBody st) (defScope st) .none kV doc pm an cdv ct ∧ K.lookup f = some ⟨oc, od, .func fd, osl⟩ ∧ PySem.W.codeIn K cdv qual = true
  kp : PySem.W.keepIn K (.ref f) = true
section
variable {P : Program} {w : World} {K : PySem.W.Frag} {mg : Str → Option Value} {base : Heap}
/-- THE RULE for a def: its body as a term of rules, and the reading of that term -/
theorem Fun.ok {x qual : Str} {st : Stmt} {f : Addr} {fd : FuncData} {N ps : List Str} {k : Nat} {sp : Sp} (F : Fun K x qual st f fd) (S : FnScope N ps (defScope st)) (len : ∀ vs H Q E, sp vs H Q E → vs.length = ps.length)
    (hbody : ∀ (cdv : Value) (A : Around) (outer : List Env) (s : Shared) (H : Hp) (vs : List V) (Q : VK) (E : XK), Room k (A.deeper (envOfC qual (defScope st) s.heap.objs.size f cdv)) → sp vs H Q E →
      ∃ t, PSs (cxOf CX0 P w K mg base N qual (defScope st) f cdv A outer s H E).nox (defBody st) t ∧ t { nx := fun _ H' => Q .non H', rt := Q } (start N vs) H) : FnOk P w K mg base CX0 (k + 1) f fd ps sp := by
  obtain ⟨oc, od, kV, doc, pm, an, cdv, ct, osl, rfl, lk, hcd⟩ := F.ex
  refine fn_of lk hcd S len fun A outer s H vs Q E hr hsp => ?_
  obtain ⟨t, h, q⟩ := hbody cdv A outer s H vs Q E hr hsp
  exact ⟨t, h.nox, q⟩
/-- how its arguments bind (no defaults): h is «fun _ _ _ _ _ _ us hl => match us, hl with | [_, _], _ => rfl», one _ a parameter -/
theorem Fun.binds {x qual : Str} {st : Stmt} {f : Addr} {fd : FuncData} {ps : List Str} (F : Fun K x qual st f fd)
    (h : ∀ (kV doc pm : Value) (an : Option Addr) (cdv ct : Value) (us : List Value), us.length = ps.length → bindArgs (PySem.W.fnOf x qual (defArgs st) (defBody st) (defScope st) .none kV doc pm an cdv ct) ⟨us, []⟩ = pure (ps.zip us)) : Binds K fd ps [] := by
  obtain ⟨oc, od, kV, doc, pm, an, cdv, ct, osl, rfl, lk, hcd⟩ := F.ex
  exact .all (h kV doc pm an cdv ct)
theorem fun_mk {x qual : Str} {st : Stmt} {f : Addr} {oc : Value} {od an : Option Addr} {osl : Array (Option Value)} {kV doc pm cdv ct : Value} (l : K.lookup f = some ⟨oc, od, .func (PySem.W.fnOf x qual (defArgs st) (defBody st) (defScope st) .none kV doc pm an cdv ct), osl⟩)
    (c : PySem.W.codeIn K cdv qual = true) (k : PySem.W.keepIn K (.ref f) = true) : Fun K x qual st f (PySem.W.fnOf x qual (defArgs st) (defBody st) (defScope st) .none kV doc pm an cdv ct) := ⟨⟨oc, od, kV, doc, pm, an, cdv, ct, osl, rfl, l, c⟩, k⟩
end
theorem hu_of {A : Around} {k : Nat} (hr : Room k A) : A.units + 1 < cLine := Nat.lt_of_le_of_lt (Nat.add_le_add_left (by decide : 1 ≤ 64) _) hr.units
theorem small1000 {n : Nat} (h : n ≤ 1000) : n < sizeLine := Nat.lt_of_le_of_lt h (by decide)

/-! ### expressions in short: the name that stands in the i-th slot -/
section
variable {X : Cx}
theorem pv (i : Nat) {x : Str} {pos : Pos} (hN : X.N[i]? = some x := by rfl) (hv : Vis X.env.scope x := by first | exact Or.inl rfl | exact Or.inr (Or.inl rfl) | exact Or.inr (Or.inr rfl)) (hd : (x == ("__debug__" : Str)) = false := by decide)
    (hcd : (x == ("__classdict__" : Str)) = false := by decide) : PE X (.Name x pos) (tVar i) := pe_var hN hv hd hcd
end

/-! ### tests -/
theorem iteF {A B : Prop} (h : B) : if false = true then A else B := by
  rw [if_neg Bool.false_ne_true]
  exact h
theorem iteT {A B : Prop} (h : A) : if true = true then A else B := by
  rw [if_pos rfl]
  exact h
theorem ite2 {c A B : Prop} [Decidable c] (h1 : c → A) (h2 : ¬ c → B) : if c then A else B := by
  by_cases h : c
  · rw [if_pos h]
    exact h1 h
  · rw [if_neg h]
    exact h2 h
theorem iteNS {c A B : Prop} [Decidable c] (hc : c) (h : B) : if (!decide c) = true then A else B := by
  rw [decide_eq_true hc]
  exact iteF h

/-! ### heaps -/
/-- all that was tracked is as it was -/
def Same (H H' : Hp) : Prop := ∀ b o, H b = some o → H' b = some o
theorem Same.trans {H H1 H2 : Hp} (a : Same H H1) (b : Same H1 H2) : Same H H2 := fun c o h => b c o (a c o h)
theorem Same.free {H H' : Hp} (e : Same H H') {l : Addr} (h : H' l = Option.none) : H l = Option.none := by
  cases q : H l with
  | none => rfl
  | some o =>
    rw [e l o q] at h
    cases h
theorem Same.seq {K : PySem.W.Frag} {H H' : Hp} {a : Addr} {xs : List V} (e : Same H H') (h : SqL K H a xs) : SqL K H' a xs := by
  rcases h with (h | ⟨o, h⟩) | h
  · exact .inl (.inl (e _ _ h))
  · exact .inl (.inr ⟨o, e _ _ h⟩)
  · exact .inr h

/-! ### a dict's pairs: keys that differ -/
section
variable {κ : Type} [DecidableEq κ]
end
end L2

set_option Elab.async false
set_option maxRecDepth 100000
set_option maxHeartbeats 4000000
namespace L2
open PySem PySem.Spec PyProof.Rows

theorem bo_len : bootBuiltins "len" = some (.builtin "len") := by decide +kernel
theorem bo_int : bootBuiltins "int" = some (.type "int") := by decide +kernel
theorem bo_str : bootBuiltins "str" = some (.type "str") := by decide +kernel
theorem bo_bool : bootBuiltins "bool" = some (.type "bool") := by decide +kernel
theorem bo_list : bootBuiltins "list" = some (.type "list") := by decide +kernel
theorem bo_tuple : bootBuiltins "tuple" = some (.type "tuple") := by decide +kernel
theorem bo_dict : bootBuiltins "dict" = some (.type "dict") := by decide +kernel
theorem bo_isinstance : bootBuiltins "isinstance" = some (.builtin "isinstance") := by decide +kernel
theorem bo_min : bootBuiltins "min" = some (.builtin "min") := by decide +kernel
theorem bo_abs : bootBuiltins "abs" = some (.builtin "abs") := by decide +kernel
theorem isL_of {h : Heap} {a : Addr} {its : Array Value} (p : PlainL h a its) : h.IsList a its := by
  obtain ⟨o, n, e, c, _, d⟩ := p
  exact ⟨o, e, c, n, d⟩
section
variable {X : Cx}
/-- xs != [] -/
def rNeNil (K : PySem.W.Frag) : R2 := fun x y H Q => ∃ a b xs, x = .ref a ∧ y = .ref b ∧ SqL K H a xs ∧ SqL K H b [] ∧ Q (.bl (!xs.isEmpty)) H
theorem op_neNil (hu : X.A.units < cLine) : OpR X (compareOp .NotEq) (rNeNil X.K) := by
  intro pins s σ H x y v u Q I rx ry h
  obtain ⟨a, b, xs, rfl, rfl, ha, hb, q⟩ := h
  cases rx
  cases ry
  obtain ⟨its, r1, p1, _⟩ := I.list ha
  obtain ⟨its2, r2, p2, _⟩ := I.list hb
  cases r2
  cases r1 with
  | nil => exact SeqAt.RcNeAt.lists (e := fun _ => true) (isL_of p1) (isL_of p2) rfl hu (fun j h1 _ => absurd h1 (Nat.not_lt_zero _)) _ _ _ _ ⟨.bl false, H, I, rfl, q⟩
  | cons _ _ => exact SeqAt.RcNeAt.lists_lengths (isL_of p1) (isL_of p2) rfl hu _ _ _ _ ⟨.bl true, H, I, rfl, q⟩
/-- dict(d) -/
theorem call_dictD : CallR X (.type "dict") (fun xs H Q => ∃ a kvs, xs = [.ref a] ∧ Rd H a (.dK kvs) ∧ ∀ p, H p = none → Q (.ref p) (upd H p (.dK kvs))) := by
  intro pins s σ H xs us Q I r h
  obtain ⟨a, kvs, rfl, ha, q⟩ := h
  obtain ⟨u, rfl, ru⟩ := vals1 r
  cases ru
  exact d_copyOf I ha fun p s' hp I' => ⟨.ref p, _, I', rfl, q p hp⟩

/-- isinstance(x, T), T a built-in type -/
theorem call_isi : CallR X (.builtin "isinstance") (fun xs H Q => ∃ x t c b, xs = [x, .ty c] ∧ TyOf X.K H x t ∧ PySem.W.kitOne X.K t (.type c) = some b ∧ Q (.bl b) H) := by
  intro pins s σ H xs us Q I r h
  obtain ⟨x, t, c, b, rfl, ty, e, q⟩ := h
  obtain ⟨u, w', rfl, ru, rw'⟩ := vals2 r
  cases rw'
  exact isinst_ok I ru ty e fun tk => ⟨.bl b, H, I.tok tk, rfl, q⟩
end
end L2

set_option Elab.async false
set_option maxRecDepth 100000
namespace SW
open PySem PySem.Spec PyProof.Rows

/-- a piece -/
inductive T where
  | num (n : Int) | name (w : Str)
  | sum (a b : T) | less (a b : T) | cho (a b c : T) | lt (w : Str) (a b : T)
  | st0 (w : Str) | st1 (w : Str) (a : T) | st2 (w : Str) (a b : T)

def T.size : T → Nat
  | .num _ => 1
  | .name _ => 1
  | .sum a b => a.size + b.size + 1
  | .less a b => a.size + b.size + 1
  | .cho a b c => a.size + b.size + c.size + 1
  | .lt _ a b => a.size + b.size + 1
  | .st0 _ => 1
  | .st1 _ a => a.size + 1
  | .st2 _ a b => a.size + b.size + 1
theorem T.size_pos (t : T) : 0 < t.size := by cases t <;> simp [T.size]

def T.kids : T → List T
  | .num _ => []
  | .name _ => []
  | .sum a b => [a, b]
  | .less a b => [a, b]
  | .cho a b c => [a, b, c]
  | .lt _ a b => [a, b]
  | .st0 _ => []
  | .st1 _ a => [a]
  | .st2 _ a b => [a, b]

def sizes (ts : List T) : Nat := (ts.map T.size).sum
theorem sizes_nil : sizes [] = 0 := rfl
theorem sizes_cons (t : T) (ts : List T) : sizes (t :: ts) = t.size + sizes ts := by simp [sizes]
theorem sizes_append (a b : List T) : sizes (a ++ b) = sizes a + sizes b := by simp [sizes]
theorem sizes_kids (t : T) : sizes t.kids + 1 = t.size := by cases t <;> simp [T.kids, T.size, sizes] <;> omega
theorem length_le_sizes : ∀ ts : List T, ts.length ≤ sizes ts
  | [] => Nat.le_refl _
  | t :: ts => by
    have h := length_le_sizes ts
    have h2 := t.size_pos
    rw [sizes_cons, List.length_cons]; omega

/-- the words of all names, as often as they are -/
def T.names : T → List Str
  | .num _ => []
  | .name v => [v]
  | .sum a b => a.names ++ b.names
  | .less a b => a.names ++ b.names
  | .cho a b c => a.names ++ b.names ++ c.names
  | .lt _ a b => a.names ++ b.names
  | .st0 _ => []
  | .st1 _ a => a.names
  | .st2 _ a b => a.names ++ b.names
theorem T.names_len : ∀ t : T, t.names.length ≤ t.size
  | .num _ => by simp [names]
  | .name _ => by simp [names, size]
  | .sum a b => by have := names_len a; have := names_len b; simp [names, size]; omega
  | .less a b => by have := names_len a; have := names_len b; simp [names, size]; omega
  | .cho a b c => by have := names_len a; have := names_len b; have := names_len c; simp [names, size]; omega
  | .lt _ a b => by have := names_len a; have := names_len b; simp [names, size]; omega
  | .st0 _ => by simp [names]
  | .st1 _ a => by have := names_len a; simp [names, size]; omega
  | .st2 _ a b => by have := names_len a; have := names_len b; simp [names, size]; omega
def namesAll (ts : List T) : Nat := (ts.map fun t => t.names.length).sum

/-! ### sorted lists of texts -/
end SW

set_option Elab.async false
set_option linter.all false
set_option maxRecDepth 100000
set_option maxHeartbeats 4000000
namespace SW
open PySem L2
/-! ### heaps -/
def TupLe (H H' : Hp) : Prop := ∀ b xs, H b = some (.tup xs) → H' b = some (.tup xs)
theorem TupLe.trans {H H1 H2 : Hp} (a : TupLe H H1) (b : TupLe H1 H2) : TupLe H H2 := fun c xs h => b c xs (a c xs h)
theorem tl_same {H H' : Hp} (s : Same H H') : TupLe H H' := fun b _ h => s b _ h
theorem tl_new {H : Hp} {p : Addr} {o : HO} (h : H p = none) : TupLe H (upd H p o) := fun b xs e => by rw [upd_ne (ne_of_none e h)]; exact e
theorem tl_lst {H : Hp} {l : Addr} {ys : List V} {o : HO} (h : H l = some (.lst ys)) : TupLe H (upd H l o) := fun b xs e => by rw [upd_ne (ne_of e h (by intro z; cases z))]; exact e
theorem same_new {H : Hp} {p : Addr} {o : HO} (h : H p = none) : Same H (upd H p o) := fun b u e => by rw [upd_ne (ne_of_none e h)]; exact e
theorem same_old {H₀ H : Hp} {l : Addr} {o : HO} (s : Same H₀ H) (h : H₀ l = none) : Same H₀ (upd H l o) := fun b u e => by rw [upd_ne (ne_of_none e h)]; exact s b u e
/-! ### pieces in the heap -/
def kind : T → Str
  | .num _ => "number"
  | .name _ => "name"
  | .sum _ _ => "sum"
  | .less _ _ => "less"
  | .cho _ _ _ => "choose"
  | .lt _ _ _ => "let"
  | .st0 _ => "stamp"
  | .st1 _ _ => "stamp"
  | .st2 _ _ _ => "stamp"
def Den (H : Hp) : T → V → Prop
  | .num n, v => ∃ p, v = .ref p ∧ H p = some (.tup [.str "number", .int n])
  | .name w, v => ∃ p, v = .ref p ∧ H p = some (.tup [.str "name", .str w])
  | .sum a b, v => ∃ p x y, v = .ref p ∧ H p = some (.tup [.str "sum", x, y]) ∧ Den H a x ∧ Den H b y
  | .less a b, v => ∃ p x y, v = .ref p ∧ H p = some (.tup [.str "less", x, y]) ∧ Den H a x ∧ Den H b y
  | .cho a b c, v => ∃ p x y z, v = .ref p ∧ H p = some (.tup [.str "choose", x, y, z]) ∧ Den H a x ∧ Den H b y ∧ Den H c z
  | .lt w a b, v => ∃ p x y, v = .ref p ∧ H p = some (.tup [.str "let", .str w, x, y]) ∧ Den H a x ∧ Den H b y
  | .st0 w, v => ∃ p, v = .ref p ∧ H p = some (.tup [.str "stamp", .str w])
  | .st1 w a, v => ∃ p x, v = .ref p ∧ H p = some (.tup [.str "stamp", .str w, x]) ∧ Den H a x
  | .st2 w a b, v => ∃ p x y, v = .ref p ∧ H p = some (.tup [.str "stamp", .str w, x, y]) ∧ Den H a x ∧ Den H b y
theorem Den.mono {H H' : Hp} (k : TupLe H H') : ∀ {t : T} {v : V}, Den H t v → Den H' t v
  | .num _, _, ⟨p, e, h⟩ => ⟨p, e, k _ _ h⟩
  | .name _, _, ⟨p, e, h⟩ => ⟨p, e, k _ _ h⟩
  | .sum _ _, _, ⟨p, x, y, e, h, a, b⟩ => ⟨p, x, y, e, k _ _ h, Den.mono k a, Den.mono k b⟩
  | .less _ _, _, ⟨p, x, y, e, h, a, b⟩ => ⟨p, x, y, e, k _ _ h, Den.mono k a, Den.mono k b⟩
  | .cho _ _ _, _, ⟨p, x, y, z, e, h, a, b, c⟩ => ⟨p, x, y, z, e, k _ _ h, Den.mono k a, Den.mono k b, Den.mono k c⟩
  | .lt _ _ _, _, ⟨p, x, y, e, h, a, b⟩ => ⟨p, x, y, e, k _ _ h, Den.mono k a, Den.mono k b⟩
  | .st0 _, _, ⟨p, e, h⟩ => ⟨p, e, k _ _ h⟩
  | .st1 _ _, _, ⟨p, x, e, h, a⟩ => ⟨p, x, e, k _ _ h, Den.mono k a⟩
  | .st2 _ _ _, _, ⟨p, x, y, e, h, a, b⟩ => ⟨p, x, y, e, k _ _ h, Den.mono k a, Den.mono k b⟩
/-- several -/
inductive DenL (H : Hp) : List T → List V → Prop where
  | nil : DenL H [] []
  | cons {t : T} {v : V} {ts : List T} {vs : List V} : Den H t v → DenL H ts vs → DenL H (t :: ts) (v :: vs)
theorem DenL.mono {H H' : Hp} (k : TupLe H H') : ∀ {ts : List T} {vs : List V}, DenL H ts vs → DenL H' ts vs
  | _, _, .nil => .nil
  | _, _, .cons a r => .cons (a.mono k) (DenL.mono k r)
theorem DenL.length {H : Hp} : ∀ {ts : List T} {vs : List V}, DenL H ts vs → vs.length = ts.length
  | _, _, .nil => rfl
  | _, _, .cons _ r => by rw [List.length_cons, List.length_cons, DenL.length r]
theorem DenL.append {H : Hp} : ∀ {ts us : List T} {vs ws : List V}, DenL H ts vs → DenL H us ws → DenL H (ts ++ us) (vs ++ ws)
  | _, _, _, _, .nil, q => q
  | _, _, _, _, .cons a r, q => .cons a (DenL.append r q)
/-- what stands ahead of the pieces in it -/
def hd : T → List V
  | .num n => [.str "number", .int n]
  | .name w => [.str "name", .str w]
  | .sum _ _ => [.str "sum"]
  | .less _ _ => [.str "less"]
  | .cho _ _ _ => [.str "choose"]
  | .lt w _ _ => [.str "let", .str w]
  | .st0 w => [.str "stamp", .str w]
  | .st1 w _ => [.str "stamp", .str w]
  | .st2 w _ _ => [.str "stamp", .str w]
theorem Den.open {H : Hp} {t : T} {v : V} (h : Den H t v) : ∃ p us, v = .ref p ∧ H p = some (.tup (hd t ++ us)) ∧ DenL H t.kids us := by
  cases t with
  | num n => obtain ⟨p, e, h⟩ := h; exact ⟨p, [], e, h, .nil⟩
  | name n => obtain ⟨p, e, h⟩ := h; exact ⟨p, [], e, h, .nil⟩
  | sum a b => obtain ⟨p, x, y, e, h, d1, d2⟩ := h; exact ⟨p, [x, y], e, h, .cons d1 (.cons d2 .nil)⟩
  | less a b => obtain ⟨p, x, y, e, h, d1, d2⟩ := h; exact ⟨p, [x, y], e, h, .cons d1 (.cons d2 .nil)⟩
  | cho a b c => obtain ⟨p, x, y, z, e, h, d1, d2, d3⟩ := h; exact ⟨p, [x, y, z], e, h, .cons d1 (.cons d2 (.cons d3 .nil))⟩
  | lt w a b => obtain ⟨p, x, y, e, h, d1, d2⟩ := h; exact ⟨p, [x, y], e, h, .cons d1 (.cons d2 .nil)⟩
  | st0 w => obtain ⟨p, e, h⟩ := h; exact ⟨p, [], e, h, .nil⟩
  | st1 w a => obtain ⟨p, x, e, h, d1⟩ := h; exact ⟨p, [x], e, h, .cons d1 .nil⟩
  | st2 w a b => obtain ⟨p, x, y, e, h, d1, d2⟩ := h; exact ⟨p, [x, y], e, h, .cons d1 (.cons d2 .nil)⟩
/-! ### small words -/
theorem szl {n : Nat} (h : Nat.ble n 1000 = true := by rfl) : n ≤ sizeLine := Nat.le_trans (Nat.le_of_ble_eq_true h) (by decide)
theorem iteY {c : Bool} {A B : Prop} (h : c = true) (k : A) : if c = true then A else B := by rw [if_pos h]; exact k
theorem iteN {c : Bool} {A B : Prop} (h : c = false) (k : B) : if c = true then A else B := by rw [h]; exact iteF k
end SW
namespace SW
open PySem L2
theorem atI_mem {xs : List V} {i : Int} (h0 : 0 ≤ i) (h1 : i < xs.length) : ∃ v, v ∈ xs ∧ atI xs i = some v := by
  obtain ⟨n, rfl⟩ := Int.eq_ofNat_of_zero_le h0
  have hn : n < xs.length := by omega
  exact ⟨xs[n], List.getElem_mem hn, atI_nat (by simp [hn])⟩
/-- a number, any -/
def spAny : Sp := fun vs H Q _ => ∃ c : Int, vs = [.int c] ∧ ∀ (n : Int) (H' : Hp), -(10 ^ 59) < n ∧ n < 10 ^ 59 → Same H H' → Q (.int n) H'
/-- a word -/
structure Wd (x : Str) : Prop where
  one : 1 ≤ x.length
  few : x.length ≤ 200
  abc : ∀ c ∈ x.cps.toList, 97 ≤ c ∧ c ≤ 122
def spWord : Sp := fun vs H Q _ => ∃ c : Int, vs = [.int c] ∧ ∀ x : Str, Wd x ∧ x.length ≤ 132 → Q (.str x) H
/-- while the word is made -/
structure WordTo (l : Int) (x : Str) : Prop where
  one : l < 0 → 1 ≤ x.length
  few : x.length ≤ 132
  sm : 0 ≤ l → ∃ m : Nat, l < 2 ^ m ∧ x.length + m ≤ 131
  abc : ∀ c ∈ x.cps.toList, 97 ≤ c ∧ c ≤ 122
theorem len_empty : (("" : Str)).length = 0 := by decide +kernel
theorem wordTo_start (c : Int) : WordTo (c % 10 ^ (39 : Int).toNat) "" := by
  have e : (10 : Int) ^ (39 : Int).toNat = 1000000000000000000000000000000000000000 := by decide
  rw [e]
  refine ⟨fun h => ?_, by rw [len_empty]; omega, fun _ => ⟨130, ?_, by rw [len_empty]; omega⟩, ?_⟩
  · omega
  · have e2 : (2 : Int) ^ 130 = 1361129467683753853853498429727072845824 := by decide
    rw [e2]; omega
  · have e3 : (("" : Str)).cps.toList = [] := by decide +kernel
    rw [e3]; intro c hc; cases hc
theorem wordTo_small {l : Int} {x : Str} {c : Nat} (h : WordTo l x) : (⟨#[c]⟩ : Str).length + x.length ≤ sizeLine := by
  have e : (⟨#[c]⟩ : Str).length = 1 := rfl
  have := h.few
  rw [e, sizeLine_eq]; omega
theorem wordTo_step {l : Int} {x : Str} {c : Nat} (h : WordTo l x) (hl : 0 ≤ l) (hc : 97 ≤ c ∧ c ≤ 122) : WordTo (l / 26 - 1) (⟨#[c]⟩ ++ x) := by
  have el : ((⟨#[c]⟩ : Str) ++ x).length = x.length + 1 := by
    show (#[c] ++ x.cps).size = x.cps.size + 1
    simp [Nat.add_comm]
  obtain ⟨m, h1, h2⟩ := h.sm hl
  refine ⟨fun _ => by rw [el]; omega, by rw [el]; omega, fun h0 => ?_, ?_⟩
  · cases m with
    | zero => simp at h1; omega
    | succ m =>
      refine ⟨m, ?_, by rw [el]; omega⟩
      have e : (2 : Int) ^ (m + 1) = 2 ^ m * 2 := Int.pow_succ ..
      rw [e] at h1
      generalize (2 : Int) ^ m = z at *
      omega
  · intro d hd
    have hd : d ∈ (#[c] ++ x.cps).toList := hd
    rw [Array.toList_append] at hd
    rcases List.mem_append.mp hd with q | q
    · have : d = c := by simpa using q
      rw [this]; exact hc
    · exact h.abc d q
theorem wordTo_end {l : Int} {x : Str} (h : WordTo l x) (hl : ¬ 0 ≤ l) : Wd x ∧ x.length ≤ 132 := ⟨⟨h.one (by omega), by have := h.few; omega, h.abc⟩, h.few⟩
theorem letters : (("abcdefghijklmnopqrstuvwxyz" : Str)).cps.toList = (List.range 26).map (· + 97) := by decide +kernel
theorem letter_at (l : Int) : ∃ c : Nat, (97 ≤ c ∧ c ≤ 122) ∧ atI (("abcdefghijklmnopqrstuvwxyz" : Str)).cps.toList (l % 26) = some c := by
  have h : 0 ≤ l % 26 ∧ l % 26 < 26 := by omega
  obtain ⟨n, e⟩ := Int.eq_ofNat_of_zero_le h.1
  rw [e] at h ⊢
  have hn : n < 26 := by omega
  refine ⟨n + 97, by omega, atI_nat ?_⟩
  rw [letters, List.getElem?_map, List.getElem?_range hn]
  rfl
end SW
namespace SW
open PySem L2
theorem cut_not {n : Nat} (k : Nat) (h : 0 < k) (h2 : k ≤ n) : ¬ (HT.sIx n 0 (some (k : Int)) = 0 ∧ HT.sIx n n none = n) := by
  rintro ⟨z, _⟩
  rw [HT.sIx_nat, Nat.min_eq_left h2] at z
  omega
def spWithWord : Sp := fun vs H Q _ => ∃ d x v kvs, vs = [.ref d, .str x, v] ∧ H d = some (.dK kvs) ∧ kvs.length ≤ 1000 ∧ ∀ p H', H p = none → Same H H' → H' p = some (.dK (putK kvs (.inr x) v)) → Q (.ref p) H'
def spParts : Sp := fun vs H Q _ => ∃ t v, vs = [v] ∧ Den H t v ∧ ∀ p us H', Same H H' → H' p = some (.tup us) → DenL H' t.kids us → Q (.ref p) H'
def spInside : Sp := fun vs H Q _ => ∃ t v, vs = [v] ∧ Den H t v ∧ ∀ l us H', Same H H' → H l = none → H' l = some (.lst us) → DenL H' t.kids us → Q (.ref l) H'
end SW

namespace SW
open PySem L2
/-- words, numbers and stamps as they are handed in; S: the stamps there are, with how many places -/
def WT (S : Str → Nat → Prop) : T → Prop
  | .num n => -(10 ^ 60) < n ∧ n < 10 ^ 60
  | .name w => Wd w
  | .sum a b => WT S a ∧ WT S b
  | .less a b => WT S a ∧ WT S b
  | .cho a b c => WT S a ∧ WT S b ∧ WT S c
  | .lt w a b => Wd w ∧ WT S a ∧ WT S b
  | .st0 w => S w 0
  | .st1 w a => S w 1 ∧ WT S a
  | .st2 w a b => S w 2 ∧ WT S a ∧ WT S b
/-- the pile while a piece is drawn: the list at l, new since H₀ -/
structure Pile (S : Str → Nat → Prop) (H₀ H : Hp) (n : Nat) (l : Addr) (vs : List V) (ts : List T) : Prop where
  same : Same H₀ H
  new : H₀ l = none
  at_ : H l = some (.lst vs)
  den : DenL H ts vs
  sz : sizes ts ≤ n
  one : ts ≠ []
  wt : ∀ t ∈ ts, WT S t
theorem wd_sab : Wd "sab" := ⟨by decide +kernel, by decide +kernel, by decide +kernel⟩
theorem wd_tab : Wd "tab" := ⟨by decide +kernel, by decide +kernel, by decide +kernel⟩
theorem wd_sob : Wd "sob" := ⟨by decide +kernel, by decide +kernel, by decide +kernel⟩
theorem wd_sat : Wd "sat" := ⟨by decide +kernel, by decide +kernel, by decide +kernel⟩
theorem wd_menu {v : V} (h : v ∈ [V.str "sab", V.str "tab", V.str "sob", V.str "sat"]) : ∃ x, v = .str x ∧ Wd x := by
  rcases List.mem_cons.mp h with rfl | h
  · exact ⟨_, rfl, wd_sab⟩
  rcases List.mem_cons.mp h with rfl | h
  · exact ⟨_, rfl, wd_tab⟩
  rcases List.mem_cons.mp h with rfl | h
  · exact ⟨_, rfl, wd_sob⟩
  rcases List.mem_cons.mp h with rfl | h
  · exact ⟨_, rfl, wd_sat⟩
  · cases h
theorem wd_k {x : Str} (h : Wd x) (hl : x.length ≤ 132) : Wd (x ++ ("k" : Str)) := by
  have e : (("k" : Str)).cps = #[107] := by decide +kernel
  have el : (x ++ ("k" : Str)).length = x.length + 1 := by
    show (x.cps ++ (("k" : Str)).cps).size = _
    rw [e]; simp [Str.length]
  refine ⟨by rw [el]; omega, by rw [el]; omega, fun c hc => ?_⟩
  have hc : c ∈ (x.cps ++ (("k" : Str)).cps).toList := hc
  rw [e, Array.toList_append] at hc
  rcases List.mem_append.mp hc with q | q
  · exact h.abc c q
  · have : c = 107 := by simpa using q
    omega
/-- the stamps that may be drawn -/
def StampsAt (S : Str → Nat → Prop) (H : Hp) (xs : List V) : Prop := ∀ x ∈ xs, ∃ (q : Addr) (nm : Str) (m : Nat), x = .ref q ∧ H q = some (.tup [.str nm, .int m]) ∧ m ≤ 2 ∧ S nm m
def spDrawn (K : PySem.W.Frag) (S : Str → Nat → Prop) : Sp := fun vs H Q _ => ∃ (c st : Addr) (ns : List Int) (xs : List V), vs = [.ref c, .ref st] ∧ SqL K H c (ns.map V.int) ∧ ns.length ≤ 100 ∧ H st = some (.lst xs) ∧ xs.length ≤ 1000 ∧ StampsAt S H xs ∧
  ∀ (t : T) (v : V) (H' : Hp), Same H H' → Den H' t v → WT S t → t.size ≤ 2 * ns.length + 2 → t.names.length ≤ ns.length + 1 → Q v H'
end SW

set_option Elab.async false
set_option maxRecDepth 100000
set_option maxHeartbeats 4000000
namespace L2
open PySem PySem.Spec PyProof.Rows
/-- the context of a comprehension's block -/
def cxComp (X : Cx) (scope : Scope) (cl : List (Str × Addr)) (N : List Str) (fp : List Addr) (s : Shared) (H : Hp) (C : Addr) : Cx where
  prog := X.prog
  w := X.w
  K := X.K
  mg := X.mg
  base := X.base
  A := X.A
  N := N
  s₀ := s
  H₀ := H
  env := compEnvC scope cl C X.env
  outer := X.stack
  stack := X.stack
  ex := fp
  fn := fun _ => false
  calm := X.calm
  pn := []
  xe := fun _ _ => False
/-- their values -/
def got (σ : St) (js : List Nat) : St := js.map fun j => σ.getD j none
def lstN (its : List Value) (n : Nat) : Obj := { cls := .type "list", data := .seq its.toArray n }
section
variable {X : Cx} {pins : List (Addr × Obj)} {σ : St} {H : Hp} {s : Shared} {scope : Scope} {cl : List (Str × Addr)} {x : Str} {ys : List Str} {js : List Nat} {fp : List Addr} {C D : Addr} {h' : Heap}
theorem Inv.nostk (I : Inv X pins σ H s) {b : Addr} (h1 : b ≠ X.env.locals) (h2 : b ∉ X.fs) : b ∉ frs X.stack := fun z => by
  rcases List.mem_cons.mp (I.stkSub b z) with e | e
  · exact h1 e
  · exact h2 e
theorem Inv.compOut {s' : Shared} {σ' : St} {H' : Hp} {P : List (Addr × Obj)} {its : List Value} {vs : List V} {n : Nat} (I : Inv X pins σ H s) (hf : ∀ b ∈ fp, FpOk X pins H b) (hC : s.heap.objs.size ≤ C) (hD : s.heap.objs.size ≤ D) (hDC : D ≠ C)
    (I' : Inv (cxComp X scope cl (x :: ys) fp s H C) P σ' H' s') (hp : (D, lstN its n) ∈ P) (r : Vals vs its) (hz : vs.length ≤ sizeLine) (hs : Heap.SameBut C s'.heap h') : Inv X pins σ (upd H' D (.lst vs)) { s' with heap := h' } := by
  obtain ⟨pe, pn, _, _, _⟩ := I'.pin (D, lstN its n) (List.mem_append_right _ hp)
  have u : Un (frs X.stack) fp H H' s.heap s'.heap := I'.base
  have hCn : H' C = none := I'.free
  have lt : ∀ b o, s.heap.get? b = some o → b ≠ C ∧ b ≠ D := fun b o e => ⟨Nat.ne_of_lt (Nat.lt_of_lt_of_le (Heap.lt_size e) hC), Nat.ne_of_lt (Nat.lt_of_lt_of_le (Heap.lt_size e) hD)⟩
  have nD : ∀ b o, H' b = some o → b ≠ D := fun b o e => ne_of_none e pn
  refine I.call' (ch := fp) (s' := { s' with heap := h' }) I'.os ⟨fun b o q nn hb hx => ?_, fun b o q nn hb hx => ?_, fun b o q nn hx => ?_, fun b o q hx => ?_, fun b xs q => ?_, fun b o xs q => ?_, fun b ps q => ?_⟩ ?_ I'.bare fun b hb => ?_
  · exact (hs.2 b (lt b o q).1).trans (u.keep b o q nn hb hx)
  · obtain ⟨sl, e⟩ := u.slot b o q nn hb hx
    exact ⟨sl, (hs.2 b (lt b o q).1).trans e⟩
  · rw [upd_ne (lt b o q).2]; exact u.free b o q nn hx
  · obtain ⟨o', e⟩ := u.there b o q hx
    exact ⟨o', (hs.2 b (lt b o q).1).trans e⟩
  · have e := u.tups b xs q; rw [upd_ne (nD _ _ e)]; exact e
  · have e := u.frzs b o xs q; rw [upd_ne (nD _ _ e)]; exact e
  · obtain ⟨more, e⟩ := u.tbls b ps q
    exact ⟨more, by rw [upd_ne (nD _ _ e)]; exact e⟩
  · intro b ob e
    by_cases hb : b = D
    · subst hb
      rw [upd_same] at e
      cases e
      exact ⟨hz, its, n, r, (hs.2 b hDC).trans pe⟩
    · rw [upd_ne hb] at e
      refine (I'.hok b ob e).stay (fun c v hc q => (hs.2 c ?_).trans q) (fun c q => by rw [upd_ne (nD _ _ q)]; exact q) fun c xs q => by rw [upd_ne (nD _ _ q)]; exact q
      rcases hc with rfl | hc
      · exact ne_of_none e hCn
      · exact ne_of_none hc hCn
  · obtain ⟨_, h1, _, h3, h4, h5⟩ := hf b hb
    exact ⟨h3, h1, h4, h5⟩
end
end L2

set_option Elab.async false
set_option linter.all false
set_option maxRecDepth 100000
set_option maxHeartbeats 4000000
namespace SW
open PySem L2
abbrev rAddI : R2 := rI0 fun i j => .int (i + j)
abbrev rSubI : R2 := rI0 fun i j => .int (i - j)
abbrev rMulI : R2 := rI CMul fun i j => .int (i * j)
abbrev rDivI : R2 := rI CDiv fun i j => .int (i / j)
abbrev rModI : R2 := rI (fun _ j => 0 < j) fun i j => .int (i % j)
abbrev rPowI : R2 := rI CPow fun i j => .int (i ^ j.toNat)
abbrev rNegI : V → Hp → VK → Prop := rU fun i => .int (-i)
abbrev rLtI : R2 := rI0 fun i j => .bl (decide (i < j))
abbrev rGtI : R2 := rI0 fun i j => .bl (decide (j < i))
abbrev rGeI : R2 := rI0 fun i j => .bl (decide (j ≤ i))
abbrev rAddS : R2 := fun x y H Q => ∃ i j, x = .str i ∧ y = .str j ∧ i.length + j.length ≤ sizeLine ∧ Q (.str (i ++ j)) H
abbrev cLen (K : PySem.W.Frag) : List V → Hp → VK → Prop := fun xs H Q => ∃ p ys, xs = [.ref p] ∧ (SqL K H p ys ∨ SqT K H p ys) ∧ Q (.int ys.length) H
abbrev cInt : List V → Hp → VK → Prop := fun xs H Q => (∃ i, xs = [.int i] ∧ Q (.int i) H) ∨ ∃ k, xs = [.bl k] ∧ Q (.int (if k then 1 else 0)) H
abbrev cAbs : List V → Hp → VK → Prop := fun xs H Q => ∃ i, xs = [.int i] ∧ Q (.int (if i < 0 then -i else i)) H
abbrev cMin : List V → Hp → VK → Prop := fun xs H Q => ∃ i j, xs = [.int i, .int j] ∧ Q (.int (if j < i then j else i)) H
abbrev cListOf (K : PySem.W.Frag) : List V → Hp → VK → Prop := fun xs H Q => ∃ p ys, xs = [.ref p] ∧ (SqL K H p ys ∨ SqT K H p ys) ∧ ∀ l, H l = none → Q (.ref l) (upd H l (.lst ys))
abbrev cTupleOf (K : PySem.W.Frag) : List V → Hp → VK → Prop := fun xs H Q => ∃ p ys, xs = [.ref p] ∧ ((SqL K H p ys ∧ ∀ l, H l = none → Q (.ref l) (upd H l (.tup ys))) ∨ (SqT K H p ys ∧ Q (.ref p) H))
abbrev cDictD : List V → Hp → VK → Prop := fun xs H Q => ∃ a kvs, xs = [.ref a] ∧ Rd H a (.dK kvs) ∧ ∀ p, H p = none → Q (.ref p) (upd H p (.dK kvs))
abbrev cIsi (K : PySem.W.Frag) : List V → Hp → VK → Prop := fun xs H Q => ∃ x t c b, xs = [x, .ty c] ∧ TyOf K H x t ∧ PySem.W.kitOne K t (.type c) = some b ∧ Q (.bl b) H
end SW

set_option Elab.async false
set_option linter.all false
set_option maxRecDepth 100000
set_option maxHeartbeats 4000000
namespace SW
open PySem L2
def spRoom (K : PySem.W.Frag) : Sp := fun vs H Q _ => ∃ (s : Addr) (xs : List V) (m b : Int), vs = [.ref s, .int m, .int b] ∧ SqL K H s xs ∧ xs.length ≤ 63 ∧ Q (.int m) H
end SW

set_option Elab.async false
set_option linter.all false
set_option maxRecDepth 100000
namespace SW
open PySem L2
def t_any (K : PySem.W.Frag) : TS := (tSeq (tAsg (tOp rModI (tOp rDivI (tVar 0) (tC (.int 2))) (tOp rPowI (tC (.int 10)) (tC (.int 59)))) (gName 1)) (tRet (tOp rMulI (tVar 1) (tOp (rIxL K) (tLst (tCons (tC (.int 1)) (tCons (tUn rNegI (tC (.int 1))) tNil))) (tOp rModI (tVar 0) (tC (.int 2)))))))
def t_aw_1 (K : PySem.W.Frag) : TS := (tSeq (tAsg (tOp rAddS (tOp rIxS (tC (.str "abcdefghijklmnopqrstuvwxyz")) (tOp rModI (tVar 1) (tC (.int 26)))) (tVar 2)) (gName 2)) (tAsg (tOp rSubI (tOp rDivI (tVar 1) (tC (.int 26))) (tC (.int 1))) (gName 1)))
def t_aw (K : PySem.W.Frag) : TS := (tSeq (tAsg (tOp rModI (tCB cAbs (tCons (tVar 0) tNil)) (tOp rPowI (tC (.int 10)) (tC (.int 39)))) (gName 1)) (tSeq (tAsg (tC (.str "")) (gName 2)) (tSeq (tWhile (tTest (tOp rGeI (tVar 1) (tC (.int 0)))) (t_aw_1 K)) (tRet (tVar 2)))))
def t_room_1 (K : PySem.W.Frag) : TS := (tRet (tVar 2))
def t_room_2 (K : PySem.W.Frag) : TS := (tIfS (tTest (tOp rGtI (tCB (cLen K) (tCons (tVar 0) tNil)) (tC (.int 63)))) (t_room_1 K) tNext)
def t_room (K : PySem.W.Frag) : TS := (tSeq (t_room_2 K) (tRet (tVar 1)))
def t_ww (K : PySem.W.Frag) : TS := (tSeq (tAsg (tCB cDictD (tCons (tVar 0) tNil)) (gName 3)) (tSeq (sDPut (tVar 3) (tVar 1) (tVar 2)) (tRet (tVar 3))))
def t_parts_1 (K : PySem.W.Frag) : TS := (tRet (tTup tNil))
def t_parts_2 (K : PySem.W.Frag) : TS := (tIfS (tOr (tTest (tOp rEq (tVar 1) (tC (.str "number")))) (tTest (tOp rEq (tVar 1) (tC (.str "name"))))) (t_parts_1 K) tNext)
def t_parts_3 (K : PySem.W.Frag) : TS := (tRet (tSl (rSlT K) (tVar 0) (tPart (tC (.int 2))) tNoPart))
def t_parts_4 (K : PySem.W.Frag) : TS := (tIfS (tOr (tTest (tOp rEq (tVar 1) (tC (.str "let")))) (tTest (tOp rEq (tVar 1) (tC (.str "stamp"))))) (t_parts_3 K) tNext)
def t_parts (K : PySem.W.Frag) : TS := (tSeq (tAsg (tOp (rIxT K) (tVar 0) (tC (.int 0))) (gName 1)) (tSeq (t_parts_2 K) (tSeq (t_parts_4 K) (tRet (tSl (rSlT K) (tVar 0) (tPart (tC (.int 1))) tNoPart)))))
def t_ins_1 (K : PySem.W.Frag) : TS := (tRet (tLst tNil))
def t_ins_2 (K : PySem.W.Frag) : TS := (tIfS (tTest (tOp (rIn K false) (tOp (rIxT K) (tVar 0) (tC (.int 0))) (tLst (tCons (tC (.str "number")) (tCons (tC (.str "name")) tNil))))) (t_ins_1 K) tNext)
def t_ins (K : PySem.W.Frag) : TS := (tSeq (t_ins_2 K) (tRet (tCB (cListOf K) (tCons (tSl (rSlT K) (tVar 0) (tPart (tOp rAddI (tC (.int 1)) (tCB cInt (tCons (tOp (rIn K false) (tOp (rIxT K) (tVar 0) (tC (.int 0))) (tLst (tCons (tC (.str "let")) (tCons (tC (.str "stamp")) tNil)))) tNil)))) tNoPart) tNil))))
def t_dp_1 (K : PySem.W.Frag) : TS := (tAsg (tOp rAddS (tCall spWord [] E0 (tCons (tOp rDivI (tVar 4) (tC (.int 29))) tNil)) (tC (.str "k"))) (gName 6))
def t_dp_2 (K : PySem.W.Frag) : TS := (tIfS (tTest (tOp rEq (tOp rModI (tVar 4) (tC (.int 29))) (tC (.int 7)))) (t_dp_1 K) tNext)
def t_dp_3 (K : PySem.W.Frag) : TS := (tDrop (tBM K "list" rAppend (tVar 2) (tCons (tTup (tCons (tC (.str "number")) (tCons (tOp (rIxL K) (tLst (tCons (tOp rSubI (tOp rModI (tVar 4) (tC (.int 4))) (tC (.int 1))) (tCons (tCall spAny [] E0 (tCons (tVar 4) tNil)) tNil))) (tCB cInt (tCons (tOp rEq (tOp rModI (tVar 4) (tC (.int 5))) (tC (.int 3))) tNil))) tNil))) tNil)))
def t_dp_4 (K : PySem.W.Frag) : TS := (tDrop (tBM K "list" rAppend (tVar 2) (tCons (tTup (tCons (tC (.str "name")) (tCons (tVar 6) tNil))) tNil)))
def t_dp_5 (K : PySem.W.Frag) : TS := (tAsg (tOp rCat (tSl (rSlL K) (tVar 2) tNoPart (tPart (tUn rNegI (tC (.int 3))))) (tLst (tCons (tTup (tCons (tC (.str "choose")) (tCons (tOp (rIxL K) (tVar 7) (tC (.int 0))) (tCons (tOp (rIxL K) (tVar 7) (tC (.int 1))) (tCons (tOp (rIxL K) (tVar 7) (tC (.int 2))) tNil))))) tNil))) (gName 2))
def t_dp_6 (K : PySem.W.Frag) : TS := (tAsg (tOp rCat (tSl (rSlL K) (tVar 2) tNoPart (tPart (tUn rNegI (tC (.int 2))))) (tLst (tCons (tTup (tCons (tOp (rIxL K) (tLst (tCons (tC (.str "sum")) (tCons (tC (.str "less")) tNil))) (tOp rModI (tVar 5) (tC (.int 2)))) (tCons (tOp (rIxL K) (tVar 7) (tUn rNegI (tC (.int 2)))) (tCons (tOp (rIxL K) (tVar 7) (tUn rNegI (tC (.int 1)))) tNil)))) tNil))) (gName 2))
def t_dp_7 (K : PySem.W.Frag) : TS := (tAsg (tOp (rIxT K) (tVar 8) (tC (.int 2))) (gName 8))
def t_dp_8 (K : PySem.W.Frag) : TS := (tIfS (tTest (tOp (rIn K false) (tOp (rIxT K) (tVar 8) (tC (.int 0))) (tLst (tCons (tC (.str "sum")) (tCons (tC (.str "less")) tNil))))) (t_dp_7 K) tNext)
def t_dp_9 (K : PySem.W.Frag) : TS := (tAsg (tOp (rIxT K) (tVar 8) (tC (.int 1))) (gName 6))
def t_dp_10 (K : PySem.W.Frag) : TS := (tIfS (tAnd (tTest (tOp rEq (tOp (rIxT K) (tVar 8) (tC (.int 0))) (tC (.str "name")))) (tTest (tOp rGtI (tOp rModI (tVar 4) (tC (.int 3))) (tC (.int 0))))) (t_dp_9 K) tNext)
def t_dp_11 (K : PySem.W.Frag) : TS := (tSeq (tAsg (tOp (rIxL K) (tVar 7) (tUn rNegI (tC (.int 1)))) (gName 8)) (tSeq (t_dp_8 K) (tSeq (t_dp_10 K) (tAsg (tOp rCat (tSl (rSlL K) (tVar 2) tNoPart (tPart (tUn rNegI (tC (.int 2))))) (tLst (tCons (tTup (tCons (tC (.str "let")) (tCons (tVar 6) (tCons (tOp (rIxL K) (tVar 7) (tUn rNegI (tC (.int 2)))) (tCons (tOp (rIxL K) (tVar 7) (tUn rNegI (tC (.int 1)))) tNil))))) tNil))) (gName 2)))))
def t_dp_12 (K : PySem.W.Frag) : TS := (tSeq (tAsg (tCB (cTupleOf K) (tCons (tOp rCat (tLst (tCons (tC (.str "stamp")) (tCons (tVar 9) tNil))) (tSl (rSlL K) (tVar 2) (tPart (tOp rSubI (tCB (cLen K) (tCons (tVar 2) tNil)) (tVar 10))) tNoPart)) tNil)) (gName 11)) (tAsg (tOp rCat (tSl (rSlL K) (tVar 2) tNoPart (tPart (tOp rSubI (tCB (cLen K) (tCons (tVar 2) tNil)) (tVar 10)))) (tLst (tCons (tVar 11) tNil))) (gName 2)))
def t_dp_13 (K : PySem.W.Frag) : TS := (tIfS (tTest (tOp rEq (tVar 10) (tOp (rIxT K) (tOp (rIxL K) (tVar 1) (tOp rModI (tVar 4) (tCB (cLen K) (tCons (tVar 1) tNil)))) (tC (.int 1))))) (t_dp_12 K) tNext)
def t_dp_14 (K : PySem.W.Frag) : TS := (tSeq (tAsg (tOp (rIxL K) (tVar 1) (tOp rModI (tVar 4) (tCB (cLen K) (tCons (tVar 1) tNil)))) (gTup K 2 (gCons (gName 9) (gCons (gName 10) gNil)))) (tSeq (tAsg (tCB cMin (tCons (tVar 10) (tCons (tCB (cLen K) (tCons (tVar 2) tNil)) tNil))) (gName 10)) (t_dp_13 K)))
def t_dp_15 (K : PySem.W.Frag) : TS := (tIfS (tTest (tOp (rNeNil K) (tVar 1) (tLst tNil))) (t_dp_14 K) tNext)
def t_dp_16 (K : PySem.W.Frag) : TS := (tIfS (tTest (tOp rEq (tVar 5) (tC (.int 6)))) (t_dp_11 K) (t_dp_15 K))
def t_dp_17 (K : PySem.W.Frag) : TS := (tIfS (tTest (tOp rLtI (tVar 5) (tC (.int 6)))) (t_dp_6 K) (t_dp_16 K))
def t_dp_18 (K : PySem.W.Frag) : TS := (tIfS (tAnd (tTest (tOp rEq (tVar 5) (tC (.int 5)))) (tTest (tOp rEq (tCB (cLen K) (tCons (tVar 7) tNil)) (tC (.int 3))))) (t_dp_5 K) (t_dp_17 K))
def t_dp_19 (K : PySem.W.Frag) : TS := (tIfS (tTest (tOp rLtI (tVar 5) (tC (.int 3)))) (t_dp_4 K) (t_dp_18 K))
def t_dp_20 (K : PySem.W.Frag) : TS := (tIfS (tOr (tTest (tOp rEq (tVar 5) (tC (.int 0)))) (tAnd (tTest (tOp rEq (tCB (cLen K) (tCons (tVar 7) tNil)) (tC (.int 1)))) (tTest (tChain rLtI rLtI (tC (.int 2)) (tVar 5) (tC (.int 7)))))) (t_dp_3 K) (t_dp_19 K))
def t_dp_21 (K : PySem.W.Frag) : TS := (tSeq (tAsg (tOp rDivI (tVar 3) (tC (.int 9))) (gName 4)) (tSeq (tAsg (tOp rModI (tVar 3) (tC (.int 9))) (gName 5)) (tSeq (tAsg (tOp (rIxL K) (tLst (tCons (tC (.str "sab")) (tCons (tC (.str "tab")) (tCons (tC (.str "sob")) (tCons (tC (.str "sat")) tNil))))) (tOp rModI (tVar 4) (tC (.int 4)))) (gName 6)) (tSeq (t_dp_2 K) (tSeq (tAsg (tSl (rSlL K) (tVar 2) (tPart (tUn rNegI (tC (.int 3)))) tNoPart) (gName 7)) (t_dp_20 K))))))
def t_dp_22 (K : PySem.W.Frag) : TS := (tSeq (tAsg (tBM0 K "list" rPop (tVar 2)) (gName 12)) (tDrop (tBM K "list" rAppend (tVar 2) (tCons (tTup (tCons (tC (.str "sum")) (tCons (tBM0 K "list" rPop (tVar 2)) (tCons (tVar 12) tNil)))) tNil))))
def t_dp (K : PySem.W.Frag) : TS := (tSeq (tAsg (tLst (tCons (tTup (tCons (tC (.str "name")) (tCons (tC (.str "sab")) tNil))) tNil)) (gName 2)) (tSeq (tFor (iList K (tVar 0)) (gName 3) (t_dp_21 K)) (tSeq (tWhile (tTest (tOp rGtI (tCB (cLen K) (tCons (tVar 2) tNil)) (tC (.int 1)))) (t_dp_22 K)) (tRet (tOp (rIxL K) (tVar 2) (tC (.int 0)))))))
end SW

set_option Elab.async false
set_option linter.all false
set_option maxRecDepth 100000
set_option maxHeartbeats 4000000
namespace SW
open PySem L2
variable {K : PySem.W.Frag} {vs : List V} {H : Hp} {Q : VK} {E : XK}
abbrev fin (Q : VK) : Ends := { nx := fun _ H' => Q .non H', rt := Q }
theorem rd_any (h : spAny vs H Q E) : t_any K (fin Q) (start ["_law_cell", "_law_size"] vs) H := by
  obtain ⟨c, rfl, k⟩ := h
  refine ⟨_, rfl, _, _, rfl, rfl, ⟨by decide, by decide⟩, _, _, rfl, rfl, ⟨by decide, by decide, by decide⟩, _, _, rfl, rfl, (show (0 : Int) < 10 ^ (59 : Int).toNat by decide), ?_⟩
  refine ⟨_, rfl, _, rfl, szl, fun p hp => ?_⟩
  have h2 : 0 ≤ c % 2 ∧ c % 2 < 2 := by omega
  obtain ⟨v, hv, e⟩ := atI_mem (xs := [V.int 1, V.int (-1)]) h2.1 h2.2
  refine ⟨_, rfl, _, _, rfl, rfl, (show (0 : Int) < 2 by decide), p, _, _, v, rfl, rfl, SqL.of upd_same, e, ?_⟩
  have b0 := Int.emod_nonneg (c / 2) (show (10 : Int) ^ (59 : Int).toNat ≠ 0 by decide)
  have b1 := Int.emod_lt_of_pos (c / 2) (show (0 : Int) < 10 ^ (59 : Int).toNat by decide)
  have e59 : (10 : Int) ^ (59 : Int).toNat = 10 ^ 59 := rfl
  rw [e59] at b0 b1
  rcases List.mem_cons.mp hv with rfl | hv
  · refine ⟨_, _, rfl, rfl, .inr ⟨by decide, by decide⟩, k _ _ ?_ (same_new hp)⟩
    rw [e59]
    generalize c / 2 % 10 ^ 59 = z at *
    generalize (10 : Int) ^ 59 = y at *
    omega
  · rw [List.mem_singleton] at hv
    subst hv
    refine ⟨_, _, rfl, rfl, .inr ⟨by decide, by decide⟩, k _ _ ?_ (same_new hp)⟩
    rw [e59]
    generalize c / 2 % 10 ^ 59 = z at *
    generalize (10 : Int) ^ 59 = y at *
    omega
theorem rd_aw (h : spWord vs H Q E) : t_aw K (fin Q) (start ["_law_cell", "_law_left", "_law_word"] vs) H := by
  obtain ⟨c, rfl, k⟩ := h
  refine ⟨_, rfl, _, rfl, _, _, rfl, rfl, ⟨by decide, by decide, by decide⟩, _, _, rfl, rfl, (show (0 : Int) < 10 ^ (39 : Int).toNat by decide), ?_⟩
  refine ⟨fun m σ H' => H' = H ∧ ∃ (l : Int) (x : Str), σ = [some (.int c), some (.int l), some (.str x)] ∧ WordTo l x ∧ -1 ≤ l ∧ (m : Int) = l + 1, ⟨((if c < 0 then -c else c) % 10 ^ (39 : Int).toNat + 1).toNat, rfl, _, _, rfl, wordTo_start _, ?_, ?_⟩, ?_⟩
  · have := Int.emod_nonneg (if c < 0 then -c else c) (show (10 : Int) ^ (39 : Int).toNat ≠ 0 by decide)
    omega
  · have := Int.emod_nonneg (if c < 0 then -c else c) (show (10 : Int) ^ (39 : Int).toNat ≠ 0 by decide)
    exact Int.toNat_of_nonneg (by omega)
  · rintro m σ H' ⟨rfl, l, x, rfl, hw, hl1, hm⟩
    refine ⟨_, rfl, _, _, rfl, rfl, _, rfl, ?_⟩
    refine ite2 (fun hl => ?_) (fun hl => ?_)
    · have hl : (0 : Int) ≤ l := of_decide_eq_true hl
      refine ⟨fun σ' H'' => ∃ m', m' < m ∧ (H'' = H' ∧ ∃ (l : Int) (x : Str), σ' = [some (.int c), some (.int l), some (.str x)] ∧ WordTo l x ∧ -1 ≤ l ∧ (m' : Int) = l + 1), fun _ _ h => h, ?_⟩
      obtain ⟨ch, hc, e⟩ := letter_at l
      refine ⟨_, rfl, _, _, rfl, rfl, (show (0 : Int) < 26 by decide), _, _, ch, rfl, rfl, szl (by decide +kernel), e, _, rfl, _, _, rfl, rfl, wordTo_small hw, ?_⟩
      refine ⟨_, rfl, _, _, rfl, rfl, ⟨by decide, by decide⟩, _, _, rfl, rfl, ?_⟩
      refine ⟨(l / 26 - 1 + 1).toNat, ?_, rfl, _, _, rfl, wordTo_step hw hl hc, ?_, ?_⟩
      · omega
      · omega
      · omega
    · have hl : ¬ (0 : Int) ≤ l := fun z => hl (decide_eq_true z)
      exact ⟨_, rfl, k _ (wordTo_end hw hl)⟩
theorem rd_room (h : spRoom K vs H Q E) : t_room K (fin Q) (start ["_law_script", "_law_most", "_law_bound"] vs) H := by
  obtain ⟨s, xs, m, b, rfl, hs, hl, k⟩ := h
  refine ⟨_, rfl, s, xs, rfl, .inl hs, _, _, rfl, rfl, _, rfl, ?_⟩
  refine iteN (decide_eq_false (by omega)) ?_
  exact ⟨_, rfl, k⟩
theorem rd_ww (h : spWithWord vs H Q E) : t_ww K (fin Q) (start ["words", "word", "value", "more"] vs) H := by
  obtain ⟨d, x, v, kvs, rfl, hd, hl, k⟩ := h
  refine ⟨_, rfl, d, kvs, rfl, .inl hd, fun p hp => ?_⟩
  refine ⟨_, rfl, _, rfl, _, rfl, p, _, rfl, DPut.k (k := .inr x) upd_same (small1000 hl), ?_⟩
  exact ⟨_, rfl, k p _ hp (same_old (same_new hp) hp) upd_same⟩
theorem rd_parts (h : spParts vs H Q E) : t_parts K (fin Q) (start ["piece", "kind"] vs) H := by
    obtain ⟨t, v, rfl, hd, k⟩ := h
    cases t with
    | num n =>
      obtain ⟨p, rfl, hp⟩ := hd
      refine ⟨_, rfl, p, _, _, _, rfl, rfl, SqT.of hp, rfl, ?_⟩
      refine ⟨_, rfl, rfl, _, rfl, ?_⟩
      refine iteY (by decide +kernel) (iteT ?_)
      exact ⟨szl, fun q hq => k q [] _ (same_new hq) upd_same .nil⟩
    | name x =>
      obtain ⟨p, rfl, hp⟩ := hd
      refine ⟨_, rfl, p, _, _, _, rfl, rfl, SqT.of hp, rfl, ?_⟩
      refine ⟨_, rfl, rfl, _, rfl, ?_⟩
      refine iteN (by decide +kernel) ?_
      refine ⟨_, rfl, rfl, _, rfl, ?_⟩
      refine iteY (by decide +kernel) ?_
      exact ⟨szl, fun q hq => k q [] _ (same_new hq) upd_same .nil⟩
    | sum a b =>
      obtain ⟨p, x, y, rfl, hp, d1, d2⟩ := hd
      refine ⟨_, rfl, p, _, _, _, rfl, rfl, SqT.of hp, rfl, ?_⟩
      refine ⟨_, rfl, rfl, _, rfl, ?_⟩
      refine iteN (by decide +kernel) ?_
      refine ⟨_, rfl, rfl, _, rfl, ?_⟩
      refine iteN (by decide +kernel) ?_
      refine ⟨_, rfl, rfl, _, rfl, ?_⟩
      refine iteN (by decide +kernel) ?_
      refine ⟨_, rfl, rfl, _, rfl, ?_⟩
      refine iteN (by decide +kernel) ?_
      exact ⟨_, rfl, _, rfl, p, _, rfl, SqT.of hp, cut_not 1 (by decide) (Nat.le_of_ble_eq_true rfl), fun q hq => k q [x, y] _ (same_new hq) upd_same (.cons (d1.mono (tl_new hq)) (.cons (d2.mono (tl_new hq)) .nil))⟩
    | less a b =>
      obtain ⟨p, x, y, rfl, hp, d1, d2⟩ := hd
      refine ⟨_, rfl, p, _, _, _, rfl, rfl, SqT.of hp, rfl, ?_⟩
      refine ⟨_, rfl, rfl, _, rfl, ?_⟩
      refine iteN (by decide +kernel) ?_
      refine ⟨_, rfl, rfl, _, rfl, ?_⟩
      refine iteN (by decide +kernel) ?_
      refine ⟨_, rfl, rfl, _, rfl, ?_⟩
      refine iteN (by decide +kernel) ?_
      refine ⟨_, rfl, rfl, _, rfl, ?_⟩
      refine iteN (by decide +kernel) ?_
      exact ⟨_, rfl, _, rfl, p, _, rfl, SqT.of hp, cut_not 1 (by decide) (Nat.le_of_ble_eq_true rfl), fun q hq => k q [x, y] _ (same_new hq) upd_same (.cons (d1.mono (tl_new hq)) (.cons (d2.mono (tl_new hq)) .nil))⟩
    | cho a b c =>
      obtain ⟨p, x, y, z, rfl, hp, d1, d2, d3⟩ := hd
      refine ⟨_, rfl, p, _, _, _, rfl, rfl, SqT.of hp, rfl, ?_⟩
      refine ⟨_, rfl, rfl, _, rfl, ?_⟩
      refine iteN (by decide +kernel) ?_
      refine ⟨_, rfl, rfl, _, rfl, ?_⟩
      refine iteN (by decide +kernel) ?_
      refine ⟨_, rfl, rfl, _, rfl, ?_⟩
      refine iteN (by decide +kernel) ?_
      refine ⟨_, rfl, rfl, _, rfl, ?_⟩
      refine iteN (by decide +kernel) ?_
      exact ⟨_, rfl, _, rfl, p, _, rfl, SqT.of hp, cut_not 1 (by decide) (Nat.le_of_ble_eq_true rfl), fun q hq => k q [x, y, z] _ (same_new hq) upd_same (.cons (d1.mono (tl_new hq)) (.cons (d2.mono (tl_new hq)) (.cons (d3.mono (tl_new hq)) .nil)))⟩
    | lt w a b =>
      obtain ⟨p, x, y, rfl, hp, d1, d2⟩ := hd
      refine ⟨_, rfl, p, _, _, _, rfl, rfl, SqT.of hp, rfl, ?_⟩
      refine ⟨_, rfl, rfl, _, rfl, ?_⟩
      refine iteN (by decide +kernel) ?_
      refine ⟨_, rfl, rfl, _, rfl, ?_⟩
      refine iteN (by decide +kernel) ?_
      refine ⟨_, rfl, rfl, _, rfl, ?_⟩
      refine iteY (by decide +kernel) (iteT ?_)
      exact ⟨_, rfl, _, rfl, p, _, rfl, SqT.of hp, cut_not 2 (by decide) (Nat.le_of_ble_eq_true rfl), fun q hq => k q [x, y] _ (same_new hq) upd_same (.cons (d1.mono (tl_new hq)) (.cons (d2.mono (tl_new hq)) .nil))⟩
    | st0 w =>
      obtain ⟨p, rfl, hp⟩ := hd
      refine ⟨_, rfl, p, _, _, _, rfl, rfl, SqT.of hp, rfl, ?_⟩
      refine ⟨_, rfl, rfl, _, rfl, ?_⟩
      refine iteN (by decide +kernel) ?_
      refine ⟨_, rfl, rfl, _, rfl, ?_⟩
      refine iteN (by decide +kernel) ?_
      refine ⟨_, rfl, rfl, _, rfl, ?_⟩
      refine iteN (by decide +kernel) ?_
      refine ⟨_, rfl, rfl, _, rfl, ?_⟩
      refine iteY (by decide +kernel) ?_
      exact ⟨_, rfl, _, rfl, p, _, rfl, SqT.of hp, cut_not 2 (by decide) (Nat.le_of_ble_eq_true rfl), fun q hq => k q [] _ (same_new hq) upd_same .nil⟩
    | st1 w a =>
      obtain ⟨p, x, rfl, hp, d1⟩ := hd
      refine ⟨_, rfl, p, _, _, _, rfl, rfl, SqT.of hp, rfl, ?_⟩
      refine ⟨_, rfl, rfl, _, rfl, ?_⟩
      refine iteN (by decide +kernel) ?_
      refine ⟨_, rfl, rfl, _, rfl, ?_⟩
      refine iteN (by decide +kernel) ?_
      refine ⟨_, rfl, rfl, _, rfl, ?_⟩
      refine iteN (by decide +kernel) ?_
      refine ⟨_, rfl, rfl, _, rfl, ?_⟩
      refine iteY (by decide +kernel) ?_
      exact ⟨_, rfl, _, rfl, p, _, rfl, SqT.of hp, cut_not 2 (by decide) (Nat.le_of_ble_eq_true rfl), fun q hq => k q [x] _ (same_new hq) upd_same (.cons (d1.mono (tl_new hq)) .nil)⟩
    | st2 w a b =>
      obtain ⟨p, x, y, rfl, hp, d1, d2⟩ := hd
      refine ⟨_, rfl, p, _, _, _, rfl, rfl, SqT.of hp, rfl, ?_⟩
      refine ⟨_, rfl, rfl, _, rfl, ?_⟩
      refine iteN (by decide +kernel) ?_
      refine ⟨_, rfl, rfl, _, rfl, ?_⟩
      refine iteN (by decide +kernel) ?_
      refine ⟨_, rfl, rfl, _, rfl, ?_⟩
      refine iteN (by decide +kernel) ?_
      refine ⟨_, rfl, rfl, _, rfl, ?_⟩
      refine iteY (by decide +kernel) ?_
      exact ⟨_, rfl, _, rfl, p, _, rfl, SqT.of hp, cut_not 2 (by decide) (Nat.le_of_ble_eq_true rfl), fun q hq => k q [x, y] _ (same_new hq) upd_same (.cons (d1.mono (tl_new hq)) (.cons (d2.mono (tl_new hq)) .nil))⟩
theorem rd_ins (h : spInside vs H Q E) : t_ins K (fin Q) (start ["_law_piece"] vs) H := by
    obtain ⟨t, v, rfl, hd, k⟩ := h
    cases t with
    | num n =>
      obtain ⟨p, rfl, hp⟩ := hd
      refine ⟨_, rfl, p, _, _, _, rfl, rfl, SqT.of hp, rfl, szl, fun q hq => ?_⟩
      refine ⟨q, _, rfl, .inl (SqL.of upd_same), rfl, rfl, _, rfl, ?_⟩
      refine iteY (by decide +kernel) ⟨szl, fun l hl => ?_⟩
      exact k l [] _ ((same_new hq).trans (same_new hl)) ((same_new hq).free hl) upd_same .nil
    | name x =>
      obtain ⟨p, rfl, hp⟩ := hd
      refine ⟨_, rfl, p, _, _, _, rfl, rfl, SqT.of hp, rfl, szl, fun q hq => ?_⟩
      refine ⟨q, _, rfl, .inl (SqL.of upd_same), rfl, rfl, _, rfl, ?_⟩
      refine iteY (by decide +kernel) ⟨szl, fun l hl => ?_⟩
      exact k l [] _ ((same_new hq).trans (same_new hl)) ((same_new hq).free hl) upd_same .nil
    | sum a b =>
      obtain ⟨p, x, y, rfl, hp, d1, d2⟩ := hd
      refine ⟨_, rfl, p, _, _, _, rfl, rfl, SqT.of hp, rfl, szl, fun q hq => ?_⟩
      refine ⟨q, _, rfl, .inl (SqL.of upd_same), rfl, rfl, _, rfl, ?_⟩
      have h1 := tl_new (o := .lst [.str "number", .str "name"]) hq _ _ hp
      refine iteN (by decide +kernel) ⟨_, rfl, _, rfl, p, _, _, _, rfl, rfl, SqT.of h1, rfl, szl, fun q2 hq2 => ?_⟩
      have h2 := tl_new (o := .lst [.str "let", .str "stamp"]) hq2 _ _ h1
      refine ⟨q2, _, rfl, .inl (SqL.of upd_same), rfl, rfl, ?_⟩
      rw [if_neg Bool.false_ne_true, show inV (V.str "sum") [V.str "let", V.str "stamp"] = false from by decide +kernel]
      refine .inr ⟨_, rfl, ?_⟩
      refine ⟨_, _, rfl, rfl, _, rfl, p, _, rfl, SqT.of h2, cut_not 1 (by decide) (Nat.le_of_ble_eq_true rfl), fun q3 hq3 => ?_⟩
      refine ⟨q3, [x, y], rfl, .inr (SqT.of upd_same), fun l hl => ?_⟩
      have s := (((same_new (o := .lst [.str "number", .str "name"]) hq).trans (same_new (o := .lst [.str "let", .str "stamp"]) hq2)).trans (same_new (o := .tup [x, y]) hq3)).trans (same_new (o := .lst [x, y]) hl)
      have s3 := ((same_new (o := .lst [.str "number", .str "name"]) hq).trans (same_new (o := .lst [.str "let", .str "stamp"]) hq2)).trans (same_new (o := .tup [x, y]) hq3)
      exact k l [x, y] _ s (s3.free hl) upd_same (.cons (d1.mono (tl_same s)) (.cons (d2.mono (tl_same s)) .nil))
    | less a b =>
      obtain ⟨p, x, y, rfl, hp, d1, d2⟩ := hd
      refine ⟨_, rfl, p, _, _, _, rfl, rfl, SqT.of hp, rfl, szl, fun q hq => ?_⟩
      refine ⟨q, _, rfl, .inl (SqL.of upd_same), rfl, rfl, _, rfl, ?_⟩
      have h1 := tl_new (o := .lst [.str "number", .str "name"]) hq _ _ hp
      refine iteN (by decide +kernel) ⟨_, rfl, _, rfl, p, _, _, _, rfl, rfl, SqT.of h1, rfl, szl, fun q2 hq2 => ?_⟩
      have h2 := tl_new (o := .lst [.str "let", .str "stamp"]) hq2 _ _ h1
      refine ⟨q2, _, rfl, .inl (SqL.of upd_same), rfl, rfl, ?_⟩
      rw [if_neg Bool.false_ne_true, show inV (V.str "less") [V.str "let", V.str "stamp"] = false from by decide +kernel]
      refine .inr ⟨_, rfl, ?_⟩
      refine ⟨_, _, rfl, rfl, _, rfl, p, _, rfl, SqT.of h2, cut_not 1 (by decide) (Nat.le_of_ble_eq_true rfl), fun q3 hq3 => ?_⟩
      refine ⟨q3, [x, y], rfl, .inr (SqT.of upd_same), fun l hl => ?_⟩
      have s := (((same_new (o := .lst [.str "number", .str "name"]) hq).trans (same_new (o := .lst [.str "let", .str "stamp"]) hq2)).trans (same_new (o := .tup [x, y]) hq3)).trans (same_new (o := .lst [x, y]) hl)
      have s3 := ((same_new (o := .lst [.str "number", .str "name"]) hq).trans (same_new (o := .lst [.str "let", .str "stamp"]) hq2)).trans (same_new (o := .tup [x, y]) hq3)
      exact k l [x, y] _ s (s3.free hl) upd_same (.cons (d1.mono (tl_same s)) (.cons (d2.mono (tl_same s)) .nil))
    | cho a b c =>
      obtain ⟨p, x, y, z, rfl, hp, d1, d2, d3⟩ := hd
      refine ⟨_, rfl, p, _, _, _, rfl, rfl, SqT.of hp, rfl, szl, fun q hq => ?_⟩
      refine ⟨q, _, rfl, .inl (SqL.of upd_same), rfl, rfl, _, rfl, ?_⟩
      have h1 := tl_new (o := .lst [.str "number", .str "name"]) hq _ _ hp
      refine iteN (by decide +kernel) ⟨_, rfl, _, rfl, p, _, _, _, rfl, rfl, SqT.of h1, rfl, szl, fun q2 hq2 => ?_⟩
      have h2 := tl_new (o := .lst [.str "let", .str "stamp"]) hq2 _ _ h1
      refine ⟨q2, _, rfl, .inl (SqL.of upd_same), rfl, rfl, ?_⟩
      rw [if_neg Bool.false_ne_true, show inV (V.str "choose") [V.str "let", V.str "stamp"] = false from by decide +kernel]
      refine .inr ⟨_, rfl, ?_⟩
      refine ⟨_, _, rfl, rfl, _, rfl, p, _, rfl, SqT.of h2, cut_not 1 (by decide) (Nat.le_of_ble_eq_true rfl), fun q3 hq3 => ?_⟩
      refine ⟨q3, [x, y, z], rfl, .inr (SqT.of upd_same), fun l hl => ?_⟩
      have s := (((same_new (o := .lst [.str "number", .str "name"]) hq).trans (same_new (o := .lst [.str "let", .str "stamp"]) hq2)).trans (same_new (o := .tup [x, y, z]) hq3)).trans (same_new (o := .lst [x, y, z]) hl)
      have s3 := ((same_new (o := .lst [.str "number", .str "name"]) hq).trans (same_new (o := .lst [.str "let", .str "stamp"]) hq2)).trans (same_new (o := .tup [x, y, z]) hq3)
      exact k l [x, y, z] _ s (s3.free hl) upd_same (.cons (d1.mono (tl_same s)) (.cons (d2.mono (tl_same s)) (.cons (d3.mono (tl_same s)) .nil)))
    | lt w a b =>
      obtain ⟨p, x, y, rfl, hp, d1, d2⟩ := hd
      refine ⟨_, rfl, p, _, _, _, rfl, rfl, SqT.of hp, rfl, szl, fun q hq => ?_⟩
      refine ⟨q, _, rfl, .inl (SqL.of upd_same), rfl, rfl, _, rfl, ?_⟩
      have h1 := tl_new (o := .lst [.str "number", .str "name"]) hq _ _ hp
      refine iteN (by decide +kernel) ⟨_, rfl, _, rfl, p, _, _, _, rfl, rfl, SqT.of h1, rfl, szl, fun q2 hq2 => ?_⟩
      have h2 := tl_new (o := .lst [.str "let", .str "stamp"]) hq2 _ _ h1
      refine ⟨q2, _, rfl, .inl (SqL.of upd_same), rfl, rfl, ?_⟩
      rw [if_neg Bool.false_ne_true, show inV (V.str "let") [V.str "let", V.str "stamp"] = true from by decide +kernel]
      refine .inr ⟨_, rfl, ?_⟩
      refine ⟨_, _, rfl, rfl, _, rfl, p, _, rfl, SqT.of h2, cut_not 2 (by decide) (Nat.le_of_ble_eq_true rfl), fun q3 hq3 => ?_⟩
      refine ⟨q3, [x, y], rfl, .inr (SqT.of upd_same), fun l hl => ?_⟩
      have s := (((same_new (o := .lst [.str "number", .str "name"]) hq).trans (same_new (o := .lst [.str "let", .str "stamp"]) hq2)).trans (same_new (o := .tup [x, y]) hq3)).trans (same_new (o := .lst [x, y]) hl)
      have s3 := ((same_new (o := .lst [.str "number", .str "name"]) hq).trans (same_new (o := .lst [.str "let", .str "stamp"]) hq2)).trans (same_new (o := .tup [x, y]) hq3)
      exact k l [x, y] _ s (s3.free hl) upd_same (.cons (d1.mono (tl_same s)) (.cons (d2.mono (tl_same s)) .nil))
    | st0 w =>
      obtain ⟨p, rfl, hp⟩ := hd
      refine ⟨_, rfl, p, _, _, _, rfl, rfl, SqT.of hp, rfl, szl, fun q hq => ?_⟩
      refine ⟨q, _, rfl, .inl (SqL.of upd_same), rfl, rfl, _, rfl, ?_⟩
      have h1 := tl_new (o := .lst [.str "number", .str "name"]) hq _ _ hp
      refine iteN (by decide +kernel) ⟨_, rfl, _, rfl, p, _, _, _, rfl, rfl, SqT.of h1, rfl, szl, fun q2 hq2 => ?_⟩
      have h2 := tl_new (o := .lst [.str "let", .str "stamp"]) hq2 _ _ h1
      refine ⟨q2, _, rfl, .inl (SqL.of upd_same), rfl, rfl, ?_⟩
      rw [if_neg Bool.false_ne_true, show inV (V.str "stamp") [V.str "let", V.str "stamp"] = true from by decide +kernel]
      refine .inr ⟨_, rfl, ?_⟩
      refine ⟨_, _, rfl, rfl, _, rfl, p, _, rfl, SqT.of h2, cut_not 2 (by decide) (Nat.le_of_ble_eq_true rfl), fun q3 hq3 => ?_⟩
      refine ⟨q3, [], rfl, .inr (SqT.of upd_same), fun l hl => ?_⟩
      have s := (((same_new (o := .lst [.str "number", .str "name"]) hq).trans (same_new (o := .lst [.str "let", .str "stamp"]) hq2)).trans (same_new (o := .tup []) hq3)).trans (same_new (o := .lst []) hl)
      have s3 := ((same_new (o := .lst [.str "number", .str "name"]) hq).trans (same_new (o := .lst [.str "let", .str "stamp"]) hq2)).trans (same_new (o := .tup []) hq3)
      exact k l [] _ s (s3.free hl) upd_same .nil
    | st1 w a =>
      obtain ⟨p, x, rfl, hp, d1⟩ := hd
      refine ⟨_, rfl, p, _, _, _, rfl, rfl, SqT.of hp, rfl, szl, fun q hq => ?_⟩
      refine ⟨q, _, rfl, .inl (SqL.of upd_same), rfl, rfl, _, rfl, ?_⟩
      have h1 := tl_new (o := .lst [.str "number", .str "name"]) hq _ _ hp
      refine iteN (by decide +kernel) ⟨_, rfl, _, rfl, p, _, _, _, rfl, rfl, SqT.of h1, rfl, szl, fun q2 hq2 => ?_⟩
      have h2 := tl_new (o := .lst [.str "let", .str "stamp"]) hq2 _ _ h1
      refine ⟨q2, _, rfl, .inl (SqL.of upd_same), rfl, rfl, ?_⟩
      rw [if_neg Bool.false_ne_true, show inV (V.str "stamp") [V.str "let", V.str "stamp"] = true from by decide +kernel]
      refine .inr ⟨_, rfl, ?_⟩
      refine ⟨_, _, rfl, rfl, _, rfl, p, _, rfl, SqT.of h2, cut_not 2 (by decide) (Nat.le_of_ble_eq_true rfl), fun q3 hq3 => ?_⟩
      refine ⟨q3, [x], rfl, .inr (SqT.of upd_same), fun l hl => ?_⟩
      have s := (((same_new (o := .lst [.str "number", .str "name"]) hq).trans (same_new (o := .lst [.str "let", .str "stamp"]) hq2)).trans (same_new (o := .tup [x]) hq3)).trans (same_new (o := .lst [x]) hl)
      have s3 := ((same_new (o := .lst [.str "number", .str "name"]) hq).trans (same_new (o := .lst [.str "let", .str "stamp"]) hq2)).trans (same_new (o := .tup [x]) hq3)
      exact k l [x] _ s (s3.free hl) upd_same (.cons (d1.mono (tl_same s)) .nil)
    | st2 w a b =>
      obtain ⟨p, x, y, rfl, hp, d1, d2⟩ := hd
      refine ⟨_, rfl, p, _, _, _, rfl, rfl, SqT.of hp, rfl, szl, fun q hq => ?_⟩
      refine ⟨q, _, rfl, .inl (SqL.of upd_same), rfl, rfl, _, rfl, ?_⟩
      have h1 := tl_new (o := .lst [.str "number", .str "name"]) hq _ _ hp
      refine iteN (by decide +kernel) ⟨_, rfl, _, rfl, p, _, _, _, rfl, rfl, SqT.of h1, rfl, szl, fun q2 hq2 => ?_⟩
      have h2 := tl_new (o := .lst [.str "let", .str "stamp"]) hq2 _ _ h1
      refine ⟨q2, _, rfl, .inl (SqL.of upd_same), rfl, rfl, ?_⟩
      rw [if_neg Bool.false_ne_true, show inV (V.str "stamp") [V.str "let", V.str "stamp"] = true from by decide +kernel]
      refine .inr ⟨_, rfl, ?_⟩
      refine ⟨_, _, rfl, rfl, _, rfl, p, _, rfl, SqT.of h2, cut_not 2 (by decide) (Nat.le_of_ble_eq_true rfl), fun q3 hq3 => ?_⟩
      refine ⟨q3, [x, y], rfl, .inr (SqT.of upd_same), fun l hl => ?_⟩
      have s := (((same_new (o := .lst [.str "number", .str "name"]) hq).trans (same_new (o := .lst [.str "let", .str "stamp"]) hq2)).trans (same_new (o := .tup [x, y]) hq3)).trans (same_new (o := .lst [x, y]) hl)
      have s3 := ((same_new (o := .lst [.str "number", .str "name"]) hq).trans (same_new (o := .lst [.str "let", .str "stamp"]) hq2)).trans (same_new (o := .tup [x, y]) hq3)
      exact k l [x, y] _ s (s3.free hl) upd_same (.cons (d1.mono (tl_same s)) (.cons (d2.mono (tl_same s)) .nil))
end SW

set_option Elab.async false
set_option linter.all false
set_option maxRecDepth 100000
set_option maxHeartbeats 4000000
namespace SW
open PySem L2
theorem kind_name {t : T} (h : kind t = "name") : ∃ x, t = .name x := by
  cases t with
  | name x => exact ⟨x, rfl⟩
  | _ => simp only [kind] at h; exact absurd h (by decide +kernel)
theorem kind_let {t : T} (h : kind t = "let") : ∃ x a b, t = .lt x a b := by
  cases t with
  | lt x a b => exact ⟨x, a, b, rfl⟩
  | _ => simp only [kind] at h; exact absurd h (by decide +kernel)
theorem hd_kind (t : T) (us : List V) : atI (hd t ++ us) 0 = some (.str (kind t)) := by cases t <;> exact atI_nat (j := 0) rfl
theorem namesAll_append (a b : List T) : namesAll (a ++ b) = namesAll a + namesAll b := by simp [namesAll]
theorem snoc_of_ne {α : Type} {l : List α} (h : l ≠ []) : ∃ us u, l = us ++ [u] := ⟨l.dropLast, l.getLast h, (List.dropLast_concat_getLast h).symm⟩
theorem pop_at {us : List V} {u : V} : (us ++ [u])[(us ++ [u]).length - 1]? = some u := by simp
theorem drop_at {us : List V} {u : V} : (us ++ [u]).dropLast = us := by simp
end SW

set_option Elab.async false
set_option linter.all false
set_option maxRecDepth 100000
set_option maxHeartbeats 4000000
namespace SW
open PySem L2
variable {K : PySem.W.Frag} {vs : List V} {H : Hp} {Q : VK} {E : XK}
end SW

set_option Elab.async false
set_option linter.all false
set_option maxRecDepth 100000
set_option maxHeartbeats 4000000
namespace SW
open PySem L2
variable {K : PySem.W.Frag} {vs : List V} {H : Hp} {Q : VK} {E : XK}
end SW

set_option Elab.async false
set_option linter.all false
set_option maxRecDepth 100000
set_option maxHeartbeats 4000000
namespace SW
open PySem L2
variable {K : PySem.W.Frag} {vs : List V} {H : Hp} {Q : VK} {E : XK}
end SW

set_option Elab.async false
set_option linter.all false
set_option maxRecDepth 100000
set_option maxHeartbeats 4000000
namespace SW
open PySem L2
variable {K : PySem.W.Frag} {vs : List V} {H : Hp} {Q : VK} {E : XK}
theorem cut_back (xs : List V) (k : Nat) (hk : 0 < k) : cutV xs (some (-(k : Int))) none = xs.drop (xs.length - k) := by
  unfold cutV HT.sIx
  have h1 : (-(k : Int)) < 0 := by omega
  simp only [h1, if_true]
  have e : (-(k : Int) + (xs.length : Int)).toNat = xs.length - k := by omega
  rw [e, List.take_of_length_le]
  rw [List.length_drop]; omega
theorem cut_front (xs : List V) (k : Nat) (hk : 0 < k) : cutV xs none (some (-(k : Int))) = xs.take (xs.length - k) := by
  unfold cutV HT.sIx
  have h1 : (-(k : Int)) < 0 := by omega
  simp only [h1, if_true, List.drop_zero, Nat.sub_zero]
  have e : (-(k : Int) + (xs.length : Int)).toNat = xs.length - k := by omega
  rw [e]
theorem cut_from (xs : List V) (k : Nat) (hk : k ≤ xs.length) : cutV xs (some (k : Int)) none = xs.drop k := by
  unfold cutV
  rw [HT.sIx_nat, HT.sIx_none, Nat.min_eq_left hk, List.take_of_length_le]
  rw [List.length_drop]; omega
theorem cut_to (xs : List V) (k : Nat) (hk : k ≤ xs.length) : cutV xs none (some (k : Int)) = xs.take k := by
  unfold cutV
  rw [HT.sIx_nat, HT.sIx_none, Nat.min_eq_left hk, List.drop_zero, Nat.sub_zero]
theorem DenL.split {H : Hp} : ∀ {us : List V} {ts : List T} {ws : List V}, DenL H ts (us ++ ws) → ∃ ta tb, ts = ta ++ tb ∧ DenL H ta us ∧ DenL H tb ws
  | [], ts, ws, h => ⟨[], ts, rfl, .nil, h⟩
  | u :: us, _, ws, .cons a r => by
    obtain ⟨ta, tb, rfl, h1, h2⟩ := DenL.split (us := us) r
    exact ⟨_ :: ta, tb, rfl, .cons a h1, h2⟩
theorem atI_end2 (xs : List V) (a b : V) : atI (xs ++ [a, b]) (-2) = some a := by
  unfold atI ixN
  have h1 : ¬ (0 : Int) ≤ -2 := by decide
  have h2 : -((xs ++ [a, b]).length : Int) ≤ -2 := by simp; omega
  rw [if_neg h1, if_pos h2]
  have e : (-2 + ((xs ++ [a, b]).length : Int)).toNat = xs.length := by simp; omega
  show (xs ++ [a, b])[(-2 + ((xs ++ [a, b]).length : Int)).toNat]? = some a
  rw [e]; simp
theorem atI_end1 (xs : List V) (a b : V) : atI (xs ++ [a, b]) (-1) = some b := by
  have := atI_last (xs ++ [a]) b
  rw [List.append_assoc] at this
  exact this
section
variable {S : Str → Nat → Prop} {H₀ H1 : Hp} {n : Nat} {l p : Addr} {ts : List T} {t : T} {v : V}
theorem Pile.mono (P : Pile S H₀ H n l vs ts) (s : Same H H1) : Pile S H₀ H1 n l vs ts := ⟨P.same.trans s, P.new, s _ _ P.at_, P.den.mono (tl_same s), P.sz, P.one, P.wt⟩
theorem Pile.push (P : Pile S H₀ H n l vs ts) (hd : Den H t v) (wt : WT S t) (hs : t.size = 1) : Pile S H₀ (upd H l (.lst (vs ++ [v]))) (n + 1) l (vs ++ [v]) (ts ++ [t]) := by
  have tl := tl_lst (o := .lst (vs ++ [v])) P.at_
  refine ⟨same_old P.same P.new, P.new, upd_same, (P.den.mono tl).append (.cons (hd.mono tl) .nil), ?_, by simp, fun u hu => ?_⟩
  · rw [sizes_append, sizes_cons, sizes_nil]; have := P.sz; omega
  · rcases List.mem_append.mp hu with z | z
    · exact P.wt u z
    · rw [List.mem_singleton] at z; subst z; exact wt
theorem Pile.fold {us ws : List V} {ta tb : List T} (P : Pile S H₀ H n l (us ++ ws) (ta ++ tb)) (s : Same H H1) (hp : H1 p = none) (d : DenL H ta us) (hd : Den H1 t v) (wt : WT S t) (hs : t.size = sizes tb + 1) : Pile S H₀ (upd H1 p (.lst (us ++ [v]))) (n + 1) p (us ++ [v]) (ta ++ [t]) := by
  have tl := tl_new (o := .lst (us ++ [v])) hp
  refine ⟨(P.same.trans s).trans (same_new hp), (P.same.trans s).free hp, upd_same, ((d.mono (tl_same s)).mono tl).append (.cons (hd.mono tl) .nil), ?_, by simp, fun u hu => ?_⟩
  · have := P.sz
    rw [sizes_append] at this ⊢
    rw [sizes_cons, sizes_nil]; omega
  · rcases List.mem_append.mp hu with z | z
    · exact P.wt u (List.mem_append_left _ z)
    · rw [List.mem_singleton] at z; subst z; exact wt
/-- behind a turn -/
def DpN (S : Str → Nat → Prop) (H₀ : Hp) (c st : Addr) (n : Nat) (σ : L2.St) (H : Hp) : Prop :=
  ∃ l vs ts j3 j4 j5 j6 j7 j8 j9 j10 j11 j12, σ = [some (.ref c), some (.ref st), some (.ref l), j3, j4, j5, j6, j7, j8, j9, j10, j11, j12] ∧ Pile S H₀ H n l vs ts
end
section
variable {S : Str → Nat → Prop} {H₀ : Hp} {n : Nat} {l c st li : Addr} {ts : List T} {D : Ends} {cell rest way : Int} {x : Str} {j8 j9 j10 j11 j12 : Option V}
theorem rd_dp_number (P : Pile S H₀ H n l vs ts) (hn : n ≤ 1000) (hD : ∀ σ H, DpN S H₀ c st (n + 1) σ H → D.nx σ H) :
    t_dp_3 K D [some (.ref c), some (.ref st), some (.ref l), some (.int cell), some (.int rest), some (.int way), some (.str x), some (.ref li), j8, j9, j10, j11, j12] H := by
  refine ⟨_, rfl, .inl ⟨rfl, _, SqL.of P.at_⟩, ?_⟩
  refine ⟨_, rfl, _, _, rfl, rfl, (show (0 : Int) < 4 by decide), _, _, rfl, rfl, _, rfl, rest, rfl, fun z H1 hz s1 => ⟨szl, fun q hq => ?_⟩⟩
  have P1 := (P.mono s1).mono (same_new (o := .lst [.int (rest % 4 - 1), .int z]) hq)
  have hq1 : (upd H1 q (.lst [.int (rest % 4 - 1), .int z])) q = some (.lst [.int (rest % 4 - 1), .int z]) := upd_same
  generalize upd H1 q (.lst [.int (rest % 4 - 1), .int z]) = H2 at P1 hq1 ⊢
  refine ⟨_, rfl, _, _, rfl, rfl, (show (0 : Int) < 5 by decide), rfl, .inr ⟨_, rfl, ?_⟩⟩
  have hi : 0 ≤ (if decide (V.int (rest % 5) = V.int 3) = true then (1 : Int) else 0) ∧ (if decide (V.int (rest % 5) = V.int 3) = true then (1 : Int) else 0) < ([V.int (rest % 4 - 1), V.int z] : List V).length := by
    constructor
    · split <;> decide
    · show _ < ((2 : Nat) : Int)
      split <;> decide
  obtain ⟨u, hu, e⟩ := atI_mem hi.1 hi.2
  obtain ⟨y, rfl, hy⟩ : ∃ y, u = .int y ∧ (-(10 ^ 60) < y ∧ y < 10 ^ 60) := by
    have e60 : (10 : Int) ^ 60 = 1000000000000000000000000000000000000000000000000000000000000 := by decide
    have e59 : (10 : Int) ^ 59 = 100000000000000000000000000000000000000000000000000000000000 := by decide
    rw [e60]; rw [e59] at hz
    rcases List.mem_cons.mp hu with rfl | hu
    · exact ⟨_, rfl, by omega⟩
    · rw [List.mem_singleton] at hu
      exact ⟨_, hu, by omega⟩
  refine ⟨q, _, _, .int y, rfl, rfl, SqL.of hq1, e, szl, fun p hp => ?_⟩
  have P2 := P1.mono (same_new (o := .tup [.str "number", .int y]) hp)
  have hl : vs.length ≤ n := by rw [P.den.length]; exact Nat.le_trans (length_le_sizes ts) P.sz
  refine ⟨l, vs, .ref p, rfl, rfl, P2.at_, by rw [sizeLine_eq]; omega, hD _ _ ⟨l, vs ++ [.ref p], ts ++ [.num y], _, _, _, _, _, _, _, _, _, _, rfl, P2.push (t := .num y) (v := .ref p) ⟨p, rfl, upd_same⟩ hy rfl⟩⟩
theorem rd_dp_name (P : Pile S H₀ H n l vs ts) (hn : n ≤ 1000) (hx : Wd x) (hD : ∀ σ H, DpN S H₀ c st (n + 1) σ H → D.nx σ H) :
    t_dp_4 K D [some (.ref c), some (.ref st), some (.ref l), some (.int cell), some (.int rest), some (.int way), some (.str x), some (.ref li), j8, j9, j10, j11, j12] H := by
  refine ⟨_, rfl, .inl ⟨rfl, _, SqL.of P.at_⟩, _, rfl, szl, fun p hp => ?_⟩
  have P2 := P.mono (same_new (o := .tup [.str "name", .str x]) hp)
  have hl : vs.length ≤ n := by rw [P.den.length]; exact Nat.le_trans (length_le_sizes ts) P.sz
  refine ⟨l, vs, .ref p, rfl, rfl, P2.at_, by rw [sizeLine_eq]; omega, hD _ _ ⟨l, vs ++ [.ref p], ts ++ [.name x], _, _, _, _, _, _, _, _, _, _, rfl, P2.push (t := .name x) (v := .ref p) ⟨p, rfl, upd_same⟩ hx rfl⟩⟩
theorem rd_dp_choose {us : List V} {a b d : V} {ta : List T} {t1 t2 t3 : T} (P : Pile S H₀ H n l (us ++ [a, b, d]) (ta ++ [t1, t2, t3])) (hn : n ≤ 1000) (d0 : DenL H ta us) (d1 : Den H t1 a) (d2 : Den H t2 b) (d3 : Den H t3 d) (hli : H li = some (.lst [a, b, d])) (hD : ∀ σ H, DpN S H₀ c st (n + 1) σ H → D.nx σ H) :
    t_dp_5 K D [some (.ref c), some (.ref st), some (.ref l), some (.int cell), some (.int rest), some (.int way), some (.str x), some (.ref li), j8, j9, j10, j11, j12] H := by
  refine ⟨_, rfl, _, rfl, _, rfl, l, _, rfl, SqL.of P.at_, fun q hq => ?_⟩
  rw [show (-3 : Int) = -((3 : Nat) : Int) from rfl, cut_front _ 3 (by decide), show (us ++ [a, b, d]).length - 3 = us.length by simp, List.take_left']
  have s1 := same_new (o := .lst us) hq
  have g1 : (upd H q (.lst us)) q = some (.lst us) := upd_same
  generalize upd H q (.lst us) = G1 at s1 g1 ⊢
  refine ⟨_, rfl, li, _, _, _, rfl, rfl, SqL.of (s1 _ _ hli), rfl, _, rfl, li, _, _, _, rfl, rfl, SqL.of (s1 _ _ hli), rfl, _, rfl, li, _, _, _, rfl, rfl, SqL.of (s1 _ _ hli), rfl, szl, fun p hp => ?_⟩
  have s2 := same_new (o := .tup [.str "choose", a, b, d]) hp
  have g2 : (upd G1 p (.tup [.str "choose", a, b, d])) p = some (.tup [.str "choose", a, b, d]) := upd_same
  generalize upd G1 p (.tup [.str "choose", a, b, d]) = G2 at s2 g2 ⊢
  refine ⟨szl, fun q2 hq2 => ?_⟩
  have s3 := same_new (o := .lst [.ref p]) hq2
  have g3 : (upd G2 q2 (.lst [.ref p])) q2 = some (.lst [.ref p]) := upd_same
  generalize upd G2 q2 (.lst [.ref p]) = G3 at s3 g3 ⊢
  have sA := s1.trans (s2.trans s3)
  have hl : (us ++ [a, b, d]).length ≤ n := by rw [P.den.length]; exact Nat.le_trans (length_le_sizes _) P.sz
  rw [List.length_append] at hl
  refine ⟨q, q2, us, [.ref p], rfl, rfl, s3 _ _ (s2 _ _ g1), g3, by rw [sizeLine_eq]; simp; omega, fun p3 hp3 => hD _ _ ⟨p3, us ++ [.ref p], ta ++ [.cho t1 t2 t3], _, _, _, _, _, _, _, _, _, _, rfl, P.fold (t := .cho t1 t2 t3) (v := .ref p) sA hp3 d0 ⟨p, a, b, d, rfl, s3 _ _ g2, d1.mono (tl_same sA), d2.mono (tl_same sA), d3.mono (tl_same sA)⟩ ⟨P.wt _ (by simp), P.wt _ (by simp), P.wt _ (by simp)⟩ (by simp [T.size, sizes]; omega)⟩⟩
  simp
theorem rd_dp_sum {us zs : List V} {a b : V} {ta : List T} {t1 t2 : T} (P : Pile S H₀ H n l (us ++ [a, b]) (ta ++ [t1, t2])) (hn : n ≤ 1000) (d0 : DenL H ta us) (d1 : Den H t1 a) (d2 : Den H t2 b) (hli : H li = some (.lst (zs ++ [a, b]))) (hD : ∀ σ H, DpN S H₀ c st (n + 1) σ H → D.nx σ H) :
    t_dp_6 K D [some (.ref c), some (.ref st), some (.ref l), some (.int cell), some (.int rest), some (.int way), some (.str x), some (.ref li), j8, j9, j10, j11, j12] H := by
  refine ⟨_, rfl, _, rfl, _, rfl, l, _, rfl, SqL.of P.at_, fun q hq => ?_⟩
  rw [show (-2 : Int) = -((2 : Nat) : Int) from rfl, cut_front _ 2 (by decide), show (us ++ [a, b]).length - 2 = us.length by simp, List.take_left']
  have s1 := same_new (o := .lst us) hq
  have g1 : (upd H q (.lst us)) q = some (.lst us) := upd_same
  generalize upd H q (.lst us) = G1 at s1 g1 ⊢
  refine ⟨szl, fun q1 hq1 => ?_⟩
  have s1b := same_new (o := .lst [.str "sum", .str "less"]) hq1
  have g1b : (upd G1 q1 (.lst [.str "sum", .str "less"])) q1 = some (.lst [.str "sum", .str "less"]) := upd_same
  generalize upd G1 q1 (.lst [.str "sum", .str "less"]) = G1b at s1b g1b ⊢
  have sB := s1.trans s1b
  have hw : 0 ≤ way % 2 ∧ way % 2 < 2 := by omega
  obtain ⟨u, hu, e⟩ := atI_mem (xs := [V.str "sum", V.str "less"]) hw.1 hw.2
  refine ⟨_, rfl, _, _, rfl, rfl, (show (0 : Int) < 2 by decide), q1, _, _, u, rfl, rfl, SqL.of g1b, e, ?_⟩
  refine ⟨_, rfl, _, rfl, li, _, _, _, rfl, rfl, SqL.of (sB _ _ hli), atI_end2 zs a b, _, rfl, _, rfl, li, _, _, _, rfl, rfl, SqL.of (sB _ _ hli), atI_end1 zs a b, szl, fun p hp => ?_⟩
  have s2 := same_new (o := .tup [u, a, b]) hp
  have g2 : (upd G1b p (.tup [u, a, b])) p = some (.tup [u, a, b]) := upd_same
  generalize upd G1b p (.tup [u, a, b]) = G2 at s2 g2 ⊢
  refine ⟨szl, fun q2 hq2 => ?_⟩
  have s3 := same_new (o := .lst [.ref p]) hq2
  have g3 : (upd G2 q2 (.lst [.ref p])) q2 = some (.lst [.ref p]) := upd_same
  generalize upd G2 q2 (.lst [.ref p]) = G3 at s3 g3 ⊢
  have sA := sB.trans (s2.trans s3)
  have hl : (us ++ [a, b]).length ≤ n := by rw [P.den.length]; exact Nat.le_trans (length_le_sizes _) P.sz
  rw [List.length_append] at hl
  have e1 := d1.mono (tl_same sA)
  have e2 := d2.mono (tl_same sA)
  have w1 : WT S t1 := P.wt _ (by simp)
  have w2 : WT S t2 := P.wt _ (by simp)
  refine ⟨q, q2, us, [.ref p], rfl, rfl, s3 _ _ (s2 _ _ (s1b _ _ g1)), g3, by rw [sizeLine_eq]; simp; omega, fun p3 hp3 => ?_⟩
  rcases List.mem_cons.mp hu with rfl | hu
  · exact hD _ _ ⟨p3, us ++ [.ref p], ta ++ [.sum t1 t2], _, _, _, _, _, _, _, _, _, _, rfl, P.fold (t := .sum t1 t2) (v := .ref p) sA hp3 d0 ⟨p, a, b, rfl, s3 _ _ g2, e1, e2⟩ ⟨w1, w2⟩ (by simp [T.size, sizes])⟩
  · rw [List.mem_singleton] at hu
    subst hu
    exact hD _ _ ⟨p3, us ++ [.ref p], ta ++ [.less t1 t2], _, _, _, _, _, _, _, _, _, _, rfl, P.fold (t := .less t1 t2) (v := .ref p) sA hp3 d0 ⟨p, a, b, rfl, s3 _ _ g2, e1, e2⟩ ⟨w1, w2⟩ (by simp [T.size, sizes])⟩
  all_goals simp
end
end SW

set_option Elab.async false
set_option linter.all false
set_option maxRecDepth 100000
set_option maxHeartbeats 4000000
namespace SW
open PySem L2
variable {K : PySem.W.Frag} {vs : List V} {H : Hp} {Q : VK} {E : XK}
theorem in_sumless {t : T} (h : (if false = true then !inV (V.str (kind t)) [V.str "sum", V.str "less"] else inV (V.str (kind t)) [V.str "sum", V.str "less"]) = true) : (∃ a b, t = .sum a b) ∨ ∃ a b, t = .less a b := by
  rw [if_neg Bool.false_ne_true] at h
  cases t with
  | sum a b => exact .inl ⟨a, b, rfl⟩
  | less a b => exact .inr ⟨a, b, rfl⟩
  | _ => simp only [kind] at h; exact absurd h (by decide +kernel)
section
variable {S : Str → Nat → Prop} {H₀ : Hp} {n : Nat} {l c st li : Addr} {ts : List T} {D : Ends} {cell rest way : Int} {x : Str} {j8 j9 j10 j11 j12 : Option V}
theorem rd_dp_let {us zs : List V} {a b : V} {ta : List T} {t1 t2 : T} (P : Pile S H₀ H n l (us ++ [a, b]) (ta ++ [t1, t2])) (hn : n ≤ 1000) (d0 : DenL H ta us) (d1 : Den H t1 a) (d2 : Den H t2 b) (hli : H li = some (.lst (zs ++ [a, b]))) (hx : Wd x) (hD : ∀ σ H, DpN S H₀ c st (n + 1) σ H → D.nx σ H) :
    t_dp_11 K D [some (.ref c), some (.ref st), some (.ref l), some (.int cell), some (.int rest), some (.int way), some (.str x), some (.ref li), j8, j9, j10, j11, j12] H := by
  have w1 : WT S t1 := P.wt _ (by simp)
  have w2 : WT S t2 := P.wt _ (by simp)
  -- the last row, for any word and heap
  have last : ∀ (y : Str) (vl : V) (G : Hp), Wd y → Same H G →
      (tAsg (tOp rCat (tSl (rSlL K) (tVar 2) tNoPart (tPart (tUn rNegI (tC (.int 2))))) (tLst (tCons (tTup (tCons (tC (.str "let")) (tCons (tVar 6) (tCons (tOp (rIxL K) (tVar 7) (tUn rNegI (tC (.int 2)))) (tCons (tOp (rIxL K) (tVar 7) (tUn rNegI (tC (.int 1)))) tNil))))) tNil))) (gName 2)) D
        [some (.ref c), some (.ref st), some (.ref l), some (.int cell), some (.int rest), some (.int way), some (.str y), some (.ref li), some vl, j9, j10, j11, j12] G := by
    intro y vl G hy sG
    have PG := P.mono sG
    refine ⟨_, rfl, _, rfl, _, rfl, l, _, rfl, SqL.of PG.at_, fun q hq => ?_⟩
    rw [show (-2 : Int) = -((2 : Nat) : Int) from rfl, cut_front _ 2 (by decide), show (us ++ [a, b]).length - 2 = us.length by simp, List.take_left']
    have s1 := same_new (o := .lst us) hq
    have g1 : (upd G q (.lst us)) q = some (.lst us) := upd_same
    generalize upd G q (.lst us) = G1 at s1 g1 ⊢
    have hli1 := s1 _ _ (sG _ _ hli)
    refine ⟨_, rfl, _, rfl, _, rfl, li, _, _, _, rfl, rfl, SqL.of hli1, atI_end2 zs a b, _, rfl, _, rfl, li, _, _, _, rfl, rfl, SqL.of hli1, atI_end1 zs a b, szl, fun p hp => ?_⟩
    have s2 := same_new (o := .tup [.str "let", .str y, a, b]) hp
    have g2 : (upd G1 p (.tup [.str "let", .str y, a, b])) p = some (.tup [.str "let", .str y, a, b]) := upd_same
    generalize upd G1 p (.tup [.str "let", .str y, a, b]) = G2 at s2 g2 ⊢
    refine ⟨szl, fun q2 hq2 => ?_⟩
    have s3 := same_new (o := .lst [.ref p]) hq2
    have g3 : (upd G2 q2 (.lst [.ref p])) q2 = some (.lst [.ref p]) := upd_same
    generalize upd G2 q2 (.lst [.ref p]) = G3 at s3 g3 ⊢
    have sA := s1.trans (s2.trans s3)
    have hl : (us ++ [a, b]).length ≤ n := by rw [P.den.length]; exact Nat.le_trans (length_le_sizes _) P.sz
    rw [List.length_append] at hl
    have e1 := (d1.mono (tl_same sG)).mono (tl_same sA)
    have e2 := (d2.mono (tl_same sG)).mono (tl_same sA)
    refine ⟨q, q2, us, [.ref p], rfl, rfl, s3 _ _ (s2 _ _ g1), g3, by rw [sizeLine_eq]; simp; omega, fun p3 hp3 => ?_⟩
    exact hD _ _ ⟨p3, us ++ [.ref p], ta ++ [.lt y t1 t2], _, _, _, _, _, _, _, _, _, _, rfl, PG.fold (t := .lt y t1 t2) (v := .ref p) sA hp3 (d0.mono (tl_same sG)) ⟨p, a, b, rfl, s3 _ _ g2, e1, e2⟩ ⟨hy, w1, w2⟩ (by simp [T.size, sizes])⟩
    simp
  have rest2 : ∀ (tl : T) (vl : V) (G : Hp), Same H G → Den G tl vl → WT S tl →
      (tSeq (t_dp_10 K) (tAsg (tOp rCat (tSl (rSlL K) (tVar 2) tNoPart (tPart (tUn rNegI (tC (.int 2))))) (tLst (tCons (tTup (tCons (tC (.str "let")) (tCons (tVar 6) (tCons (tOp (rIxL K) (tVar 7) (tUn rNegI (tC (.int 2)))) (tCons (tOp (rIxL K) (tVar 7) (tUn rNegI (tC (.int 1)))) tNil))))) tNil))) (gName 2))) D
        [some (.ref c), some (.ref st), some (.ref l), some (.int cell), some (.int rest), some (.int way), some (.str x), some (.ref li), some vl, j9, j10, j11, j12] G := by
    intro tl vl G sG dl wl
    obtain ⟨pl, ks, rfl, hpl, _⟩ := dl.open
    refine ⟨_, rfl, pl, _, _, _, rfl, rfl, SqT.of hpl, hd_kind tl ks, rfl, _, rfl, ?_⟩
    refine ite2 (fun hk => ?_) (fun hk => ?_)
    · obtain ⟨y, rfl⟩ := kind_name (V.str.inj (of_decide_eq_true hk))
      refine ⟨_, rfl, _, _, rfl, rfl, (show (0 : Int) < 3 by decide), _, _, rfl, rfl, _, rfl, ?_⟩
      refine ite2 (fun _ => ?_) (fun _ => ?_)
      · exact ⟨_, rfl, pl, _, _, _, rfl, rfl, SqT.of hpl, atI_nat (j := 1) rfl, last y _ G wl sG⟩
      · exact last x _ G hx sG
    · exact iteF (last x _ G hx sG)
  obtain ⟨pb, ks, rfl, hpb, _⟩ := d2.open
  refine ⟨_, rfl, _, rfl, li, _, _, _, rfl, rfl, SqL.of hli, atI_end1 zs a _, ?_⟩
  refine ⟨_, rfl, pb, _, _, _, rfl, rfl, SqT.of hpb, hd_kind t2 ks, szl, fun q hq => ?_⟩
  have s1 := same_new (o := .lst [.str "sum", .str "less"]) hq
  have g1 : (upd H q (.lst [.str "sum", .str "less"])) q = some (.lst [.str "sum", .str "less"]) := upd_same
  generalize upd H q (.lst [.str "sum", .str "less"]) = G1 at s1 g1 ⊢
  refine ⟨q, _, rfl, .inl (SqL.of g1), rfl, rfl, _, rfl, ?_⟩
  refine ite2 (fun hk => ?_) (fun hk => ?_)
  · rcases in_sumless hk with ⟨a', b', rfl⟩ | ⟨a', b', rfl⟩
    · obtain ⟨p', u1, u2, e, h3, e1, e2⟩ := d2
      cases e
      exact ⟨_, rfl, pb, _, _, _, rfl, rfl, SqT.of (s1 _ _ h3), rfl, rest2 b' u2 G1 s1 (e2.mono (tl_same s1)) w2.2⟩
    · obtain ⟨p', u1, u2, e, h3, e1, e2⟩ := d2
      cases e
      exact ⟨_, rfl, pb, _, _, _, rfl, rfl, SqT.of (s1 _ _ h3), rfl, rest2 b' u2 G1 s1 (e2.mono (tl_same s1)) w2.2⟩
  · exact rest2 t2 _ G1 s1 (d2.mono (tl_same s1)) w2
/-- the stamp of m pieces -/
theorem stamp_of {S : Str → Nat → Prop} {H : Hp} {nm : Str} {m : Nat} {ws : List V} {tb : List T} {p : Addr} (hm : m ≤ 2) (hS : S nm m) (hl : ws.length = m) (d : DenL H tb ws) (wt : ∀ t ∈ tb, WT S t) (hp : H p = some (.tup ([.str "stamp", .str nm] ++ ws))) :
    ∃ t, Den H t (.ref p) ∧ WT S t ∧ t.size = sizes tb + 1 := by
  cases d with
  | nil =>
    subst hl
    exact ⟨.st0 nm, ⟨p, rfl, hp⟩, hS, rfl⟩
  | @cons t1 v1 tb ws a r =>
    cases r with
    | nil =>
      subst hl
      exact ⟨.st1 nm t1, ⟨p, v1, rfl, hp, a⟩, ⟨hS, wt _ (by simp)⟩, by simp [T.size, sizes]⟩
    | @cons t2 v2 tb ws b r =>
      cases r with
      | nil =>
        subst hl
        exact ⟨.st2 nm t1 t2, ⟨p, v1, v2, rfl, hp, a, b⟩, ⟨hS, wt _ (by simp), wt _ (by simp)⟩, by simp [T.size, sizes]⟩
      | cons _ _ => simp at hl; omega
theorem rd_dp_stamp {xs : List V} (P : Pile S H₀ H n l vs ts) (hn : n ≤ 1000) (hst : H st = some (.lst xs)) (hxs : xs ≠ []) (hS : StampsAt S H xs) (hD : ∀ σ H, DpN S H₀ c st (n + 1) σ H → D.nx σ H) (hD0 : ∀ σ H, DpN S H₀ c st n σ H → D.nx σ H) :
    t_dp_14 K D [some (.ref c), some (.ref st), some (.ref l), some (.int cell), some (.int rest), some (.int way), some (.str x), some (.ref li), j8, j9, j10, j11, j12] H := by
  have hpos : (0 : Int) < (xs.length : Int) := by
    cases xs with
    | nil => exact absurd rfl hxs
    | cons _ _ => simp
  have hr := Int.emod_nonneg rest (Int.ne_of_gt hpos)
  have hr2 := Int.emod_lt_of_pos rest hpos
  obtain ⟨v, hv, e⟩ := atI_mem hr hr2
  obtain ⟨q, nm, m, rfl, hq, hm, hSm⟩ := hS v hv
  refine ⟨_, rfl, _, rfl, _, rfl, st, xs, rfl, .inl (SqL.of hst), _, _, rfl, rfl, hpos, st, xs, _, _, rfl, rfl, SqL.of hst, e, q, _, rfl, SqT.of hq, rfl, _, _, rfl, _, _, rfl, rfl, ?_⟩
  refine ⟨_, rfl, _, rfl, l, vs, rfl, .inl (SqL.of P.at_), _, _, rfl, ?_⟩
  refine ⟨_, rfl, _, rfl, _, rfl, _, rfl, st, xs, rfl, .inl (SqL.of hst), _, _, rfl, rfl, hpos, st, xs, _, _, rfl, rfl, SqL.of hst, e, q, _, _, _, rfl, rfl, SqT.of hq, atI_nat (j := 1) rfl, rfl, _, rfl, ?_⟩
  refine ite2 (fun hk => ?_) (fun hk => ?_)
  · have hk : (if (vs.length : Int) < (m : Int) then (vs.length : Int) else (m : Int)) = m := V.int.inj (of_decide_eq_true hk)
    have hml : m ≤ vs.length := by
      split at hk
      · omega
      · omega
    rw [hk]
    obtain ⟨us, ws, rfl, hws⟩ : ∃ us ws, vs = us ++ ws ∧ ws.length = m := ⟨vs.take (vs.length - m), vs.drop (vs.length - m), (List.take_append_drop _ _).symm, by rw [List.length_drop]; omega⟩
    obtain ⟨ta, tb, rfl, d0, d1⟩ := P.den.split
    have hel : ((us ++ ws).length : Int) - (m : Int) = ((us.length : Nat) : Int) := by rw [List.length_append]; omega
    have hl : (us ++ ws).length ≤ n := by rw [P.den.length]; exact Nat.le_trans (length_le_sizes _) P.sz
    rw [List.length_append] at hl
    refine ⟨_, rfl, szl, fun q1 hq1 => ?_⟩
    have s1 := same_new (o := .lst [.str "stamp", .str nm]) hq1
    have g1 : (upd H q1 (.lst [.str "stamp", .str nm])) q1 = some (.lst [.str "stamp", .str nm]) := upd_same
    generalize upd H q1 (.lst [.str "stamp", .str nm]) = G1 at s1 g1 ⊢
    refine ⟨_, rfl, _, rfl, l, _, rfl, .inl (SqL.of (s1 _ _ P.at_)), _, rfl, _, _, rfl, rfl, _, rfl, l, _, rfl, SqL.of (s1 _ _ P.at_), fun q2 hq2 => ?_⟩
    rw [hel, cut_from _ _ (by simp), List.drop_left']
    have s2 := same_new (o := .lst ws) hq2
    have g2 : (upd G1 q2 (.lst ws)) q2 = some (.lst ws) := upd_same
    generalize upd G1 q2 (.lst ws) = G2 at s2 g2 ⊢
    refine ⟨q1, q2, _, _, rfl, rfl, s2 _ _ g1, g2, by rw [sizeLine_eq]; simp; omega, fun q3 hq3 => ?_⟩
    have s3 := same_new (o := .lst ([.str "stamp", .str nm] ++ ws)) hq3
    have g3 : (upd G2 q3 (.lst ([.str "stamp", .str nm] ++ ws))) q3 = some (.lst ([.str "stamp", .str nm] ++ ws)) := upd_same
    generalize upd G2 q3 (.lst ([.str "stamp", .str nm] ++ ws)) = G3 at s3 g3 ⊢
    refine ⟨q3, _, rfl, .inl ⟨SqL.of g3, fun q4 hq4 => ?_⟩⟩
    have s4 := same_new (o := .tup ([.str "stamp", .str nm] ++ ws)) hq4
    have g4 : (upd G3 q4 (.tup ([.str "stamp", .str nm] ++ ws))) q4 = some (.tup ([.str "stamp", .str nm] ++ ws)) := upd_same
    generalize upd G3 q4 (.tup ([.str "stamp", .str nm] ++ ws)) = G4 at s4 g4 ⊢
    have sB := (s1.trans s2).trans (s3.trans s4)
    refine ⟨_, rfl, _, rfl, l, _, rfl, .inl (SqL.of (sB _ _ P.at_)), _, rfl, _, _, rfl, rfl, _, rfl, l, _, rfl, SqL.of (sB _ _ P.at_), fun q5 hq5 => ?_⟩
    rw [hel, cut_to _ _ (by simp), List.take_left']
    have s5 := same_new (o := .lst us) hq5
    have g5 : (upd G4 q5 (.lst us)) q5 = some (.lst us) := upd_same
    generalize upd G4 q5 (.lst us) = G5 at s5 g5 ⊢
    refine ⟨_, rfl, szl, fun q6 hq6 => ?_⟩
    have s6 := same_new (o := .lst [.ref q4]) hq6
    have g6 : (upd G5 q6 (.lst [.ref q4])) q6 = some (.lst [.ref q4]) := upd_same
    generalize upd G5 q6 (.lst [.ref q4]) = G6 at s6 g6 ⊢
    have sA := sB.trans (s5.trans s6)
    obtain ⟨t, dt, wt, hs⟩ := stamp_of hm hSm hws (d1.mono (tl_same sA)) (fun t ht => P.wt t (List.mem_append_right _ ht)) (s6 _ _ (s5 _ _ g4))
    refine ⟨q5, q6, us, [.ref q4], rfl, rfl, s6 _ _ g5, g6, by rw [sizeLine_eq]; simp; omega, fun p3 hp3 => ?_⟩
    exact hD _ _ ⟨p3, us ++ [.ref q4], ta ++ [t], _, _, _, _, _, _, _, _, _, _, rfl, P.fold sA hp3 d0 dt wt hs⟩
    all_goals rfl
  · exact hD0 _ _ ⟨l, vs, ts, _, _, _, _, _, _, _, _, _, _, rfl, P⟩
end
end SW

set_option Elab.async false
set_option linter.all false
set_option maxRecDepth 100000
set_option maxHeartbeats 4000000
namespace SW
open PySem L2
variable {K : PySem.W.Frag} {vs : List V} {H : Hp} {Q : VK} {E : XK}
theorem two_ends {α : Type} : ∀ {l : List α}, 2 ≤ l.length → ∃ us a b, l = us ++ [a, b] := fun {l} h => by
  have hne : l ≠ [] := by intro e; subst e; simp at h
  obtain ⟨us, b, rfl⟩ := snoc_of_ne hne
  have hne : us ≠ [] := by intro e; subst e; simp at h
  obtain ⟨us, a, rfl⟩ := snoc_of_ne hne
  exact ⟨us, a, b, by simp⟩
theorem three_ends {α : Type} : ∀ {l : List α}, 3 ≤ l.length → ∃ us a b c, l = us ++ [a, b, c] := fun {l} h => by
  have hne : l ≠ [] := by intro e; subst e; simp at h
  obtain ⟨us, c, rfl⟩ := snoc_of_ne hne
  obtain ⟨us, a, b, rfl⟩ := two_ends (l := us) (by simp at h; omega)
  exact ⟨us, a, b, c, by simp⟩
section
variable {S : Str → Nat → Prop} {H₀ : Hp} {n : Nat} {l c st li : Addr} {ts : List T} {D : Ends} {cell rest way : Int} {x : Str} {j8 j9 j10 j11 j12 : Option V}
theorem rd_dp_if {xs : List V} (P : Pile S H₀ H n l vs ts) (hn : n ≤ 1000) (hli : H li = some (.lst (vs.drop (vs.length - 3)))) (hw : 0 ≤ way ∧ way < 9) (hx : Wd x) (hst : H st = some (.lst xs)) (hS : StampsAt S H xs)
    (hD : ∀ σ H, DpN S H₀ c st (n + 1) σ H → D.nx σ H) :
    t_dp_20 K D [some (.ref c), some (.ref st), some (.ref l), some (.int cell), some (.int rest), some (.int way), some (.str x), some (.ref li), j8, j9, j10, j11, j12] H := by
  have hD0 : ∀ σ H, DpN S H₀ c st n σ H → D.nx σ H := fun σ H h => hD σ H (by
    obtain ⟨l, vs, ts, j3, j4, j5, j6, j7, j8, j9, j10, j11, j12, e, P⟩ := h
    exact ⟨l, vs, ts, j3, j4, j5, j6, j7, j8, j9, j10, j11, j12, e, P.same, P.new, P.at_, P.den, by have := P.sz; omega, P.one, P.wt⟩)
  have hlen : (vs.drop (vs.length - 3)).length = min 3 vs.length := by rw [List.length_drop]; omega
  have h1 : 1 ≤ vs.length := by
    rw [P.den.length]
    cases ts with
    | nil => exact absurd rfl P.one
    | cons _ _ => simp
  -- two at the end
  have two : 2 ≤ vs.length → ∃ us a b ta t1 t2, vs = us ++ [a, b] ∧ ts = ta ++ [t1, t2] ∧ DenL H ta us ∧ Den H t1 a ∧ Den H t2 b ∧ ∃ zs, vs.drop (vs.length - 3) = zs ++ [a, b] := fun h2 => by
    obtain ⟨us, a, b, rfl⟩ := two_ends h2
    obtain ⟨ta, tb, rfl, d0, d1⟩ := P.den.split
    cases d1 with
    | cons e1 r =>
    cases r with
    | cons e2 r =>
    cases r
    refine ⟨us, a, b, ta, _, _, rfl, rfl, d0, e1, e2, us.drop (us.length - 1), ?_⟩
    rw [show (us ++ [a, b]).length - 3 = us.length - 1 by simp, List.drop_append_of_le_length (by omega)]
  have other : way ≠ 0 → ((vs.drop (vs.length - 3)).length = 1 → ¬ (2 < way ∧ way < 7)) →
      t_dp_19 K D [some (.ref c), some (.ref st), some (.ref l), some (.int cell), some (.int rest), some (.int way), some (.str x), some (.ref li), j8, j9, j10, j11, j12] H := by
    intro h0 hno
    have hge : 2 < way → way < 7 → 2 ≤ vs.length := fun a b => by
      rcases Nat.lt_or_ge vs.length 2 with z | z
      · exact absurd ⟨a, b⟩ (hno (by rw [hlen]; omega))
      · exact z
    refine ⟨_, rfl, _, _, rfl, rfl, _, rfl, ?_⟩
    refine ite2 (fun h3 => rd_dp_name P hn hx hD) (fun h3 => ?_)
    have h3 : ¬ way < 3 := fun z => h3 (decide_eq_true z)
    have low : t_dp_17 K D [some (.ref c), some (.ref st), some (.ref l), some (.int cell), some (.int rest), some (.int way), some (.str x), some (.ref li), j8, j9, j10, j11, j12] H := by
      refine ⟨_, rfl, _, _, rfl, rfl, _, rfl, ?_⟩
      refine ite2 (fun h6 => ?_) (fun h6 => ?_)
      · have h6 : way < 6 := of_decide_eq_true h6
        obtain ⟨us, a, b, ta, t1, t2, rfl, rfl, d0, d1, d2, zs, ez⟩ := two (hge (by omega) (by omega))
        rw [ez] at hli
        exact rd_dp_sum P hn d0 d1 d2 hli hD
      · have h6 : ¬ way < 6 := fun z => h6 (decide_eq_true z)
        refine ⟨_, rfl, rfl, _, rfl, ?_⟩
        refine ite2 (fun h7 => ?_) (fun h7 => ?_)
        · have h7 : way = 6 := V.int.inj (of_decide_eq_true h7)
          obtain ⟨us, a, b, ta, t1, t2, rfl, rfl, d0, d1, d2, zs, ez⟩ := two (hge (by omega) (by omega))
          rw [ez] at hli
          exact rd_dp_let P hn d0 d1 d2 hli hx hD
        · refine ⟨_, rfl, szl, fun e he => ?_⟩
          have s1 := same_new (o := .lst []) he
          have g1 : (upd H e (.lst [])) e = some (.lst []) := upd_same
          generalize upd H e (.lst []) = G at s1 g1 ⊢
          refine ⟨st, e, xs, rfl, rfl, SqL.of (s1 _ _ hst), SqL.of g1, _, rfl, ?_⟩
          have hSG : StampsAt S G xs := fun v hv => by
            obtain ⟨q, nm, m, e1, e2, e3⟩ := hS v hv
            exact ⟨q, nm, m, e1, s1 _ _ e2, e3⟩
          refine ite2 (fun hk => ?_) (fun hk => ?_)
          · exact rd_dp_stamp (P.mono s1) hn (s1 _ _ hst) (by intro z; subst z; cases hk) hSG hD hD0
          · exact hD0 _ _ ⟨l, vs, ts, _, _, _, _, _, _, _, _, _, _, rfl, P.mono s1⟩
    refine ⟨_, rfl, rfl, _, rfl, ?_⟩
    refine ite2 (fun h5 => ?_) (fun h5 => iteF low)
    refine ⟨_, rfl, li, _, rfl, .inl (SqL.of hli), rfl, _, rfl, ?_⟩
    refine ite2 (fun hl3 => ?_) (fun hl3 => low)
    have hl3 : (((vs.drop (vs.length - 3)).length : Nat) : Int) = 3 := V.int.inj (of_decide_eq_true hl3)
    obtain ⟨us, a, b, d, rfl⟩ := three_ends (l := vs) (by omega)
    obtain ⟨ta, tb, rfl, d0, d1⟩ := P.den.split
    cases d1 with
    | cons e1 r =>
    cases r with
    | cons e2 r =>
    cases r with
    | cons e3 r =>
    cases r
    rw [show (us ++ [a, b, d]).length - 3 = us.length by simp, List.drop_left'] at hli
    exact rd_dp_choose P hn d0 e1 e2 e3 hli hD
    rfl
  refine ⟨_, rfl, rfl, _, rfl, ?_⟩
  refine ite2 (fun h0 => iteT (rd_dp_number P hn hD)) (fun h0 => ?_)
  have h0 : way ≠ 0 := fun z => h0 (by rw [z]; exact decide_eq_true rfl)
  refine ⟨_, rfl, li, _, rfl, .inl (SqL.of hli), rfl, _, rfl, ?_⟩
  refine ite2 (fun hl1 => ?_) (fun hl1 => ?_)
  · refine ⟨_, rfl, _, _, rfl, rfl, _, rfl, ?_⟩
    refine ite2 (fun h2 => ⟨_, _, rfl, rfl, _, rfl, ?_⟩) (fun h2 => ⟨_, rfl, ?_⟩)
    · refine ite2 (fun _ => rd_dp_number P hn hD) (fun h7 => ?_)
      exact other h0 fun _ z => h7 (decide_eq_true z.2)
    · exact iteF (other h0 fun _ z => h2 (decide_eq_true z.1))
  · refine iteF (other h0 fun z => ?_)
    exact absurd (decide_eq_true (congrArg V.int (by rw [z]; rfl))) hl1
/-- one turn -/
theorem rd_dp_turn {xs : List V} {j4 j5 j6 j7 : Option V} (P : Pile S H₀ H n l vs ts) (hn : n ≤ 1000) (hst : H st = some (.lst xs)) (hS : StampsAt S H xs) (hD : ∀ σ H, DpN S H₀ c st (n + 1) σ H → D.nx σ H) :
    t_dp_21 K D [some (.ref c), some (.ref st), some (.ref l), some (.int cell), j4, j5, j6, j7, j8, j9, j10, j11, j12] H := by
  refine ⟨_, rfl, _, _, rfl, rfl, ⟨by decide, by decide⟩, _, rfl, _, _, rfl, rfl, (show (0 : Int) < 9 by decide), szl, fun q hq => ?_⟩
  have hw : 0 ≤ cell % 9 ∧ cell % 9 < 9 := by omega
  have s1 := same_new (o := .lst [.str "sab", .str "tab", .str "sob", .str "sat"]) hq
  have g1 : (upd H q (.lst [.str "sab", .str "tab", .str "sob", .str "sat"])) q = some (.lst [.str "sab", .str "tab", .str "sob", .str "sat"]) := upd_same
  generalize upd H q (.lst [.str "sab", .str "tab", .str "sob", .str "sat"]) = G at s1 g1 ⊢
  have h4 : 0 ≤ (cell / 9) % 4 ∧ (cell / 9) % 4 < 4 := by omega
  obtain ⟨v, hv, e⟩ := atI_mem (xs := [V.str "sab", V.str "tab", V.str "sob", V.str "sat"]) h4.1 h4.2
  obtain ⟨x, rfl, hx⟩ := wd_menu hv
  refine ⟨_, rfl, _, _, rfl, rfl, (show (0 : Int) < 4 by decide), q, _, _, _, rfl, rfl, SqL.of g1, e, ?_⟩
  have PG := P.mono s1
  have hSG : ∀ {G'}, Same G G' → StampsAt S G' xs := fun {G'} s v hv => by
    obtain ⟨q, nm, m, e1, e2, e3⟩ := hS v hv
    exact ⟨q, nm, m, e1, s _ _ (s1 _ _ e2), e3⟩
  have go : ∀ y, Wd y → (tSeq (tAsg (tSl (rSlL K) (tVar 2) (tPart (tUn rNegI (tC (.int 3)))) tNoPart) (gName 7)) (t_dp_20 K)) D [some (.ref c), some (.ref st), some (.ref l), some (.int cell), some (.int (cell / 9)), some (.int (cell % 9)), some (.str y), j7, j8, j9, j10, j11, j12] G := by
    intro y hy
    refine ⟨_, rfl, _, rfl, _, rfl, l, vs, rfl, SqL.of PG.at_, fun li hli => ?_⟩
    rw [show (-3 : Int) = -((3 : Nat) : Int) from rfl, cut_back _ 3 (by decide)]
    have s2 := same_new (o := .lst (vs.drop (vs.length - 3))) hli
    exact rd_dp_if (PG.mono s2) hn upd_same hw hy (s2 _ _ (s1 _ _ hst)) (hSG s2) hD
  refine ⟨_, rfl, _, _, rfl, rfl, (show (0 : Int) < 29 by decide), rfl, _, rfl, ?_⟩
  refine ite2 (fun _ => ?_) (fun _ => go x hx)
  refine ⟨_, rfl, _, _, rfl, rfl, ⟨by decide, by decide⟩, _, rfl, fun y hy => ?_⟩
  refine ⟨_, _, rfl, rfl, ?_, go _ (wd_k hy.1 hy.2)⟩
  have : (("k" : Str)).length = 1 := by decide +kernel
  have := hy.2
  rw [sizeLine_eq]; omega
/-- the sums at the end -/
structure Tail (S : Str → Nat → Prop) (H₀ H : Hp) (n : Nat) (l : Addr) (vs : List V) (ts : List T) : Prop where
  same : Same H₀ H
  new : H₀ l = none
  at_ : H l = some (.lst vs)
  den : DenL H ts vs
  sz : sizes ts + ts.length ≤ 2 * n
  nm : namesAll ts ≤ n
  one : ts ≠ []
  wt : ∀ t ∈ ts, WT S t
theorem namesAll_le : ∀ ts : List T, namesAll ts ≤ sizes ts
  | [] => Nat.le_refl _
  | t :: ts => by
    have h := namesAll_le ts
    have h2 := t.names_len
    simp only [namesAll, sizes, List.map_cons, List.sum_cons] at *
    omega
theorem rd_dp (h : spDrawn K S vs H Q E) : t_dp K (fin Q) (start ["_law_cells", "_law_stamps", "_law_pile", "_law_cell", "_law_rest", "_law_way", "_law_word", "_law_inner", "_law_look", "_law_name", "_law_many", "_law_made", "_law_last"] vs) H := by
  obtain ⟨c, st, ns, xs, rfl, hc, hns, hst, hxl, hS, k⟩ := h
  refine ⟨szl, fun p hp => ⟨szl, fun l hl => ?_⟩⟩
  have s1 := same_new (o := .tup [.str "name", .str "sab"]) hp
  have s2 := same_new (o := .lst [.ref p]) hl
  have P0 : Pile S H (upd (upd H p (.tup [.str "name", .str "sab"])) l (.lst [.ref p])) 1 l [.ref p] [.name "sab"] :=
    ⟨s1.trans s2, s1.free hl, upd_same, .cons ⟨p, rfl, s2 _ _ upd_same⟩ .nil, by simp [sizes, T.size], by simp, fun t ht => by rw [List.mem_singleton] at ht; subst ht; exact wd_sab⟩
  refine ⟨_, rfl, c, rfl, ⟨_, (s1.trans s2).seq hc⟩, for_list (K := K) (a := c) (xs := ns.map V.int) (fun i σ H2 => DpN S H c st (i + 1) σ H2) ⟨l, _, _, _, _, _, _, _, _, _, _, _, _, rfl, P0⟩ (fun i σ H2 _ hN => ?_) ?_ ?_⟩
  · obtain ⟨l, vs, ts, j3, j4, j5, j6, j7, j8, j9, j10, j11, j12, e, P⟩ := hN
    exact P.same.seq hc
  · rintro i y σ H2 hi ⟨l, vs, ts, j3, j4, j5, j6, j7, j8, j9, j10, j11, j12, rfl, P⟩
    have hil : i < (ns.map V.int).length := (List.getElem?_eq_some_iff.mp hi).1
    rw [List.length_map] at hil
    obtain ⟨z, rfl⟩ : ∃ z, y = V.int z := by
      rw [List.getElem?_map] at hi
      cases e : ns[i]? with
      | none => rw [e] at hi; cases hi
      | some z => rw [e] at hi; exact ⟨z, (Option.some.inj hi).symm⟩
    refine rd_dp_turn P (by omega) (P.same _ _ hst) (fun v hv => ?_) (fun σ H h => h)
    obtain ⟨q, nm, m, e1, e2, e3⟩ := hS v hv
    exact ⟨q, nm, m, e1, P.same _ _ e2, e3⟩
  · rintro σ H2 ⟨l, vs, ts, j3, j4, j5, j6, j7, j8, j9, j10, j11, j12, rfl, P⟩
    rw [List.length_map] at P
    refine ⟨fun m σ H' => ∃ l vs ts j3 j4 j5 j6 j7 j8 j9 j10 j11 j12, σ = [some (.ref c), some (.ref st), some (.ref l), j3, j4, j5, j6, j7, j8, j9, j10, j11, j12] ∧ Tail S H H' (ns.length + 1) l vs ts ∧ m = ts.length, ⟨_, l, vs, ts, _, _, _, _, _, _, _, _, _, _, rfl, ?_, rfl⟩, ?_⟩
    · refine ⟨P.same, P.new, P.at_, P.den, ?_, ?_, P.one, P.wt⟩
      · have := length_le_sizes ts; have := P.sz; omega
      · have := namesAll_le ts; have := P.sz; omega
    · clear P j3 j4 j5 j6 j7 j8 j9 j10 j11 j12
      rintro m σ H3 ⟨l, vs, ts, j3, j4, j5, j6, j7, j8, j9, j10, j11, j12, rfl, A, rfl⟩
      refine ⟨_, rfl, l, vs, rfl, .inl (SqL.of A.at_), _, _, rfl, rfl, _, rfl, ?_⟩
      refine ite2 (fun h1 => ?_) (fun h1 => ?_)
      · have h1 : (1 : Int) < (vs.length : Int) := of_decide_eq_true h1
        obtain ⟨us, a, b, rfl⟩ := two_ends (l := vs) (by omega)
        obtain ⟨ta, tb, rfl, d0, d1⟩ := A.den.split
        cases d1 with
        | @cons t1 _ _ _ e1 r =>
        cases r with
        | @cons t2 _ _ _ e2 r =>
        cases r
        refine ⟨fun σ' H' => ∃ m', m' < (ta ++ [t1, t2]).length ∧ ∃ l vs ts j3 j4 j5 j6 j7 j8 j9 j10 j11 j12, σ' = [some (.ref c), some (.ref st), some (.ref l), j3, j4, j5, j6, j7, j8, j9, j10, j11, j12] ∧ Tail S H H' (ns.length + 1) l vs ts ∧ m' = ts.length, fun _ _ h => h, ?_⟩
        have ha := A.at_
        rw [show us ++ [a, b] = (us ++ [a]) ++ [b] by simp] at ha
        refine ⟨_, rfl, .inl ⟨rfl, _, SqL.of ha⟩, l, _, _, rfl, rfl, ha, pop_at, ?_⟩
        rw [drop_at]
        have tl1 := tl_lst (o := .lst (us ++ [a])) ha
        have sO := same_old (o := .lst (us ++ [a])) A.same A.new
        have g1 : (upd H3 l (.lst (us ++ [a]))) l = some (.lst (us ++ [a])) := upd_same
        generalize upd H3 l (.lst (us ++ [a])) = G1 at tl1 sO g1 ⊢
        refine ⟨_, rfl, .inl ⟨rfl, _, SqL.of g1⟩, _, rfl, .inl ⟨rfl, _, SqL.of g1⟩, l, _, _, rfl, rfl, g1, pop_at, ?_⟩
        rw [drop_at]
        have tl2 := tl_lst (o := .lst us) g1
        have sO2 := same_old (o := .lst us) sO A.new
        have g2 : (upd G1 l (.lst us)) l = some (.lst us) := upd_same
        generalize upd G1 l (.lst us) = G2 at tl2 sO2 g2 ⊢
        refine ⟨_, rfl, szl, fun p hp => ?_⟩
        have s3 := same_new (o := .tup [.str "sum", a, b]) hp
        have g3 : (upd G2 p (.tup [.str "sum", a, b])) p = some (.tup [.str "sum", a, b]) := upd_same
        generalize upd G2 p (.tup [.str "sum", a, b]) = G3 at s3 g3 ⊢
        have hlen := d0.length
        have hsz := A.sz
        rw [sizes_append, List.length_append] at hsz
        have hq := length_le_sizes ta
        have tl4 := tl_lst (o := .lst (us ++ [.ref p])) (s3 _ _ g2)
        have tlA := tl1.trans (tl2.trans ((tl_same s3).trans tl4))
        refine ⟨l, us, .ref p, rfl, rfl, s3 _ _ g2, by rw [sizeLine_eq]; omega, (ta ++ [T.sum t1 t2]).length, by simp, l, us ++ [.ref p], ta ++ [T.sum t1 t2], _, _, _, _, _, _, _, _, _, _, rfl, ⟨same_old (sO2.trans s3) A.new, A.new, upd_same, (d0.mono tlA).append (.cons (show Den _ (T.sum t1 t2) (.ref p) from ⟨p, a, b, rfl, tl4 _ _ g3, e1.mono tlA, e2.mono tlA⟩) .nil), ?_, ?_, by simp, fun t ht => ?_⟩, rfl⟩
        · rw [sizes_append, List.length_append]
          simp [sizes, T.size] at hsz ⊢
          omega
        · have := A.nm
          rw [namesAll_append] at this ⊢
          simp [namesAll, T.names] at this ⊢
          omega
        · rcases List.mem_append.mp ht with z | z
          · exact A.wt t (List.mem_append_left _ z)
          · rw [List.mem_singleton] at z
            subst z
            exact ⟨A.wt _ (by simp), A.wt _ (by simp)⟩
      · have h1 : ¬ (1 : Int) < (vs.length : Int) := fun z => h1 (decide_eq_true z)
        have hlen := A.den.length
        obtain ⟨t, rfl⟩ : ∃ t, ts = [t] := by
          cases ts with
          | nil => exact absurd rfl A.one
          | cons t ts =>
            cases ts with
            | nil => exact ⟨t, rfl⟩
            | cons _ _ => simp at hlen; omega
        obtain ⟨v, rfl⟩ : ∃ v, vs = [v] := by
          cases A.den with
          | cons a r => cases r; exact ⟨_, rfl⟩
        have d1 : Den H3 t v := by cases A.den with | cons a r => exact a
        have hsz := A.sz
        have hnm := A.nm
        refine ⟨_, rfl, l, _, _, _, rfl, rfl, SqL.of A.at_, rfl, k t v H3 A.same d1 (A.wt t (by simp)) ?_ ?_⟩
        · simp [sizes] at hsz; omega
        · simp [namesAll] at hnm; omega
end
end SW

set_option Elab.async false
set_option maxRecDepth 100000
set_option maxHeartbeats 4000000
namespace L2
open PySem PySem.Spec PyProof.Rows
section
variable {X : Cx}

end
section
variable {prog : Program} {w : World} {A : Around} {E : Value → Shared → Prop} {s : Shared} {κ : Type} [DecidableEq κ] {knd : KeyKind prog w κ} {d : Addr} {kvs : List (κ × Value)} {ep : Nat}
end
section
variable {X : Cx}
end
end L2

set_option Elab.async false
set_option maxRecDepth 100000
set_option maxHeartbeats 4000000
namespace L2
open PySem PySem.Spec PyProof.Rows
/-! ### an exception on its way -/

section
variable {X : Cx} {pins : List (Addr × Obj)} {σ : St} {H H' : Hp} {s s' : Shared} {ea : Addr} {cls a0 : Value} {B : Heap}
end

section
variable {P : Program} {w : World} {K : PySem.W.Frag} {mg : Str → Option Value} {base : Heap} {N : List Str} {qual : Str} {scope : Scope} {f : Addr} {cd : Value} {A : Around} {outer : List Env} {s : Shared} {H : Hp} {E E' : XK}

end
end L2

set_option Elab.async false
set_option maxRecDepth 100000
set_option maxHeartbeats 4000000
namespace L2
open PySem PySem.Spec PyProof.Rows
/-! ### try -/
section
variable {X : Cx} {pins : List (Addr × Obj)} {σ : St} {H H' : Hp} {s s' : Shared} {ea : Addr} {oe : Obj} {cls a0 : Value} {B : Heap}

end

section
variable {X : Cx} {k : Nat} {f : Addr} {fd : FuncData} {ps : List Str} {sp : Sp} {x : Str} {p pos cpos : Pos} {e : Expr} {es : List Expr} {t : TA}
end

section
variable {X : Cx} {st b₀ : Stmt} {suite : List Stmt} {c : Str} {C : Addr} {np hpos pos : Pos} {tb : (St → XK) → TS} {th : TS}
end
end L2

set_option Elab.async false
set_option maxRecDepth 100000
set_option maxHeartbeats 4000000
namespace PySem.W
open PySem PySem.Spec PySem.Calls PyProof.Rows Builtin Builtin.ObjectAttr Builtin.Getset_descriptor
section
variable {prog : Program} {w : World} {A : Around} {E : Value → Shared → Prop} {K : Frag} {h : Heap} {g : Array GenState} {d : Drawn} {t : Nat} {os : OsState} {a D : Addr} {o : Obj}

end
end PySem.W
namespace L2
open PySem PySem.Spec PyProof.Rows
section
variable {X : Cx} {ea : Addr} {oe : Obj} {D : Addr}

end
section
variable {X : Cx} {pins : List (Addr × Obj)} {σ : St} {H : Hp} {s : Shared}
end
section
variable {X : Cx} {st b₀ : Stmt} {suite : List Stmt} {c n : Str} {C CN : Addr} {j : Nat} {np hpos pos : Pos} {tb : (St → XK) → TS} {th : Addr → TS}
end
end L2

set_option Elab.async false
set_option maxRecDepth 100000
set_option maxHeartbeats 4000000
namespace L2
open PySem PySem.Spec PyProof.Rows
/-! ### for x in reversed(list) -/
/-- the list at a, of n items, from its end -/
def Itrev (K : PySem.W.Frag) (a : Addr) (n : Nat) : It :=
  ⟨fun i H => i < n ∧ ∃ xs x, SqL K H a xs ∧ xs.length = n ∧ xs[n - 1 - i]? = some x, fun i H x H' => H' = H ∧ ∀ xs, SqL K H a xs → xs[n - 1 - i]? = some x, fun i _ => i = n⟩
theorem turn_rev {P : Program} {w : World} {K : PySem.W.Frag} {tg : Expr} (a it : Addr) (n : Nat) : Turn P w K tg (Itrev K a n) [it] it (fun i h => h.IsRevIter it a ((n : Int) - 1 - i)) where
  mem := by simp
  obj := fun i h st b hb => by
    have e : b = it := by simpa using hb
    subst e
    obtain ⟨o, e, c, d⟩ := st
    exact ⟨o, e, fun v z => by rw [d] at z; cases z⟩
  keep := fun i h h' st k => st.at fun o e => k it (by simp) o e
  item := by
    intro X hP hw hK hc i pins s σ H E I hf st hg
    subst hP hw hK
    obtain ⟨hi, xs, x, hq, hl, hx⟩ := hg
    obtain ⟨its, rv, p, hz⟩ := I.list hq
    obtain ⟨u, hu, ru⟩ := rv.get hx
    obtain ⟨f0, f1, f2, f3, f4, f5⟩ := hf it (by simp)
    have e1 : (n : Int) - 1 - i = ((n - 1 - i : Nat) : Int) := by omega
    have st1 : s.heap.IsRevIter it a ((n - 1 - i : Nat) : Int) := by rw [← e1]; exact st
    refine wpAny_pyNext_rev_item st1 p.isList (x := u) (by simpa using hu) fun h' st' sb => ?_
    have I1 : Inv X pins σ H { s with heap := h' } := I.turned (t' := s.toks) (fun b o hb e => (sb.2 b hb).trans e) f0 f1 f3 f4 f5
    obtain ⟨o, e, c, d⟩ := id st'
    have e2 : ((n - 1 - i : Nat) : Int) - 1 = (n : Int) - 1 - (i + 1 : Nat) := by omega
    exact ⟨u, rfl, go_of (s := { s with heap := h' }) e c d (by decide) ⟨x, H, I1, ru, ⟨rfl, fun ys hy => by rw [I.list_inj hy hq]; exact hx⟩, by rw [← e2]; exact st', fun b hb => (hf b hb).1⟩⟩
  done := by
    intro X hP hw hK hc i pins s σ H E I hf st hg
    subst hP hw hK
    obtain rfl : i = n := hg
    obtain ⟨f0, f1, f2, f3, f4, f5⟩ := hf it (by simp)
    have st1 : s.heap.IsRevIter it a (-1) := (show (i : Int) - 1 - i = -1 by omega) ▸ st
    exact wpAny_pyNext_rev_end (I.ok.hd hc) st1 fun h' eb => ⟨rfl, I.turned (t' := s.toks) (fun b o hb e => eb b o hb e) f0 f1 f3 f4 f5⟩
  self := fun _ _ _ _ _ st h => wpAny_pyIter_revIter st h
def iRev (K : PySem.W.Frag) (tl : TE) : TI := fun σ H R => tl σ H fun x H1 => ∃ a xs, [x] = [V.ref a] ∧ SqL K H1 a xs ∧ R (Itrev K a xs.length) H1
theorem bo_reversed : bootBuiltins "reversed" = some (.type "reversed") := by decide +kernel
section
variable {X : Cx} {tg : Expr}
theorem pi_rev {l : Expr} {tl : TE} {np pos : Pos} (hg : Gl X "reversed") (hm : X.mg "reversed" = none) (hl : PE X l tl) (he : starEach [l] X.env = [(false, eval l X.env)] := by rfl) : PI X tg (.Call (.Name "reversed" np) [l] [] pos) (iRev X.K tl) := by
  intro pins s σ H R I h
  refine wpAny_Call_Name_kw (ld_blt I hg hm bo_reversed ?_)
  have he' : starEach (l :: []) X.env = (false, eval l X.env) :: starEach [] X.env := he
  refine PyProof.Rows.callWith_type1 (thn ((pa_cons hl pa_nil he' : PA X [l] (tCons tl tNil)) pos pins s σ H (fun vs H1 => ∃ a xs, vs = [V.ref a] ∧ SqL X.K H1 a xs ∧ R (Itrev X.K a xs.length) H1) I h) fun us s1 ⟨vs, H1, I1, r1, q1⟩ => ?_) he' (by rfl)
  · obtain ⟨a, xs, rfl, hq, q⟩ := q1
    obtain ⟨u, rfl, ru⟩ := vals1 r1
    cases ru
    obtain ⟨its, rv, p, hz⟩ := I1.list hq
    refine call_reversed_list p.isList ?_
    refine wpAny_pyIter_revIter (l := a) (i := (xs.length : Int) - 1) ⟨_, Heap.get?_push_size _ rfl, rfl, by simp [revObj, rv.length]⟩ ?_
    refine ⟨s1.heap.objs.size, [s1.heap.objs.size], _, _, H1, rfl, I1.kept (t' := s1.toks) fun b o e => Heap.get?_push_of_some _ e, turn_rev a _ xs.length, ⟨_, Heap.get?_push_size _ rfl, rfl, by simp [revObj, rv.length]⟩, fun b hb => ?_, q⟩
    have e : b = s1.heap.objs.size := by simpa using hb
    subst e
    exact I1.fpOk (Nat.le_refl _) (I1.hok.fresh (Nat.le_refl _))

/-! ### isinstance(x, (list, tuple)) -/
end
end L2

set_option Elab.async false
set_option linter.all false
set_option maxRecDepth 100000
set_option maxHeartbeats 4000000
namespace SW
open PySem L2
def S0 : Str → Nat → Prop := fun _ _ => False
/-! ### what a piece means -/
/-! ### dicts -/
/-! ### promises -/
end SW

set_option Elab.async false
set_option linter.all false
set_option maxRecDepth 100000
namespace S1
open PySem L2 SW
end S1

set_option Elab.async false
set_option linter.all false
set_option maxRecDepth 100000
set_option maxHeartbeats 4000000
namespace L2
open PySem PySem.Spec PyProof.Rows
end L2
namespace S1
open PySem L2 SW
end S1

set_option Elab.async false
set_option linter.all false
set_option maxRecDepth 100000
set_option maxHeartbeats 4000000
namespace S1
open PySem L2 SW
variable {K : PySem.W.Frag} {N : Addr} {vs : List V} {H : Hp} {Q : VK} {E : XK}
end S1
namespace SW
open PySem L2
end SW

set_option Elab.async false
set_option linter.all false
set_option maxRecDepth 100000
set_option maxHeartbeats 4000000
namespace S1
open PySem L2 SW
variable {K : PySem.W.Frag} {N : Addr} {vs : List V} {H : Hp} {Q : VK} {E : XK}

end S1

set_option Elab.async false
set_option linter.all false
set_option maxRecDepth 100000
set_option maxHeartbeats 4000000
namespace SW
open PySem L2
/-! ### the steps -/
/-! ### the steps in the heap -/
end SW

set_option Elab.async false
set_option linter.all false
set_option maxRecDepth 100000
set_option maxHeartbeats 4000000
namespace S1
open PySem L2 SW
variable {K : PySem.W.Frag} {N : Addr} {vs : List V} {H : Hp} {Q : VK} {E : XK}
end S1

set_option Elab.async false
set_option linter.all false
set_option maxRecDepth 100000
set_option maxHeartbeats 4000000
namespace SW
open PySem L2
variable {K : PySem.W.Frag}
theorem kt_int_str : PySem.W.kitOne K (.type "int") (.type "str") = some false := by kernel_rfl
theorem kt_str_str : PySem.W.kitOne K (.type "str") (.type "str") = some true := by kernel_rfl
end SW
namespace S1
open PySem L2 SW
variable {K : PySem.W.Frag} {N : Addr} {vs : List V} {H : Hp} {Q : VK} {E : XK}
end S1

set_option Elab.async false
set_option linter.all false
set_option maxRecDepth 100000
set_option maxHeartbeats 4000000
namespace SW
open PySem L2
end SW
namespace S1
open PySem L2 SW
variable {K : PySem.W.Frag} {N : Addr} {vs : List V} {H : Hp} {Q : VK} {E : XK}
end S1

set_option Elab.async false
set_option linter.all false
set_option maxRecDepth 100000
set_option maxHeartbeats 4000000
namespace SW
open PySem L2
end SW
namespace S1
open PySem L2 SW
variable {K : PySem.W.Frag} {N : Addr} {vs : List V} {H : Hp} {Q : VK} {E : XK}
end S1

set_option Elab.async false
set_option linter.all false
set_option maxRecDepth 100000
set_option maxHeartbeats 4000000
namespace SW
open PySem L2
/-! ### the law's own reckoning -/
def DkLe (H H' : Hp) : Prop := ∀ (d : Addr) (kvs : List (Key × V)), H d = some (.dK kvs) → H' d = some (.dK kvs)
theorem dk_lst {H : Hp} {l : Addr} {ys : List V} {o : HO} (h : H l = some (.lst ys)) : DkLe H (upd H l o) := fun b xs e => by rw [upd_ne (ne_of e h (by intro z; cases z))]; exact e
theorem dk_same {H H' : Hp} (s : Same H H') : DkLe H H' := fun b _ h => s b _ h
section
variable {H₀ H : Hp} {st nu q : Addr} {fs : List Fr} {us : List V} {ns ns' : List Int} {o : HO} {f : Fr} {v z : V}
end
end SW
namespace S1
open PySem L2 SW
variable {K : PySem.W.Frag} {N : Addr} {vs : List V} {H H₀ : Hp} {Q : VK} {E : XK}
end S1

set_option Elab.async false
set_option linter.all false
set_option maxRecDepth 100000
set_option maxHeartbeats 4000000
namespace S1
open PySem L2 SW
variable {K : PySem.W.Frag} {N : Addr} {vs : List V} {H H₀ : Hp} {Q : VK} {E : XK}
end S1

set_option Elab.async false
set_option linter.all false
set_option maxRecDepth 100000
set_option maxHeartbeats 4000000
namespace SW
open PySem L2
end SW
namespace S1
open PySem L2 SW
variable {K : PySem.W.Frag} {N : Addr} {vs : List V} {H : Hp} {Q : VK} {E : XK}
end S1

set_option Elab.async false
set_option linter.all false
set_option maxRecDepth 100000
set_option maxHeartbeats 4000000
namespace L2
open PySem PySem.Spec PyProof.Rows SW
section
variable {X : Cx} {pins : List (Addr × Obj)} {σ : St} {H : Hp} {s : Shared}
theorem kid_size {t k : T} (h : k ∈ t.kids) : k.size < t.size := by
  have h1 := sizes_kids t
  have h2 : k.size ≤ sizes t.kids := by
    unfold sizes
    generalize t.kids = l at h
    induction l with
    | nil => cases h
    | cons a r ih =>
      rcases List.mem_cons.mp h with rfl | h
      · simp
      · have := ih h; simp only [List.map_cons, List.sum_cons]; omega
  omega
theorem denL_at {H : Hp} : ∀ {ts : List T} {us : List V} {i : Nat} {x : V}, DenL H ts us → us[i]? = some x → ∃ t, ts[i]? = some t ∧ Den H t x
  | _, _, 0, _, .cons a r, h => by cases h; exact ⟨_, rfl, a⟩
  | _, _, i + 1, _, .cons a r, h => denL_at (i := i) r h
end
section
variable {X : Cx}
end
end L2

set_option Elab.async false
set_option linter.all false
set_option maxRecDepth 100000
set_option maxHeartbeats 4000000
namespace L2
open PySem PySem.Spec PyProof.Rows
theorem rangeSize_down (a b : Int) : Builtin.Range.rangeSize a b (-1) = if b < a then a - b else 0 := by
  unfold Builtin.Range.rangeSize
  simp only [show ¬ ((-1 : Int) > 0) by decide, if_false]
  split <;> (try split) <;> simp <;> omega
theorem small_down {a b : Int} (ha : -(2 ^ 62) ≤ a) (ha' : a < 2 ^ 62) (hb : -(2 ^ 62) ≤ b) (hb' : b < 2 ^ 62) : Builtin.Range.small a b (-1) = true := by
  unfold Builtin.Range.small
  rw [rangeSize_down]
  simp only [Builtin.Range.rangeFitsLong, Bool.and_eq_true, Bool.or_eq_true, decide_eq_true_eq, beq_iff_eq, show ¬ ((-1 : Int) > 0) by decide, if_false]
  split
  · refine ⟨⟨⟨⟨by omega, by omega⟩, by omega⟩, by omega⟩, .inr (by omega)⟩
  · refine ⟨⟨⟨⟨by omega, by omega⟩, by omega⟩, by omega⟩, .inl ?_⟩
    first | trivial | rfl
/-- hi, hi - 1, .. (n of them) -/
def Itd (hi : Int) (n : Nat) : It := ⟨fun i _ => i < n, fun i H x H' => H' = H ∧ x = .int (hi - i), fun i _ => n ≤ i⟩
theorem turn_down {P : Program} {w : World} {K : PySem.W.Frag} {tg : Expr} (it : Addr) (hi : Int) (n : Nat) : Turn P w K tg (Itd hi n) [it] it (fun i h => IsRangeIter h it (hi + (i : Nat) * (-1)) ((n : Int) - (i : Nat)) (-1)) where
  mem := by simp
  obj := fun i h st b hb => by
    have e : b = it := by simpa using hb
    subst e
    exact ⟨_, st, fun v z => by
      have z' : Data.fields _ = Data.cell v := z
      cases z'⟩
  keep := fun i h h' st k => k it (by simp) _ st
  item := by
    intro X hP hw hK hc i pins s σ H E I hf st hg
    subst hP hw hK
    obtain ⟨f0, f1, f2, f3, f4, f5⟩ := hf it (by simp)
    have W := Walks.range (prog := X.prog) (w := X.w) (I.ok.hd hc) it hi (-1) n
    refine W.item i s _ _ hg st fun v h' tk hv st' kk => ?_
    obtain ⟨t, rfl⟩ := hv
    have I1 : Inv X pins σ H { s with heap := h', toks := tk } := I.turned (fun b o hb e => kk b o (by simpa using hb) e) f0 f1 f3 f4 f5
    refine ⟨_, rfl, go_of (s := { s with heap := h', toks := tk }) (n := "range_iterator") st' rfl rfl (by decide) ⟨.int (hi - i), H, I1, ⟨t, ?_⟩, ⟨rfl, rfl⟩, st', fun b hb => (hf b hb).1⟩⟩
    rw [show hi + (i : Int) * (-1) = hi - i by omega]
  done := by
    intro X hP hw hK hc i pins s σ H E I hf st hg
    subst hP hw hK
    obtain ⟨f0, f1, f2, f3, f4, f5⟩ := hf it (by simp)
    exact wpAny_pyNext_range_end (I.ok.hd hc) st (by have : n ≤ i := hg; omega) fun h' eb => ⟨rfl, I.turned (t' := s.toks) (fun b o hb e => eb b o hb e) f0 f1 f3 f4 f5⟩
  self := fun _ _ _ _ _ st h => wpAny_pyIter_rangeiter st h
section
variable {X : Cx} {tg : Expr}
theorem range_down {pins : List (Addr × Obj)} {σ : St} {H : Hp} {s : Shared} {R : It → Hp → Prop} {E : Value → Shared → Prop} {hi lo : Int} {t u v : Tok} {tk : Nat} (I : Inv X pins σ H s) (h1 : -(2 ^ 62) ≤ hi) (h2 : hi < 2 ^ 62) (h3 : -(2 ^ 62) ≤ lo) (h4 : lo < 2 ^ 62)
    (q : R (Itd hi (hi - lo).toNat) H) : wpAny (model X.prog X.w) X.A (pyIter (.ref s.heap.objs.size)) (PIE X pins σ tg R) E { s with heap := s.heap.push { cls := .type "range", data := .fields #[.int hi t, .int lo u, .int (-1) v] }, toks := tk } := by
  refine wpAny_pyIter_range (IsRange.new ..) (small_down h1 h2 h3 h4) ?_
  have I1 : Inv X pins σ H { s with heap := s.heap.push { cls := .type "range", data := .fields #[.int hi t, .int lo u, .int (-1) v] }, toks := tk } := I.kept fun b o e => Heap.get?_push_of_some _ e
  refine ⟨(s.heap.push { cls := .type "range", data := .fields #[.int hi t, .int lo u, .int (-1) v] }).objs.size, [(s.heap.push { cls := .type "range", data := .fields #[.int hi t, .int lo u, .int (-1) v] }).objs.size], _, _, H, rfl,
    I1.kept (t' := tk) fun b o e => Heap.get?_push_of_some _ e, turn_down _ hi (hi - lo).toNat, ?_, fun b hb => ?_, q⟩
  · have e1 : hi + ((0 : Nat) : Int) * (-1) = hi := by simp
    have e2 : (((hi - lo).toNat : Nat) : Int) - ((0 : Nat) : Int) = Builtin.Range.rangeSize hi lo (-1) := by rw [rangeSize_down]; split <;> omega
    show IsRangeIter _ _ (hi + ((0 : Nat) : Int) * (-1)) ((((hi - lo).toNat : Nat) : Int) - ((0 : Nat) : Int)) (-1)
    rw [e1, e2]
    exact Heap.get?_push_size _ rfl
  · have e : b = (s.heap.push { cls := .type "range", data := .fields #[.int hi t, .int lo u, .int (-1) v] }).objs.size := by simpa using hb
    subst e
    exact I1.fpOk (Nat.le_refl _) (I1.hok.fresh (Nat.le_refl _))
/-- range(hi, lo, -1) -/
def iRngD (ta : TA) : TI := fun σ H R => ta σ H fun vs H1 => ∃ i j : Int, vs = [.int i, .int j, .int (-1)] ∧ (-(2 ^ 62) ≤ i ∧ i < 2 ^ 62 ∧ -(2 ^ 62) ≤ j ∧ j < 2 ^ 62) ∧ R (Itd i (i - j).toNat) H1
theorem pi_rangeD {a b c : Expr} {ta : TA} {p pos : Pos} (hg : Gl X "range") (hm : X.mg "range" = none) (ha : PA X [a, b, c] ta) (hs : starEach [a, b, c] X.env = [(false, eval a X.env), (false, eval b X.env), (false, eval c X.env)] := by rfl) (hs2 : starEach [b, c] X.env = [(false, eval b X.env), (false, eval c X.env)] := by rfl) :
    PI X tg (.Call (.Name "range" p) [a, b, c] [] pos) (iRngD ta) := by
  intro pins s σ H R I h
  refine Call_ (ld_blt I hg hm boot_range (PyProof.Rows.callWith_type1 (thn (ha pos pins s σ H _ I h) fun us s1 ⟨vs, H1, I1, r1, q1⟩ => ?_) (by rw [hs, hs2]) (by rw [hs2]; rfl)))
  obtain ⟨i, j, e, ⟨q1, q2, q3, q4⟩, q⟩ := q1
  subst e
  cases r1 with
  | cons r rr =>
    cases rr with
    | cons r' rr =>
      cases rr with
      | cons r'' rr =>
        cases rr
        obtain ⟨t, rfl⟩ := r
        obtain ⟨t', rfl⟩ := r'
        obtain ⟨t'', rfl⟩ := r''
        exact call_range_3 (by decide) (range_down I1 q1 q2 q3 q4 q) (.inl (PyProof.noPylong_small (by decide)))
end
end L2

set_option Elab.async false
set_option linter.all false
set_option maxRecDepth 100000
set_option maxHeartbeats 4000000
namespace SW
open PySem L2
end SW
namespace S10
open PySem L2 SW
-- _law_is_piece ['_law_found', '_law_todo', '_law_part', '_law_sizes'] ['str', 'isinstance', 'len', 'tuple']
-- _law_line_of ['_law_piece', '_law_line', '_law_todo', '_law_part', '_law_k', '_law_signs'] ['str', 'isinstance', 'range', 'len']
variable {K : PySem.W.Frag} {vs : List V} {H : Hp} {Q : VK} {E : XK}
end S10

set_option Elab.async false
set_option linter.all false
set_option maxRecDepth 100000
set_option maxHeartbeats 4000000
namespace SW
open PySem L2
/-! ### the line of a piece -/
end SW

set_option Elab.async false
set_option linter.all false
set_option maxRecDepth 100000
set_option maxHeartbeats 4000000
namespace SW
open PySem L2
end SW
namespace S10
open PySem L2 SW
variable {K : PySem.W.Frag} {vs : List V} {H H₀ : Hp} {Q : VK} {E : XK}
end S10

set_option Elab.async false
set_option linter.all false
set_option maxRecDepth 100000
set_option maxHeartbeats 4000000
namespace SW
open PySem L2
end SW
namespace S9
open PySem L2 SW
-- _law_drawn_book ['_law_cells', '_law_wild', '_law_low', '_law_book'] []
-- _law_is_done ['_law_found', '_law_one', '_law_k'] ['str', 'isinstance', 'len', 'tuple', 'list']
-- _law_book_copied ['_law_book'] ['list']
variable {K : PySem.W.Frag} {vs : List V} {H : Hp} {Q : VK} {E : XK}
end S9

set_option Elab.async false
set_option linter.all false
set_option maxRecDepth 100000
set_option maxHeartbeats 4000000
namespace SW
open PySem L2
end SW
namespace S9
open PySem L2 SW
variable {K : PySem.W.Frag} {vs : List V} {H : Hp} {Q : VK} {E : XK}
end S9

set_option Elab.async false
set_option linter.all false
set_option maxRecDepth 100000
set_option maxHeartbeats 4000000
namespace PySem.W
open PySem PySem.Spec PySem.Calls PyProof.Rows
theorem rv_nolen : typeLookup (.type "list_reverseiterator") "__len__" = pure none := by rw [typeLookup_type, builtinLookup_eq_fast]; kernel_rfl
theorem rv_haslh : typeLookup (.type "list_reverseiterator") "__length_hint__" = pure (some (.builtin "list_reverseiterator.__length_hint__")) := by rw [typeLookup_type, builtinLookup_eq_fast]; kernel_rfl
section
variable {prog : Program} {w : World} {A : Around} {E : Value → Shared → Prop} {s : Shared} {r l : Addr} {items : Array Value}
theorem rv_hint {Q : Bool → Shared → Prop} (hT : s.TypeIs (.ref r) "list_reverseiterator") (h : Q false s) : wpAny (model prog w) A (Builtin.List.listLengthHint (.ref r)) Q E s := by
  unfold Builtin.List.listLengthHint
  refine wpAny_bind (wpAny_specialOf hT rv_nolen ?_)
  refine wpAny_bind (wpAny_specialOf hT rv_haslh ?_)
  generalize hid : ("list_reverseiterator.__length_hint__" : String) = id0
  wp_delta
  rw [show splitId id0 = some ("list_reverseiterator", "__length_hint__") from by subst hid; decide +kernel]
  subst hid
  refine wpAny_bind (wpAny_isInstance (T := "list_reverseiterator") (b := true) hT (by rw [isSubtype_type]; kernel_rfl) ?_)
  refine wpAny_ite_split (fun hab => absurd hab (by decide)) (fun _ => ?_)
  refine wpAny_ite_split (fun _ => ?_) (fun hab => absurd (by decide +kernel) hab)
  refine wpAny_ite_split (fun hab => absurd hab (by decide +kernel)) (fun _ => ?_)
  exact wpAny_pure h
theorem rv_extend {R : Result → Shared → Prop} (hh : A.handled = none) (hit : s.heap.IsRevIter r l ((items.size : Int) - 1)) (hl : s.heap.IsList l items) (S : Addr) (hSr : S ≠ r) (hSl : S ≠ l) (hlr : l ≠ r) (res : Value) (c₀ : Nat) (hS : s.heap.get? S = some { cls := .type "list", data := .seq #[] c₀ })
    (hR : ∀ h' tk acc' c', (∀ b o, b ≠ S → b ≠ r → s.heap.get? b = some o → h'.get? b = some o) → h'.get? S = some { cls := .type "list", dict := none, data := .seq acc' c', slots := #[] } → ItemsOf (fun i v => items[items.size - 1 - i]? = some v) acc' items.size → R (.ok (.ret res)) { s with heap := h', toks := tk }) (hn : items.size ≤ sizeLine) :
    wpAny (model prog w) A.in1 (Builtin.List.listExtendWith (.ref S) (.ref r) res)
      (fun fin s' => match fin with | .done f => R (.ok f) s' | .again c' => c'.quiet = true ∧ codeAny (model prog w) A c' R s') (fun e s' => R (.error e) s') s := by
  have hSf : S ∉ [r, l] := by simp only [List.mem_cons, List.not_mem_nil, or_false, not_or]; exact ⟨hSr, hSl⟩
  have W := Walks.listRev (prog := prog) (w := w) (A := A.in1) hh r l hlr items
  have hT : s.TypeIs (.ref r) "list_reverseiterator" := hit.typeIs
  have st0 : 0 ≤ items.size ∧ s.heap.IsRevIter r l ((items.size : Int) - 1 - ((0 : Nat) : Int)) ∧ s.heap.IsList l items := ⟨Nat.zero_le _, by simpa using hit, hl⟩
  unfold Builtin.List.listExtendWith
  refine wpAny_bind (wpAny_typeOf (T := "list_reverseiterator") hT ?_)
  have h1 : Builtin.List.listSameRef (.ref S) (.ref r) = false := by simp [Builtin.List.listSameRef, hSr]
  simp only [h1, show (Value.type "list_reverseiterator" == Value.type "list") = false from by decide +kernel, show (Value.type "list_reverseiterator" == Value.type "tuple") = false from by decide +kernel, Bool.or_false, Bool.false_eq_true, if_false]
  refine wpAny_bind (wpAny_pyIter_revIter hit ?_)
  refine wpAny_bind (wpAny_holding (rv_hint hT ?_))
  refine wpAny_ite_split (fun hab => absurd hab (by decide)) (fun _ => wpAny_pure ⟨plainId_quiet PySem.F.plain_extend_loop _, ?_⟩)
  refine codeAny_extend_loopS W.toS hn S hSf res items.size 0 _ #[] c₀ rfl (Nat.zero_le _) st0 hS (ItemsOf.nil _) fun s' acc' c' hm hS' hacc => ?_
  rw [Moved.eq_with hm]
  refine hR s'.heap s'.toks acc' c' (fun b o hb hbr e => hm.heap b o (fun hmem => ?_) e) hS' hacc
  rcases List.mem_cons.mp hmem with e' | hmem
  · exact hb e'
  · exact hbr (List.mem_singleton.mp hmem)
theorem rv_init {R : Result → Shared → Prop} (hh : A.handled = none) (hit : s.heap.IsRevIter r l ((items.size : Int) - 1)) (hl : s.heap.IsList l items) (S : Addr) (hSr : S ≠ r) (hSl : S ≠ l) (hlr : l ≠ r) (hS : s.heap.get? S = some { cls := .type "list", data := .seq #[] })
    (hR : ∀ h' tk acc' c', (∀ b o, b ≠ S → b ≠ r → s.heap.get? b = some o → h'.get? b = some o) → h'.get? S = some { cls := .type "list", dict := none, data := .seq acc' c', slots := #[] } → ItemsOf (fun i v => items[items.size - 1 - i]? = some v) acc' items.size → R (.ok (.ret .none)) { s with heap := h', toks := tk }) (hn : items.size ≤ sizeLine) :
    wpAny (model prog w) A.in1 (Builtin.«list.__init__» ⟨[.ref S, .ref r], []⟩)
      (fun fin s' => match fin with | .done f => R (.ok f) s' | .again c' => c'.quiet = true ∧ codeAny (model prog w) A c' R s') (fun e s' => R (.error e) s') s := by
  show wpAny _ _ (do let old ← Builtin.List.listItems (.ref S); Builtin.List.listUpdate (.ref S) (fun _ => #[]); letGo old.toList.reverse; Builtin.List.listExtendWith (.ref S) (.ref r) .none) _ _ s
  refine wpAny_bind ?_
  unfold Builtin.List.listItems
  refine wpAny_bind (wpAny_seqItems hS rfl (wpAny_pure ?_))
  show wpAny _ _ (updateSeq S (fun _ => #[]) >>= fun _ => letGo (#[] : Array Value).toList.reverse >>= fun _ => Builtin.List.listExtendWith (.ref S) (.ref r) .none) _ _ s
  refine wpAny_bind (wpAny_updateSeq hS rfl ?_)
  have hS₂ := Heap.get?_update_self (Obj.mapSeq (fun _ => (#[] : Array Value))) hS rfl
  have oth : ∀ b o, b ≠ S → s.heap.get? b = some o → (s.heap.update S (Obj.mapSeq (fun _ => (#[] : Array Value)))).get? b = some o :=
    fun b o hb e => (Heap.get?_update_other _ _ (Ne.symm hb)).trans e
  refine wpAny_bind (wpAny_letGo ?_)
  refine rv_extend hh (hit.at fun o e => oth r o hSr.symm e) (hl.at fun o e => oth l o hSl.symm e) S hSr hSl hlr .none _ hS₂ (fun h' tk acc' c' hk hS' hacc => ?_) hn
  exact hR h' tk acc' c' (fun b o hb hbr e => hk b o hb hbr (oth b o hb e)) hS' hacc
theorem rv_call {Q : Value → Shared → Prop} (hh : A.handled = none) (hit : s.heap.IsRevIter r l ((items.size : Int) - 1)) (hl : s.heap.IsList l items) (hlr : l ≠ r) (hn : items.size ≤ sizeLine)
    (hQ : ∀ h' tk acc' c', (∀ b o, b ≠ r → s.heap.get? b = some o → h'.get? b = some o) → h'.get? s.heap.objs.size = some { cls := .type "list", dict := none, data := .seq acc' c', slots := #[] } → ItemsOf (fun i v => items[items.size - 1 - i]? = some v) acc' items.size → Q (.ref s.heap.objs.size) { s with heap := h', toks := tk }) :
    wpAny (model prog w) A (call (.type "list") [.ref r]) Q E s := by
  refine callType_codes (Q₁ := fun obj s₁ => obj = .ref s.heap.objs.size ∧ s₁ = { s with heap := s.heap.push { cls := .type "list", data := .seq #[] } }) PySem.F.called_list (PySem.F.typeCall_list_1 _) PySem.F.entry_list_init
    (code_list_new _ ⟨rfl, rfl⟩) fun obj s₁ h₁ => ?_
  obtain ⟨rfl, rfl⟩ := h₁
  have hS : (s.heap.push { cls := .type "list", data := .seq #[] }).get? s.heap.objs.size = some { cls := .type "list", data := .seq #[] } := Heap.get?_push_size _ rfl
  have lr : r < s.heap.objs.size := by obtain ⟨o, e, _⟩ := hit; exact Heap.lt_size e
  have ll : l < s.heap.objs.size := by obtain ⟨o, e, _⟩ := hl; exact Heap.lt_size e
  refine ⟨⟨_, hS, rfl⟩, PySem.F.args_list_init_2 _ _, rv_init (A := A.in1) hh (hit.at fun o e => Heap.get?_push_of_some _ e) (hl.at fun o e => Heap.get?_push_of_some _ e) _ (Nat.ne_of_gt lr) (Nat.ne_of_gt ll) hlr hS (fun h' tk acc' c' hk hS' hacc => ?_) hn⟩
  exact ⟨rfl, hQ h' tk acc' c' (fun b o hbr e => hk b o (Nat.ne_of_lt (Heap.lt_size e)) hbr (Heap.get?_push_of_some _ e)) hS' hacc⟩
end
end PySem.W
namespace L2
open PySem PySem.Spec PyProof.Rows
section
variable {X : Cx}
theorem vals_reverse : ∀ {xs : List V} {us : List Value}, Vals xs us → Vals xs.reverse us.reverse
  | _, _, .nil => .nil
  | _, _, .cons r t => by
    rw [List.reverse_cons, List.reverse_cons]
    exact (vals_reverse t).append (.cons r .nil)
/-- list(reversed(xs)) -/
def tRevL (K : PySem.W.Frag) (tl : TE) : TE := fun σ H Q => tl σ H fun x H1 => ∃ a xs, [x] = [V.ref a] ∧ SqL K H1 a xs ∧ ∀ p, H1 p = none → Q (.ref p) (upd H1 p (.lst xs.reverse))
theorem pe_revL {e : Expr} {tl : TE} {p1 p2 q1 q2 : Pos} (hc : X.calm = true) (hgl : Gl X "list") (hml : X.mg "list" = none) (hgr : Gl X "reversed") (hmr : X.mg "reversed" = none) (he : PE X e tl) (h1 : starEach [e] X.env = [(false, eval e X.env)] := by rfl)
    (h2 : starEach [.Call (.Name "reversed" p1) [e] [] p2] X.env = [(false, eval (.Call (.Name "reversed" p1) [e] [] p2) X.env)] := by rfl) :
    PE X (.Call (.Name "list" q1) [.Call (.Name "reversed" p1) [e] [] p2] [] q2) (tRevL X.K tl) := by
  intro pins s σ H Q I h
  refine wpAny_Call_Name_kw (ld_blt I hgl hml bo_list ?_)
  have h2' : starEach (.Call (.Name "reversed" p1) [e] [] p2 :: []) X.env = (false, eval (.Call (.Name "reversed" p1) [e] [] p2) X.env) :: starEach [] X.env := h2
  refine PyProof.Rows.callWith_type1 ?_ h2' (by rfl)
  rw [h2]
  refine Calls.spliced_cons ?_
  refine wpAny_Call_Name_kw (ld_blt I hgr hmr bo_reversed ?_)
  have h1' : starEach (e :: []) X.env = (false, eval e X.env) :: starEach [] X.env := h1
  refine PyProof.Rows.callWith_type1 (thn ((pa_cons he pa_nil h1' : PA X [e] (tCons tl tNil)) p2 pins s σ H (fun vs H1 => ∃ a xs, vs = [V.ref a] ∧ SqL X.K H1 a xs ∧ ∀ p, H1 p = none → Q (.ref p) (upd H1 p (.lst xs.reverse))) I h) fun us s1 ⟨vs, H1, I1, r1, q1⟩ => ?_) h1' (by rfl)
  obtain ⟨a, xs, rfl, hq, q⟩ := q1
  obtain ⟨u, rfl, ru⟩ := vals1 r1
  cases ru
  obtain ⟨its, rv, p, hz⟩ := I1.list hq
  refine call_reversed_list p.isList ?_
  refine Calls.spliced_nil ?_
  have hlt : a < s1.heap.objs.size := by obtain ⟨o, eo, _⟩ := p.isList; exact Heap.lt_size eo
  refine PySem.W.rv_call (l := a) (items := its.toArray) (I1.ok.hd hc) ⟨_, Heap.get?_push_size _ rfl, rfl, rfl⟩ (p.isList.at fun o eo => Heap.get?_push_of_some _ eo) (Nat.ne_of_lt hlt) (by simpa [← rv.length] using hz) fun h' tk acc' c' hk hD hacc => ?_
  have hsz : (s1.heap.push (revObj a ((its.toArray.size : Int) - 1))).objs.size = s1.heap.objs.size + 1 := Heap.size_push _ _
  have hvals : Vals xs.reverse acc'.toList := by
    have e : acc'.toList = its.reverse := by
      apply List.ext_getElem?
      intro i
      have hs : acc'.size = its.length := by simpa using hacc.1
      by_cases hi : i < its.length
      · have h1 : acc'[i]? = some acc'[i] := by simp [hs, hi]
        have h2 := hacc.2 i _ h1
        rw [Array.getElem?_toList, h1, List.getElem?_reverse hi]
        simpa using h2.symm
      · rw [List.getElem?_eq_none (by simp [hs]; omega), List.getElem?_eq_none (by simp; omega)]
    rw [e]
    exact vals_reverse rv
  refine ⟨.ref (s1.heap.push (revObj a ((its.toArray.size : Int) - 1))).objs.size, _, I1.laid (a := (s1.heap.push (revObj a ((its.toArray.size : Int) - 1))).objs.size) (o := .lst xs.reverse) (h' := h') (t' := tk) (fun b o eo => hk b o (Nat.ne_of_lt (Heap.lt_size eo)) (Heap.get?_push_of_some _ eo)) (by rw [hsz]; omega) ⟨by simpa using hz, acc'.toList, c', hvals, by simpa using hD⟩, rfl, q _ (I1.hok.fresh (by rw [hsz]; omega))⟩
end
end L2

set_option Elab.async false
set_option linter.all false
set_option maxRecDepth 100000
set_option maxHeartbeats 4000000
namespace L2
open PySem PySem.Spec PyProof.Rows
section
variable {X : Cx}
/-- t + u, either may be empty -/
def rCatA (K : PySem.W.Frag) : R2 := fun x y H Q => ∃ a b xs ys, x = .ref a ∧ y = .ref b ∧ SqT K H a xs ∧ SqT K H b ys ∧ xs.length + ys.length ≤ sizeLine ∧
  (xs = [] → Q (.ref b) H) ∧ (xs ≠ [] → ys = [] → Q (.ref a) H) ∧ (xs ≠ [] → ys ≠ [] → ∀ p, H p = none → Q (.ref p) (upd H p (.tup (xs ++ ys))))
theorem op_catA : OpR X (binaryOp .Add) (rCatA X.K) := by
  intro pins s σ H x y v u Q I rx ry h
  obtain ⟨a, b, xs, ys, rfl, rfl, ha, hb, hz, q0, q1, q2⟩ := h
  by_cases hx : xs = []
  · subst hx
    cases rx
    cases ry
    obtain ⟨its, r1, p1, _⟩ := I.tuple ha
    obtain ⟨its2, r2, p2, _⟩ := I.tuple hb
    cases r1
    obtain ⟨⟨cls, dd, data, sl⟩, ho, hc, n, hd⟩ := id p1
    obtain ⟨⟨cls2, dd2, data2, sl2⟩, ho2, hc2, n2, hd2⟩ := id p2
    simp only at hc hd hc2 hd2
    subst hc hd hc2 hd2
    exact concat_meets ⟨_, ho, rfl⟩ ⟨_, ho2, rfl⟩ noFill_tuple_add seq_tuple_add PySem.F.slot_tuple_add PySem.F.entry_tuple_add (PySem.F.args_tuple_add_2 _ _)
      (tuple_addW0 a b #[] its2.toArray n n2 dd dd2 sl sl2 rfl) ⟨ho, ho2, .ref b, H, I, rfl, q0 rfl⟩
  · exact op_catT pins s σ H _ _ v u Q I rx ry ⟨a, b, xs, ys, rfl, rfl, ha, hb, hx, hz, q1 hx, q2 hx⟩
end
end L2

set_option Elab.async false
set_option linter.all false
set_option maxRecDepth 100000
set_option maxHeartbeats 4000000
namespace SW
open PySem L2
/-! ### a piece, noted down: each let has a number of its own -/
abbrev Ow := Str → Option Int
def Ow.put (o : Ow) (w : Str) (x : Int) : Ow := fun y => if y = w then some x else o y
def Ow.none : Ow := fun _ => .none
abbrev En := T × List Int × Ow
/-- the entries straight within one; x: the number of the let -/
def kidsE : En → Int → List En
  | (.sum a b, p, o), _ => [(a, p ++ [0], o), (b, p ++ [1], o)]
  | (.less a b, p, o), _ => [(a, p ++ [0], o), (b, p ++ [1], o)]
  | (.cho a b c, p, o), _ => [(a, p ++ [0], o), (b, p ++ [1], o), (c, p ++ [2], o)]
  | (.lt w a b, p, o), x => [(a, p ++ [0], o), (b, p ++ [1], Ow.put o w x)]
  | (.st1 _ a, p, o), _ => [(a, p ++ [0], o)]
  | (.st2 _ a b, p, o), _ => [(a, p ++ [0], o), (b, p ++ [1], o)]
  | (.num _, _, _), _ => []
  | (.name _, _, _), _ => []
  | (.st0 _, _, _), _ => []
/-- all entries in order, the first at the place i; c: the count ahead -/
def pre (c : Int) : T → List Int → Ow → Nat → List En
  | .num n, p, o, _ => [(.num n, p, o)]
  | .name w, p, o, _ => [(.name w, p, o)]
  | .sum a b, p, o, i => (.sum a b, p, o) :: (pre c a (p ++ [0]) o (i + 1) ++ pre c b (p ++ [1]) o (i + 1 + a.size))
  | .less a b, p, o, i => (.less a b, p, o) :: (pre c a (p ++ [0]) o (i + 1) ++ pre c b (p ++ [1]) o (i + 1 + a.size))
  | .cho a b d, p, o, i => (.cho a b d, p, o) :: (pre c a (p ++ [0]) o (i + 1) ++ (pre c b (p ++ [1]) o (i + 1 + a.size) ++ pre c d (p ++ [2]) o (i + 1 + a.size + b.size)))
  | .lt w a b, p, o, i => (.lt w a b, p, o) :: (pre c a (p ++ [0]) o (i + 1) ++ pre c b (p ++ [1]) (Ow.put o w (c + ((i + 1 : Nat) : Int))) (i + 1 + a.size))
  | .st0 w, p, o, _ => [(.st0 w, p, o)]
  | .st1 w a, p, o, i => (.st1 w a, p, o) :: pre c a (p ++ [0]) o (i + 1)
  | .st2 w a b, p, o, i => (.st2 w a b, p, o) :: (pre c a (p ++ [0]) o (i + 1) ++ pre c b (p ++ [1]) o (i + 1 + a.size))
def flatE (c : Int) : List En → Nat → List En
  | [], _ => []
  | e :: r, i => pre c e.1 e.2.1 e.2.2 i ++ flatE c r (i + e.1.size)
theorem flat_kids (c : Int) (e : En) (r : List En) (i : Nat) : e :: flatE c (kidsE e (c + ((i + 1 : Nat) : Int)) ++ r) (i + 1) = flatE c (e :: r) i := by
  obtain ⟨t, p, o⟩ := e
  cases t with
  | num n => simp only [kidsE, List.nil_append, flatE, pre, List.cons_append, T.size]
  | name n => simp only [kidsE, List.nil_append, flatE, pre, List.cons_append, T.size]
  | st0 n => simp only [kidsE, List.nil_append, flatE, pre, List.cons_append, T.size]
  | sum a b => simp only [kidsE, List.nil_append, flatE, pre, List.cons_append, List.append_assoc, T.size]; rw [show i + 1 + a.size + b.size = i + (a.size + b.size + 1) by omega]
  | less a b => simp only [kidsE, List.nil_append, flatE, pre, List.cons_append, List.append_assoc, T.size]; rw [show i + 1 + a.size + b.size = i + (a.size + b.size + 1) by omega]
  | cho a b d => simp only [kidsE, List.nil_append, flatE, pre, List.cons_append, List.append_assoc, T.size]; rw [show i + 1 + a.size + b.size + d.size = i + (a.size + b.size + d.size + 1) by omega]
  | lt w a b => simp only [kidsE, List.nil_append, flatE, pre, List.cons_append, List.append_assoc, T.size]; rw [show i + 1 + a.size + b.size = i + (a.size + b.size + 1) by omega]
  | st1 w a => simp only [kidsE, List.nil_append, flatE, pre, List.cons_append, List.append_assoc, T.size]; rw [show i + 1 + a.size = i + (a.size + 1) by omega]
  | st2 w a b => simp only [kidsE, List.nil_append, flatE, pre, List.cons_append, List.append_assoc, T.size]; rw [show i + 1 + a.size + b.size = i + (a.size + b.size + 1) by omega]
theorem kidsE_kids (e : En) (x : Int) : (kidsE e x).map (·.1) = e.1.kids := by
  obtain ⟨t, p, o⟩ := e
  cases t <;> rfl
theorem kidsE_len (e : En) (x : Int) : (kidsE e x).length = e.1.kids.length := by rw [← kidsE_kids e x, List.length_map]
/-- the j-th: its path, and what belongs to the let -/
theorem kidsE_at {e k : En} {x : Int} {j : Nat} (h : (kidsE e x)[j]? = some k) : k.2.1 = e.2.1 ++ [(j : Int)] ∧ ((∃ w a b, e.1 = .lt w a b ∧ j = 1 ∧ k.2.2 = Ow.put e.2.2 w x) ∨ ((∀ w a b, e.1 = .lt w a b → j ≠ 1) ∧ k.2.2 = e.2.2)) := by
  obtain ⟨t, p, o⟩ := e
  cases t <;> (try (simp only [kidsE] at h)) <;> (match j, h with
    | 0, h => first
      | (cases h; exact ⟨rfl, .inr ⟨fun _ _ _ _ => by decide, rfl⟩⟩)
      | (cases h)
    | 1, h => first
      | (cases h; exact ⟨rfl, .inl ⟨_, _, _, rfl, rfl, rfl⟩⟩)
      | (cases h; exact ⟨rfl, .inr ⟨fun _ _ _ z => (by cases z), rfl⟩⟩)
      | (cases h)
    | 2, h => first
      | (cases h; exact ⟨rfl, .inr ⟨fun _ _ _ z => (by cases z), rfl⟩⟩)
      | (cases h)
    | j + 3, h => cases h)
def OwK (kvs : List (Key × V)) (o : Ow) : Prop := ∀ w : Str, valV kvs (.inr w : Key) = (o w).map V.int
theorem OwK.put {kvs : List (Key × V)} {g : Ow} (h : OwK kvs g) (w : Str) (x : Int) : OwK (putK kvs (.inr w : Key) (.int x)) (Ow.put g w x) := fun y => by
  rw [valV_put]
  by_cases e : y = w
  · subst e; simp [Ow.put]
  · have : ¬ ((.inr y : Key) = .inr w) := fun z => e (Sum.inr.inj z)
    simp [Ow.put, e, this, h y]
/-- an entry in the heap -/
def EAt (H : Hp) (e : En) (u : V) : Prop := ∃ (q pp od : Addr) (v : V) (kvs : List (Key × V)), u = .ref q ∧ H q = some (.tup [v, .ref pp, .ref od]) ∧ Den H e.1 v ∧ H pp = some (.tup (e.2.1.map V.int)) ∧ H od = some (.dK kvs) ∧ OwK kvs e.2.2 ∧ kvs.length + e.1.size ≤ 1000 ∧ e.2.1.length + e.1.size ≤ 1000
theorem EAt.mono {H H' : Hp} {e : En} {u : V} (m : TupLe H H') (k : DkLe H H') (h : EAt H e u) : EAt H' e u := by
  obtain ⟨q, pp, od, v, kvs, r1, r2, r3, r4, r5, r6⟩ := h
  exact ⟨q, pp, od, v, kvs, r1, m _ _ r2, r3.mono m, m _ _ r4, k _ _ r5, r6⟩
/-- the list as it stands -/
inductive EL (H : Hp) : List En → List V → Prop where
  | nil : EL H [] []
  | cons {e : En} {u : V} {es : List En} {us : List V} : EAt H e u → EL H es us → EL H (e :: es) (u :: us)
/-- the head is the last of the list -/
inductive ER (H : Hp) : List En → List V → Prop where
  | nil : ER H [] []
  | snoc {e : En} {u : V} {es : List En} {us : List V} : ER H es us → EAt H e u → ER H (e :: es) (us ++ [u])
theorem EL.mono {H H' : Hp} (m : TupLe H H') (k : DkLe H H') : ∀ {es : List En} {us : List V}, EL H es us → EL H' es us
  | _, _, .nil => .nil
  | _, _, .cons a r => .cons (a.mono m k) (EL.mono m k r)
theorem ER.mono {H H' : Hp} (m : TupLe H H') (k : DkLe H H') : ∀ {es : List En} {us : List V}, ER H es us → ER H' es us
  | _, _, .nil => .nil
  | _, _, .snoc r a => .snoc (ER.mono m k r) (a.mono m k)
theorem EL.snoc {H : Hp} {e : En} {u : V} : ∀ {es : List En} {us : List V}, EL H es us → EAt H e u → EL H (es ++ [e]) (us ++ [u])
  | _, _, .nil, h => .cons h .nil
  | _, _, .cons a r, h => .cons a (EL.snoc r h)
theorem EL.length {H : Hp} : ∀ {es : List En} {us : List V}, EL H es us → us.length = es.length
  | _, _, .nil => rfl
  | _, _, .cons _ r => by rw [List.length_cons, List.length_cons, EL.length r]
theorem ER.length {H : Hp} : ∀ {es : List En} {us : List V}, ER H es us → us.length = es.length
  | _, _, .nil => rfl
  | _, _, .snoc r _ => by rw [List.length_append, List.length_cons, ER.length r]; rfl
def szE (es : List En) : Nat := (es.map fun e => e.1.size).sum
theorem szE_cons (e : En) (es : List En) : szE (e :: es) = e.1.size + szE es := by simp [szE]
theorem szE_kids (e : En) (x : Int) : szE (kidsE e x) + 1 = e.1.size := by
  have h := sizes_kids e.1
  rw [← kidsE_kids e x] at h
  unfold szE
  unfold sizes at h
  rw [List.map_map] at h
  exact h
theorem szE_append (a b : List En) : szE (a ++ b) = szE a + szE b := by simp [szE]
theorem szE_len : ∀ es : List En, es.length ≤ szE es
  | [] => Nat.le_refl _
  | e :: r => by have := szE_len r; have := e.1.size_pos; rw [szE_cons, List.length_cons]; omega
end SW
namespace S3
open PySem L2 SW
-- _law_noted ['_law_piece', '_law_source', '_law_given', '_law_count', '_law_order', '_law_todo', '_law_part', '_law_path', '_law_own', '_law_inner', '_law_k', '_law_near', '_law_pile', '_law_many', '_law_kids', '_law_extra'] ['range', 'len', 'dict', 'list', 'reversed']
def t_no_1 (K : PySem.W.Frag) : TS := (tSeq (tAsg (tCB cDictD (tCons (tVar 8) tNil)) (gName 11)) (sDPut (tVar 11) (tOp (rIxT K) (tVar 6) (tC (.int 1))) (tOp rAddI (tVar 3) (tCB (cLen K) (tCons (tVar 4) tNil)))))
def t_no_2 (K : PySem.W.Frag) : TS := (tIfS (tAnd (tTest (tOp rEq (tOp (rIxT K) (tVar 6) (tC (.int 0))) (tC (.str "let")))) (tTest (tOp rEq (tVar 10) (tC (.int 1))))) (t_no_1 K) tNext)
def t_no_3 (K : PySem.W.Frag) : TS := (tSeq (tAsg (tVar 8) (gName 11)) (tSeq (t_no_2 K) (tDrop (tBM K "list" rAppend (tVar 5) (tCons (tTup (tCons (tOp (rIxL K) (tVar 9) (tVar 10)) (tCons (tOp (rCatA K) (tVar 7) (tTup (tCons (tVar 10) tNil))) (tCons (tVar 11) tNil)))) tNil)))))
def t_no_4 (K : PySem.W.Frag) : TS := (tSeq (tAsg (tBM0 K "list" rPop (tVar 5)) (gTup K 3 (gCons (gName 6) (gCons (gName 7) (gCons (gName 8) gNil))))) (tSeq (tDrop (tBM K "list" rAppend (tVar 4) (tCons (tTup (tCons (tVar 6) (tCons (tVar 7) (tCons (tVar 8) tNil)))) tNil))) (tSeq (tAsg (tCall spInside [] E0 (tCons (tVar 6) tNil)) (gName 9)) (tFor (iRngD (tCons (tOp rSubI (tCB (cLen K) (tCons (tVar 9) tNil)) (tC (.int 1))) (tCons (tUn rNegI (tC (.int 1))) (tCons (tUn rNegI (tC (.int 1))) tNil)))) (gName 10) (t_no_3 K)))))
def t_no_5 (K : PySem.W.Frag) : TS := (tAsg (tOp (rIxT K) (tVar 6) (tC (.int 1))) (gName 15))
def t_no_6 (K : PySem.W.Frag) : TS := (tIfS (tTest (tOp (rIn K false) (tOp (rIxT K) (tVar 6) (tC (.int 0))) (tLst (tCons (tC (.str "number")) (tCons (tC (.str "name")) (tCons (tC (.str "stamp")) tNil)))))) (t_no_5 K) tNext)
def t_no_7 (K : PySem.W.Frag) : TS := (tAsg (tOp rAddI (tOp rAddI (tVar 3) (tVar 10)) (tC (.int 1))) (gName 15))
def t_no_8 (K : PySem.W.Frag) : TS := (tIfS (tTest (tOp rEq (tOp (rIxT K) (tVar 6) (tC (.int 0))) (tC (.str "let")))) (t_no_7 K) tNext)
def t_no_9 (K : PySem.W.Frag) : TS := (tAsg (tDGet (tVar 8) (tOp (rIxT K) (tVar 6) (tC (.int 1)))) (gName 15))
def t_no_10 (K : PySem.W.Frag) : TS := (tIfS (tAnd (tTest (tOp rEq (tOp (rIxT K) (tVar 6) (tC (.int 0))) (tC (.str "name")))) (tB (tDIn (tOp (rIxT K) (tVar 6) (tC (.int 1))) (tVar 8)))) (t_no_9 K) tNext)
def t_no_11 (K : PySem.W.Frag) : TS := (tDrop (tBM K "list" rAppend (tVar 12) (tCons (tDGet (tVar 2) (tOp (rIxT K) (tVar 6) (tC (.int 1)))) tNil)))
def t_no_12 (K : PySem.W.Frag) : TS := (tDrop (tBM K "list" rAppend (tVar 12) (tCons (tTup (tCons (tOp (rIxT K) (tVar 6) (tC (.int 0))) (tCons (tVar 15) (tCons (tTup (tCons (tVar 1) (tCons (tVar 7) tNil))) (tCons (tVar 14) tNil))))) tNil)))
def t_no_13 (K : PySem.W.Frag) : TS := (tIfS (tAnd (tTest (tOp rEq (tOp (rIxT K) (tVar 6) (tC (.int 0))) (tC (.str "name")))) (tAnd (tB (tDNotIn (tOp (rIxT K) (tVar 6) (tC (.int 1))) (tVar 8))) (tB (tDIn (tOp (rIxT K) (tVar 6) (tC (.int 1))) (tVar 2))))) (t_no_11 K) (t_no_12 K))
def t_no_14 (K : PySem.W.Frag) : TS := (tSeq (tAsg (tOp (rIxL K) (tVar 4) (tVar 10)) (gTup K 3 (gCons (gName 6) (gCons (gName 7) (gCons (gName 8) gNil))))) (tSeq (tAsg (tCB (cLen K) (tCons (tCall spInside [] E0 (tCons (tVar 6) tNil)) tNil)) (gName 13)) (tSeq (tAsg (tRevL K (tSl (rSlL K) (tVar 12) (tPart (tOp rSubI (tCB (cLen K) (tCons (tVar 12) tNil)) (tVar 13))) tNoPart)) (gName 14)) (tSeq (tAsg (tSl (rSlL K) (tVar 12) tNoPart (tPart (tOp rSubI (tCB (cLen K) (tCons (tVar 12) tNil)) (tVar 13)))) (gName 12)) (tSeq (tAsg (tC .non) (gName 15)) (tSeq (t_no_6 K) (tSeq (t_no_8 K) (tSeq (t_no_10 K) (t_no_13 K)))))))))
def t_no (K : PySem.W.Frag) : TS := (tSeq (tAsg (tLst tNil) (gName 4)) (tSeq (tAsg (tLst (tCons (tTup (tCons (tVar 0) (tCons (tTup tNil) (tCons tDNewK tNil)))) tNil)) (gName 5)) (tSeq (tWhile (tTest (tOp (rNeNil K) (tVar 5) (tLst tNil))) (t_no_4 K)) (tSeq (tAsg (tLst tNil) (gName 12)) (tSeq (tFor (iRngD (tCons (tOp rSubI (tCB (cLen K) (tCons (tVar 4) tNil)) (tC (.int 1))) (tCons (tUn rNegI (tC (.int 1))) (tCons (tUn rNegI (tC (.int 1))) tNil)))) (gName 10) (t_no_14 K)) (tRet (tTup (tCons (tOp (rIxL K) (tVar 12) (tC (.int 0))) (tCons (tOp rAddI (tVar 3) (tCB (cLen K) (tCons (tVar 4) tNil))) tNil)))))))))
end S3

set_option Elab.async false
set_option linter.all false
set_option maxRecDepth 100000
set_option maxHeartbeats 4000000
namespace SW
open PySem L2
structure NoB (H₀ H : Hp) (ol tl : Addr) (os st : List En) (ous tus : List V) : Prop where
  same : Same H₀ H
  n1 : H₀ ol = none
  n2 : H₀ tl = none
  ne : ol ≠ tl
  ol_ : H ol = some (.lst ous)
  tl_ : H tl = some (.lst tus)
  el : EL H os ous
  er : ER H st tus
section
variable {H₀ H H' : Hp} {ol tl q : Addr} {os st : List En} {ous tus : List V} {e : En} {u : V}
theorem NoB.grow (B : NoB H₀ H ol tl os st ous tus) (s : Same H H') : NoB H₀ H' ol tl os st ous tus :=
  ⟨B.same.trans s, B.n1, B.n2, B.ne, s _ _ B.ol_, s _ _ B.tl_, B.el.mono (tl_same s) (dk_same s), B.er.mono (tl_same s) (dk_same s)⟩
theorem NoB.push (B : NoB H₀ H ol tl os st ous tus) (he : EAt H e (.ref q)) : NoB H₀ (upd H tl (.lst (tus ++ [.ref q]))) ol tl os (e :: st) ous (tus ++ [.ref q]) :=
  have m := tl_lst (o := .lst (tus ++ [.ref q])) B.tl_
  have k := dk_lst (o := .lst (tus ++ [.ref q])) B.tl_
  ⟨same_old B.same B.n2, B.n1, B.n2, B.ne, by rw [upd_ne B.ne]; exact B.ol_, upd_same, B.el.mono m k, .snoc (B.er.mono m k) (he.mono m k)⟩
theorem NoB.put (B : NoB H₀ H ol tl os st ous tus) (he : EAt H e (.ref q)) : NoB H₀ (upd H ol (.lst (ous ++ [.ref q]))) ol tl (os ++ [e]) st (ous ++ [.ref q]) tus :=
  have m := tl_lst (o := .lst (ous ++ [.ref q])) B.ol_
  have k := dk_lst (o := .lst (ous ++ [.ref q])) B.ol_
  ⟨same_old B.same B.n1, B.n1, B.n2, B.ne, upd_same, by rw [upd_ne B.ne.symm]; exact B.tl_, (B.el.mono m k).snoc (he.mono m k), B.er.mono m k⟩
theorem NoB.pop (B : NoB H₀ H ol tl os (e :: st) ous (tus ++ [u])) (h : ER H st tus) : NoB H₀ (upd H tl (.lst tus)) ol tl os st ous tus :=
  have m := tl_lst (o := .lst tus) B.tl_
  have k := dk_lst (o := .lst tus) B.tl_
  ⟨same_old B.same B.n2, B.n1, B.n2, B.ne, by rw [upd_ne B.ne]; exact B.ol_, upd_same, B.el.mono m k, h.mono m k⟩
end
/-- an entry, opened -/
structure EOp (H : Hp) (e : En) (v : V) (pp od : Addr) (kvs : List (Key × V)) : Prop where
  den : Den H e.1 v
  path : H pp = some (.tup (e.2.1.map V.int))
  own : H od = some (.dK kvs)
  ow : OwK kvs e.2.2
  f1 : kvs.length + e.1.size ≤ 1000
  f2 : e.2.1.length + e.1.size ≤ 1000
theorem EOp.mono {H H' : Hp} {e : En} {v : V} {pp od : Addr} {kvs : List (Key × V)} (m : TupLe H H') (k : DkLe H H') (h : EOp H e v pp od kvs) : EOp H' e v pp od kvs :=
  ⟨h.den.mono m, m _ _ h.path, k _ _ h.own, h.ow, h.f1, h.f2⟩
end SW
namespace S3
open PySem L2 SW
variable {K : PySem.W.Frag} {vs : List V} {H H₀ : Hp} {Q : VK} {E : XK}
/-- one kid is pushed -/
theorem rd_no_app {v0 src giv : Option V} {c : Int} {ol tl pp od il nd : Addr} {pv x : V} {os st : List En} {ous tus us : List V} {e k : En} {j : Nat} {kvs kvs' : List (Key × V)} {D : Ends} {j12 j13 j14 j15 : Option V}
    (B : NoB H₀ H ol tl os st ous tus) (hp : H pp = some (.tup (e.2.1.map V.int))) (hil : H il = some (.lst us)) (hx : us[j]? = some x) (dk : Den H k.1 x) (ek : k.2.1 = e.2.1 ++ [(j : Int)]) (hn : H nd = some (.dK kvs')) (ow : OwK kvs' k.2.2) (f1 : kvs'.length + k.1.size ≤ 1000) (f2 : k.2.1.length + k.1.size ≤ 1000) (few : tus.length ≤ 5000)
    (hD : ∀ (q : Addr) (H' : Hp), Same H H' → ∀ H'', H'' = upd H' tl (.lst (tus ++ [.ref q])) → NoB H₀ H'' ol tl os (k :: st) ous (tus ++ [.ref q]) → D.nx [v0, src, giv, some (.int c), some (.ref ol), some (.ref tl), some pv, some (.ref pp), some (.ref od), some (.ref il), some (.int j), some (.ref nd), j12, j13, j14, j15] H'') :
    (tDrop (tBM K "list" rAppend (tVar 5) (tCons (tTup (tCons (tOp (rIxL K) (tVar 9) (tVar 10)) (tCons (tOp (rCatA K) (tVar 7) (tTup (tCons (tVar 10) tNil))) (tCons (tVar 11) tNil)))) tNil))) D
      [v0, src, giv, some (.int c), some (.ref ol), some (.ref tl), some pv, some (.ref pp), some (.ref od), some (.ref il), some (.int j), some (.ref nd), j12, j13, j14, j15] H := by
  refine ⟨_, rfl, .inl ⟨rfl, _, SqL.of B.tl_⟩, _, rfl, _, rfl, il, _, _, x, rfl, rfl, SqL.of hil, atI_nat hx, _, rfl, _, rfl, szl, fun kt hkt => ?_⟩
  have s1 := same_new (o := .tup [.int j]) hkt
  have g1 : (upd H kt (.tup [.int j])) kt = some (.tup [.int j]) := upd_same
  generalize upd H kt (.tup [.int j]) = H1 at s1 g1 ⊢
  have rest : ∀ (pq : Addr) (H2 : Hp), Same H H2 → H2 pq = some (.tup (k.2.1.map V.int)) → ([x, .ref pq, .ref nd] : List V).length ≤ sizeLine ∧ ∀ p, H2 p = none → rAppend (.ref tl) [.ref p] (upd H2 p (.tup [x, .ref pq, .ref nd])) fun _ H1 => D.nx [v0, src, giv, some (.int c), some (.ref ol), some (.ref tl), some pv, some (.ref pp), some (.ref od), some (.ref il), some (.int j), some (.ref nd), j12, j13, j14, j15] H1 := by
    intro pq H2 s2 hpq
    refine ⟨szl, fun q hq => ?_⟩
    have s3 := same_new (o := .tup [x, .ref pq, .ref nd]) hq
    have g3 : (upd H2 q (.tup [x, .ref pq, .ref nd])) q = some (.tup [x, .ref pq, .ref nd]) := upd_same
    generalize upd H2 q (.tup [x, .ref pq, .ref nd]) = H3 at s3 g3 ⊢
    have s23 := s2.trans s3
    have B3 := B.grow s23
    refine ⟨tl, tus, _, rfl, rfl, B3.tl_, by rw [sizeLine_eq]; omega, hD q H3 s23 _ rfl (B3.push ⟨q, pq, nd, x, kvs', rfl, g3, dk.mono (tl_same s23), s3 _ _ hpq, s23 _ _ hn, ow, f1, f2⟩)⟩
  refine ⟨pp, kt, _, _, rfl, rfl, SqT.of (s1 _ _ hp), SqT.of g1, ?_, fun he => ?_, (fun _ he => by cases he), fun he _ pq hpq => ?_⟩
  · rw [List.length_map]; simp only [List.length_cons, List.length_nil]
    rw [ek, List.length_append] at f2
    rw [sizeLine_eq]; omega
  · refine ⟨_, rfl, rest kt H1 s1 ?_⟩
    have : e.2.1 = [] := by simpa using he
    rw [ek, this]; exact g1
  · have s2 := same_new (o := .tup (e.2.1.map V.int ++ [.int j])) hpq
    refine ⟨_, rfl, rest pq _ (s1.trans s2) ?_⟩
    rw [ek, upd_same]; simp
/-- the kids of one entry are pushed -/
theorem rd_no_kids {v0 src giv : Option V} {c : Int} {ol tl pp od il : Addr} {pv : V} {os st : List En} {ous tus us : List V} {e : En} {kvs : List (Key × V)} {D : Ends} {j10 j11 j12 j13 j14 j15 : Option V}
    (B : NoB H₀ H ol tl os st ous tus) (O : EOp H e pv pp od kvs) (hil : H il = some (.lst us)) (nil : il ≠ tl) (dk : DenL H e.1.kids us) (few : tus.length ≤ 4000)
    (hD : ∀ (tus' : List V) (H' : Hp) (j10 j11 : Option V), NoB H₀ H' ol tl os (kidsE e (c + (os.length : Int)) ++ st) ous tus' → D.nx [v0, src, giv, some (.int c), some (.ref ol), some (.ref tl), some pv, some (.ref pp), some (.ref od), some (.ref il), j10, j11, j12, j13, j14, j15] H') :
    (tFor (iRngD (tCons (tOp rSubI (tCB (cLen K) (tCons (tVar 9) tNil)) (tC (.int 1))) (tCons (tUn rNegI (tC (.int 1))) (tCons (tUn rNegI (tC (.int 1))) tNil)))) (gName 10) (t_no_3 K)) D
      [v0, src, giv, some (.int c), some (.ref ol), some (.ref tl), some pv, some (.ref pp), some (.ref od), some (.ref il), j10, j11, j12, j13, j14, j15] H := by
  have hlen := dk.length
  have hkl := kidsE_len e (c + (os.length : Int))
  have hk3 : e.1.kids.length ≤ 3 := by cases e.1 <;> simp [T.kids]
  refine ⟨_, rfl, il, _, rfl, .inl (SqL.of hil), _, _, rfl, rfl, _, rfl, _, rfl, (us.length : Int) - 1, -1, rfl, ⟨by omega, by omega, by omega, by omega⟩, ?_⟩
  have en : ((us.length : Int) - 1 - -1).toNat = us.length := by omega
  rw [en]
  refine ⟨fun i m σ H' => m = us.length - i ∧ i ≤ us.length ∧ (∃ j10 j11, σ = [v0, src, giv, some (.int c), some (.ref ol), some (.ref tl), some pv, some (.ref pp), some (.ref od), some (.ref il), j10, j11, j12, j13, j14, j15]) ∧ EOp H' e pv pp od kvs ∧ H' il = some (.lst us) ∧ DenL H' e.1.kids us ∧ ∃ tus', tus'.length = tus.length + i ∧ NoB H₀ H' ol tl os ((kidsE e (c + (os.length : Int))).drop (us.length - i) ++ st) ous tus',
    ⟨_, rfl, Nat.zero_le _, ⟨_, _, rfl⟩, O, hil, dk, tus, rfl, by rw [Nat.sub_zero, List.drop_of_length_le (by omega)]; exact B⟩, ?_⟩
  rintro i m σ H' ⟨rfl, hi, ⟨j10, j11, rfl⟩, O', hil', dk', tus', hl', B'⟩
  by_cases hn : i = us.length
  · refine .inl ⟨by show us.length ≤ i; omega, hD tus' H' _ _ ?_⟩
    rw [hn, Nat.sub_self, List.drop_zero] at B'
    exact B'
  · have hlt : i < us.length := by omega
    refine .inr ⟨show i < us.length from hlt, _, fun σ2 H2 h => ⟨us.length - (i + 1), by omega, h⟩, ?_⟩
    rintro v3 H3 ⟨rfl, rfl⟩
    obtain ⟨j, hj⟩ : ∃ j : Nat, j = us.length - 1 - i := ⟨_, rfl⟩
    have hjl : j < us.length := by omega
    rw [show (us.length : Int) - 1 - (i : Int) = (j : Int) by omega]
    obtain ⟨k, hk⟩ : ∃ k, (kidsE e (c + (os.length : Int)))[j]? = some k := ⟨(kidsE e (c + (os.length : Int)))[j]'(by omega), by rw [List.getElem?_eq_getElem]⟩
    obtain ⟨x, hx⟩ : ∃ x, us[j]? = some x := ⟨us[j], by rw [List.getElem?_eq_getElem]⟩
    obtain ⟨tk, htk, dx⟩ := denL_at dk' hx
    have ek : tk = k.1 := by
      rw [← kidsE_kids e (c + (os.length : Int)), List.getElem?_map, hk] at htk
      exact (Option.some.inj htk).symm
    subst ek
    obtain ⟨e1, e2⟩ := kidsE_at hk
    have hsz := kid_size (List.mem_of_getElem? htk)
    have hdrop : (kidsE e (c + (os.length : Int))).drop (us.length - (i + 1)) = k :: (kidsE e (c + (os.length : Int))).drop (us.length - i) := by
      rw [show us.length - (i + 1) = j by omega, show us.length - i = j + 1 by omega]
      obtain ⟨hjk, e⟩ := List.getElem?_eq_some_iff.mp hk
      rw [List.drop_eq_getElem_cons hjk, e]
    have f2 : k.2.1.length + k.1.size ≤ 1000 := by
      have := O'.f2
      rw [e1, List.length_append]; simp only [List.length_cons, List.length_nil]; omega
    -- behind the choice of near
    have tail : ∀ (nd : Addr) (kvs' : List (Key × V)) (H4 : Hp), Same H3 H4 → H4 nd = some (.dK kvs') → OwK kvs' k.2.2 → kvs'.length + k.1.size ≤ 1000 → _ := fun nd kvs' H4 s4 hnd ow f1 =>
      rd_no_app (K := K) (v0 := v0) (src := src) (giv := giv) (c := c) (pv := pv) (od := od) (nd := nd) (j12 := j12) (j13 := j13) (j14 := j14) (j15 := j15) (D := { D with nx := fun σ' H'' => us.length - (i + 1) = us.length - (i + 1) ∧ i + 1 ≤ us.length ∧ (∃ j10 j11, σ' = [v0, src, giv, some (.int c), some (.ref ol), some (.ref tl), some pv, some (.ref pp), some (.ref od), some (.ref il), j10, j11, j12, j13, j14, j15]) ∧ EOp H'' e pv pp od kvs ∧ H'' il = some (.lst us) ∧ DenL H'' e.1.kids us ∧ ∃ tus', tus'.length = tus.length + (i + 1) ∧ NoB H₀ H'' ol tl os ((kidsE e (c + (os.length : Int))).drop (us.length - (i + 1)) ++ st) ous tus', ct := fun σ' H'' => us.length - (i + 1) = us.length - (i + 1) ∧ i + 1 ≤ us.length ∧ (∃ j10 j11, σ' = [v0, src, giv, some (.int c), some (.ref ol), some (.ref tl), some pv, some (.ref pp), some (.ref od), some (.ref il), j10, j11, j12, j13, j14, j15]) ∧ EOp H'' e pv pp od kvs ∧ H'' il = some (.lst us) ∧ DenL H'' e.1.kids us ∧ ∃ tus', tus'.length = tus.length + (i + 1) ∧ NoB H₀ H'' ol tl os ((kidsE e (c + (os.length : Int))).drop (us.length - (i + 1)) ++ st) ous tus', bk := D.nx }) (e := e) (k := k) (j := j) (kvs := kvs) (kvs' := kvs')
        (B'.grow s4) (s4 _ _ O'.path) (s4 _ _ hil') hx (dx.mono (tl_same s4)) e1 hnd ow f1 f2 (by omega) fun q H5 s5 H6 e6 B6 => by
          have s45 := s4.trans s5
          have B5 := (B'.grow s45)
          have m := tl_lst (o := .lst (tus' ++ [.ref q])) B5.tl_
          have kk := dk_lst (o := .lst (tus' ++ [.ref q])) B5.tl_
          rw [← e6] at m kk
          refine ⟨rfl, hlt, ⟨_, _, rfl⟩, (O'.mono (tl_same s45) (dk_same s45)).mono m kk, ?_, (dk'.mono (tl_same s45)).mono m, tus' ++ [.ref q], by simp [hl']; omega, by rw [hdrop]; exact B6⟩
          rw [e6, upd_ne nil]; exact s45 _ _ hil'
    have plain : k.2.2 = e.2.2 → _ := fun eo => tail od kvs H3 (fun _ _ z => z) O'.own (by rw [eo]; exact O'.ow) (by have := O'.f1; omega)
    obtain ⟨p9, ks, epv, hp9, _⟩ := O'.den.open
    subst epv
    refine ⟨_, rfl, ?_⟩
    refine ⟨_, rfl, p9, _, _, _, rfl, rfl, SqT.of hp9, hd_kind e.1 ks, rfl, _, rfl, ?_⟩
    refine ite2 (fun hlet => ?_) (fun hlet => ?_)
    · obtain ⟨w, a, b, elt⟩ := kind_let (V.str.inj (of_decide_eq_true hlet))
      refine ⟨_, rfl, rfl, _, rfl, ?_⟩
      refine ite2 (fun hj1 => ?_) (fun hj1 => ?_)
      · have hj1 : j = 1 := by have := V.int.inj (of_decide_eq_true hj1); omega
        have eo : k.2.2 = Ow.put e.2.2 w (c + (os.length : Int)) := by
          rcases e2 with ⟨w', a', b', q1, _, q2⟩ | ⟨q1, _⟩
          · rw [elt] at q1; cases q1; exact q2
          · exact absurd hj1 (q1 w a b elt)
        refine ⟨_, rfl, od, kvs, rfl, .inl O'.own, fun nd hnd => ?_⟩
        have s4 := same_new (o := .dK kvs) hnd
        have g4 : (upd H3 nd (.dK kvs)) nd = some (.dK kvs) := upd_same
        generalize upd H3 nd (.dK kvs) = H4 at s4 g4 ⊢
        have hol := B'.el.length
        have hw9 : atI (hd e.1 ++ ks) 1 = some (.str w) := by rw [elt]; exact atI_nat (j := 1) rfl
        refine ⟨_, rfl, _, rfl, ol, ous, rfl, .inl (SqL.of (s4 _ _ B'.ol_)), _, _, rfl, rfl, _, rfl, _, rfl, p9, _, _, _, rfl, rfl, SqT.of (s4 _ _ hp9), hw9, nd, _, rfl, DPut.k (k := .inr w) g4 (by have := O'.f1; rw [sizeLine_eq]; omega), ?_⟩
        rw [hol]
        have s5 : Same H3 (upd H4 nd (.dK (putK kvs (.inr w : Key) (.int (c + (os.length : Int)))))) := same_old s4 hnd
        have hpl := length_putK kvs (.inr w : Key) (.int (c + (os.length : Int)))
        refine tail nd _ _ s5 upd_same (by rw [eo]; exact O'.ow.put w _) ?_
        have := O'.f1
        show (putK kvs (.inr w : Key) (.int (c + (os.length : Int)))).length + k.1.size ≤ 1000
        omega
      · refine plain ?_
        rcases e2 with ⟨_, _, _, _, q1, _⟩ | ⟨_, q2⟩
        · exact absurd (by rw [q1]; rfl) hj1
        · exact q2
    · refine iteF (plain ?_)
      rcases e2 with ⟨w', a', b', q1, _, _⟩ | ⟨_, q2⟩
      · exact absurd (by rw [q1]; exact decide_eq_true rfl) hlet
      · exact q2
end S3

set_option Elab.async false
set_option linter.all false
set_option maxRecDepth 100000
set_option maxHeartbeats 4000000
namespace SW
open PySem L2
theorem pre_len (c : Int) : ∀ (t : T) (p : List Int) (o : Ow) (i : Nat), (pre c t p o i).length = t.size
  | .num _, _, _, _ => rfl
  | .name _, _, _, _ => rfl
  | .st0 _, _, _, _ => rfl
  | .sum a b, p, o, i => by simp only [pre, List.length_cons, List.length_append, pre_len c a, pre_len c b, T.size]
  | .less a b, p, o, i => by simp only [pre, List.length_cons, List.length_append, pre_len c a, pre_len c b, T.size]
  | .cho a b d, p, o, i => by simp only [pre, List.length_cons, List.length_append, pre_len c a, pre_len c b, pre_len c d, T.size]; omega
  | .lt w a b, p, o, i => by simp only [pre, List.length_cons, List.length_append, pre_len c a, pre_len c b, T.size]
  | .st1 w a, p, o, i => by simp only [pre, List.length_cons, pre_len c a, T.size]
  | .st2 w a b, p, o, i => by simp only [pre, List.length_cons, List.length_append, pre_len c a, pre_len c b, T.size]
end SW
namespace S3
open PySem L2 SW
variable {K : PySem.W.Frag} {vs : List V} {H H₀ : Hp} {Q : VK} {E : XK}
theorem rd_no_walk {v0 src giv : Option V} {c : Int} {ol tl : Addr} {es : List En} {st : List En} {tus : List V} {D : Ends} {j6 j7 j8 j9 j10 j11 j12 j13 j14 j15 : Option V}
    (B : NoB H₀ H ol tl [] st [] tus) (hes : flatE c st 0 = es) (hsz : szE st ≤ 900)
    (hD : ∀ (ous : List V) (H' : Hp) (j6 j7 j8 j9 j10 j11 : Option V), Same H₀ H' → H' ol = some (.lst ous) → EL H' es ous → D.nx [v0, src, giv, some (.int c), some (.ref ol), some (.ref tl), j6, j7, j8, j9, j10, j11, j12, j13, j14, j15] H') :
    (tWhile (tTest (tOp (rNeNil K) (tVar 5) (tLst tNil))) (t_no_4 K)) D [v0, src, giv, some (.int c), some (.ref ol), some (.ref tl), j6, j7, j8, j9, j10, j11, j12, j13, j14, j15] H := by
  refine ⟨fun m σ H' => ∃ os st ous tus j6 j7 j8 j9 j10 j11, σ = [v0, src, giv, some (.int c), some (.ref ol), some (.ref tl), j6, j7, j8, j9, j10, j11, j12, j13, j14, j15] ∧ NoB H₀ H' ol tl os st ous tus ∧ os ++ flatE c st os.length = es ∧ szE st + os.length ≤ 900 ∧ m = szE st,
    ⟨_, [], st, [], tus, _, _, _, _, _, _, rfl, B, by simpa using hes, by simpa using hsz, rfl⟩, ?_⟩
  clear B hes hsz j6 j7 j8 j9 j10 j11 st tus
  rintro m σ H1 ⟨os, st, ous, tus, j6, j7, j8, j9, j10, j11, rfl, B, he, hsz, rfl⟩
  refine ⟨_, rfl, szl, fun e0 he0 => ?_⟩
  have s1 := same_new (o := .lst []) he0
  have g1 : (upd H1 e0 (.lst [])) e0 = some (.lst []) := upd_same
  have B1 := B.grow s1
  generalize upd H1 e0 (.lst []) = H2 at g1 B1 ⊢
  clear s1 he0 B
  refine ⟨tl, e0, tus, rfl, rfl, SqL.of B1.tl_, SqL.of g1, _, rfl, ?_⟩
  have her := B1.er
  cases her with
  | nil =>
    refine iteN rfl (hD ous H2 _ _ _ _ _ _ B1.same B1.ol_ ?_)
    have : os = es := by simpa [flatE] using he
    rw [← this]; exact B1.el
  | @snoc e u st tus her ha =>
    refine iteY (by simp) ?_
    refine ⟨fun σ' H' => ∃ m', m' < szE (e :: st) ∧ ∃ os st ous tus j6 j7 j8 j9 j10 j11, σ' = [v0, src, giv, some (.int c), some (.ref ol), some (.ref tl), j6, j7, j8, j9, j10, j11, j12, j13, j14, j15] ∧ NoB H₀ H' ol tl os st ous tus ∧ os ++ flatE c st os.length = es ∧ szE st + os.length ≤ 900 ∧ m' = szE st, fun _ _ h => h, ?_⟩
    refine ⟨_, rfl, .inl ⟨rfl, _, SqL.of B1.tl_⟩, tl, _, _, rfl, rfl, B1.tl_, pop_at, ?_⟩
    rw [drop_at]
    have m3 := tl_lst (o := .lst tus) B1.tl_
    have k3 := dk_lst (o := .lst tus) B1.tl_
    have B3 := B1.pop her
    have a3 := ha.mono m3 k3
    generalize upd H2 tl (.lst tus) = H3 at B3 a3 ⊢
    obtain ⟨q, pp, od, pv, kvs, rfl, hq, den, hpp, hod, ow, f1, f2⟩ := a3
    refine ⟨q, _, rfl, SqT.of hq, rfl, _, _, rfl, _, _, rfl, _, _, rfl, rfl, ?_⟩
    refine ⟨_, rfl, .inl ⟨rfl, _, SqL.of B3.ol_⟩, _, rfl, _, rfl, _, rfl, szl, fun q4 hq4 => ?_⟩
    have s4 := same_new (o := .tup [pv, .ref pp, .ref od]) hq4
    have g4 : (upd H3 q4 (.tup [pv, .ref pp, .ref od])) q4 = some (.tup [pv, .ref pp, .ref od]) := upd_same
    have B4 := B3.grow s4
    generalize upd H3 q4 (.tup [pv, .ref pp, .ref od]) = H4 at s4 g4 B4 ⊢
    have hol := B4.el.length
    rw [szE_cons] at hsz
    refine ⟨ol, ous, _, rfl, rfl, B4.ol_, by rw [sizeLine_eq]; omega, ?_⟩
    have m5 := tl_lst (o := .lst (ous ++ [.ref q4])) B4.ol_
    have k5 := dk_lst (o := .lst (ous ++ [.ref q4])) B4.ol_
    have O4 : EOp H4 e pv pp od kvs := ⟨den.mono (tl_same s4), s4 _ _ hpp, s4 _ _ hod, ow, f1, f2⟩
    have B5 := B4.put (e := e) ⟨q4, pp, od, pv, kvs, rfl, g4, O4.den, O4.path, O4.own, ow, f1, f2⟩
    have O5 := O4.mono m5 k5
    generalize upd H4 ol (.lst (ous ++ [.ref q4])) = H5 at B5 O5 ⊢
    refine ⟨_, rfl, e.1, pv, rfl, O5.den, fun il us H6 s6 n6 h6 d6 => ?_⟩
    have B6 := B5.grow s6
    have htl := B6.er.length
    have hst := szE_len st
    refine rd_no_kids B6 (O5.mono (tl_same s6) (dk_same s6)) h6 (fun z => by subst z; rw [B5.tl_] at n6; cases n6) d6 (by omega) fun tus' H7 j10 j11 B7 => ?_
    have hk := szE_kids e (c + ((os ++ [e]).length : Int))
    have hl1 : (os ++ [e]).length = os.length + 1 := by simp
    have hfin : szE (kidsE e (c + ((os ++ [e]).length : Int)) ++ st) + (os ++ [e]).length ≤ 900 := by
      rw [szE_append]
      generalize szE (kidsE e (c + ((os ++ [e]).length : Int))) = z at *
      omega
    refine ⟨szE (kidsE e (c + ((os ++ [e]).length : Int)) ++ st), by rw [szE_append, szE_cons]; omega, os ++ [e], _, _, tus', _, _, _, _, _, _, rfl, B7, ?_, hfin, rfl⟩
    rw [← he, List.append_assoc]
    congr 1
    have := flat_kids c e st os.length
    rw [← this]
    simp
end S3

set_option Elab.async false
set_option linter.all false
set_option maxRecDepth 100000
set_option maxHeartbeats 4000000
namespace SW
open PySem L2
/-! ### the notes -/
inductive NT where
  | mk (k : Str) (x : V) (src : Str) (path : List Int) (kids : List NT)
mutual
inductive NAt (H : Hp) : NT → V → Prop where
  | mk {k : Str} {x : V} {src : Str} {path : List Int} {kids : List NT} {p sp pp kl : Addr} {us : List V} : H p = some (.tup [.str k, x, .ref sp, .ref kl]) → H sp = some (.tup [.str src, .ref pp]) → H pp = some (.tup (path.map V.int)) → H kl = some (.lst us) → NLAt H kids us → NAt H (.mk k x src path kids) (.ref p)
inductive NLAt (H : Hp) : List NT → List V → Prop where
  | nil : NLAt H [] []
  | cons {n : NT} {u : V} {ns : List NT} {us : List V} : NAt H n u → NLAt H ns us → NLAt H (n :: ns) (u :: us)
end
mutual
theorem NAt.same {H H' : Hp} (s : Same H H') : ∀ {n : NT} {u : V}, NAt H n u → NAt H' n u
  | _, _, .mk h1 h2 h3 h4 h5 => .mk (s _ _ h1) (s _ _ h2) (s _ _ h3) (s _ _ h4) (NLAt.same s h5)
theorem NLAt.same {H H' : Hp} (s : Same H H') : ∀ {ns : List NT} {us : List V}, NLAt H ns us → NLAt H' ns us
  | _, _, .nil => .nil
  | _, _, .cons a r => .cons (NAt.same s a) (NLAt.same s r)
end
theorem NLAt.length {H : Hp} : ∀ {ns : List NT} {us : List V}, NLAt H ns us → us.length = ns.length
  | _, _, .nil => rfl
  | _, _, .cons _ r => by rw [List.length_cons, List.length_cons, NLAt.length r]
theorem NLAt.append {H : Hp} : ∀ {a b : List NT} {us ws : List V}, NLAt H a us → NLAt H b ws → NLAt H (a ++ b) (us ++ ws)
  | _, _, _, _, .nil, q => q
  | _, _, _, _, .cons a r, q => .cons a (NLAt.append r q)
theorem NLAt.reverse {H : Hp} : ∀ {a : List NT} {us : List V}, NLAt H a us → NLAt H a.reverse us.reverse
  | _, _, .nil => .nil
  | _, _, .cons a r => by rw [List.reverse_cons, List.reverse_cons]; exact (NLAt.reverse r).append (.cons a .nil)
theorem NLAt.take {H : Hp} : ∀ {a : List NT} {us : List V} (n : Nat), NLAt H a us → NLAt H (a.take n) (us.take n)
  | _, _, 0, _ => .nil
  | _, _, _ + 1, .nil => .nil
  | _, _, n + 1, .cons a r => .cons a (NLAt.take n r)
abbrev Gi := Str → Option NT
/-- one node; ks: what lies within -/
def nodeOf (c : Int) (src : Str) (giv : Gi) (e : En) (i : Nat) (ks : List NT) : NT := match e.1 with
  | .num n => .mk "number" (.int n) src e.2.1 ks
  | .name w => (match e.2.2 w with
    | some x => .mk "name" (.int x) src e.2.1 ks
    | none => (match giv w with
      | some g => g
      | none => .mk "name" (.str w) src e.2.1 ks))
  | .sum _ _ => .mk "sum" .non src e.2.1 ks
  | .less _ _ => .mk "less" .non src e.2.1 ks
  | .cho _ _ _ => .mk "choose" .non src e.2.1 ks
  | .lt _ _ _ => .mk "let" (.int (c + i + 1)) src e.2.1 ks
  | .st0 w => .mk "stamp" (.str w) src e.2.1 ks
  | .st1 w _ => .mk "stamp" (.str w) src e.2.1 ks
  | .st2 w _ _ => .mk "stamp" (.str w) src e.2.1 ks
def nt (c : Int) (src : Str) (giv : Gi) : T → List Int → Ow → Nat → NT
  | .num n, p, o, i => nodeOf c src giv (.num n, p, o) i []
  | .name w, p, o, i => nodeOf c src giv (.name w, p, o) i []
  | .sum a b, p, o, i => nodeOf c src giv (.sum a b, p, o) i [nt c src giv a (p ++ [0]) o (i + 1), nt c src giv b (p ++ [1]) o (i + 1 + a.size)]
  | .less a b, p, o, i => nodeOf c src giv (.less a b, p, o) i [nt c src giv a (p ++ [0]) o (i + 1), nt c src giv b (p ++ [1]) o (i + 1 + a.size)]
  | .cho a b d, p, o, i => nodeOf c src giv (.cho a b d, p, o) i [nt c src giv a (p ++ [0]) o (i + 1), nt c src giv b (p ++ [1]) o (i + 1 + a.size), nt c src giv d (p ++ [2]) o (i + 1 + a.size + b.size)]
  | .lt w a b, p, o, i => nodeOf c src giv (.lt w a b, p, o) i [nt c src giv a (p ++ [0]) o (i + 1), nt c src giv b (p ++ [1]) (Ow.put o w (c + ((i + 1 : Nat) : Int))) (i + 1 + a.size)]
  | .st0 w, p, o, i => nodeOf c src giv (.st0 w, p, o) i []
  | .st1 w a, p, o, i => nodeOf c src giv (.st1 w a, p, o) i [nt c src giv a (p ++ [0]) o (i + 1)]
  | .st2 w a b, p, o, i => nodeOf c src giv (.st2 w a b, p, o) i [nt c src giv a (p ++ [0]) o (i + 1), nt c src giv b (p ++ [1]) o (i + 1 + a.size)]
/-- from behind -/
def build (c : Int) (src : Str) (giv : Gi) : List En → Nat → List NT
  | [], _ => []
  | e :: r, i => nodeOf c src giv e i ((build c src giv r (i + 1)).take e.1.kids.length) :: (build c src giv r (i + 1)).drop e.1.kids.length
theorem build_pre (c : Int) (src : Str) (giv : Gi) : ∀ (t : T) (p : List Int) (o : Ow) (i : Nat) (r : List En), build c src giv (pre c t p o i ++ r) i = nt c src giv t p o i :: build c src giv r (i + t.size)
  | .num n, p, o, i, r => by simp only [pre, List.cons_append, List.nil_append, build, nt, T.kids, List.length_nil, List.take_zero, List.drop_zero, T.size]
  | .name n, p, o, i, r => by simp only [pre, List.cons_append, List.nil_append, build, nt, T.kids, List.length_nil, List.take_zero, List.drop_zero, T.size]
  | .st0 n, p, o, i, r => by simp only [pre, List.cons_append, List.nil_append, build, nt, T.kids, List.length_nil, List.take_zero, List.drop_zero, T.size]
  | .sum a b, p, o, i, r => by
    simp only [pre, List.cons_append, List.append_assoc, build, build_pre c src giv a, build_pre c src giv b, nt, T.kids, List.length_cons, List.length_nil, List.take_succ_cons, List.take_zero, List.drop_succ_cons, List.drop_zero, T.size]
    rw [show i + 1 + a.size + b.size = i + (a.size + b.size + 1) by omega]
  | .less a b, p, o, i, r => by
    simp only [pre, List.cons_append, List.append_assoc, build, build_pre c src giv a, build_pre c src giv b, nt, T.kids, List.length_cons, List.length_nil, List.take_succ_cons, List.take_zero, List.drop_succ_cons, List.drop_zero, T.size]
    rw [show i + 1 + a.size + b.size = i + (a.size + b.size + 1) by omega]
  | .cho a b d, p, o, i, r => by
    simp only [pre, List.cons_append, List.append_assoc, build, build_pre c src giv a, build_pre c src giv b, build_pre c src giv d, nt, T.kids, List.length_cons, List.length_nil, List.take_succ_cons, List.take_zero, List.drop_succ_cons, List.drop_zero, T.size]
    rw [show i + 1 + a.size + b.size + d.size = i + (a.size + b.size + d.size + 1) by omega]
  | .lt w a b, p, o, i, r => by
    simp only [pre, List.cons_append, List.append_assoc, build, build_pre c src giv a, build_pre c src giv b, nt, T.kids, List.length_cons, List.length_nil, List.take_succ_cons, List.take_zero, List.drop_succ_cons, List.drop_zero, T.size]
    rw [show i + 1 + a.size + b.size = i + (a.size + b.size + 1) by omega]
  | .st1 w a, p, o, i, r => by
    simp only [pre, List.cons_append, List.append_assoc, build, build_pre c src giv a, nt, T.kids, List.length_cons, List.length_nil, List.take_succ_cons, List.take_zero, List.drop_succ_cons, List.drop_zero, T.size]
    rw [show i + 1 + a.size = i + (a.size + 1) by omega]
  | .st2 w a b, p, o, i, r => by
    simp only [pre, List.cons_append, List.append_assoc, build, build_pre c src giv a, build_pre c src giv b, nt, T.kids, List.length_cons, List.length_nil, List.take_succ_cons, List.take_zero, List.drop_succ_cons, List.drop_zero, T.size]
    rw [show i + 1 + a.size + b.size = i + (a.size + b.size + 1) by omega]
theorem build_all (c : Int) (src : Str) (giv : Gi) (t : T) : build c src giv (pre c t [] Ow.none 0) 0 = [nt c src giv t [] Ow.none 0] := by
  have := build_pre c src giv t [] Ow.none 0 []
  rw [List.append_nil] at this
  rw [this]; rfl
def GivK (H : Hp) (kvs : List (Key × V)) (giv : Gi) : Prop := ∀ w : Str, (giv w = none ∧ valV kvs (.inr w : Key) = none) ∨ ∃ g u, giv w = some g ∧ valV kvs (.inr w : Key) = some u ∧ NAt H g u
theorem GivK.same {H H' : Hp} {kvs : List (Key × V)} {giv : Gi} (s : Same H H') (h : GivK H kvs giv) : GivK H' kvs giv := fun w =>
  (h w).imp id fun ⟨g, u, e1, e2, e3⟩ => ⟨g, u, e1, e2, e3.same s⟩
def spNoted : Sp := fun vs H Q _ => ∃ (t : T) (v : V) (src : Str) (gd : Addr) (gkvs : List (Key × V)) (giv : Gi) (c : Int), vs = [v, .str src, .ref gd, .int c] ∧ Den H t v ∧ t.size ≤ 900 ∧ H gd = some (.dK gkvs) ∧ GivK H gkvs giv ∧
  ∀ (r : Addr) (u : V) (H' : Hp), Same H H' → NAt H' (nt c src giv t [] Ow.none 0) u → H' r = some (.tup [u, .int (c + (t.size : Int))]) → Q (.ref r) H'
end SW

set_option Elab.async false
set_option linter.all false
set_option maxRecDepth 100000
set_option maxHeartbeats 4000000
namespace SW
open PySem L2
/-- all but what stands at pl -/
def rst (pl : Addr) (H : Hp) : Hp := fun b => if b = pl then none else H b
theorem rst_same {pl : Addr} {H H' : Hp} (s : Same H H') : Same (rst pl H) (rst pl H') := fun b o h => by
  unfold rst at h ⊢
  by_cases e : b = pl
  · rw [if_pos e] at h; cases h
  · rw [if_neg e] at h ⊢; exact s b o h
theorem rst_le {pl : Addr} {H : Hp} {o : HO} : Same (rst pl H) (upd H pl o) := fun b u h => by
  unfold rst at h
  by_cases e : b = pl
  · rw [if_pos e] at h; cases h
  · rw [if_neg e] at h; rw [upd_ne e]; exact h
theorem rst_at {pl b : Addr} {H : Hp} {o : HO} (h : H b = some o) (n : b ≠ pl) : rst pl H b = some o := by unfold rst; rw [if_neg n]; exact h
theorem rst_new {pl : Addr} {H H' : Hp} (s : Same H H') (n : H pl = none) : Same H (rst pl H') := fun b o h => rst_at (s b o h) (ne_of_none h n)
end SW
namespace S3
open PySem L2 SW
variable {K : PySem.W.Frag} {vs : List V} {H H₀ : Hp} {Q : VK} {E : XK}
/-- a node is put on the pile -/
theorem rd_no_nd {v0 giv0 : Option V} {src : Str} {c : Int} {ol tl pp od p pl kl : Addr} {e : En} {kvs : List (Key × V)} {ks' pus kus : List V} {x : V} {ks : List NT} {giv : Gi} {i : Nat} {D : Ends} {j9 j10 j11 j13 : Option V}
    (O : EOp H e (.ref p) pp od kvs) (hp : H p = some (.tup (hd e.1 ++ ks'))) (hkl : H kl = some (.lst kus)) (nkl : kl ≠ pl) (nks : NLAt (rst pl H) ks kus) (hpl : H pl = some (.lst pus)) (few : pus.length ≤ 5000)
    (hx : nodeOf c src giv e i ks = .mk (kind e.1) x src e.2.1 ks)
    (hD : ∀ (u : V) (H1 H' : Hp), Same H H1 → H' = upd H1 pl (.lst (pus ++ [u])) → NAt (rst pl H1) (nodeOf c src giv e i ks) u → D.nx [v0, some (.str src), giv0, some (.int c), some (.ref ol), some (.ref tl), some (.ref p), some (.ref pp), some (.ref od), j9, j10, j11, some (.ref pl), j13, some (.ref kl), some x] H') :
    t_no_12 K D [v0, some (.str src), giv0, some (.int c), some (.ref ol), some (.ref tl), some (.ref p), some (.ref pp), some (.ref od), j9, j10, j11, some (.ref pl), j13, some (.ref kl), some x] H := by
  refine ⟨_, rfl, .inl ⟨rfl, _, SqL.of hpl⟩, _, rfl, p, _, _, _, rfl, rfl, SqT.of hp, hd_kind e.1 ks', _, rfl, _, rfl, _, rfl, szl, fun sp hsp => ?_⟩
  have s1 := same_new (o := .tup [.str src, .ref pp]) hsp
  have g1 : (upd H sp (.tup [.str src, .ref pp])) sp = some (.tup [.str src, .ref pp]) := upd_same
  generalize upd H sp (.tup [.str src, .ref pp]) = H1 at s1 g1 ⊢
  refine ⟨_, rfl, szl, fun q hq => ?_⟩
  have s2 := same_new (o := .tup [.str (kind e.1), x, .ref sp, .ref kl]) hq
  have g2 : (upd H1 q (.tup [.str (kind e.1), x, .ref sp, .ref kl])) q = some (.tup [.str (kind e.1), x, .ref sp, .ref kl]) := upd_same
  generalize upd H1 q (.tup [.str (kind e.1), x, .ref sp, .ref kl]) = H2 at s2 g2 ⊢
  have s12 := s1.trans s2
  have hpl2 := s12 _ _ hpl
  refine ⟨pl, pus, _, rfl, rfl, hpl2, by rw [sizeLine_eq]; omega, hD (.ref q) H2 _ s12 rfl ?_⟩
  rw [hx]
  have nt : ∀ {b : Addr} {xs : List V}, H2 b = some (.tup xs) → b ≠ pl := fun h z => by subst z; rw [hpl2] at h; cases h
  exact .mk (rst_at g2 (nt g2)) (rst_at (s2 _ _ g1) (nt (s2 _ _ g1))) (rst_at (s12 _ _ O.path) (nt (s12 _ _ O.path))) (rst_at (s12 _ _ hkl) nkl) (nks.same (rst_same s12))
/-- what is noted of it, and the node -/
theorem rd_no_ext {v0 : Option V} {src : Str} {c : Int} {ol tl pp od p pl kl gd : Addr} {t : T} {pth : List Int} {o : Ow} {kvs gkvs : List (Key × V)} {ks' pus kus : List V} {ks : List NT} {giv : Gi} {i : Nat} {D : Ends} {j9 j11 j13 j15 : Option V}
    (O : EOp H (t, pth, o) (.ref p) pp od kvs) (hp : H p = some (.tup (hd t ++ ks'))) (hkl : H kl = some (.lst kus)) (nkl : kl ≠ pl) (nks : NLAt (rst pl H) ks kus) (hpl : H pl = some (.lst pus)) (few : pus.length ≤ 5000)
    (hgd : H gd = some (.dK gkvs)) (hgiv : GivK (rst pl H) gkvs giv)
    (hD : ∀ (u : V) (H1 H' : Hp) (j11 j15 : Option V), Same H H1 → H' = upd H1 pl (.lst (pus ++ [u])) → NAt (rst pl H1) (nodeOf c src giv (t, pth, o) i ks) u → D.nx [v0, some (.str src), some (.ref gd), some (.int c), some (.ref ol), some (.ref tl), some (.ref p), some (.ref pp), some (.ref od), j9, some (.int i), j11, some (.ref pl), j13, some (.ref kl), j15] H') :
    (tSeq (tAsg (tC .non) (gName 15)) (tSeq (t_no_6 K) (tSeq (t_no_8 K) (tSeq (t_no_10 K) (t_no_13 K))))) D [v0, some (.str src), some (.ref gd), some (.int c), some (.ref ol), some (.ref tl), some (.ref p), some (.ref pp), some (.ref od), j9, some (.int i), j11, some (.ref pl), j13, some (.ref kl), j15] H := by
  cases t with
  | num n =>
    refine ⟨_, rfl, p, _, _, _, rfl, rfl, SqT.of hp, atI_nat (j := 0) rfl, szl, fun l hl => ?_⟩
    have s1 := same_new (o := .lst [.str "number", .str "name", .str "stamp"]) hl
    have g1 : (upd H l (.lst [.str "number", .str "name", .str "stamp"])) l = some (.lst [.str "number", .str "name", .str "stamp"]) := upd_same
    generalize upd H l (.lst [.str "number", .str "name", .str "stamp"]) = H1 at s1 g1 ⊢
    have hp1 := s1 _ _ hp
    refine ⟨l, _, rfl, .inl (SqL.of g1), rfl, rfl, _, rfl, ?_⟩
    refine iteY (by decide +kernel) ?_
    refine ⟨_, rfl, p, _, _, _, rfl, rfl, SqT.of hp1, atI_nat (j := 1) rfl, ?_⟩
    refine ⟨_, rfl, p, _, _, _, rfl, rfl, SqT.of hp1, atI_nat (j := 0) rfl, rfl, _, rfl, ?_⟩
    refine iteN (by decide +kernel) ?_
    refine ⟨_, rfl, p, _, _, _, rfl, rfl, SqT.of hp1, atI_nat (j := 0) rfl, rfl, _, rfl, ?_⟩
    refine iteN (by decide +kernel) (iteF ?_)
    refine ⟨_, rfl, p, _, _, _, rfl, rfl, SqT.of hp1, atI_nat (j := 0) rfl, rfl, _, rfl, ?_⟩
    refine iteN (by decide +kernel) (iteF ?_)
    exact rd_no_nd (e := (.num n, pth, o)) (O.mono (tl_same s1) (dk_same s1)) hp1 (s1 _ _ hkl) nkl (nks.same (rst_same s1)) (s1 _ _ hpl) few rfl fun u H2 H3 s2 e3 n3 => hD u H2 H3 _ _ (s1.trans s2) e3 n3
  | name w =>
    refine ⟨_, rfl, p, _, _, _, rfl, rfl, SqT.of hp, atI_nat (j := 0) rfl, szl, fun l hl => ?_⟩
    have s1 := same_new (o := .lst [.str "number", .str "name", .str "stamp"]) hl
    have g1 : (upd H l (.lst [.str "number", .str "name", .str "stamp"])) l = some (.lst [.str "number", .str "name", .str "stamp"]) := upd_same
    generalize upd H l (.lst [.str "number", .str "name", .str "stamp"]) = H1 at s1 g1 ⊢
    have hp1 := s1 _ _ hp
    refine ⟨l, _, rfl, .inl (SqL.of g1), rfl, rfl, _, rfl, ?_⟩
    refine iteY (by decide +kernel) ?_
    refine ⟨_, rfl, p, _, _, _, rfl, rfl, SqT.of hp1, atI_nat (j := 1) rfl, ?_⟩
    refine ⟨_, rfl, p, _, _, _, rfl, rfl, SqT.of hp1, atI_nat (j := 0) rfl, rfl, _, rfl, ?_⟩
    refine iteN (by decide +kernel) ?_
    refine ⟨_, rfl, p, _, _, _, rfl, rfl, SqT.of hp1, atI_nat (j := 0) rfl, rfl, _, rfl, ?_⟩
    refine iteY (by decide +kernel) ?_
    have O1 := O.mono (tl_same s1) (dk_same s1)
    have dg := DGet.k (k := .inr w) O1.own
    have how : valV kvs (.inr w : Key) = (o w).map V.int := O1.ow w
    rw [how] at dg
    refine ⟨_, rfl, p, _, _, _, rfl, rfl, SqT.of hp1, atI_nat (j := 1) rfl, _, rfl, od, _, rfl, dg, _, rfl, ?_⟩
    cases ho : o w with
    | some x =>
      rw [ho] at dg
      refine iteY rfl ?_
      refine ⟨_, rfl, _, rfl, p, _, _, _, rfl, rfl, SqT.of hp1, atI_nat (j := 1) rfl, od, _, rfl, dg, ?_⟩
      refine ⟨_, rfl, p, _, _, _, rfl, rfl, SqT.of hp1, atI_nat (j := 0) rfl, rfl, _, rfl, iteY (by decide +kernel) ?_⟩
      refine ⟨_, rfl, p, _, _, _, rfl, rfl, SqT.of hp1, atI_nat (j := 1) rfl, _, rfl, od, _, rfl, dg, _, rfl, iteN rfl (iteF ?_)⟩
      exact rd_no_nd (e := (.name w, pth, o)) O1 hp1 (s1 _ _ hkl) nkl (nks.same (rst_same s1)) (s1 _ _ hpl) few (by simp [nodeOf, ho, kind]) fun u H2 H3 s2 e3 n3 => hD u H2 H3 _ _ (s1.trans s2) e3 n3
    | none =>
      rw [ho] at dg
      refine iteN rfl ?_
      refine ⟨_, rfl, p, _, _, _, rfl, rfl, SqT.of hp1, atI_nat (j := 0) rfl, rfl, _, rfl, iteY (by decide +kernel) ?_⟩
      refine ⟨_, rfl, p, _, _, _, rfl, rfl, SqT.of hp1, atI_nat (j := 1) rfl, _, rfl, od, _, rfl, dg, _, rfl, iteY rfl ?_⟩
      have gg := DGet.k (k := .inr w) (s1 _ _ hgd)
      rcases hgiv w with ⟨e1, e2⟩ | ⟨g, u, e1, e2, e3⟩
      · rw [e2] at gg
        refine ⟨_, rfl, p, _, _, _, rfl, rfl, SqT.of hp1, atI_nat (j := 1) rfl, _, rfl, gd, _, rfl, gg, _, rfl, iteN rfl ?_⟩
        exact rd_no_nd (e := (.name w, pth, o)) O1 hp1 (s1 _ _ hkl) nkl (nks.same (rst_same s1)) (s1 _ _ hpl) few (by simp [nodeOf, ho, e1, kind]) fun u H2 H3 s2 e3 n3 => hD u H2 H3 _ _ (s1.trans s2) e3 n3
      · rw [e2] at gg
        refine ⟨_, rfl, p, _, _, _, rfl, rfl, SqT.of hp1, atI_nat (j := 1) rfl, _, rfl, gd, _, rfl, gg, _, rfl, iteY rfl ?_⟩
        refine ⟨_, rfl, .inl ⟨rfl, _, SqL.of (s1 _ _ hpl)⟩, _, rfl, _, rfl, p, _, _, _, rfl, rfl, SqT.of hp1, atI_nat (j := 1) rfl, gd, _, rfl, gg, pl, _, _, rfl, rfl, s1 _ _ hpl, by rw [sizeLine_eq]; omega, ?_⟩
        refine hD u H1 _ _ _ s1 rfl ?_
        have : nodeOf c src giv (.name w, pth, o) i ks = g := by simp [nodeOf, ho, e1]
        rw [this]
        exact e3.same (rst_same s1)
  | sum a b =>
    refine ⟨_, rfl, p, _, _, _, rfl, rfl, SqT.of hp, atI_nat (j := 0) rfl, szl, fun l hl => ?_⟩
    have s1 := same_new (o := .lst [.str "number", .str "name", .str "stamp"]) hl
    have g1 : (upd H l (.lst [.str "number", .str "name", .str "stamp"])) l = some (.lst [.str "number", .str "name", .str "stamp"]) := upd_same
    generalize upd H l (.lst [.str "number", .str "name", .str "stamp"]) = H1 at s1 g1 ⊢
    have hp1 := s1 _ _ hp
    refine ⟨l, _, rfl, .inl (SqL.of g1), rfl, rfl, _, rfl, ?_⟩
    refine iteN (by decide +kernel) ?_
    refine ⟨_, rfl, p, _, _, _, rfl, rfl, SqT.of hp1, atI_nat (j := 0) rfl, rfl, _, rfl, ?_⟩
    refine iteN (by decide +kernel) ?_
    refine ⟨_, rfl, p, _, _, _, rfl, rfl, SqT.of hp1, atI_nat (j := 0) rfl, rfl, _, rfl, ?_⟩
    refine iteN (by decide +kernel) (iteF ?_)
    refine ⟨_, rfl, p, _, _, _, rfl, rfl, SqT.of hp1, atI_nat (j := 0) rfl, rfl, _, rfl, ?_⟩
    refine iteN (by decide +kernel) (iteF ?_)
    exact rd_no_nd (e := (.sum a b, pth, o)) (O.mono (tl_same s1) (dk_same s1)) hp1 (s1 _ _ hkl) nkl (nks.same (rst_same s1)) (s1 _ _ hpl) few rfl fun u H2 H3 s2 e3 n3 => hD u H2 H3 _ _ (s1.trans s2) e3 n3
  | less a b =>
    refine ⟨_, rfl, p, _, _, _, rfl, rfl, SqT.of hp, atI_nat (j := 0) rfl, szl, fun l hl => ?_⟩
    have s1 := same_new (o := .lst [.str "number", .str "name", .str "stamp"]) hl
    have g1 : (upd H l (.lst [.str "number", .str "name", .str "stamp"])) l = some (.lst [.str "number", .str "name", .str "stamp"]) := upd_same
    generalize upd H l (.lst [.str "number", .str "name", .str "stamp"]) = H1 at s1 g1 ⊢
    have hp1 := s1 _ _ hp
    refine ⟨l, _, rfl, .inl (SqL.of g1), rfl, rfl, _, rfl, ?_⟩
    refine iteN (by decide +kernel) ?_
    refine ⟨_, rfl, p, _, _, _, rfl, rfl, SqT.of hp1, atI_nat (j := 0) rfl, rfl, _, rfl, ?_⟩
    refine iteN (by decide +kernel) ?_
    refine ⟨_, rfl, p, _, _, _, rfl, rfl, SqT.of hp1, atI_nat (j := 0) rfl, rfl, _, rfl, ?_⟩
    refine iteN (by decide +kernel) (iteF ?_)
    refine ⟨_, rfl, p, _, _, _, rfl, rfl, SqT.of hp1, atI_nat (j := 0) rfl, rfl, _, rfl, ?_⟩
    refine iteN (by decide +kernel) (iteF ?_)
    exact rd_no_nd (e := (.less a b, pth, o)) (O.mono (tl_same s1) (dk_same s1)) hp1 (s1 _ _ hkl) nkl (nks.same (rst_same s1)) (s1 _ _ hpl) few rfl fun u H2 H3 s2 e3 n3 => hD u H2 H3 _ _ (s1.trans s2) e3 n3
  | cho a b d =>
    refine ⟨_, rfl, p, _, _, _, rfl, rfl, SqT.of hp, atI_nat (j := 0) rfl, szl, fun l hl => ?_⟩
    have s1 := same_new (o := .lst [.str "number", .str "name", .str "stamp"]) hl
    have g1 : (upd H l (.lst [.str "number", .str "name", .str "stamp"])) l = some (.lst [.str "number", .str "name", .str "stamp"]) := upd_same
    generalize upd H l (.lst [.str "number", .str "name", .str "stamp"]) = H1 at s1 g1 ⊢
    have hp1 := s1 _ _ hp
    refine ⟨l, _, rfl, .inl (SqL.of g1), rfl, rfl, _, rfl, ?_⟩
    refine iteN (by decide +kernel) ?_
    refine ⟨_, rfl, p, _, _, _, rfl, rfl, SqT.of hp1, atI_nat (j := 0) rfl, rfl, _, rfl, ?_⟩
    refine iteN (by decide +kernel) ?_
    refine ⟨_, rfl, p, _, _, _, rfl, rfl, SqT.of hp1, atI_nat (j := 0) rfl, rfl, _, rfl, ?_⟩
    refine iteN (by decide +kernel) (iteF ?_)
    refine ⟨_, rfl, p, _, _, _, rfl, rfl, SqT.of hp1, atI_nat (j := 0) rfl, rfl, _, rfl, ?_⟩
    refine iteN (by decide +kernel) (iteF ?_)
    exact rd_no_nd (e := (.cho a b d, pth, o)) (O.mono (tl_same s1) (dk_same s1)) hp1 (s1 _ _ hkl) nkl (nks.same (rst_same s1)) (s1 _ _ hpl) few rfl fun u H2 H3 s2 e3 n3 => hD u H2 H3 _ _ (s1.trans s2) e3 n3
  | lt w a b =>
    refine ⟨_, rfl, p, _, _, _, rfl, rfl, SqT.of hp, atI_nat (j := 0) rfl, szl, fun l hl => ?_⟩
    have s1 := same_new (o := .lst [.str "number", .str "name", .str "stamp"]) hl
    have g1 : (upd H l (.lst [.str "number", .str "name", .str "stamp"])) l = some (.lst [.str "number", .str "name", .str "stamp"]) := upd_same
    generalize upd H l (.lst [.str "number", .str "name", .str "stamp"]) = H1 at s1 g1 ⊢
    have hp1 := s1 _ _ hp
    refine ⟨l, _, rfl, .inl (SqL.of g1), rfl, rfl, _, rfl, ?_⟩
    refine iteN (by decide +kernel) ?_
    refine ⟨_, rfl, p, _, _, _, rfl, rfl, SqT.of hp1, atI_nat (j := 0) rfl, rfl, _, rfl, ?_⟩
    refine iteY (by decide +kernel) ?_
    refine ⟨_, rfl, _, rfl, _, _, rfl, rfl, _, _, rfl, rfl, ?_⟩
    refine ⟨_, rfl, p, _, _, _, rfl, rfl, SqT.of hp1, atI_nat (j := 0) rfl, rfl, _, rfl, ?_⟩
    refine iteN (by decide +kernel) (iteF ?_)
    refine ⟨_, rfl, p, _, _, _, rfl, rfl, SqT.of hp1, atI_nat (j := 0) rfl, rfl, _, rfl, ?_⟩
    refine iteN (by decide +kernel) (iteF ?_)
    exact rd_no_nd (e := (.lt w a b, pth, o)) (O.mono (tl_same s1) (dk_same s1)) hp1 (s1 _ _ hkl) nkl (nks.same (rst_same s1)) (s1 _ _ hpl) few rfl fun u H2 H3 s2 e3 n3 => hD u H2 H3 _ _ (s1.trans s2) e3 n3
  | st0 w =>
    refine ⟨_, rfl, p, _, _, _, rfl, rfl, SqT.of hp, atI_nat (j := 0) rfl, szl, fun l hl => ?_⟩
    have s1 := same_new (o := .lst [.str "number", .str "name", .str "stamp"]) hl
    have g1 : (upd H l (.lst [.str "number", .str "name", .str "stamp"])) l = some (.lst [.str "number", .str "name", .str "stamp"]) := upd_same
    generalize upd H l (.lst [.str "number", .str "name", .str "stamp"]) = H1 at s1 g1 ⊢
    have hp1 := s1 _ _ hp
    refine ⟨l, _, rfl, .inl (SqL.of g1), rfl, rfl, _, rfl, ?_⟩
    refine iteY (by decide +kernel) ?_
    refine ⟨_, rfl, p, _, _, _, rfl, rfl, SqT.of hp1, atI_nat (j := 1) rfl, ?_⟩
    refine ⟨_, rfl, p, _, _, _, rfl, rfl, SqT.of hp1, atI_nat (j := 0) rfl, rfl, _, rfl, ?_⟩
    refine iteN (by decide +kernel) ?_
    refine ⟨_, rfl, p, _, _, _, rfl, rfl, SqT.of hp1, atI_nat (j := 0) rfl, rfl, _, rfl, ?_⟩
    refine iteN (by decide +kernel) (iteF ?_)
    refine ⟨_, rfl, p, _, _, _, rfl, rfl, SqT.of hp1, atI_nat (j := 0) rfl, rfl, _, rfl, ?_⟩
    refine iteN (by decide +kernel) (iteF ?_)
    exact rd_no_nd (e := (.st0 w, pth, o)) (O.mono (tl_same s1) (dk_same s1)) hp1 (s1 _ _ hkl) nkl (nks.same (rst_same s1)) (s1 _ _ hpl) few rfl fun u H2 H3 s2 e3 n3 => hD u H2 H3 _ _ (s1.trans s2) e3 n3
  | st1 w a =>
    refine ⟨_, rfl, p, _, _, _, rfl, rfl, SqT.of hp, atI_nat (j := 0) rfl, szl, fun l hl => ?_⟩
    have s1 := same_new (o := .lst [.str "number", .str "name", .str "stamp"]) hl
    have g1 : (upd H l (.lst [.str "number", .str "name", .str "stamp"])) l = some (.lst [.str "number", .str "name", .str "stamp"]) := upd_same
    generalize upd H l (.lst [.str "number", .str "name", .str "stamp"]) = H1 at s1 g1 ⊢
    have hp1 := s1 _ _ hp
    refine ⟨l, _, rfl, .inl (SqL.of g1), rfl, rfl, _, rfl, ?_⟩
    refine iteY (by decide +kernel) ?_
    refine ⟨_, rfl, p, _, _, _, rfl, rfl, SqT.of hp1, atI_nat (j := 1) rfl, ?_⟩
    refine ⟨_, rfl, p, _, _, _, rfl, rfl, SqT.of hp1, atI_nat (j := 0) rfl, rfl, _, rfl, ?_⟩
    refine iteN (by decide +kernel) ?_
    refine ⟨_, rfl, p, _, _, _, rfl, rfl, SqT.of hp1, atI_nat (j := 0) rfl, rfl, _, rfl, ?_⟩
    refine iteN (by decide +kernel) (iteF ?_)
    refine ⟨_, rfl, p, _, _, _, rfl, rfl, SqT.of hp1, atI_nat (j := 0) rfl, rfl, _, rfl, ?_⟩
    refine iteN (by decide +kernel) (iteF ?_)
    exact rd_no_nd (e := (.st1 w a, pth, o)) (O.mono (tl_same s1) (dk_same s1)) hp1 (s1 _ _ hkl) nkl (nks.same (rst_same s1)) (s1 _ _ hpl) few rfl fun u H2 H3 s2 e3 n3 => hD u H2 H3 _ _ (s1.trans s2) e3 n3
  | st2 w a b =>
    refine ⟨_, rfl, p, _, _, _, rfl, rfl, SqT.of hp, atI_nat (j := 0) rfl, szl, fun l hl => ?_⟩
    have s1 := same_new (o := .lst [.str "number", .str "name", .str "stamp"]) hl
    have g1 : (upd H l (.lst [.str "number", .str "name", .str "stamp"])) l = some (.lst [.str "number", .str "name", .str "stamp"]) := upd_same
    generalize upd H l (.lst [.str "number", .str "name", .str "stamp"]) = H1 at s1 g1 ⊢
    have hp1 := s1 _ _ hp
    refine ⟨l, _, rfl, .inl (SqL.of g1), rfl, rfl, _, rfl, ?_⟩
    refine iteY (by decide +kernel) ?_
    refine ⟨_, rfl, p, _, _, _, rfl, rfl, SqT.of hp1, atI_nat (j := 1) rfl, ?_⟩
    refine ⟨_, rfl, p, _, _, _, rfl, rfl, SqT.of hp1, atI_nat (j := 0) rfl, rfl, _, rfl, ?_⟩
    refine iteN (by decide +kernel) ?_
    refine ⟨_, rfl, p, _, _, _, rfl, rfl, SqT.of hp1, atI_nat (j := 0) rfl, rfl, _, rfl, ?_⟩
    refine iteN (by decide +kernel) (iteF ?_)
    refine ⟨_, rfl, p, _, _, _, rfl, rfl, SqT.of hp1, atI_nat (j := 0) rfl, rfl, _, rfl, ?_⟩
    refine iteN (by decide +kernel) (iteF ?_)
    exact rd_no_nd (e := (.st2 w a b, pth, o)) (O.mono (tl_same s1) (dk_same s1)) hp1 (s1 _ _ hkl) nkl (nks.same (rst_same s1)) (s1 _ _ hpl) few rfl fun u H2 H3 s2 e3 n3 => hD u H2 H3 _ _ (s1.trans s2) e3 n3
end S3

set_option Elab.async false
set_option linter.all false
set_option maxRecDepth 100000
set_option maxHeartbeats 4000000
namespace SW
open PySem L2
theorem EL.get {H : Hp} : ∀ {es : List En} {us : List V} {i : Nat} {e : En}, EL H es us → es[i]? = some e → ∃ u, us[i]? = some u ∧ EAt H e u
  | _, _, 0, _, .cons a r, h => by cases h; exact ⟨_, rfl, a⟩
  | _, _, i + 1, _, .cons a r, h => EL.get (i := i) r h
theorem cutN_from {us : List V} {n : Nat} (h : n ≤ us.length) : cutV us (some ((us.length : Int) - (n : Int))) none = us.drop (us.length - n) := by
  unfold cutV
  have e : HT.sIx us.length 0 (some ((us.length : Int) - (n : Int))) = us.length - n := by
    rw [show (us.length : Int) - (n : Int) = ((us.length - n : Nat) : Int) by omega, HT.sIx_nat]; omega
  rw [e, HT.sIx_none, List.take_of_length_le (by rw [List.length_drop]; omega)]
theorem cutN_to {us : List V} {n : Nat} (h : n ≤ us.length) : cutV us none (some ((us.length : Int) - (n : Int))) = us.take (us.length - n) := by
  unfold cutV
  have e : HT.sIx us.length us.length (some ((us.length : Int) - (n : Int))) = us.length - n := by
    rw [show (us.length : Int) - (n : Int) = ((us.length - n : Nat) : Int) by omega, HT.sIx_nat]; omega
  rw [e, HT.sIx_none]; simp
theorem drop_flat (c : Int) : ∀ (n : Nat) (st : List En) (i : Nat), ∃ st', (flatE c st i).drop n = flatE c st' (i + n)
  | 0, st, i => ⟨st, rfl⟩
  | n + 1, [], i => ⟨[], by simp [flatE]⟩
  | n + 1, e :: st, i => by
    obtain ⟨st', h⟩ := drop_flat c n (kidsE e (c + ((i + 1 : Nat) : Int)) ++ st) (i + 1)
    refine ⟨st', ?_⟩
    rw [← flat_kids, List.drop_succ_cons, h, show i + 1 + n = i + (n + 1) by omega]
theorem build_flat (c : Int) (src : Str) (giv : Gi) : ∀ (st : List En) (i : Nat), (build c src giv (flatE c st i) i).length = st.length
  | [], i => rfl
  | e :: st, i => by rw [flatE, build_pre, List.length_cons, List.length_cons, build_flat c src giv st]
theorem build_le (c : Int) (src : Str) (giv : Gi) : ∀ (es : List En) (i : Nat), (build c src giv es i).length ≤ es.length
  | [], _ => Nat.le_refl _
  | e :: r, i => by
    have := build_le c src giv r (i + 1)
    rw [build, List.length_cons, List.length_cons, List.length_drop]; omega
theorem build_kids {c : Int} {src : Str} {giv : Gi} {t : T} {j : Nat} {e : En} {r : List En} (h : (pre c t [] Ow.none 0).drop j = e :: r) : e.1.kids.length ≤ (build c src giv r (j + 1)).length := by
  obtain ⟨st', hs⟩ := drop_flat c j [(t, [], Ow.none)] 0
  have e0 : flatE c [(t, [], Ow.none)] 0 = pre c t [] Ow.none 0 := by simp [flatE]
  rw [e0, h, Nat.zero_add] at hs
  cases st' with
  | nil => cases hs
  | cons e' st =>
    rw [← flat_kids] at hs
    obtain ⟨h1, h2⟩ := List.cons.inj hs
    subst h1
    rw [h2, build_flat, List.length_append, kidsE_len]
    omega
end SW
namespace S3
open PySem L2 SW
variable {K : PySem.W.Frag} {vs : List V} {H H₀ : Hp} {Q : VK} {E : XK}
theorem rd_no (h : spNoted vs H Q E) : t_no K (fin Q) (start ["_law_piece", "_law_source", "_law_given", "_law_count", "_law_order", "_law_todo", "_law_part", "_law_path", "_law_own", "_law_inner", "_law_k", "_law_near", "_law_pile", "_law_many", "_law_kids", "_law_extra"] vs) H := by
  obtain ⟨t, v, src, gd, gkvs, giv, c, rfl, hd0, hs, hgd, hgiv, k⟩ := h
  refine ⟨szl, fun ol hol => ?_⟩
  have s1 := same_new (o := .lst []) hol
  have g1 : (upd H ol (.lst [])) ol = some (.lst []) := upd_same
  generalize upd H ol (.lst []) = H1 at s1 g1 ⊢
  refine ⟨_, rfl, szl, fun pp hpp => ?_⟩
  have s2 := same_new (o := .tup []) hpp
  have g2 : (upd H1 pp (.tup [])) pp = some (.tup []) := upd_same
  generalize upd H1 pp (.tup []) = H2 at s2 g2 ⊢
  refine fun od hod => ?_
  have s3 := same_new (o := .dK []) hod
  have g3 : (upd H2 od (.dK [])) od = some (.dK []) := upd_same
  generalize upd H2 od (.dK []) = H3 at s3 g3 ⊢
  refine ⟨szl, fun q hq => ?_⟩
  have s4 := same_new (o := .tup [v, .ref pp, .ref od]) hq
  have g4 : (upd H3 q (.tup [v, .ref pp, .ref od])) q = some (.tup [v, .ref pp, .ref od]) := upd_same
  generalize upd H3 q (.tup [v, .ref pp, .ref od]) = H4 at s4 g4 ⊢
  refine ⟨szl, fun tl htl => ?_⟩
  have s5 := same_new (o := .lst [.ref q]) htl
  have g5 : (upd H4 tl (.lst [.ref q])) tl = some (.lst [.ref q]) := upd_same
  have ne5 : ol ≠ tl := fun z => by subst z; rw [(s2.trans (s3.trans s4)) _ _ g1] at htl; cases htl
  generalize upd H4 tl (.lst [.ref q]) = H5 at s5 g5 ⊢
  have u4 := s4.trans s5
  have u3 := s3.trans u4
  have u2 := s2.trans u3
  have u1 := s1.trans u2
  have e0 : EAt H5 (t, [], Ow.none) (.ref q) := ⟨q, pp, od, v, [], rfl, s5 _ _ g4, hd0.mono (tl_same u1), u3 _ _ g2, u4 _ _ g3, fun w => rfl, by simp; omega, by simp; omega⟩
  have B : NoB H H5 ol tl [] [(t, [], Ow.none)] [] [.ref q] := ⟨u1, hol, (s1.trans (s2.trans (s3.trans s4))).free htl, ne5, u2 _ _ g1, g5, .nil, .snoc (us := []) .nil e0⟩
  refine rd_no_walk (es := pre c t [] Ow.none 0) B (by simp [flatE]) (by simp [szE]; omega) fun ous H6 j6 j7 j8 j9 j10 j11 s6 h6 el6 => ?_
  have hplen := pre_len c t [] Ow.none 0
  have holen := el6.length
  refine ⟨szl, fun pl hpl => ?_⟩
  have s7 := same_new (o := .lst []) hpl
  have g7 : (upd H6 pl (.lst [])) pl = some (.lst []) := upd_same
  generalize upd H6 pl (.lst []) = H7 at s7 g7 ⊢
  have b7 := s6.trans s7
  refine ⟨_, rfl, ol, _, rfl, .inl (SqL.of (s7 _ _ h6)), _, _, rfl, rfl, _, rfl, _, rfl, (ous.length : Int) - 1, -1, rfl, ⟨by omega, by omega, by omega, by omega⟩, ?_⟩
  have en : ((ous.length : Int) - 1 - -1).toNat = ous.length := by omega
  rw [en]
  refine ⟨fun i m σ H' => m = ous.length - i ∧ i ≤ ous.length ∧ Same H H' ∧ H' ol = some (.lst ous) ∧ EL H' (pre c t [] Ow.none 0) ous ∧ ∃ pl pus j6 j7 j8 j9 j10 j11 j13 j14 j15, σ = [some v, some (.str src), some (.ref gd), some (.int c), some (.ref ol), some (.ref tl), j6, j7, j8, j9, j10, j11, some (.ref pl), j13, j14, j15] ∧ H' pl = some (.lst pus) ∧ NLAt H' (build c src giv ((pre c t [] Ow.none 0).drop (ous.length - i)) (ous.length - i)).reverse pus,
    ⟨_, rfl, Nat.zero_le _, b7, s7 _ _ h6, el6.mono (tl_same s7) (dk_same s7), pl, [], _, _, _, _, _, _, _, _, _, rfl, g7, by rw [Nat.sub_zero, List.drop_of_length_le (by omega)]; exact .nil⟩, ?_⟩
  clear B e0 g5 s5 g4 s4 g3 s3 g2 s2 g1 s1 u4 u3 u2 u1 s7 g7 hpl hq hod hpp h6 el6 s6 b7 j6 j7 j8 j9 j10 j11 pl
  rintro i m σ H8 ⟨rfl, hi, s8, h8, el8, pl, pus, j6, j7, j8, j9, j10, j11, j13, j14, j15, rfl, hpl, np⟩
  by_cases hn : i = ous.length
  · refine .inl ⟨by show ous.length ≤ i; omega, ?_⟩
    rw [hn, Nat.sub_self, List.drop_zero, build_all] at np
    cases np with
    | @cons n9 u9 ns9 us9 a r =>
    cases r
    refine ⟨_, rfl, pl, _, _, _, rfl, rfl, SqL.of hpl, atI_nat (j := 0) rfl, _, rfl, _, rfl, ol, _, rfl, .inl (SqL.of h8), _, _, rfl, rfl, szl, fun r hr => ?_⟩
    have sr := same_new (o := .tup [u9, .int (c + (ous.length : Int))]) hr
    refine k r _ _ (s8.trans sr) (a.same sr) ?_
    rw [upd_same, holen, hplen]
  · have hlt : i < ous.length := by omega
    refine .inr ⟨show i < ous.length from hlt, _, fun σ2 H2 h => ⟨ous.length - (i + 1), by omega, h⟩, ?_⟩
    rintro v3 H9 ⟨rfl, rfl⟩
    obtain ⟨j, hj⟩ : ∃ j : Nat, j = ous.length - 1 - i := ⟨_, rfl⟩
    rw [show (ous.length : Int) - 1 - (i : Int) = (j : Int) by omega]
    obtain ⟨e, he⟩ : ∃ e, (pre c t [] Ow.none 0)[j]? = some e := ⟨(pre c t [] Ow.none 0)[j]'(by omega), by rw [List.getElem?_eq_getElem]⟩
    obtain ⟨u, hu, q, pp, od, pv, kvs, rfl, hq, den, hpp, hod, ow, f1, f2⟩ := el8.get he
    obtain ⟨p, ks', rfl, hp, dks⟩ := den.open
    have hdrop : (pre c t [] Ow.none 0).drop (ous.length - (i + 1)) = e :: (pre c t [] Ow.none 0).drop (ous.length - i) := by
      rw [show ous.length - (i + 1) = j by omega, show ous.length - i = j + 1 by omega]
      obtain ⟨hjk, ee⟩ := List.getElem?_eq_some_iff.mp he
      rw [List.drop_eq_getElem_cons hjk, ee]
    have hidx : ous.length - i = (ous.length - (i + 1)) + 1 := by omega
    have hji : ous.length - (i + 1) = j := by omega
    rw [hidx, hji] at np hdrop
    have hkn := build_kids (src := src) (giv := giv) hdrop
    generalize hS : build c src giv ((pre c t [] Ow.none 0).drop (j + 1)) (j + 1) = S at np hkn
    have hpl9 := np.length
    rw [List.length_reverse] at hpl9
    have hSl : S.length ≤ 5000 := by
      have := build_le c src giv ((pre c t [] Ow.none 0).drop (j + 1)) (j + 1)
      rw [hS, List.length_drop] at this
      omega
    refine ⟨_, rfl, _, rfl, ol, ous, _, _, rfl, rfl, SqL.of h8, atI_nat hu, q, _, rfl, SqT.of hq, rfl, _, _, rfl, _, _, rfl, _, _, rfl, rfl, ?_⟩
    refine ⟨_, rfl, e.1, .ref p, rfl, den, fun il us Ha sa na ha da => ⟨il, us, rfl, .inl (SqL.of ha), ?_⟩⟩
    have hml := da.length
    have hmn : us.length ≤ pus.length := by omega
    have hpa := sa _ _ hpl
    refine ⟨_, rfl, _, rfl, pl, pus, rfl, .inl (SqL.of hpa), _, rfl, _, _, rfl, rfl, _, rfl, pl, pus, rfl, SqL.of hpa, fun sl hsl => ?_⟩
    rw [cutN_from hmn]
    have sb := same_new (o := .lst (pus.drop (pus.length - us.length))) hsl
    have gb : (upd Ha sl (.lst (pus.drop (pus.length - us.length)))) sl = some (.lst (pus.drop (pus.length - us.length))) := upd_same
    generalize upd Ha sl (.lst (pus.drop (pus.length - us.length))) = Hb at sb gb ⊢
    refine ⟨sl, _, rfl, SqL.of gb, fun kl hkl => ?_⟩
    have sc := same_new (o := .lst (pus.drop (pus.length - us.length)).reverse) hkl
    have gc : (upd Hb kl (.lst (pus.drop (pus.length - us.length)).reverse)) kl = some (.lst (pus.drop (pus.length - us.length)).reverse) := upd_same
    generalize upd Hb kl (.lst (pus.drop (pus.length - us.length)).reverse) = Hc at sc gc ⊢
    have sac := sa.trans (sb.trans sc)
    have hpc := sac _ _ hpl
    refine ⟨_, rfl, _, rfl, pl, pus, rfl, .inl (SqL.of hpc), _, rfl, _, _, rfl, rfl, _, rfl, pl, pus, rfl, SqL.of hpc, fun pn hpn => ?_⟩
    rw [cutN_to hmn]
    have sd := same_new (o := .lst (pus.take (pus.length - us.length))) hpn
    have gd' : (upd Hc pn (.lst (pus.take (pus.length - us.length)))) pn = some (.lst (pus.take (pus.length - us.length))) := upd_same
    generalize upd Hc pn (.lst (pus.take (pus.length - us.length))) = Hd at sd gd' ⊢
    have sad := sac.trans sd
    have r1 : Same Hc (rst pn Hd) := rst_new sd hpn
    have nS : NLAt H9 S pus.reverse := by have := np.reverse; rw [List.reverse_reverse] at this; exact this
    have nk : NLAt (rst pn Hd) (S.take us.length) (pus.drop (pus.length - us.length)).reverse := by
      have h1 := (nS.take us.length).same (sac.trans r1)
      rw [List.take_reverse] at h1
      exact h1
    have nkl : kl ≠ pn := ne_of_none gc hpn
    refine rd_no_ext (t := e.1) (pth := e.2.1) (o := e.2.2) (i := j) (ks := S.take us.length) (giv := giv) (gkvs := gkvs) ⟨den.mono (tl_same sad), sad _ _ hpp, sad _ _ hod, ow, f1, f2⟩ (sad _ _ hp) (sd _ _ gc) nkl nk gd' (by rw [List.length_take]; omega) ((s8.trans sad) _ _ hgd) (hgiv.same (s8.trans (sac.trans r1))) fun w Hx Hy jx jy sx ey nx => ?_
    have r2 : Same Hc (rst pn Hx) := rst_new (sd.trans sx) hpn
    have r3 : Same Hc Hy := by rw [ey]; exact r2.trans rst_le
    have s9y : Same H9 Hy := sac.trans r3
    refine ⟨rfl, by omega, s8.trans s9y, s9y _ _ h8, el8.mono (tl_same s9y) (dk_same s9y), pn, pus.take (pus.length - us.length) ++ [w], _, _, _, _, _, _, _, _, _, rfl, by rw [ey, upd_same], ?_⟩
    rw [hji, hdrop]
    show NLAt Hy (build c src giv (e :: _) j).reverse _
    rw [build, hS, ← hml, List.reverse_cons]
    refine NLAt.append ?_ (.cons (nx.same (by rw [ey]; exact rst_le)) .nil)
    have h2 := (np.take (pus.length - us.length)).same s9y
    have e2 : S.reverse.take (pus.length - us.length) = (S.drop us.length).reverse := by
      rw [List.take_reverse, hpl9, show S.length - (S.length - us.length) = us.length by omega]
    rw [e2] at h2
    exact h2
end S3

set_option Elab.async false
set_option linter.all false
set_option maxRecDepth 100000
set_option maxHeartbeats 4000000
namespace SW
open PySem L2
/-! ### a piece goes with a note -/
abbrev DK := List (Key × V)
def keyOf : V → Key
  | .int i => .inl i
  | .str s => .inr s
  | _ => .inl 0
def hereOk (t : T) (x : V) (fo ba : DK) : Prop := match t with
  | .num m => V.int m = x
  | .name w => (valV fo (.inr w : Key)).getD (.str w) = x ∧ (valV ba (keyOf x)).getD (.str w) = .str w
  | _ => True
def letF (t : T) (x : V) (fo : DK) (j : Nat) : DK := match t, j with
  | .lt w _ _, 1 => putK fo (.inr w : Key) x
  | _, _ => fo
def letB (t : T) (x : V) (ba : DK) (j : Nat) : DK := match t, j with
  | .lt w _ _, 1 => putK ba (keyOf x) (.str w)
  | _, _ => ba
inductive Goes : T → NT → DK → DK → Prop where
  | mk {t : T} {k : Str} {x : V} {src : Str} {path : List Int} {ks : List NT} {fo ba : DK} : kind t = k → hereOk t x fo ba → t.kids.length = ks.length → (∀ (j : Nat) a n, t.kids[j]? = some a → ks[j]? = some n → Goes a n (letF t x fo j) (letB t x ba j)) → Goes t (.mk k x src path ks) fo ba
theorem Goes.inv {t : T} {k : Str} {x : V} {src : Str} {path : List Int} {ks : List NT} {fo ba : DK} : Goes t (.mk k x src path ks) fo ba ↔ kind t = k ∧ hereOk t x fo ba ∧ t.kids.length = ks.length ∧ ∀ (j : Nat) a n, t.kids[j]? = some a → ks[j]? = some n → Goes a n (letF t x fo j) (letB t x ba j) := by
  constructor
  · intro h
    cases h with
    | mk a b c d => exact ⟨a, b, c, d⟩
  · rintro ⟨a, b, c, d⟩
    exact .mk a b c d
/-- what notes look like -/
inductive NWf : NT → Prop where
  | mk {k : Str} {x : V} {src : Str} {path : List Int} {ks : List NT} : (x = .non ∨ (∃ i, x = .int i) ∨ ∃ s, x = .str s) → (k = "name" → x ≠ .non) → (k = "let" → ∃ i, x = .int i) → (∀ n ∈ ks, NWf n) → NWf (.mk k x src path ks)
/-- the numbers and words in the two dicts -/
def FoOk (fo : DK) : Prop := ∀ (q : Key) v, valV fo q = some v → ∃ i, v = .int i
def BaOk (ba : DK) : Prop := ∀ (q : Key) v, valV ba q = some v → ∃ s, v = .str s
theorem FoOk.put {fo : DK} (h : FoOk fo) (q : Key) (i : Int) : FoOk (putK fo q (.int i)) := fun q' v e => by
  rw [valV_put] at e
  by_cases z : q' = q
  · rw [if_pos z] at e; cases e; exact ⟨i, rfl⟩
  · rw [if_neg z] at e; exact h q' v e
theorem BaOk.put {ba : DK} (h : BaOk ba) (q : Key) (s : Str) : BaOk (putK ba q (.str s)) := fun q' v e => by
  rw [valV_put] at e
  by_cases z : q' = q
  · rw [if_pos z] at e; cases e; exact ⟨s, rfl⟩
  · rw [if_neg z] at e; exact h q' v e
abbrev G4 := T × NT × DK × DK
def G4.ok (g : G4) : Prop := Goes g.1 g.2.1 g.2.2.1 g.2.2.2
/-- a pair that waits; what is walked stands in H₀ -/
def GAt (H₀ H : Hp) (g : G4) (w : V) : Prop := ∃ (q fd bd : Addr) (v u : V), w = .ref q ∧ H q = some (.tup [v, u, .ref fd, .ref bd]) ∧ Den H g.1 v ∧ NAt H₀ g.2.1 u ∧ H fd = some (.dK g.2.2.1) ∧ H bd = some (.dK g.2.2.2) ∧ NWf g.2.1 ∧ FoOk g.2.2.1 ∧ BaOk g.2.2.2 ∧ g.2.2.1.length + g.1.size ≤ 1000 ∧ g.2.2.2.length + g.1.size ≤ 1000
inductive GL (H₀ H : Hp) : List G4 → List V → Prop where
  | nil : GL H₀ H [] []
  | snoc {g : G4} {u : V} {gs : List G4} {us : List V} : GL H₀ H gs us → GAt H₀ H g u → GL H₀ H (g :: gs) (us ++ [u])
theorem GAt.mono {H₀ H H' : Hp} {g : G4} {u : V} (m : TupLe H H') (k : DkLe H H') (h : GAt H₀ H g u) : GAt H₀ H' g u := by
  obtain ⟨q, fd, bd, v, u, e, h1, h2, h3, h4, h5, r⟩ := h
  exact ⟨q, fd, bd, v, u, e, m _ _ h1, h2.mono m, h3, k _ _ h4, k _ _ h5, r⟩
theorem GL.mono {H₀ H H' : Hp} (m : TupLe H H') (k : DkLe H H') : ∀ {gs : List G4} {us : List V}, GL H₀ H gs us → GL H₀ H' gs us
  | _, _, .nil => .nil
  | _, _, .snoc r a => .snoc (GL.mono m k r) (a.mono m k)
theorem GL.length {H₀ H : Hp} : ∀ {gs : List G4} {us : List V}, GL H₀ H gs us → us.length = gs.length
  | _, _, .nil => rfl
  | _, _, .snoc r _ => by rw [List.length_append, List.length_cons, GL.length r]; rfl
def szG (gs : List G4) : Nat := (gs.map fun g => g.1.size).sum
theorem szG_cons (g : G4) (gs : List G4) : szG (g :: gs) = g.1.size + szG gs := by simp [szG]
def spGoes : Sp := fun vs H Q _ => ∃ (t : T) (v u : V) (n : NT), vs = [v, u] ∧ Den H t v ∧ NAt H n u ∧ NWf n ∧ t.size ≤ 900 ∧ ∀ (b : Bool) (H' : Hp), Same H H' → (b = true ↔ Goes t n [] []) → Q (.bl b) H'
end SW
namespace S3
open PySem L2 SW
-- ['_law_found', '_law_tree', '_law_todo', '_law_part', '_law_node', '_law_forth', '_law_back', '_law_inner', '_law_k', '_law_near', '_law_far'] ['len', 'range', 'dict']
def t_gw_1 (K : PySem.W.Frag) : TS := (tRet (tC (.bl false)))
def t_gw_2 (K : PySem.W.Frag) : TS := (tIfS (tTest (tOp rNe (tOp (rIxT K) (tVar 3) (tC (.int 0))) (tOp (rIxT K) (tVar 4) (tC (.int 0))))) (t_gw_1 K) tNext)
def t_gw_3 (K : PySem.W.Frag) : TS := (tRet (tC (.bl false)))
def t_gw_4 (K : PySem.W.Frag) : TS := (tIfS (tAnd (tTest (tOp rEq (tOp (rIxT K) (tVar 3) (tC (.int 0))) (tC (.str "number")))) (tTest (tOp rNe (tOp (rIxT K) (tVar 3) (tC (.int 1))) (tOp (rIxT K) (tVar 4) (tC (.int 1)))))) (t_gw_3 K) tNext)
def t_gw_5 (K : PySem.W.Frag) : TS := (tRet (tC (.bl false)))
def t_gw_6 (K : PySem.W.Frag) : TS := (tIfS (tTest (tOp rNe (tDGet2 (tVar 5) (tOp (rIxT K) (tVar 3) (tC (.int 1))) (tOp (rIxT K) (tVar 3) (tC (.int 1)))) (tOp (rIxT K) (tVar 4) (tC (.int 1))))) (t_gw_5 K) tNext)
def t_gw_7 (K : PySem.W.Frag) : TS := (tRet (tC (.bl false)))
def t_gw_8 (K : PySem.W.Frag) : TS := (tIfS (tTest (tOp rNe (tDGet2 (tVar 6) (tOp (rIxT K) (tVar 4) (tC (.int 1))) (tOp (rIxT K) (tVar 3) (tC (.int 1)))) (tOp (rIxT K) (tVar 3) (tC (.int 1))))) (t_gw_7 K) tNext)
def t_gw_9 (K : PySem.W.Frag) : TS := (tSeq (t_gw_6 K) (t_gw_8 K))
def t_gw_10 (K : PySem.W.Frag) : TS := (tIfS (tTest (tOp rEq (tOp (rIxT K) (tVar 3) (tC (.int 0))) (tC (.str "name")))) (t_gw_9 K) tNext)
def t_gw_11 (K : PySem.W.Frag) : TS := (tRet (tC (.bl false)))
def t_gw_12 (K : PySem.W.Frag) : TS := (tIfS (tTest (tOp rNe (tCB (cLen K) (tCons (tVar 7) tNil)) (tCB (cLen K) (tCons (tOp (rIxT K) (tVar 4) (tC (.int 3))) tNil)))) (t_gw_11 K) tNext)
def t_gw_13 (K : PySem.W.Frag) : TS := (tSeq (tAsg (tCB cDictD (tCons (tVar 5) tNil)) (gName 9)) (tSeq (sDPut (tVar 9) (tOp (rIxT K) (tVar 3) (tC (.int 1))) (tOp (rIxT K) (tVar 4) (tC (.int 1)))) (tSeq (tAsg (tCB cDictD (tCons (tVar 6) tNil)) (gName 10)) (sDPut (tVar 10) (tOp (rIxT K) (tVar 4) (tC (.int 1))) (tOp (rIxT K) (tVar 3) (tC (.int 1)))))))
def t_gw_14 (K : PySem.W.Frag) : TS := (tIfS (tAnd (tTest (tOp rEq (tOp (rIxT K) (tVar 3) (tC (.int 0))) (tC (.str "let")))) (tTest (tOp rEq (tVar 8) (tC (.int 1))))) (t_gw_13 K) tNext)
def t_gw_15 (K : PySem.W.Frag) : TS := (tSeq (tAsg (tVar 5) (gName 9)) (tSeq (tAsg (tVar 6) (gName 10)) (tSeq (t_gw_14 K) (tDrop (tBM K "list" rAppend (tVar 2) (tCons (tTup (tCons (tOp (rIxL K) (tVar 7) (tVar 8)) (tCons (tOp (rIxL K) (tOp (rIxT K) (tVar 4) (tC (.int 3))) (tVar 8)) (tCons (tVar 9) (tCons (tVar 10) tNil))))) tNil))))))
def t_gw_16 (K : PySem.W.Frag) : TS := (tSeq (tAsg (tBM0 K "list" rPop (tVar 2)) (gTup K 4 (gCons (gName 3) (gCons (gName 4) (gCons (gName 5) (gCons (gName 6) gNil)))))) (tSeq (t_gw_2 K) (tSeq (t_gw_4 K) (tSeq (t_gw_10 K) (tSeq (tAsg (tCall spInside [] E0 (tCons (tVar 3) tNil)) (gName 7)) (tSeq (t_gw_12 K) (tFor (iRng1 (tCons (tCB (cLen K) (tCons (tVar 7) tNil)) tNil)) (gName 8) (t_gw_15 K))))))))
def t_gw (K : PySem.W.Frag) : TS := (tSeq (tAsg (tLst (tCons (tTup (tCons (tVar 0) (tCons (tVar 1) (tCons tDNewK (tCons tDNewK tNil))))) tNil)) (gName 2)) (tSeq (tWhile (tTest (tOp (rNeNil K) (tVar 2) (tLst tNil))) (t_gw_16 K)) (tRet (tC (.bl true)))))
end S3

set_option Elab.async false
set_option linter.all false
set_option maxRecDepth 100000
set_option maxHeartbeats 4000000
namespace SW
open PySem L2
theorem NLAt.get {H : Hp} : ∀ {ns : List NT} {us : List V} {i : Nat} {n : NT}, NLAt H ns us → ns[i]? = some n → ∃ u, us[i]? = some u ∧ NAt H n u
  | _, _, 0, _, .cons a r, h => by cases h; exact ⟨_, rfl, a⟩
  | _, _, i + 1, _, .cons a r, h => NLAt.get (i := i) r h
def kidOk (t : T) (x : V) (fo ba : DK) (ks : List NT) (j : Nat) : Prop := ∀ a n, t.kids[j]? = some a → ks[j]? = some n → Goes a n (letF t x fo j) (letB t x ba j)
theorem letF_no {t : T} {x : V} {fo : DK} {j : Nat} (h : ∀ w a b, t = .lt w a b → j ≠ 1) : letF t x fo j = fo := by
  unfold letF
  split
  · exact absurd rfl (h _ _ _ rfl)
  · rfl
theorem letB_no {t : T} {x : V} {fo : DK} {j : Nat} (h : ∀ w a b, t = .lt w a b → j ≠ 1) : letB t x fo j = fo := by
  unfold letB
  split
  · exact absurd rfl (h _ _ _ rfl)
  · rfl
/-- while the kids of one pair are pushed -/
structure GwP (H₀ H : Hp) (p : Addr) (pt : List V) (tl fd bd il : Addr) (t : T) (x : V) (fo ba : DK) (ks : List NT) (gs : List G4) (us us2 : List V) (i : Nat) : Prop where
  same : Same H₀ H
  p_ : H p = some (.tup pt)
  f_ : H fd = some (.dK fo)
  b_ : H bd = some (.dK ba)
  i_ : H il = some (.lst us2)
  den : DenL H t.kids us2
  rest : ∃ us' gs', H tl = some (.lst us') ∧ GL H₀ H gs' us' ∧ us'.length = us.length + i ∧ szG gs' = szG gs + sizes (t.kids.take i) ∧ ((∀ g ∈ gs', g.ok) ↔ (∀ j, j < i → kidOk t x fo ba ks j) ∧ ∀ g ∈ gs, g.ok)
end SW
namespace S3
open PySem L2 SW
variable {K : PySem.W.Frag} {vs : List V} {H H₀ : Hp} {Q : VK} {E : XK}
theorem rd_gw_kids {v0 u0 : Option V} {tl p np fd bd il sp kl : Addr} {t : T} {k : Str} {x : V} {fo ba : DK} {ks : List NT} {kk nus us us2 : List V} {gs : List G4} {D : Ends} {j8 j9 j10 : Option V}
    (P : GwP H₀ H p (hd t ++ kk) tl fd bd il t x fo ba ks gs us us2 0) (new : H₀ tl = none) (nil : il ≠ tl) (hn : H₀ np = some (.tup [.str k, x, .ref sp, .ref kl])) (hkl : H₀ kl = some (.lst nus)) (nn : NLAt H₀ ks nus) (hlen : t.kids.length = ks.length)
    (wf : ∀ n ∈ ks, NWf n) (wl : k = "let" → ∃ i, x = .int i) (hk : kind t = k) (fk : FoOk fo) (bk : BaOk ba) (f1 : fo.length + t.size ≤ 1000) (f2 : ba.length + t.size ≤ 1000) (few : us.length ≤ 4000)
    (hD : ∀ (H' : Hp) (j8 j9 j10 : Option V), GwP H₀ H' p (hd t ++ kk) tl fd bd il t x fo ba ks gs us us2 t.kids.length → D.nx [v0, u0, some (.ref tl), some (.ref p), some (.ref np), some (.ref fd), some (.ref bd), some (.ref il), j8, j9, j10] H') :
    (tFor (iRng1 (tCons (tCB (cLen K) (tCons (tVar 7) tNil)) tNil)) (gName 8) (t_gw_15 K)) D [v0, u0, some (.ref tl), some (.ref p), some (.ref np), some (.ref fd), some (.ref bd), some (.ref il), j8, j9, j10] H := by
  have hl2 := P.den.length
  have hk3 : t.kids.length ≤ 3 := by cases t <;> simp [T.kids]
  refine ⟨_, rfl, il, _, rfl, .inl (SqL.of P.i_), (us2.length : Int), rfl, by omega, by omega, ?_⟩
  rw [Int.toNat_natCast]
  refine for_range (fun i σ H' => (∃ j8 j9 j10, σ = [v0, u0, some (.ref tl), some (.ref p), some (.ref np), some (.ref fd), some (.ref bd), some (.ref il), j8, j9, j10]) ∧ GwP H₀ H' p (hd t ++ kk) tl fd bd il t x fo ba ks gs us us2 i) ⟨⟨_, _, _, rfl⟩, P⟩ ?_ ?_
  · rintro i σ H1 hi ⟨⟨j8, j9, j10, rfl⟩, P1⟩
    rw [Int.zero_add]
    obtain ⟨us', gs', htl, gl, hlu, hsz, hok⟩ := P1.rest
    obtain ⟨x1, hx1⟩ : ∃ x1, us2[i]? = some x1 := ⟨us2[i], by rw [List.getElem?_eq_getElem]⟩
    obtain ⟨a, ha, da⟩ := denL_at P1.den hx1
    obtain ⟨n, hnk⟩ : ∃ n, ks[i]? = some n := ⟨ks[i]'(by omega), by rw [List.getElem?_eq_getElem]⟩
    obtain ⟨y1, hy1, na⟩ := nn.get hnk
    have hsa := kid_size (List.mem_of_getElem? ha)
    have app : ∀ (nf nb : Addr) (H2 : Hp), Same H1 H2 → H2 nf = some (.dK (letF t x fo i)) → H2 nb = some (.dK (letB t x ba i)) → FoOk (letF t x fo i) → BaOk (letB t x ba i) → (letF t x fo i).length + a.size ≤ 1000 → (letB t x ba i).length + a.size ≤ 1000 →
        (tDrop (tBM K "list" rAppend (tVar 2) (tCons (tTup (tCons (tOp (rIxL K) (tVar 7) (tVar 8)) (tCons (tOp (rIxL K) (tOp (rIxT K) (tVar 4) (tC (.int 3))) (tVar 8)) (tCons (tVar 9) (tCons (tVar 10) tNil))))) tNil))) { D with nx := fun σ H' => (∃ j8 j9 j10, σ = [v0, u0, some (.ref tl), some (.ref p), some (.ref np), some (.ref fd), some (.ref bd), some (.ref il), j8, j9, j10]) ∧ GwP H₀ H' p (hd t ++ kk) tl fd bd il t x fo ba ks gs us us2 (i + 1), ct := fun σ H' => (∃ j8 j9 j10, σ = [v0, u0, some (.ref tl), some (.ref p), some (.ref np), some (.ref fd), some (.ref bd), some (.ref il), j8, j9, j10]) ∧ GwP H₀ H' p (hd t ++ kk) tl fd bd il t x fo ba ks gs us us2 (i + 1), bk := D.nx }
          [v0, u0, some (.ref tl), some (.ref p), some (.ref np), some (.ref fd), some (.ref bd), some (.ref il), some (.int i), some (.ref nf), some (.ref nb)] H2 := by
      intro nf nb H2 s2 hnf hnb fk' bk' g1 g2
      have b2 := P1.same.trans s2
      refine ⟨_, rfl, .inl ⟨rfl, _, SqL.of (s2 _ _ htl)⟩, _, rfl, _, rfl, il, _, _, x1, rfl, rfl, SqL.of (s2 _ _ P1.i_), atI_nat hx1, _, rfl, np, _, _, _, rfl, rfl, SqT.of (b2 _ _ hn), atI_nat (j := 3) rfl, _, rfl, kl, _, _, y1, rfl, rfl, SqL.of (b2 _ _ hkl), atI_nat hy1, _, rfl, _, rfl, szl, fun q hq => ?_⟩
      have s3 := same_new (o := .tup [x1, y1, .ref nf, .ref nb]) hq
      have g3 : (upd H2 q (.tup [x1, y1, .ref nf, .ref nb])) q = some (.tup [x1, y1, .ref nf, .ref nb]) := upd_same
      generalize upd H2 q (.tup [x1, y1, .ref nf, .ref nb]) = H3 at s3 g3 ⊢
      have s23 := s2.trans s3
      have ht3 := s23 _ _ htl
      refine ⟨tl, us', _, rfl, rfl, ht3, by rw [sizeLine_eq]; omega, ⟨_, _, _, rfl⟩, ?_⟩
      have m := tl_lst (o := .lst (us' ++ [.ref q])) ht3
      have kk' := dk_lst (o := .lst (us' ++ [.ref q])) ht3
      have A3 : GAt H₀ H3 (a, n, letF t x fo i, letB t x ba i) (.ref q) := ⟨q, nf, nb, x1, y1, rfl, g3, da.mono (tl_same s23), na, s3 _ _ hnf, s3 _ _ hnb, wf n (List.mem_of_getElem? hnk), fk', bk', g1, g2⟩
      refine ⟨same_old (P1.same.trans s23) new, m _ _ (s23 _ _ P1.p_), kk' _ _ (s23 _ _ P1.f_), kk' _ _ (s23 _ _ P1.b_), by rw [upd_ne nil]; exact s23 _ _ P1.i_, (P1.den.mono (tl_same s23)).mono m, us' ++ [.ref q], (a, n, letF t x fo i, letB t x ba i) :: gs', upd_same, .snoc ((gl.mono (tl_same s23) (dk_same s23)).mono m kk') (A3.mono m kk'), by simp [hlu]; omega, ?_, ?_⟩
      · rw [szG_cons, hsz, List.take_add_one, ha]
        simp only [Option.toList, sizes_append, sizes_cons, sizes_nil]; omega
      · have h0 : (∀ g ∈ (a, n, letF t x fo i, letB t x ba i) :: gs', G4.ok g) ↔ Goes a n (letF t x fo i) (letB t x ba i) ∧ ∀ g ∈ gs', g.ok := by
          constructor
          · exact fun h => ⟨h _ (.head _), fun g hg => h g (.tail _ hg)⟩
          · rintro ⟨h1, h2⟩ g hg
            rcases List.mem_cons.mp hg with rfl | hg
            · exact h1
            · exact h2 g hg
        rw [h0, hok]
        constructor
        · rintro ⟨h1, h2, h3⟩
          refine ⟨fun j hj => ?_, h3⟩
          rcases Nat.lt_succ_iff_lt_or_eq.mp hj with z | rfl
          · exact h2 j z
          · intro a' n' e1 e2
            rw [ha] at e1; rw [hnk] at e2; cases e1; cases e2
            exact h1
        · rintro ⟨h2, h3⟩
          exact ⟨h2 i (Nat.lt_succ_self _) a n ha hnk, fun j hj => h2 j (Nat.lt_succ_of_lt hj), h3⟩
    have plain : (∀ w a b, t = .lt w a b → i ≠ 1) → _ := fun hno => app fd bd H1 (fun _ _ z => z) (by rw [letF_no hno]; exact P1.f_) (by rw [letB_no hno]; exact P1.b_) (by rw [letF_no hno]; exact fk) (by rw [letB_no hno]; exact bk) (by rw [letF_no hno]; omega) (by rw [letB_no hno]; omega)
    have hp1 := P1.p_
    refine ⟨_, rfl, _, rfl, ?_⟩
    refine ⟨_, rfl, p, _, _, _, rfl, rfl, SqT.of hp1, hd_kind t kk, rfl, _, rfl, ?_⟩
    refine ite2 (fun hlet => ?_) (fun hlet => ?_)
    · obtain ⟨w, b1, b2, rfl⟩ := kind_let (V.str.inj (of_decide_eq_true hlet))
      refine ⟨_, rfl, rfl, _, rfl, ?_⟩
      refine ite2 (fun hj1 => ?_) (fun hj1 => ?_)
      · have hi1 : i = 1 := by have := V.int.inj (of_decide_eq_true hj1); omega
        subst hi1
        obtain ⟨id, rfl⟩ := wl hk.symm
        have hn1 := P1.same _ _ hn
        refine ⟨_, rfl, fd, fo, rfl, .inl P1.f_, fun nf hnf => ?_⟩
        have s2 := same_new (o := .dK fo) hnf
        have g2 : (upd H1 nf (.dK fo)) nf = some (.dK fo) := upd_same
        generalize upd H1 nf (.dK fo) = H2 at s2 g2 ⊢
        refine ⟨_, rfl, np, _, _, _, rfl, rfl, SqT.of (s2 _ _ hn1), atI_nat (j := 1) rfl, _, rfl, _, rfl, p, _, _, _, rfl, rfl, SqT.of (s2 _ _ hp1), atI_nat (j := 1) rfl, nf, _, rfl, DPut.k (k := .inr w) g2 (by rw [sizeLine_eq]; omega), ?_⟩
        have s3 : Same H1 (upd H2 nf (.dK (putK fo (.inr w : Key) (.int id)))) := same_old s2 hnf
        have g3 : (upd H2 nf (.dK (putK fo (.inr w : Key) (.int id)))) nf = some (.dK (putK fo (.inr w : Key) (.int id))) := upd_same
        generalize upd H2 nf (.dK (putK fo (.inr w : Key) (.int id))) = H3 at s3 g3 ⊢
        refine ⟨_, rfl, bd, ba, rfl, .inl (s3 _ _ P1.b_), fun nb hnb => ?_⟩
        have s4 := same_new (o := .dK ba) hnb
        have g4 : (upd H3 nb (.dK ba)) nb = some (.dK ba) := upd_same
        generalize upd H3 nb (.dK ba) = H4 at s4 g4 ⊢
        have s34 := s3.trans s4
        refine ⟨_, rfl, p, _, _, _, rfl, rfl, SqT.of (s34 _ _ hp1), atI_nat (j := 1) rfl, _, rfl, _, rfl, np, _, _, _, rfl, rfl, SqT.of (s34 _ _ hn1), atI_nat (j := 1) rfl, nb, _, rfl, DPut.k (k := .inl id) g4 (by rw [sizeLine_eq]; omega), ?_⟩
        have s5 : Same H3 (upd H4 nb (.dK (putK ba (.inl id : Key) (.str w)))) := same_old s4 hnb
        have l1 := length_putK fo (.inr w : Key) (.int id)
        have l2 := length_putK ba (.inl id : Key) (.str w)
        refine app nf nb _ (s3.trans s5) (s5 _ _ g3) upd_same (fk.put _ _) (bk.put _ _) ?_ ?_
        · show (putK fo (.inr w : Key) (.int id)).length + a.size ≤ 1000
          omega
        · show (putK ba (.inl id : Key) (.str w)).length + a.size ≤ 1000
          omega
      · exact plain fun _ _ _ _ z => hj1 (by rw [z]; rfl)
    · refine iteF (plain fun w b1 b2 e z => ?_)
      exact hlet (by rw [e]; exact decide_eq_true rfl)
  · rintro σ H1 ⟨⟨j8, j9, j10, rfl⟩, P1⟩
    rw [hl2] at P1
    exact hD H1 _ _ _ P1
end S3

set_option Elab.async false
set_option linter.all false
set_option maxRecDepth 100000
set_option maxHeartbeats 4000000
namespace SW
open PySem L2
theorem kind_num {t : T} (h : kind t = "number") : ∃ m, t = .num m := by
  cases t with
  | num m => exact ⟨m, rfl⟩
  | _ => exact absurd h (by simp only [kind]; decide +kernel)
theorem three_ways (t : T) : (∃ m, t = .num m) ∨ (∃ w, t = .name w) ∨ (kind t ≠ "number" ∧ kind t ≠ "name" ∧ ∀ x fo ba, hereOk t x fo ba) := by
  cases t with
  | num m => exact .inl ⟨m, rfl⟩
  | name w => exact .inr (.inl ⟨w, rfl⟩)
  | _ => exact .inr (.inr ⟨by simp only [kind]; decide +kernel, by simp only [kind]; decide +kernel, fun _ _ _ => trivial⟩)
theorem szG_len : ∀ gs : List G4, gs.length ≤ szG gs
  | [] => Nat.le_refl _
  | g :: r => by have := szG_len r; have := g.1.size_pos; rw [szG_cons, List.length_cons]; omega
theorem rNe_if {x y : V} {H : Hp} {Q : VK} (h : scal x y = true) (h1 : x ≠ y → Q (.bl true) H) (h2 : x = y → Q (.bl false) H) : rNe x y H Q := by
  refine ⟨h, ?_⟩
  by_cases e : x = y
  · rw [decide_eq_true e]; exact h2 e
  · rw [decide_eq_false e]; exact h1 e
end SW
namespace S3
open PySem L2 SW
variable {K : PySem.W.Frag} {vs : List V} {H H₀ : Hp} {Q : VK} {E : XK}
theorem rd_gw (h : spGoes vs H Q E) : t_gw K (fin Q) (start ["_law_found", "_law_tree", "_law_todo", "_law_part", "_law_node", "_law_forth", "_law_back", "_law_inner", "_law_k", "_law_near", "_law_far"] vs) H := by
  obtain ⟨t, v, u, n, rfl, hd0, hn0, hwf, hs, k⟩ := h
  refine ⟨_, rfl, _, rfl, fun fd hfd => ?_⟩
  have s1 := same_new (o := .dK []) hfd
  have g1 : (upd H fd (.dK [])) fd = some (.dK []) := upd_same
  generalize upd H fd (.dK []) = H1 at s1 g1 ⊢
  refine fun bd hbd => ?_
  have s2 := same_new (o := .dK []) hbd
  have g2 : (upd H1 bd (.dK [])) bd = some (.dK []) := upd_same
  generalize upd H1 bd (.dK []) = H2 at s2 g2 ⊢
  refine ⟨szl, fun q hq => ?_⟩
  have s3 := same_new (o := .tup [v, u, .ref fd, .ref bd]) hq
  have g3 : (upd H2 q (.tup [v, u, .ref fd, .ref bd])) q = some (.tup [v, u, .ref fd, .ref bd]) := upd_same
  generalize upd H2 q (.tup [v, u, .ref fd, .ref bd]) = H3 at s3 g3 ⊢
  refine ⟨szl, fun tl htl => ?_⟩
  have s4 := same_new (o := .lst [.ref q]) htl
  have g4 : (upd H3 tl (.lst [.ref q])) tl = some (.lst [.ref q]) := upd_same
  have new : H tl = none := (s1.trans (s2.trans s3)).free htl
  generalize upd H3 tl (.lst [.ref q]) = H4 at s4 g4 ⊢
  have u3 := s3.trans s4
  have u2 := s2.trans u3
  have u1 := s1.trans u2
  have nov : ∀ (q : Key) (v : V), valV ([] : DK) q = some v → False := fun q v e => by cases e
  refine ⟨fun m σ H' => ∃ gs us j3 j4 j5 j6 j7 j8 j9 j10, σ = [some v, some u, some (.ref tl), j3, j4, j5, j6, j7, j8, j9, j10] ∧ Same H H' ∧ H' tl = some (.lst us) ∧ GL H H' gs us ∧ ((∀ g ∈ gs, g.ok) ↔ Goes t n [] []) ∧ szG gs ≤ 900 ∧ m = szG gs,
    ⟨_, [(t, n, [], [])], [.ref q], none, none, none, none, none, none, none, none, rfl, u1, g4, .snoc (us := []) .nil ⟨q, fd, bd, v, u, rfl, s4 _ _ g3, hd0.mono (tl_same u1), hn0, u2 _ _ g1, u3 _ _ g2, hwf, fun q v e => (nov q v e).elim, fun q v e => (nov q v e).elim, by simp; omega, by simp; omega⟩, ?_, by simp [szG]; omega, rfl⟩, ?_⟩
  · constructor
    · exact fun h => h _ (.head _)
    · intro h g hg
      obtain rfl : g = (t, n, [], []) := by simpa using hg
      exact h
  clear s1 g1 s2 g2 s3 g3 s4 g4 u1 u2 u3 hfd hbd hq htl nov
  rintro m σ H5 ⟨gs, us, j3, j4, j5, j6, j7, j8, j9, j10, rfl, s5, t5, gl, iff, hsz, rfl⟩
  refine ⟨_, rfl, szl, fun e0 he0 => ?_⟩
  have s6 := same_new (o := .lst []) he0
  have g6 : (upd H5 e0 (.lst [])) e0 = some (.lst []) := upd_same
  have gl6 := gl.mono (tl_same s6) (dk_same s6)
  have t6 := s6 _ _ t5
  have b6 := s5.trans s6
  generalize upd H5 e0 (.lst []) = H6 at g6 gl6 t6 b6 ⊢
  clear s6 gl s5 t5 he0
  refine ⟨tl, e0, us, rfl, rfl, SqL.of t6, SqL.of g6, _, rfl, ?_⟩
  cases gl6 with
  | nil =>
    refine iteN rfl (k true _ b6 ⟨fun _ => iff.mp (fun g hg => by cases hg), fun _ => rfl⟩)
  | @snoc g w gs us gl6 ga =>
    refine iteY (by simp) ?_
    rw [szG_cons] at hsz
    refine ⟨fun σ' H' => ∃ m', m' < szG (g :: gs) ∧ ∃ gs us j3 j4 j5 j6 j7 j8 j9 j10, σ' = [some v, some u, some (.ref tl), j3, j4, j5, j6, j7, j8, j9, j10] ∧ Same H H' ∧ H' tl = some (.lst us) ∧ GL H H' gs us ∧ ((∀ g ∈ gs, g.ok) ↔ Goes t n [] []) ∧ szG gs ≤ 900 ∧ m' = szG gs, fun _ _ h => h, ?_⟩
    refine ⟨_, rfl, .inl ⟨rfl, _, SqL.of t6⟩, tl, _, _, rfl, rfl, t6, pop_at, ?_⟩
    rw [drop_at]
    have m7 := tl_lst (o := .lst us) t6
    have k7 := dk_lst (o := .lst us) t6
    have b7 : Same H (upd H6 tl (.lst us)) := same_old b6 new
    have t7 : (upd H6 tl (.lst us)) tl = some (.lst us) := upd_same
    have gl7 := gl6.mono m7 k7
    have ga7 := ga.mono m7 k7
    generalize upd H6 tl (.lst us) = H7 at b7 t7 gl7 ga7 ⊢
    have hgl := gl7.length
    have hgs := szG_len gs
    obtain ⟨t', n', fo, ba⟩ := g
    obtain ⟨q, fd, bd, pv, nv, rfl, hq, den, na, hfd, hbd, wf, fk, bk, f1, f2⟩ := ga7
    have den : Den H7 t' pv := den
    have fail : ∀ H', Same H H' → ¬ Goes t' n' fo ba → Q (.bl false) H' := fun H' s no => k false H' s ⟨(fun h => by cases h), fun h => absurd (iff.mpr h _ (.head _)) no⟩
    obtain ⟨p, kk, rfl, hp, dkk⟩ := den.open
    cases na with
    | @mk kd x src path ks np sp pp kl nus h1 h2 h3 h4 h5 =>
    cases wf with
    | mk w1 w2 w3 w4 =>
    have hn7 := b7 _ _ h1
    refine ⟨q, _, rfl, SqT.of hq, rfl, _, _, rfl, _, _, rfl, _, _, rfl, _, _, rfl, rfl, ?_⟩
    refine ⟨_, rfl, p, _, _, _, rfl, rfl, SqT.of hp, hd_kind t' kk, _, rfl, np, _, _, _, rfl, rfl, SqT.of hn7, atI_nat (j := 0) rfl, ?_⟩
    refine rNe_if rfl (fun hne => ⟨_, rfl, iteT (fail _ b7 fun h => hne (by rw [(Goes.inv.mp h).1]))⟩) (fun heq => ⟨_, rfl, iteF ?_⟩)
    have hkd : kind t' = kd := V.str.inj heq
    -- behind the looks at the piece itself
    have rest : hereOk t' x fo ba → (tSeq (tAsg (tCall spInside [] E0 (tCons (tVar 3) tNil)) (gName 7)) (tSeq (t_gw_12 K) (tFor (iRng1 (tCons (tCB (cLen K) (tCons (tVar 7) tNil)) tNil)) (gName 8) (t_gw_15 K)))) { (fin Q) with nx := fun σ' H' => ∃ m', m' < szG ((t', .mk kd x src path ks, fo, ba) :: gs) ∧ ∃ gs us j3 j4 j5 j6 j7 j8 j9 j10, σ' = [some v, some u, some (.ref tl), j3, j4, j5, j6, j7, j8, j9, j10] ∧ Same H H' ∧ H' tl = some (.lst us) ∧ GL H H' gs us ∧ ((∀ g ∈ gs, g.ok) ↔ Goes t n [] []) ∧ szG gs ≤ 900 ∧ m' = szG gs, ct := fun σ' H' => ∃ m', m' < szG ((t', .mk kd x src path ks, fo, ba) :: gs) ∧ ∃ gs us j3 j4 j5 j6 j7 j8 j9 j10, σ' = [some v, some u, some (.ref tl), j3, j4, j5, j6, j7, j8, j9, j10] ∧ Same H H' ∧ H' tl = some (.lst us) ∧ GL H H' gs us ∧ ((∀ g ∈ gs, g.ok) ↔ Goes t n [] []) ∧ szG gs ≤ 900 ∧ m' = szG gs, bk := tRet (tC (.bl true)) (fin Q) }
        [some v, some u, some (.ref tl), some (.ref p), some (.ref np), some (.ref fd), some (.ref bd), j7, j8, j9, j10] H7 := by
      intro hok
      refine ⟨_, rfl, t', .ref p, rfl, den, fun il us2 H8 s8 n8 h8 d8 => ?_⟩
      have b8 := b7.trans s8
      have hl2 := d8.length
      have hnl := h5.length
      refine ⟨_, rfl, il, _, rfl, .inl (SqL.of h8), _, rfl, np, _, _, _, rfl, rfl, SqT.of (b8 _ _ h1), atI_nat (j := 3) rfl, kl, nus, rfl, .inl (SqL.of (b8 _ _ h4)), ?_⟩
      refine rNe_if rfl (fun hne => ⟨_, rfl, iteT (fail _ b8 fun h => hne ?_)⟩) (fun heq => ⟨_, rfl, iteF ?_⟩)
      · have := (Goes.inv.mp h).2.2.1
        rw [hl2, hnl, this]
      · have hlen : t'.kids.length = ks.length := by have := V.int.inj heq; omega
        have nil : il ≠ tl := fun z => by subst z; rw [t7] at n8; cases n8
        refine rd_gw_kids (gs := gs) (us := us) (us2 := us2) (kk := kk) ⟨b8, s8 _ _ hp, s8 _ _ hfd, s8 _ _ hbd, h8, d8, us, gs, s8 _ _ t7, gl7.mono (tl_same s8) (dk_same s8), rfl, by simp [sizes], ?_⟩ new nil h1 h4 h5 hlen w4 w3 hkd fk bk f1 f2 (by omega) fun H9 j8 j9 j10 P9 => ?_
        · constructor
          · exact fun h => ⟨fun j hj => absurd hj (Nat.not_lt_zero _), h⟩
          · exact fun h => h.2
        · obtain ⟨us', gs', a1, a2, a3, a4, a5⟩ := P9.rest
          rw [List.take_length] at a4
          have hk := sizes_kids t'
          have hsz : t'.size + szG gs ≤ 900 := hsz
          have hcons : szG ((t', NT.mk kd x src path ks, fo, ba) :: gs) = t'.size + szG gs := szG_cons _ _
          refine ⟨szG gs', by rw [hcons]; omega, gs', us', _, _, _, _, _, _, _, _, rfl, P9.same, a1, a2, ?_, by omega, rfl⟩
          rw [a5, ← iff]
          have key : (∀ j, j < t'.kids.length → kidOk t' x fo ba ks j) ↔ G4.ok (t', NT.mk kd x src path ks, fo, ba) := by
            constructor
            · intro h
              refine Goes.mk hkd hok hlen fun j a n e1 e2 => h j ?_ a n e1 e2
              exact (List.getElem?_eq_some_iff.mp e1).1
            · intro h j _ a n e1 e2
              exact (Goes.inv.mp h).2.2.2 j a n e1 e2
          rw [key]
          constructor
          · rintro ⟨h1, h2⟩ g hg
            rcases List.mem_cons.mp hg with rfl | hg
            · exact h1
            · exact h2 g hg
          · exact fun h => ⟨h _ (.head _), fun g hg => h g (.tail _ hg)⟩
    have hnx : atI [V.str kd, x, .ref sp, .ref kl] 1 = some x := atI_nat (j := 1) rfl
    rcases three_ways t' with ⟨m, rfl⟩ | ⟨w, rfl⟩ | ⟨k1, k2, hall⟩
    · refine ⟨_, rfl, p, _, _, _, rfl, rfl, SqT.of hp, hd_kind (.num m) kk, rfl, _, rfl, iteY (by simp only [kind]; decide +kernel) ?_⟩
      refine ⟨_, rfl, p, _, _, _, rfl, rfl, SqT.of hp, atI_nat (j := 1) rfl, _, rfl, np, _, _, _, rfl, rfl, SqT.of hn7, hnx, ?_⟩
      have hsc : scal (V.int m) x = true := by
        rcases w1 with rfl | ⟨_, rfl⟩ | ⟨_, rfl⟩ <;> rfl
      refine rNe_if hsc (fun hne => ⟨_, rfl, iteT (fail _ b7 fun h => hne (Goes.inv.mp h).2.1)⟩) (fun heq => ⟨_, rfl, iteF ?_⟩)
      exact ⟨_, rfl, p, _, _, _, rfl, rfl, SqT.of hp, hd_kind (.num m) kk, rfl, _, rfl, iteN (show decide (V.str "number" = V.str "name") = false from by decide +kernel) (rest heq)⟩
    · refine ⟨_, rfl, p, _, _, _, rfl, rfl, SqT.of hp, hd_kind (.name w) kk, rfl, _, rfl, iteN (show decide (V.str "name" = V.str "number") = false from by decide +kernel) (iteF ?_)⟩
      refine ⟨_, rfl, p, _, _, _, rfl, rfl, SqT.of hp, hd_kind (.name w) kk, rfl, _, rfl, iteY (by simp only [kind]; decide +kernel) ?_⟩
      have hpw : atI (hd (.name w) ++ kk) 1 = some (.str w) := atI_nat (j := 1) rfl
      refine ⟨_, rfl, fd, rfl, .inl ⟨_, .inl hfd⟩, _, rfl, p, _, _, _, rfl, rfl, SqT.of hp, hpw, _, rfl, p, _, _, _, rfl, rfl, SqT.of hp, hpw, _, DGet.k (k := .inr w) hfd, _, rfl, np, _, _, _, rfl, rfl, SqT.of hn7, hnx, ?_⟩
      have hxn := w2 hkd.symm
      have hfv : (∃ i, (valV fo (.inr w : Key)).getD (.str w) = .int i) ∨ (valV fo (.inr w : Key)).getD (.str w) = .str w := by
        cases e : valV fo (.inr w : Key) with
        | none => exact .inr rfl
        | some v => obtain ⟨i, rfl⟩ := fk _ _ e; exact .inl ⟨i, rfl⟩
      have hsc : scal ((valV fo (.inr w : Key)).getD (.str w)) x = true := by
        rcases hfv with ⟨i, e⟩ | e <;> rw [e] <;> rcases w1 with rfl | ⟨_, rfl⟩ | ⟨_, rfl⟩ <;> rfl
      refine rNe_if hsc (fun hne => ⟨_, rfl, iteT (fail _ b7 fun h => hne (Goes.inv.mp h).2.1.1)⟩) (fun heq => ⟨_, rfl, iteF ?_⟩)
      have dgb : DGet H7 bd x (valV ba (keyOf x)) := by
        rcases w1 with rfl | ⟨i, rfl⟩ | ⟨s, rfl⟩
        · exact absurd rfl hxn
        · exact DGet.k (k := .inl i) hbd
        · exact DGet.k (k := .inr s) hbd
      refine ⟨_, rfl, bd, rfl, .inl ⟨_, .inl hbd⟩, _, rfl, np, _, _, _, rfl, rfl, SqT.of hn7, hnx, _, rfl, p, _, _, _, rfl, rfl, SqT.of hp, hpw, _, dgb, _, rfl, p, _, _, _, rfl, rfl, SqT.of hp, hpw, ?_⟩
      have hsc2 : scal ((valV ba (keyOf x)).getD (.str w)) (.str w) = true := by
        cases e : valV ba (keyOf x) with
        | none => rfl
        | some v => obtain ⟨s, rfl⟩ := bk _ _ e; rfl
      refine rNe_if hsc2 (fun hne => ⟨_, rfl, iteT (fail _ b7 fun h => hne (Goes.inv.mp h).2.1.2)⟩) (fun heq2 => ⟨_, rfl, iteF ?_⟩)
      exact rest ⟨heq, heq2⟩
    · refine ⟨_, rfl, p, _, _, _, rfl, rfl, SqT.of hp, hd_kind t' kk, rfl, _, rfl, iteN (decide_eq_false fun z => k1 (V.str.inj z)) (iteF ?_)⟩
      exact ⟨_, rfl, p, _, _, _, rfl, rfl, SqT.of hp, hd_kind t' kk, rfl, _, rfl, iteN (decide_eq_false fun z => k2 (V.str.inj z)) (rest (hall _ _ _))⟩
end S3

set_option Elab.async false
set_option linter.all false
set_option maxRecDepth 100000
set_option maxHeartbeats 4000000
namespace SW
open PySem L2
theorem n_nl : ("number" : Str) ≠ "let" := by decide +kernel
theorem n_nm : ("number" : Str) ≠ "name" := by decide +kernel
theorem m_nl : ("name" : Str) ≠ "let" := by decide +kernel
theorem s_nl : ("sum" : Str) ≠ "let" := by decide +kernel
theorem s_nm : ("sum" : Str) ≠ "name" := by decide +kernel
theorem e_nl : ("less" : Str) ≠ "let" := by decide +kernel
theorem e_nm : ("less" : Str) ≠ "name" := by decide +kernel
theorem c_nl : ("choose" : Str) ≠ "let" := by decide +kernel
theorem c_nm : ("choose" : Str) ≠ "name" := by decide +kernel
theorem l_nm : ("let" : Str) ≠ "name" := by decide +kernel
theorem t_nl : ("stamp" : Str) ≠ "let" := by decide +kernel
theorem t_nm : ("stamp" : Str) ≠ "name" := by decide +kernel
theorem node_wf {c : Int} {src : Str} {giv : Gi} (hg : ∀ w g, giv w = some g → NWf g) {e : En} {i : Nat} {ks : List NT} (hk : ∀ n ∈ ks, NWf n) : NWf (nodeOf c src giv e i ks) := by
  obtain ⟨t, p, o⟩ := e
  cases t with
  | num n => exact .mk (.inr (.inl ⟨_, rfl⟩)) (fun h => absurd h n_nm) (fun h => absurd h n_nl) hk
  | name w =>
    unfold nodeOf
    dsimp only
    cases ho : o w with
    | some x => exact .mk (.inr (.inl ⟨_, rfl⟩)) (fun _ h => by cases h) (fun h => absurd h m_nl) hk
    | none =>
      dsimp only
      cases hw : giv w with
      | some g => exact hg w g hw
      | none => exact .mk (.inr (.inr ⟨_, rfl⟩)) (fun _ h => by cases h) (fun h => absurd h m_nl) hk
  | sum a b => exact .mk (.inl rfl) (fun h => absurd h s_nm) (fun h => absurd h s_nl) hk
  | less a b => exact .mk (.inl rfl) (fun h => absurd h e_nm) (fun h => absurd h e_nl) hk
  | cho a b d => exact .mk (.inl rfl) (fun h => absurd h c_nm) (fun h => absurd h c_nl) hk
  | lt w a b => exact .mk (.inr (.inl ⟨_, rfl⟩)) (fun h => absurd h l_nm) (fun _ => ⟨_, rfl⟩) hk
  | st0 w => exact .mk (.inr (.inr ⟨_, rfl⟩)) (fun h => absurd h t_nm) (fun h => absurd h t_nl) hk
  | st1 w a => exact .mk (.inr (.inr ⟨_, rfl⟩)) (fun h => absurd h t_nm) (fun h => absurd h t_nl) hk
  | st2 w a b => exact .mk (.inr (.inr ⟨_, rfl⟩)) (fun h => absurd h t_nm) (fun h => absurd h t_nl) hk
theorem nt_wf {c : Int} {src : Str} {giv : Gi} (hg : ∀ w g, giv w = some g → NWf g) : ∀ (t : T) (p : List Int) (o : Ow) (i : Nat), NWf (nt c src giv t p o i)
  | .num n, p, o, i => node_wf hg (by intro n h; cases h)
  | .name n, p, o, i => node_wf hg (by intro n h; cases h)
  | .st0 n, p, o, i => node_wf hg (by intro n h; cases h)
  | .sum a b, p, o, i => node_wf hg (by
    intro n h; simp only [List.mem_cons, List.not_mem_nil, or_false] at h
    rcases h with rfl | rfl
    · exact nt_wf hg a _ _ _
    · exact nt_wf hg b _ _ _)
  | .less a b, p, o, i => node_wf hg (by
    intro n h; simp only [List.mem_cons, List.not_mem_nil, or_false] at h
    rcases h with rfl | rfl
    · exact nt_wf hg a _ _ _
    · exact nt_wf hg b _ _ _)
  | .cho a b d, p, o, i => node_wf hg (by
    intro n h; simp only [List.mem_cons, List.not_mem_nil, or_false] at h
    rcases h with rfl | rfl | rfl
    · exact nt_wf hg a _ _ _
    · exact nt_wf hg b _ _ _
    · exact nt_wf hg d _ _ _)
  | .lt w a b, p, o, i => node_wf hg (by
    intro n h; simp only [List.mem_cons, List.not_mem_nil, or_false] at h
    rcases h with rfl | rfl
    · exact nt_wf hg a _ _ _
    · exact nt_wf hg b _ _ _)
  | .st1 w a, p, o, i => node_wf hg (by
    intro n h; simp only [List.mem_cons, List.not_mem_nil, or_false] at h
    subst h
    exact nt_wf hg a _ _ _)
  | .st2 w a b, p, o, i => node_wf hg (by
    intro n h; simp only [List.mem_cons, List.not_mem_nil, or_false] at h
    rcases h with rfl | rfl
    · exact nt_wf hg a _ _ _
    · exact nt_wf hg b _ _ _)
end SW

set_option Elab.async false
set_option linter.all false
set_option maxRecDepth 100000
set_option maxHeartbeats 4000000
namespace SW
open PySem L2
/-! ### the same but for the words of lets -/
abbrev Env2 := List (Str × Str)
def Rel : Env2 → Str → Str → Prop
  | [], a, b => a = b
  | p :: r, a, b => (a = p.1 ∧ b = p.2) ∨ (a ≠ p.1 ∧ b ≠ p.2 ∧ Rel r a b)
def swapE (e : Env2) : Env2 := e.map fun p => (p.2, p.1)
theorem rel_swap : ∀ {e : Env2} {a b : Str}, Rel e a b → Rel (swapE e) b a
  | [], _, _, h => Eq.symm h
  | p :: r, a, b, h => by
    rcases h with ⟨h1, h2⟩ | ⟨h1, h2, h3⟩
    · exact .inl ⟨h2, h1⟩
    · exact .inr ⟨h2, h1, rel_swap h3⟩
def diag (l : List Str) : Env2 := l.map fun x => (x, x)
theorem rel_diag (a : Str) : ∀ l : List Str, Rel (diag l) a a
  | [] => rfl
  | x :: l => by
    by_cases h : a = x
    · exact .inl ⟨h, h⟩
    · exact .inr ⟨h, h, rel_diag a l⟩
def hereA (t u : T) (e : Env2) : Prop := match t, u with
  | .num m, .num n => m = n
  | .name a, .name b => Rel e a b
  | _, _ => True
def envA (t u : T) (e : Env2) (j : Nat) : Env2 := match t, u, j with
  | .lt x _ _, .lt y _ _, 1 => (x, y) :: e
  | _, _, _ => e
inductive AE : T → T → Env2 → Prop where
  | mk {t u : T} {e : Env2} : kind t = kind u → hereA t u e → t.kids.length = u.kids.length → (∀ (j : Nat) a b, t.kids[j]? = some a → u.kids[j]? = some b → AE a b (envA t u e j)) → AE t u e
theorem AE.inv {t u : T} {e : Env2} : AE t u e ↔ kind t = kind u ∧ hereA t u e ∧ t.kids.length = u.kids.length ∧ ∀ (j : Nat) a b, t.kids[j]? = some a → u.kids[j]? = some b → AE a b (envA t u e j) := by
  constructor
  · intro h
    cases h with
    | mk a b c d => exact ⟨a, b, c, d⟩
  · rintro ⟨a, b, c, d⟩
    exact .mk a b c d
theorem hereA_swap {t u : T} {e : Env2} (h : hereA t u e) : hereA u t (swapE e) := by
  cases t <;> cases u <;> first | trivial | exact Eq.symm h | exact rel_swap h
theorem envA_swap (t u : T) (e : Env2) (j : Nat) : swapE (envA t u e j) = envA u t (swapE e) j := by
  cases t <;> cases u <;> first | rfl | skip
  match j with
  | 0 => rfl
  | 1 => rfl
  | j + 2 => rfl
theorem AE.swap {t u : T} {e : Env2} (h : AE t u e) : AE u t (swapE e) := by
  induction h with
  | mk a b c d ih =>
    refine .mk a.symm (hereA_swap b) c.symm fun j x y hx hy => ?_
    rw [← envA_swap]
    exact ih j y x hy hx
theorem ae_swap {t u : T} : AE t u [] ↔ AE u t [] := ⟨fun h => h.swap, fun h => h.swap⟩
theorem hereA_refl (t : T) (l : List Str) : hereA t t (diag l) := by
  cases t <;> first | trivial | exact rfl | exact rel_diag _ l
theorem envA_refl (t : T) (l : List Str) (j : Nat) : ∃ l', envA t t (diag l) j = diag l' := by
  cases t with
  | lt x a b =>
    match j with
    | 0 => exact ⟨l, rfl⟩
    | 1 => exact ⟨x :: l, rfl⟩
    | j + 2 => exact ⟨l, rfl⟩
  | _ => exact ⟨l, rfl⟩
theorem ae_refl : ∀ (n : Nat) (t : T) (l : List Str), t.size ≤ n → AE t t (diag l)
  | 0, t, l, h => absurd h (by have := t.size_pos; omega)
  | n + 1, t, l, h => by
    refine .mk rfl (hereA_refl t l) rfl fun j a b ha hb => ?_
    rw [ha] at hb
    cases hb
    obtain ⟨l', e⟩ := envA_refl t l j
    rw [e]
    have := kid_size (List.mem_of_getElem? ha)
    exact ae_refl n a l' (by omega)
/-! ### told by the notes -/
def ownV (o : Ow) (b : Str) : V := match o b with
  | some x => .int x
  | none => .str b
/-- what the dicts say, by words -/
structure GI (e : Env2) (fo ba : DK) (o : Ow) (m : Int) : Prop where
  rel : ∀ a b : Str, ((valV fo (.inr a : Key)).getD (.str a) = ownV o b ∧ (valV ba (keyOf (ownV o b))).getD (.str a) = .str a) ↔ Rel e a b
  fo_ : ∀ (q : Key) (x : Int), valV fo q = some (.int x) → x ≤ m
  ba_ : ∀ (x : Int) v, valV ba (.inl x : Key) = some v → x ≤ m
  o_ : ∀ w x, o w = some x → x ≤ m
theorem GI.mono {e : Env2} {fo ba : DK} {o : Ow} {m m' : Int} (h : GI e fo ba o m) (hm : m ≤ m') : GI e fo ba o m' :=
  ⟨h.rel, fun q x k => Int.le_trans (h.fo_ q x k) hm, fun x v k => Int.le_trans (h.ba_ x v k) hm, fun w x k => Int.le_trans (h.o_ w x k) hm⟩
theorem GI.start {m : Int} : GI [] [] [] Ow.none m := by
  refine ⟨fun a b => ?_, fun q x h => ?_, fun x v h => ?_, fun w x h => ?_⟩
  · show (V.str a = V.str b ∧ V.str a = V.str a) ↔ a = b
    exact ⟨fun h => V.str.inj h.1, fun h => by subst h; exact ⟨rfl, rfl⟩⟩
  · cases h
  · cases h
  · cases h
theorem GI.put {e : Env2} {fo ba : DK} {o : Ow} {m : Int} (h : GI e fo ba o m) (x y : Str) : GI ((x, y) :: e) (putK fo (.inr x : Key) (.int (m + 1))) (putK ba (.inl (m + 1) : Key) (.str x)) (Ow.put o y (m + 1)) (m + 1) := by
  refine ⟨fun a b => ?_, fun q z k => ?_, fun z v k => ?_, fun w z k => ?_⟩
  · have hfo : (valV (putK fo (.inr x : Key) (.int (m + 1))) (.inr a : Key)).getD (.str a) = if a = x then .int (m + 1) else (valV fo (.inr a : Key)).getD (.str a) := by
      rw [valV_put]
      by_cases c : a = x
      · subst c; simp
      · rw [if_neg c, if_neg (fun z => c (Sum.inr.inj z))]
    have hfn : ∀ a, (valV fo (.inr a : Key)).getD (.str a) ≠ .int (m + 1) := fun a z => by
      cases q : valV fo (.inr a : Key) with
      | none => rw [q] at z; cases z
      | some v =>
        rw [q] at z
        have z : v = .int (m + 1) := z
        subst z
        have := h.fo_ _ _ q
        omega
    have hon : ∀ b, ownV o b ≠ .int (m + 1) := fun b z => by
      unfold ownV at z
      cases q : o b with
      | none => rw [q] at z; cases z
      | some v =>
        rw [q] at z
        have z : v = m + 1 := V.int.inj z
        have := h.o_ _ _ q
        omega
    have hob : ownV (Ow.put o y (m + 1)) b = if b = y then .int (m + 1) else ownV o b := by
      unfold ownV Ow.put
      by_cases c : b = y
      · rw [if_pos c, if_pos c]
      · rw [if_neg c, if_neg c]
    rw [hfo, hob]
    by_cases c1 : a = x
    · rw [if_pos c1]
      by_cases c2 : b = y
      · rw [if_pos c2]
        refine ⟨fun _ => .inl ⟨c1, c2⟩, fun _ => ⟨rfl, ?_⟩⟩
        show (valV (putK ba (.inl (m + 1) : Key) (.str x)) (.inl (m + 1) : Key)).getD (.str a) = .str a
        rw [valV_put, if_pos rfl, c1]; rfl
      · rw [if_neg c2]
        refine ⟨fun z => absurd z.1.symm (hon b), fun z => ?_⟩
        rcases z with ⟨_, z⟩ | ⟨z, _⟩
        · exact absurd z c2
        · exact absurd c1 z
    · rw [if_neg c1]
      by_cases c2 : b = y
      · rw [if_pos c2]
        refine ⟨fun z => absurd z.1 (hfn a), fun z => ?_⟩
        rcases z with ⟨z, _⟩ | ⟨_, z, _⟩
        · exact absurd z c1
        · exact absurd c2 z
      · rw [if_neg c2]
        have hk : keyOf (ownV o b) ≠ (.inl (m + 1) : Key) := fun z => by
          unfold ownV at z
          cases q : o b with
          | none => rw [q] at z; cases z
          | some v =>
            rw [q] at z
            have z : v = m + 1 := Sum.inl.inj z
            have := h.o_ _ _ q
            omega
        rw [valV_put, if_neg hk]
        refine (h.rel a b).trans ⟨fun z => .inr ⟨c1, c2, z⟩, fun z => ?_⟩
        rcases z with ⟨z, _⟩ | ⟨_, _, z⟩
        · exact absurd z c1
        · exact z
  · rw [valV_put] at k
    by_cases c : q = .inr x
    · rw [if_pos c] at k
      have : m + 1 = z := V.int.inj (Option.some.inj k)
      omega
    · rw [if_neg c] at k
      have := h.fo_ _ _ k
      omega
  · rw [valV_put] at k
    by_cases c : (.inl z : Key) = .inl (m + 1)
    · have : z = m + 1 := Sum.inl.inj c
      omega
    · rw [if_neg c] at k
      have := h.ba_ _ _ k
      omega
  · unfold Ow.put at k
    by_cases c : w = y
    · rw [if_pos c] at k
      have : m + 1 = z := Option.some.inj k
      omega
    · rw [if_neg c] at k
      have := h.o_ _ _ k
      omega
theorem all2 {α β : Type} {P : Nat → α → β → Prop} {a b : α} {c d : β} : (∀ (j : Nat) x y, [a, b][j]? = some x → [c, d][j]? = some y → P j x y) ↔ P 0 a c ∧ P 1 b d := by
  constructor
  · intro h
    exact ⟨h 0 a c rfl rfl, h 1 b d rfl rfl⟩
  · rintro ⟨h1, h2⟩ j x y hx hy
    match j, hx, hy with
    | 0, hx, hy => cases hx; cases hy; exact h1
    | 1, hx, hy => cases hx; cases hy; exact h2
    | j + 2, hx, _ => cases hx
theorem all3 {α β : Type} {P : Nat → α → β → Prop} {a b c : α} {d e f : β} : (∀ (j : Nat) x y, [a, b, c][j]? = some x → [d, e, f][j]? = some y → P j x y) ↔ P 0 a d ∧ P 1 b e ∧ P 2 c f := by
  constructor
  · intro h
    exact ⟨h 0 a d rfl rfl, h 1 b e rfl rfl, h 2 c f rfl rfl⟩
  · rintro ⟨h1, h2, h3⟩ j x y hx hy
    match j, hx, hy with
    | 0, hx, hy => cases hx; cases hy; exact h1
    | 1, hx, hy => cases hx; cases hy; exact h2
    | 2, hx, hy => cases hx; cases hy; exact h3
    | j + 3, hx, _ => cases hx
theorem kind_sum {f : T} (h : kind f = "sum") : ∃ a b, f = .sum a b := by
  cases f <;> first | exact ⟨_, _, rfl⟩ | exact absurd h (by simp only [kind]; decide +kernel)
theorem kind_less {f : T} (h : kind f = "less") : ∃ a b, f = .less a b := by
  cases f <;> first | exact ⟨_, _, rfl⟩ | exact absurd h (by simp only [kind]; decide +kernel)
theorem kind_cho {f : T} (h : kind f = "choose") : ∃ a b c, f = .cho a b c := by
  cases f <;> first | exact ⟨_, _, _, rfl⟩ | exact absurd h (by simp only [kind]; decide +kernel)
/-- no stamp in it -/
def NoSt : T → Prop
  | .num _ => True
  | .name _ => True
  | .sum a b => NoSt a ∧ NoSt b
  | .less a b => NoSt a ∧ NoSt b
  | .cho a b c => NoSt a ∧ NoSt b ∧ NoSt c
  | .lt _ a b => NoSt a ∧ NoSt b
  | .st0 _ => False
  | .st1 _ _ => False
  | .st2 _ _ _ => False
def giv0 : Gi := fun _ => none
theorem goes_ae {src : Str} {c : Int} : ∀ (t : T) (f : T) (p : List Int) (o : Ow) (i : Nat) (e : Env2) (fo ba : DK), NoSt t → GI e fo ba o (c + i) → (Goes f (nt c src giv0 t p o i) fo ba ↔ AE f t e)
  | .num n, f, p, o, i, e, fo, ba, _, G => by
    have en : nt c src giv0 (.num n) p o i = .mk "number" (.int n) src p [] := rfl
    rw [en, Goes.inv, AE.inv]
    constructor
    · rintro ⟨hk, hh, _, _⟩
      obtain ⟨m, rfl⟩ := kind_num hk
      exact ⟨rfl, V.int.inj hh, rfl, fun j a b ha => by cases ha⟩
    · rintro ⟨hk, hh, _, _⟩
      obtain ⟨m, rfl⟩ := kind_num hk
      exact ⟨rfl, congrArg V.int hh, rfl, fun j a b ha => by cases ha⟩
  | .name w, f, p, o, i, e, fo, ba, _, G => by
    have en : nt c src giv0 (.name w) p o i = .mk "name" (ownV o w) src p [] := by
      show nodeOf c src giv0 (.name w, p, o) i [] = _
      unfold nodeOf ownV
      dsimp only
      cases o w <;> rfl
    rw [en, Goes.inv, AE.inv]
    constructor
    · rintro ⟨hk, hh, _, _⟩
      obtain ⟨m, rfl⟩ := kind_name hk
      exact ⟨rfl, (G.rel m w).mp hh, rfl, fun j a b ha => by cases ha⟩
    · rintro ⟨hk, hh, _, _⟩
      obtain ⟨m, rfl⟩ := kind_name hk
      exact ⟨rfl, (G.rel m w).mpr hh, rfl, fun j a b ha => by cases ha⟩
  | .sum a b, f, p, o, i, e, fo, ba, h, G => by
    have en : nt c src giv0 (.sum a b) p o i = .mk "sum" .non src p [nt c src giv0 a (p ++ [0]) o (i + 1), nt c src giv0 b (p ++ [1]) o (i + 1 + a.size)] := rfl
    rw [en, Goes.inv, AE.inv]
    have G1 : GI e fo ba o (c + ((i + 1 : Nat) : Int)) := G.mono (by omega)
    have G2 : GI e fo ba o (c + ((i + 1 + a.size : Nat) : Int)) := G.mono (by omega)
    constructor
    · rintro ⟨hk, hh, hl, hs⟩
      obtain ⟨x, y, rfl⟩ := kind_sum hk
      have := all2.mp hs
      exact ⟨rfl, trivial, rfl, all2.mpr ⟨(goes_ae a x _ _ _ e _ _ h.1 G1).mp this.1, (goes_ae b y _ _ _ e _ _ h.2 G2).mp this.2⟩⟩
    · rintro ⟨hk, hh, hl, hs⟩
      obtain ⟨x, y, rfl⟩ := kind_sum hk
      have := all2.mp hs
      exact ⟨rfl, trivial, rfl, all2.mpr ⟨(goes_ae a x _ _ _ e _ _ h.1 G1).mpr this.1, (goes_ae b y _ _ _ e _ _ h.2 G2).mpr this.2⟩⟩
  | .less a b, f, p, o, i, e, fo, ba, h, G => by
    have en : nt c src giv0 (.less a b) p o i = .mk "less" .non src p [nt c src giv0 a (p ++ [0]) o (i + 1), nt c src giv0 b (p ++ [1]) o (i + 1 + a.size)] := rfl
    rw [en, Goes.inv, AE.inv]
    have G1 : GI e fo ba o (c + ((i + 1 : Nat) : Int)) := G.mono (by omega)
    have G2 : GI e fo ba o (c + ((i + 1 + a.size : Nat) : Int)) := G.mono (by omega)
    constructor
    · rintro ⟨hk, hh, hl, hs⟩
      obtain ⟨x, y, rfl⟩ := kind_less hk
      have := all2.mp hs
      exact ⟨rfl, trivial, rfl, all2.mpr ⟨(goes_ae a x _ _ _ e _ _ h.1 G1).mp this.1, (goes_ae b y _ _ _ e _ _ h.2 G2).mp this.2⟩⟩
    · rintro ⟨hk, hh, hl, hs⟩
      obtain ⟨x, y, rfl⟩ := kind_less hk
      have := all2.mp hs
      exact ⟨rfl, trivial, rfl, all2.mpr ⟨(goes_ae a x _ _ _ e _ _ h.1 G1).mpr this.1, (goes_ae b y _ _ _ e _ _ h.2 G2).mpr this.2⟩⟩
  | .cho a b d, f, p, o, i, e, fo, ba, h, G => by
    have en : nt c src giv0 (.cho a b d) p o i = .mk "choose" .non src p [nt c src giv0 a (p ++ [0]) o (i + 1), nt c src giv0 b (p ++ [1]) o (i + 1 + a.size), nt c src giv0 d (p ++ [2]) o (i + 1 + a.size + b.size)] := rfl
    rw [en, Goes.inv, AE.inv]
    have G1 : GI e fo ba o (c + ((i + 1 : Nat) : Int)) := G.mono (by omega)
    have G2 : GI e fo ba o (c + ((i + 1 + a.size : Nat) : Int)) := G.mono (by omega)
    have G3 : GI e fo ba o (c + ((i + 1 + a.size + b.size : Nat) : Int)) := G.mono (by omega)
    constructor
    · rintro ⟨hk, hh, hl, hs⟩
      obtain ⟨x, y, z, rfl⟩ := kind_cho hk
      have := all3.mp hs
      exact ⟨rfl, trivial, rfl, all3.mpr ⟨(goes_ae a x _ _ _ e _ _ h.1 G1).mp this.1, (goes_ae b y _ _ _ e _ _ h.2.1 G2).mp this.2.1, (goes_ae d z _ _ _ e _ _ h.2.2 G3).mp this.2.2⟩⟩
    · rintro ⟨hk, hh, hl, hs⟩
      obtain ⟨x, y, z, rfl⟩ := kind_cho hk
      have := all3.mp hs
      exact ⟨rfl, trivial, rfl, all3.mpr ⟨(goes_ae a x _ _ _ e _ _ h.1 G1).mpr this.1, (goes_ae b y _ _ _ e _ _ h.2.1 G2).mpr this.2.1, (goes_ae d z _ _ _ e _ _ h.2.2 G3).mpr this.2.2⟩⟩
  | .lt w a b, f, p, o, i, e, fo, ba, h, G => by
    have en : nt c src giv0 (.lt w a b) p o i = .mk "let" (.int (c + i + 1)) src p [nt c src giv0 a (p ++ [0]) o (i + 1), nt c src giv0 b (p ++ [1]) (Ow.put o w (c + ((i + 1 : Nat) : Int))) (i + 1 + a.size)] := rfl
    rw [en, Goes.inv, AE.inv]
    have G1 : GI e fo ba o (c + ((i + 1 : Nat) : Int)) := G.mono (by omega)
    have ei : c + ((i + 1 : Nat) : Int) = c + i + 1 := by omega
    rw [ei]
    have G2 : ∀ v, GI ((v, w) :: e) (putK fo (.inr v : Key) (.int (c + i + 1))) (putK ba (.inl (c + i + 1) : Key) (.str v)) (Ow.put o w (c + i + 1)) (c + ((i + 1 + a.size : Nat) : Int)) := fun v => (G.put v w).mono (by omega)
    constructor
    · rintro ⟨hk, hh, hl, hs⟩
      obtain ⟨v, x, y, rfl⟩ := kind_let hk
      have := all2.mp hs
      exact ⟨rfl, trivial, rfl, all2.mpr ⟨(goes_ae a x _ _ _ e _ _ h.1 G1).mp this.1, (goes_ae b y _ _ _ _ _ _ h.2 (G2 v)).mp this.2⟩⟩
    · rintro ⟨hk, hh, hl, hs⟩
      obtain ⟨v, x, y, rfl⟩ := kind_let hk
      have := all2.mp hs
      exact ⟨rfl, trivial, rfl, all2.mpr ⟨(goes_ae a x _ _ _ e _ _ h.1 G1).mpr this.1, (goes_ae b y _ _ _ _ _ _ h.2 (G2 v)).mpr this.2⟩⟩
theorem goes_ae0 {src : Str} {t f : T} (h : NoSt t) : Goes f (nt 0 src giv0 t [] Ow.none 0) [] [] ↔ AE f t [] := goes_ae t f [] Ow.none 0 [] [] [] h GI.start
/-! ### told by two dicts -/
def getW (d : DK) (a : Str) : V := (valV d (.inr a : Key)).getD (.str a)
structure SI (e : Env2) (d1 d2 : DK) (m : Int) : Prop where
  rel : ∀ a b : Str, getW d1 a = getW d2 b ↔ Rel e a b
  i1 : ∀ (q : Key) v, valV d1 q = some v → ∃ x, v = .int x ∧ x ≤ m
  i2 : ∀ (q : Key) v, valV d2 q = some v → ∃ x, v = .int x ∧ x ≤ m
theorem SI.start {m : Int} : SI [] [] [] m := ⟨fun a b => ⟨fun h => V.str.inj h, fun h => by cases (show a = b from h); rfl⟩, (fun q v h => by cases h), (fun q v h => by cases h)⟩
theorem SI.mono {e : Env2} {d1 d2 : DK} {m m' : Int} (h : SI e d1 d2 m) (hm : m ≤ m') : SI e d1 d2 m' :=
  ⟨h.rel, fun q v k => by obtain ⟨x, e, l⟩ := h.i1 q v k; exact ⟨x, e, Int.le_trans l hm⟩, fun q v k => by obtain ⟨x, e, l⟩ := h.i2 q v k; exact ⟨x, e, Int.le_trans l hm⟩⟩
theorem getW_put (d : DK) (x a : Str) (v : V) : getW (putK d (.inr x : Key) v) a = if a = x then v else getW d a := by
  unfold getW
  rw [valV_put]
  by_cases c : a = x
  · subst c; simp
  · rw [if_neg c, if_neg (fun z => c (Sum.inr.inj z))]
theorem getW_lt {d : DK} {m : Int} (h : ∀ (q : Key) v, valV d q = some v → ∃ x, v = .int x ∧ x ≤ m) (a : Str) {n : Int} (hn : m < n) : getW d a ≠ .int n := fun z => by
  unfold getW at z
  cases q : valV d (.inr a : Key) with
  | none => rw [q] at z; cases z
  | some v =>
    rw [q] at z
    obtain ⟨x, rfl, l⟩ := h _ _ q
    have : x = n := V.int.inj z
    omega
theorem SI.put {e : Env2} {d1 d2 : DK} {m n : Int} (h : SI e d1 d2 m) (hn : m < n) (x y : Str) : SI ((x, y) :: e) (putK d1 (.inr x : Key) (.int n)) (putK d2 (.inr y : Key) (.int n)) n := by
  refine ⟨fun a b => ?_, fun q v k => ?_, fun q v k => ?_⟩
  · rw [getW_put, getW_put]
    by_cases c1 : a = x
    · rw [if_pos c1]
      by_cases c2 : b = y
      · rw [if_pos c2]
        exact ⟨fun _ => .inl ⟨c1, c2⟩, fun _ => rfl⟩
      · rw [if_neg c2]
        refine ⟨fun z => absurd z.symm (getW_lt h.i2 b hn), fun z => ?_⟩
        rcases z with ⟨_, z⟩ | ⟨z, _⟩
        · exact absurd z c2
        · exact absurd c1 z
    · rw [if_neg c1]
      by_cases c2 : b = y
      · rw [if_pos c2]
        refine ⟨fun z => absurd z (getW_lt h.i1 a hn), fun z => ?_⟩
        rcases z with ⟨z, _⟩ | ⟨_, z, _⟩
        · exact absurd z c1
        · exact absurd c2 z
      · rw [if_neg c2]
        refine (h.rel a b).trans ⟨fun z => .inr ⟨c1, c2, z⟩, fun z => ?_⟩
        rcases z with ⟨z, _⟩ | ⟨_, _, z⟩
        · exact absurd z c1
        · exact z
  · rw [valV_put] at k
    by_cases c : q = .inr x
    · rw [if_pos c] at k; cases k; exact ⟨n, rfl, Int.le_refl _⟩
    · rw [if_neg c] at k
      obtain ⟨z, e, l⟩ := h.i1 q v k
      exact ⟨z, e, by omega⟩
  · rw [valV_put] at k
    by_cases c : q = .inr y
    · rw [if_pos c] at k; cases k; exact ⟨n, rfl, Int.le_refl _⟩
    · rw [if_neg c] at k
      obtain ⟨z, e, l⟩ := h.i2 q v k
      exact ⟨z, e, by omega⟩
end SW

set_option Elab.async false
set_option linter.all false
set_option maxRecDepth 100000
set_option maxHeartbeats 4000000
namespace PySem
section
variable {prog : Program} {w : World} {A : Around} {E : Value → Shared → Prop} {s : Shared}
/-- the next one of a tuple's iterator -/
theorem zt_next {c t : Addr} {j : Nat} {its} {v : Value} {Q : Value → Shared → Prop} (hc : s.heap.IsTupleIter c t j) (ht : s.heap.IsTuple t its) (hv : its[j]? = some v)
    (hQ : ∀ k, k.IsTupleIter c t (j + 1) → Heap.SameBut c s.heap k → Q v { s with heap := k }) : wpAny (model prog w) A (Builtin.SmallTypes.nextOf (.ref c)) Q E s := by
  obtain ⟨ob, h1, h2, h3⟩ := id hc
  obtain ⟨ot, h4, _, m, h5⟩ := ht
  unfold Builtin.SmallTypes.nextOf
  refine wpAny_bind (wpAny_callSpecial?_slot (name := Str.ofString "__next__") hc.typeIs F.slot_tuple_iterator_next (wpAny_call_entry F.slot_tuple_iterator_next hc.typeIs F.entry_tuple_iterator_next ?_ (F.args_tuple_iterator_next_1 _)))
  show wpAny _ _ (field (.ref c) 0 >>= _) _ _ s
  refine wpAny_bind (wpAny_field h1 h3 (x := .ref t) rfl ?_)
  show wpAny _ _ (if (Value.ref t == Value.none) = true then _ else _) _ _ s
  rw [if_neg (show ¬ (Value.ref t == Value.none) = true from Bool.false_ne_true)]
  show wpAny _ _ (field (.ref c) 1 >>= _) _ _ s
  refine wpAny_bind (wpAny_field h1 h3 (x := .int j 0) rfl ?_)
  show wpAny _ _ (seqItems? (.ref t) >>= _) _ _ s
  refine wpAny_bind (wpAny_seqItems h4 h5 ?_)
  simp only [Int.toNat_natCast, hv]
  refine wpAny_bind (wpAny_setField h1 h3 (by simp) (wpAny_pure ⟨v, rfl, wpAny_pure (hQ _ ?_ (Heap.SameBut.update ..))⟩))
  exact ⟨_, Heap.get?_update_self _ h1 (Obj.isFreed_of_fields (Obj.data_mapFields h3 _)), (Obj.cls_mapFields ..).trans h2, by rw [Obj.data_mapFields h3]; simp [rawInt]⟩
theorem zt_over {c t : Addr} {j : Nat} {its} {Q : Value → Shared → Prop} (hh : A.handled = none) (hc : s.heap.IsTupleIter c t j) (ht : s.heap.IsTuple t its) (hv : its[j]? = none)
    (hE : ∀ k e, Heap.ExtBut c s.heap k → (∃ o, k.get? e = some o ∧ o.cls = .type "StopIteration") → E (.ref e) { s with heap := k }) : wpAny (model prog w) A (Builtin.SmallTypes.nextOf (.ref c)) Q E s := by
  obtain ⟨ob, h1, h2, h3⟩ := id hc
  obtain ⟨ot, h4, _, m, h5⟩ := ht
  unfold Builtin.SmallTypes.nextOf
  refine wpAny_bind (wpAny_callSpecial?_slot (name := Str.ofString "__next__") hc.typeIs F.slot_tuple_iterator_next (wpAny_call_entry F.slot_tuple_iterator_next hc.typeIs F.entry_tuple_iterator_next ?_ (F.args_tuple_iterator_next_1 _)))
  show wpAny _ _ (field (.ref c) 0 >>= _) _ _ s
  refine wpAny_bind (wpAny_field h1 h3 (x := .ref t) rfl ?_)
  show wpAny _ _ (if (Value.ref t == Value.none) = true then _ else _) _ _ s
  rw [if_neg (show ¬ (Value.ref t == Value.none) = true from Bool.false_ne_true)]
  show wpAny _ _ (field (.ref c) 1 >>= _) _ _ s
  refine wpAny_bind (wpAny_field h1 h3 (x := .int j 0) rfl ?_)
  show wpAny _ _ (seqItems? (.ref t) >>= _) _ _ s
  refine wpAny_bind (wpAny_seqItems h4 h5 ?_)
  simp only [Int.toNat_natCast, hv]
  refine wpAny_bind (wpAny_rule (wpAny_bind (wpAny_setField h1 h3 (by simp) ?_)))
  show wpAny _ _ (newExc (.type "StopIteration") [] >>= _) _ _ _
  refine wpAny_bind ?_; simp only [newExc, newTuple]
  refine wpAny_bind (wpAny_newObj_type ?_ (by size_fits))
  refine wpAny_bind (m := firstArgMember _ _) (wpAny_of_eq (a := .none) (by first | rfl | (simp only [firstArgMember]; rfl)) ?_)
  refine wpAny_newObj_type ?_ (by size_fits)
  simp only [raiseNew]
  refine wpAny_bind (wpAny_handled ?_)
  first | rw [show A.in1.handled = none from hh] | rw [hh]
  refine wpAny_bind (wpAny_pure (wpAny_throw ?_))
  exact hE _ _ (((Heap.SameBut.update ..).extBut.push _).push _) ⟨_, Heap.get?_push_size _ rfl, rfl⟩
theorem zt_item {z p q c d t u : Addr} {j k : Nat} {xs ys : Array Value} {x y a b : Value} {Q : Value → Shared → Prop} (D : ZipApart z p q c d t u)
    (hz : IsZip s.heap z p q .none) (hp : IsPair s.heap p (.ref c) (.ref d)) (hq : IsPair s.heap q a b)
    (h1 : s.heap.IsTupleIter c t j) (h2 : s.heap.IsTupleIter d u k) (ht : s.heap.IsTuple t xs) (hu : s.heap.IsTuple u ys) (hx : xs[j]? = some x) (hy : ys[k]? = some y)
    (hQ : ∀ g, IsZip g z p q (rawInt s.heap.objs.size) → IsPair g q x y → g.IsTupleIter c t (j + 1) → g.IsTupleIter d u (k + 1) → IsPair g s.heap.objs.size x y → g.objs.size = s.heap.objs.size + 1 →
      (∀ m o, m ≠ z → m ≠ q → m ≠ c → m ≠ d → s.heap.get? m = some o → g.get? m = some o) → Q (.ref s.heap.objs.size) { s with heap := g }) :
    wpAny (model prog w) A (Builtin.«zip.__next__» ⟨[.ref z], []⟩) (fun fin s' => ∃ v, fin = .done (.ret v) ∧ Q v s') E s := by
  show wpAny _ _ (field (.ref z) 2 >>= _) _ _ _
  refine wpAny_bind (wpAny_field hz rfl (x := .bool false) rfl ?_)
  show wpAny _ _ (field (.ref z) 3 >>= _) _ _ _
  refine wpAny_bind (wpAny_field hz rfl (x := .ref p) rfl ?_)
  refine wpAny_bind (wpAny_seqItems hp rfl ?_)
  show wpAny _ _ (Builtin.SmallTypes.ownedTupleIsFree (.ref z) >>= _) _ _ _
  refine wpAny_bind ?_; unfold Builtin.SmallTypes.ownedTupleIsFree
  refine wpAny_bind (wpAny_field hz rfl (x := .none) rfl (wpAny_pure ?_))
  simp only [if_true]
  refine wpAny_bind (wpAny_rule ?_)
  refine wpAny_bind (wpAny_field hz rfl (x := .ref q) rfl ?_)
  refine wpAny_bind (wpAny_setField_rec hz (by simp) fun g1 z1 e1 => ?_)
  replace z1 : IsZip g1 z p q .ellipsis := z1
  refine wpAny_bind ?_; simp only [List.zipIdx_cons, List.zipIdx_nil, List.forIn_cons, List.forIn_nil]
  refine wpAny_bind (wpAny_bind (wpAny_onRaise ?_))
  show wpAny _ _ (Builtin.SmallTypes.nextOf (.ref c) >>= _) _ _ _
  refine wpAny_bind (zt_next (h1.extBut e1.extBut D.i1z) (ht.extBut e1.extBut D.l1z) hx fun g2 c2 e2 => wpAny_pure ?_)
  have q2 : IsPair g2 q a b := e2.extBut _ _ D.TOi1 (e1.extBut _ _ D.TOz hq)
  refine wpAny_bind (wpAny_seqItems q2 rfl ?_)
  refine wpAny_bind (wpAny_updateSeq_pair q2 fun g3 q3 e3 => ?_)
  replace q3 : IsPair g3 q x b := q3
  refine wpAny_bind (wpAny_letGo (wpAny_pure ?_))
  refine wpAny_bind (wpAny_bind (wpAny_onRaise ?_))
  show wpAny _ _ (Builtin.SmallTypes.nextOf (.ref d) >>= _) _ _ _
  refine wpAny_bind (zt_next (((h2.extBut e1.extBut D.i2z).extBut e2.extBut D.i12.symm).extBut e3.extBut D.TOi2.symm) (((hu.extBut e1.extBut D.l2z).extBut e2.extBut D.l2i1).extBut e3.extBut D.l2TO) hy fun g4 d4 e4 => wpAny_pure ?_)
  have q4 : IsPair g4 q x b := e4.extBut _ _ D.TOi2 q3
  refine wpAny_bind (wpAny_seqItems q4 rfl ?_)
  refine wpAny_bind (wpAny_updateSeq_pair q4 fun g5 q5 e5 => ?_)
  replace q5 : IsPair g5 q x y := q5
  refine wpAny_bind (wpAny_letGo (wpAny_pure (wpAny_pure ?_)))
  refine wpAny_bind (wpAny_seqItems q5 rfl ?_)
  refine wpAny_bind (wpAny_newTuple ?_)
  have sz : g5.objs.size = s.heap.objs.size := by rw [e5.1, e4.1, e3.1, e2.1, e1.1]
  have z5 : IsZip g5 z p q .ellipsis := e5.extBut _ _ D.TOz.symm (e4.extBut _ _ D.i2z.symm (e3.extBut _ _ D.TOz.symm (e2.extBut _ _ D.i1z.symm z1)))
  have k5 : ∀ m o, m ≠ z → m ≠ q → m ≠ c → m ≠ d → s.heap.get? m = some o → g5.get? m = some o := fun m o m1 m2 m3 m4 e => e5.extBut _ _ m2 (e4.extBut _ _ m4 (e3.extBut _ _ m2 (e2.extBut _ _ m3 (e1.extBut _ _ m1 e))))
  have c5 : g5.IsTupleIter c t (j + 1) := ((c2.extBut e3.extBut D.TOi1.symm).extBut e4.extBut D.i12).extBut e5.extBut D.TOi1.symm
  have d5 : g5.IsTupleIter d u (k + 1) := d4.extBut e5.extBut D.TOi2.symm
  have zl : z < g5.objs.size := Heap.lt_size z5
  show wpAny _ _ (Builtin.SmallTypes.ownedTupleHandOut (.ref z) (.ref g5.objs.size) >>= _) _ _ _
  refine wpAny_bind ?_; unfold Builtin.SmallTypes.ownedTupleHandOut
  have z6 : IsZip (g5.push { cls := .type "tuple", data := .seq #[x, y] }) z p q .ellipsis := Heap.get?_push_of_some _ z5
  refine wpAny_bind (wpAny_setField_rec z6 (by simp) fun g7 z7 e7 => ?_)
  replace z7 : IsZip g7 z p q (rawInt g5.objs.size) := z7
  refine wpAny_setField_rec z7 (by simp) fun g8 z8 e8 => ?_
  replace z8 : IsZip g8 z p q (rawInt g5.objs.size) := z8
  have up : ∀ m o, m ≠ z → g5.get? m = some o → g8.get? m = some o := fun m o m1 e => e8.extBut _ _ m1 (e7.extBut _ _ m1 (Heap.get?_push_of_some _ e))
  have r8 : IsPair g8 g5.objs.size x y := e8.extBut _ _ (Nat.ne_of_gt zl) (e7.extBut _ _ (Nat.ne_of_gt zl) (Heap.get?_push_size _ rfl))
  have n8 : g8.objs.size = g5.objs.size + 1 := by rw [e8.1, e7.1, Heap.size_push]
  rw [sz] at z8 r8 n8
  refine wpAny_pure ⟨_, rfl, ?_⟩
  show Q (.ref g5.objs.size) _
  rw [sz]
  obtain ⟨oc, ec, rc⟩ := c5
  obtain ⟨od, ed, rd⟩ := d5
  exact hQ g8 z8 (up _ _ D.TOz q5) ⟨oc, up _ _ D.i1z ec, rc⟩ ⟨od, up _ _ D.i2z ed, rd⟩ r8 n8 fun m o m1 m2 m3 m4 e => up m o m1 (k5 m o m1 m2 m3 m4 e)
theorem zt_end {z p q c d t u : Addr} {j k : Nat} {xs ys : Array Value} {a b : Value} {Q : Fin → Shared → Prop} (hh : A.handled = none) (D : ZipApart z p q c d t u)
    (hz : IsZip s.heap z p q .none) (hp : IsPair s.heap p (.ref c) (.ref d)) (hq : IsPair s.heap q a b)
    (h1 : s.heap.IsTupleIter c t j) (ht : s.heap.IsTuple t xs) (hx : xs[j]? = none)
    (hE : ∀ g e, (∀ m o, m ≠ z → m ≠ q → m ≠ c → m ≠ d → s.heap.get? m = some o → g.get? m = some o) → (∃ o, g.get? e = some o ∧ o.cls = .type "StopIteration") → E (.ref e) { s with heap := g }) :
    wpAny (model prog w) A (Builtin.«zip.__next__» ⟨[.ref z], []⟩) Q E s := by
  show wpAny _ _ (field (.ref z) 2 >>= _) _ _ _
  refine wpAny_bind (wpAny_field hz rfl (x := .bool false) rfl ?_)
  show wpAny _ _ (field (.ref z) 3 >>= _) _ _ _
  refine wpAny_bind (wpAny_field hz rfl (x := .ref p) rfl ?_)
  refine wpAny_bind (wpAny_seqItems hp rfl ?_)
  show wpAny _ _ (Builtin.SmallTypes.ownedTupleIsFree (.ref z) >>= _) _ _ _
  refine wpAny_bind ?_; unfold Builtin.SmallTypes.ownedTupleIsFree
  refine wpAny_bind (wpAny_field hz rfl (x := .none) rfl (wpAny_pure ?_))
  simp only [if_true]
  refine wpAny_bind (wpAny_rule ?_)
  refine wpAny_bind (wpAny_field hz rfl (x := .ref q) rfl ?_)
  refine wpAny_bind (wpAny_setField_rec hz (by simp) fun g1 z1 e1 => ?_)
  replace z1 : IsZip g1 z p q .ellipsis := z1
  refine wpAny_bind ?_; simp only [List.zipIdx_cons, List.zipIdx_nil, List.forIn_cons, List.forIn_nil]
  refine wpAny_bind (wpAny_bind (wpAny_onRaise ?_))
  show wpAny _ _ (Builtin.SmallTypes.nextOf (.ref c) >>= _) _ _ _
  refine wpAny_bind (zt_over hh (h1.extBut e1.extBut D.i1z) (ht.extBut e1.extBut D.l1z) hx fun g2 e e2 he => ?_)
  obtain ⟨oe, ho, hc⟩ := he
  have z2 : IsZip g2 z p q .ellipsis := e2 _ _ D.i1z.symm z1
  have ne : e ≠ z := fun f => by subst f; rw [z2] at ho; cases ho; simp at hc
  exact wpAny_setField_rec z2 (by simp) fun g3 _ e3 => hE g3 e (fun m o m1 _ m3 _ f => e3.extBut _ _ m1 (e2 _ _ m3 (e1.extBut _ _ m1 f))) ⟨oe, e3.extBut _ _ ne ho, hc⟩
theorem zt_pyitem {z p q c d t u : Addr} {j k : Nat} {xs ys : Array Value} {x y a b : Value} {Q : Option Value → Shared → Prop} (D : ZipApart z p q c d t u)
    (hz : IsZip s.heap z p q .none) (hp : IsPair s.heap p (.ref c) (.ref d)) (hq : IsPair s.heap q a b)
    (h1 : s.heap.IsTupleIter c t j) (h2 : s.heap.IsTupleIter d u k) (ht : s.heap.IsTuple t xs) (hu : s.heap.IsTuple u ys) (hx : xs[j]? = some x) (hy : ys[k]? = some y)
    (hQ : ∀ g, IsZip g z p q (rawInt s.heap.objs.size) → IsPair g q x y → g.IsTupleIter c t (j + 1) → g.IsTupleIter d u (k + 1) → IsPair g s.heap.objs.size x y → g.objs.size = s.heap.objs.size + 1 →
      (∀ m o, m ≠ z → m ≠ q → m ≠ c → m ≠ d → s.heap.get? m = some o → g.get? m = some o) → Q (some (.ref s.heap.objs.size)) { s with heap := g }) : wpAny (model prog w) A (pyNext (.ref z)) Q E s := by
  have hT : s.TypeIs (.ref z) "zip" := ⟨_, hz, rfl⟩
  unfold pyNext
  exact wpAny_bind (wpAny_attempt (wpAny_callSpecial?_slot (name := Str.ofString "__next__") hT F.slot_zip_next (wpAny_call_entry F.slot_zip_next hT F.entry_zip_next (zt_item D hz hp hq h1 h2 ht hu hx hy fun g a1 a2 a3 a4 a5 a6 a7 => wpAny_pure (hQ g a1 a2 a3 a4 a5 a6 a7)) (F.args_zip_next_1 _))))
theorem zt_pyend {z p q c d t u : Addr} {j k : Nat} {xs ys : Array Value} {a b : Value} {Q : Option Value → Shared → Prop} (hh : A.handled = none) (D : ZipApart z p q c d t u)
    (hz : IsZip s.heap z p q .none) (hp : IsPair s.heap p (.ref c) (.ref d)) (hq : IsPair s.heap q a b) (h1 : s.heap.IsTupleIter c t j) (ht : s.heap.IsTuple t xs) (hx : xs[j]? = none)
    (hQ : ∀ g, (∀ m o, m ≠ z → m ≠ q → m ≠ c → m ≠ d → s.heap.get? m = some o → g.get? m = some o) → Q none { s with heap := g }) : wpAny (model prog w) A (pyNext (.ref z)) Q E s := by
  have hT : s.TypeIs (.ref z) "zip" := ⟨_, hz, rfl⟩
  unfold pyNext
  refine wpAny_bind (wpAny_attempt (wpAny_callSpecial?_slot (name := Str.ofString "__next__") hT F.slot_zip_next (wpAny_call_entry F.slot_zip_next hT F.entry_zip_next (zt_end (k := k) (ys := ys) hh D hz hp hq h1 ht hx fun g e hk he => ?_) (F.args_zip_next_1 _))))
  obtain ⟨o, ho, hc⟩ := he
  exact wpAny_bind (wpAny_isInstance (T := "StopIteration") (b := true) ⟨o, ho, hc⟩ isSubtype_stop (wpAny_pure (hQ _ hk)))
end
/-! ### zip of two tuples is made -/
abbrev zt1 (h : Heap) (t : Addr) : Heap := h.push { cls := .type "tuple_iterator", data := .fields #[.ref t, .int 0 0] }
abbrev zt2 (h : Heap) (t u : Addr) : Heap := (zt1 h t).push { cls := .type "tuple_iterator", data := .fields #[.ref u, .int 0 0] }
abbrev zt3 (h : Heap) (t u : Addr) : Heap := (zt2 h t u).push { cls := .type "tuple", data := .seq #[.ref h.objs.size, .ref (zt1 h t).objs.size] }
abbrev zt4 (h : Heap) (t u : Addr) : Heap := (zt3 h t u).push { cls := .type "tuple", data := .seq #[.none, .none] }
abbrev zt5 (h : Heap) (t u : Addr) : Heap := (zt4 h t u).push { cls := .type "zip", data := .fields #[.none, .bool false, .bool false, .ref (zt2 h t u).objs.size, .ref (zt3 h t u).objs.size] }
theorem zt_meets (t u : Addr) (xs ys : Array Value) : Meets (Builtin.«zip.__new__» ⟨[.type "zip", .ref t, .ref u], []⟩) (fun _ R s => s.heap.IsTuple t xs ∧ s.heap.IsTuple u ys ∧ R (.ok (.ret (.ref (zt4 s.heap t u).objs.size))) { s with heap := zt5 s.heap t u }) :=
  .of_wp fun prog w A R s h => by
    obtain ⟨hp, g, d, tk, os⟩ := s; obtain ⟨h1, h2, h⟩ := h
    have hsub := sub_zip
    have k1 : Heap.IsTuple (Shared.heap ⟨hp, g, d, tk, os⟩) t xs := h1
    have k2 : Heap.IsTuple (Shared.heap ⟨hp.push { cls := .type "tuple_iterator", data := .fields #[.ref t, .int 0 0] }, g, d, tk, os⟩) u ys := Heap.IsTuple.push h2 _
    wp_walk using wpAny_pyIter_tuple k1, wpAny_pyIter_tuple k2
    exact ⟨_, rfl, h⟩
section
variable {prog : Program} {w : World} {A : Around} {E : Value → Shared → Prop} {s : Shared}
theorem zt_call {t u : Addr} {xs ys : Array Value} {Q : Value → Shared → Prop} (h1 : s.heap.IsTuple t xs) (h2 : s.heap.IsTuple u ys)
    (h : ∀ g n, n = s.heap.objs.size → IsZip g (n + 4) (n + 2) (n + 3) .none → IsPair g (n + 2) (.ref n) (.ref (n + 1)) → IsPair g (n + 3) .none .none → g.IsTupleIter n t 0 → g.IsTupleIter (n + 1) u 0 → g.objs.size = n + 5 →
      (∀ c o, s.heap.get? c = some o → g.get? c = some o) → Q (.ref (n + 4)) { s with heap := g }) : wpAny (model prog w) A (call (.type "zip") [.ref t, .ref u]) Q E s := by
  refine callType_new F.called_zip (by decide) (F.typeCall_zip_2 _ _) (F.newCall_zip_2 _ _) (fun obj => F.args_object_init_3 obj _ _) F.entry_zip_new (zt_meets t u xs ys) ⟨h1, h2, ?_⟩
  have z1 : (zt1 s.heap t).objs.size = s.heap.objs.size + 1 := Heap.size_push ..
  have z2 : (zt2 s.heap t u).objs.size = s.heap.objs.size + 2 := by rw [Heap.size_push, z1]
  have z3 : (zt3 s.heap t u).objs.size = s.heap.objs.size + 3 := by rw [Heap.size_push, z2]
  have z4 : (zt4 s.heap t u).objs.size = s.heap.objs.size + 4 := by rw [Heap.size_push, z3]
  have z5 : (zt5 s.heap t u).objs.size = s.heap.objs.size + 5 := by rw [Heap.size_push, z4]
  have g5 : (zt5 s.heap t u).get? (zt4 s.heap t u).objs.size = some _ := Heap.get?_push_size _ rfl
  have g4 : (zt5 s.heap t u).get? (zt3 s.heap t u).objs.size = some _ := Heap.get?_push_of_some _ (Heap.get?_push_size _ rfl)
  have g3 : (zt5 s.heap t u).get? (zt2 s.heap t u).objs.size = some _ := Heap.get?_push_of_some _ (Heap.get?_push_of_some _ (Heap.get?_push_size _ rfl))
  have g2 : (zt5 s.heap t u).get? (zt1 s.heap t).objs.size = some _ := Heap.get?_push_of_some _ (Heap.get?_push_of_some _ (Heap.get?_push_of_some _ (Heap.get?_push_size _ rfl)))
  have g1 : (zt5 s.heap t u).get? s.heap.objs.size = some _ := Heap.get?_push_of_some _ (Heap.get?_push_of_some _ (Heap.get?_push_of_some _ (Heap.get?_push_of_some _ (Heap.get?_push_size _ rfl))))
  show _ ∧ _
  rw [z2, z3, z4] at g5
  rw [z1, z2] at g3
  rw [z3] at g4
  rw [z1] at g2
  rw [z4]
  refine ⟨⟨_, g5, rfl⟩, h _ _ rfl g5 g3 g4 ⟨_, g1, rfl, rfl⟩ ⟨_, g2, rfl, rfl⟩ z5 fun c o e => ?_⟩
  exact Heap.get?_push_of_some _ (Heap.get?_push_of_some _ (Heap.get?_push_of_some _ (Heap.get?_push_of_some _ (Heap.get?_push_of_some _ e))))
end
end PySem

set_option Elab.async false
set_option linter.all false
set_option maxRecDepth 100000
set_option maxHeartbeats 4000000
namespace L2
open PySem PySem.Spec PyProof.Rows
section
variable {X : Cx} {pins : List (Addr × Obj)} {σ : List (Option V)} {H : Hp} {s : Shared} {h' : Heap}
/-- records of ours have turned, and a new object is laid and tracked -/
theorem Inv.turnedN {t' : Nat} {fp : List Addr} {a : Addr} {o : HO} (I : Inv X pins σ H s) (hf : ∀ b ∈ fp, FpOk X pins H b) (k : ∀ b u, b ∉ fp → s.heap.get? b = some u → h'.get? b = some u) (hp : s.heap.objs.size ≤ a)
    (new : ObjOk X.prog X.w (upd H a o) h' a o) : Inv X pins σ (upd H a o) { s with heap := h', toks := t' } := by
  have hn := I.hok.fresh hp
  have nfp : ∀ b u, H b = some u → b ∉ fp := fun b u e z => by rw [(hf b z).1] at e; cases e
  have na : ∀ b u, s.heap.get? b = some u → b ≠ a := fun b u e => Nat.ne_of_lt (Nat.lt_of_lt_of_le (Heap.lt_size e) hp)
  have up : ∀ b u, H b = some u → upd H a o b = some u := fun b u e => by rw [upd_ne (ne_of_none e hn)]; exact e
  refine I.step (g' := s.gens) (d' := s.drawn) (ch := fp) (fun b hb => ?_) (fun b u _ _ hc e _ => k b u hc e) (fun b u _ _ hc e _ => ⟨u.slots, k b u hc e⟩) (fun b u _ e n => by rw [upd_ne (na b u e)]; exact n)
    (fun b u hc e => ⟨u, k b u hc e⟩) (fun b _ e => up b _ e) (fun b _ _ e => up b _ e) (fun b ps e => ⟨#[], by rw [up b _ e]; simp⟩) (fun m hm => ?_) (fun b u e => ?_) I.bare
  · obtain ⟨_, h1, _, h3, h4, h5⟩ := hf b hb
    exact ⟨h3, h1, h4, h5⟩
  · obtain ⟨u, es, ep, ho, r⟩ := hm
    exact ⟨u, es, ep, k _ u (fun z => (hf _ z).2.1 rfl) ho, r⟩
  · by_cases hb : b = a
    · subst hb; rw [upd_same] at e; cases e; exact new
    · rw [upd_ne hb] at e
      refine (I.hok b u e).stay (fun c v hc q => k c v ?_ q) (fun c q => up c _ q) fun c xs q => up c _ q
      rcases hc with z | z
      · rw [z]; exact nfp b u e
      · exact nfp c _ z
theorem Inv.turnedL {t' : Nat} {fp : List Addr} (I : Inv X pins σ H s) (hf : ∀ b ∈ fp, FpOk X pins H b) (k : ∀ b u, b ∉ fp → s.heap.get? b = some u → h'.get? b = some u) : Inv X pins σ H { s with heap := h', toks := t' } := by
  have nfp : ∀ b u, H b = some u → b ∉ fp := fun b u e z => by rw [(hf b z).1] at e; cases e
  refine I.step (g' := s.gens) (d' := s.drawn) (ch := fp) (fun b hb => ?_) (fun b u _ _ hc e _ => k b u hc e) (fun b u _ _ hc e _ => ⟨u.slots, k b u hc e⟩) (fun b u _ e n => n)
    (fun b u hc e => ⟨u, k b u hc e⟩) (fun b _ e => e) (fun b _ _ e => e) (fun b ps e => ⟨#[], by rw [e]; simp⟩) (fun m hm => ?_) (fun b u e => ?_) I.bare
  · obtain ⟨_, h1, _, h3, h4, h5⟩ := hf b hb
    exact ⟨h3, h1, h4, h5⟩
  · obtain ⟨u, es, ep, ho, r⟩ := hm
    exact ⟨u, es, ep, k _ u (fun z => (hf _ z).2.1 rfl) ho, r⟩
  · refine (I.hok b u e).stay (fun c v hc q => k c v ?_ q) (fun c q => q) fun c xs q => q
    rcases hc with z | z
    · rw [z]; exact nfp b u e
    · exact nfp c _ z
end
/-! ### zip of two tuples of one length -/
def Itz (K : PySem.W.Frag) (a b : Addr) (n : Nat) : It :=
  ⟨fun i H => ∃ xs ys x y, SqT K H a xs ∧ SqT K H b ys ∧ xs[i]? = some x ∧ ys[i]? = some y,
   fun i H v H' => ∃ p x y, v = .ref p ∧ H p = none ∧ H' = upd H p (.tup [x, y]) ∧ (∀ xs, SqT K H a xs → xs[i]? = some x) ∧ ∀ ys, SqT K H b ys → ys[i]? = some y,
   fun i H => ∃ xs, SqT K H a xs ∧ xs.length ≤ i⟩
theorem turn_zip {P : Program} {w : World} {K : PySem.W.Frag} {es : List Expr} {x1} {pos : Pos} {z p q c d a b : Addr} {n : Nat} (D : ZipApart z p q c d a b) : Turn P w K (.Tuple es x1 pos) (Itz K a b n) [z, p, q, c, d] z
    (fun i h => IsZip h z p q .none ∧ IsPair h p (.ref c) (.ref d) ∧ (∃ u v, IsPair h q u v) ∧ h.IsTupleIter c a i ∧ h.IsTupleIter d b i) where
  mem := by simp
  obj := fun i h st b hb => by
    obtain ⟨hz, hp, ⟨u, v, hq⟩, ⟨oc, ec, _, dc⟩, ⟨od, ed, _, dd⟩⟩ := st
    simp only [List.mem_cons, List.not_mem_nil, or_false] at hb
    rcases hb with rfl | rfl | rfl | rfl | rfl
    · exact ⟨_, hz, fun v e => by cases (show Data.fields _ = Data.cell v from e)⟩
    · exact ⟨_, hp, fun v e => by cases (show Data.seq _ _ = Data.cell v from e)⟩
    · exact ⟨_, hq, fun v e => by cases (show Data.seq _ _ = Data.cell v from e)⟩
    · exact ⟨oc, ec, fun v e => by rw [dc] at e; cases e⟩
    · exact ⟨od, ed, fun v e => by rw [dd] at e; cases e⟩
  keep := fun i h h' st k => by
    obtain ⟨hz, hp, ⟨u, v, hq⟩, ⟨oc, ec, rc⟩, ⟨od, ed, rd⟩⟩ := st
    exact ⟨k z (by simp) _ hz, k p (by simp) _ hp, ⟨u, v, k q (by simp) _ hq⟩, ⟨oc, k c (by simp) _ ec, rc⟩, ⟨od, k d (by simp) _ ed, rd⟩⟩
  item := by
    intro X hP hw hK hc i pins s σ H E I hf st hg
    subst hP hw hK
    obtain ⟨hz, hp, ⟨u0, v0, hq⟩, h1, h2⟩ := st
    obtain ⟨xs, ys, x, y, hxs, hys, hx, hy⟩ := hg
    obtain ⟨its, rv, pa, za⟩ := I.tuple hxs
    obtain ⟨jts, rw', pb, zb⟩ := I.tuple hys
    obtain ⟨u, hu, ru⟩ := rv.get hx
    obtain ⟨v, hv, ru'⟩ := rw'.get hy
    refine zt_pyitem D hz hp hq h1 h2 (show s.heap.IsTuple a its.toArray from pa) (show s.heap.IsTuple b jts.toArray from pb) (x := u) (y := v) (by simpa using hu) (by simpa using hv) fun g g1 g2 g3 g4 g5 g6 g7 => ?_
    refine ⟨_, rfl, wpAny_letOwnedTupleGo_zip g1 fun g' z' sb => ?_⟩
    replace sb : Heap.SameBut z g g' := sb
    have zl : z < s.heap.objs.size := Heap.lt_size hz
    have kk : ∀ b u, b ∉ [z, p, q, c, d] → s.heap.get? b = some u → g'.get? b = some u := fun b u hb e => by
      simp only [List.mem_cons, List.not_mem_nil, or_false, not_or] at hb
      exact sb.extBut _ _ hb.1 (g7 b u hb.1 hb.2.2.1 hb.2.2.2.1 hb.2.2.2.2 e)
    have pT : IsPair g' s.heap.objs.size u v := sb.extBut _ _ (Nat.ne_of_gt zl) g5
    have new : ObjOk X.prog X.w (upd H s.heap.objs.size (.tup [x, y])) g' s.heap.objs.size (.tup [x, y]) := ⟨(by show 2 ≤ sizeLine; rw [sizeLine_eq]; decide), [u, v], .cons ru (.cons ru' .nil), _, pT, rfl, _, rfl⟩
    have I1 : Inv X pins σ (upd H s.heap.objs.size (.tup [x, y])) { s with heap := g' } := I.turnedN (t' := s.toks) hf kk (Nat.le_refl _) new
    obtain ⟨oc, ec, rc⟩ := g3
    obtain ⟨od, ed, rd⟩ := g4
    refine ⟨.ref s.heap.objs.size, _, I1, rfl, ⟨s.heap.objs.size, x, y, rfl, I.hok.fresh (Nat.le_refl _), rfl, fun zs hzs => by rw [I.tuple_inj hzs hxs]; exact hx, fun zs hzs => by rw [I.tuple_inj hzs hys]; exact hy⟩,
      ⟨z', sb.extBut _ _ D.TIz (g7 p _ D.TIz D.TITO D.TIi1 D.TIi2 hp), ⟨u, v, sb.extBut _ _ D.TOz g2⟩, ⟨oc, sb.extBut _ _ D.i1z ec, rc⟩, ⟨od, sb.extBut _ _ D.i2z ed, rd⟩⟩, fun b hb => ?_⟩
    have hbn := (hf b hb).1
    have : b ≠ s.heap.objs.size := by
      have st0 : ∀ b ∈ [z, p, q, c, d], b < s.heap.objs.size := by
        intro b hb
        simp only [List.mem_cons, List.not_mem_nil, or_false] at hb
        rcases hb with rfl | rfl | rfl | rfl | rfl
        · exact Heap.lt_size hz
        · exact Heap.lt_size hp
        · exact Heap.lt_size hq
        · obtain ⟨_, e, _⟩ := h1; exact Heap.lt_size e
        · obtain ⟨_, e, _⟩ := h2; exact Heap.lt_size e
      exact Nat.ne_of_lt (st0 b hb)
    rw [upd_ne this]; exact hbn
  done := by
    intro X hP hw hK hc i pins s σ H E I hf st hg
    subst hP hw hK
    obtain ⟨hz, hp, ⟨u0, v0, hq⟩, h1, h2⟩ := st
    obtain ⟨xs, hxs, hl⟩ := hg
    obtain ⟨its, rv, pa, za⟩ := I.tuple hxs
    have hlen := rv.length
    refine zt_pyend (k := i) (ys := #[]) (I.ok.hd hc) D hz hp hq h1 (show s.heap.IsTuple a its.toArray from pa) (by simp; omega) fun g kg => ⟨rfl, I.turnedL (t' := s.toks) hf fun b u hb e => ?_⟩
    simp only [List.mem_cons, List.not_mem_nil, or_false, not_or] at hb
    exact kg b u hb.1 hb.2.2.1 hb.2.2.2.1 hb.2.2.2.2 e
  self := fun _ _ _ _ _ st h => wpAny_pyIter_zip st.1 h
def iZip (K : PySem.W.Frag) (ta tb : TE) : TI := fun σ H R => ta σ H fun x H1 => tb σ H1 fun y H2 => ∃ a b xs ys, [x, y] = [V.ref a, V.ref b] ∧ SqT K H2 a xs ∧ SqT K H2 b ys ∧ R (Itz K a b xs.length) H2
theorem bo_zip : bootBuiltins "zip" = some (.type "zip") := by decide +kernel
section
variable {X : Cx} {es : List Expr} {x1 : Nat} {tp : Pos}
theorem pi_zip {l r : Expr} {ta tb : TE} {np pos : Pos} (hg : Gl X "zip") (hm : X.mg "zip" = none) (ha : PE X l ta) (hb : PE X r tb) (he : starEach [l, r] X.env = [(false, eval l X.env), (false, eval r X.env)] := by rfl) (he2 : starEach [r] X.env = [(false, eval r X.env)] := by rfl) :
    PI X (.Tuple es x1 tp) (.Call (.Name "zip" np) [l, r] [] pos) (iZip X.K ta tb) := by
  intro pins s σ H R I h
  refine wpAny_Call_Name_kw (ld_blt I hg hm bo_zip ?_)
  have h2 : starEach (r :: []) X.env = (false, eval r X.env) :: starEach [] X.env := he2
  have h1 : starEach (l :: [r]) X.env = (false, eval l X.env) :: starEach [r] X.env := by rw [he, he2]
  refine PyProof.Rows.callWith_type1 (thn ((pa_cons ha (pa_cons hb pa_nil h2) h1 : PA X [l, r] (tCons ta (tCons tb tNil))) pos pins s σ H (fun vs H2 => ∃ a b xs ys, vs = [V.ref a, V.ref b] ∧ SqT X.K H2 a xs ∧ SqT X.K H2 b ys ∧ R (Itz X.K a b xs.length) H2) I h) fun us s1 ⟨vs, H1, I1, r1, q1⟩ => ?_) h1 (by rw [he2]; rfl)
  obtain ⟨a, b, xs, ys, rfl, hxs, hys, q⟩ := q1
  obtain ⟨u, v, rfl, ru, rv⟩ := Vals.two r1
  cases ru
  cases rv
  obtain ⟨its, rva, pa, _⟩ := I1.tuple hxs
  obtain ⟨jts, rvb, pb, _⟩ := I1.tuple hys
  refine zt_call (show s1.heap.IsTuple a its.toArray from pa) (show s1.heap.IsTuple b jts.toArray from pb) fun g n en g1 g2 g3 g4 g5 g6 g7 => ?_
  have hla : a < n := by obtain ⟨_, e, _⟩ := pa; rw [en]; exact Heap.lt_size e
  have hlb : b < n := by obtain ⟨_, e, _⟩ := pb; rw [en]; exact Heap.lt_size e
  refine wpAny_pyIter_zip g1 ?_
  refine ⟨n + 4, [n + 4, n + 2, n + 3, n, n + 1], _, _, H1, rfl, I1.kept (t' := s1.toks) g7, turn_zip (n := xs.length) (PyProof.Rows.zipApart_new hla hlb), ⟨g1, g2, ⟨_, _, g3⟩, g4, g5⟩, fun c hc => ?_, q⟩
  have : s1.heap.objs.size ≤ c := by
    simp only [List.mem_cons, List.not_mem_nil, or_false] at hc
    rw [← en]
    rcases hc with e | e | e | e | e <;> rw [e]
    · exact Nat.le_add_right n 4
    · exact Nat.le_add_right n 2
    · exact Nat.le_add_right n 3
    · exact Nat.le_refl n
    · exact Nat.le_add_right n 1
  exact I1.fpOk this (I1.hok.fresh this)
end
/-! ### a comprehension whose target is several names -/
structure CompScT (X : Cx) (scope : Scope) (cl : List (Str × Addr)) (xs ys : List Str) (js : List Nat) : Prop where
  clos : closureFor scope X.env = pure cl
  ncell : ∀ y ∈ scope.names, y.2 ≠ .cell
  kind : scope.kind = .function
  names : ∀ y ∈ scope.names, y.2 = .local → scope.names.lookup y.1 = some .local
  cells : ∀ y c, cl.lookup y = some c → X.env.cells.lookup y = some c
  has : ∀ y, ((relabel scope X.env).names.lookup y = some .cell ∨ (relabel scope X.env).names.lookup y = some .free) → ∃ c, cl.lookup y = some c
  free : ∀ (k : Nat) (y : Str), ys[k]? = some y → ∃ j : Nat, js[k]? = some j ∧ X.N[j]? = some y ∧ X.env.scope.names.lookup y = some .cell ∧ ((relabel scope X.env).names.lookup y = some .cell ∨ (relabel scope X.env).names.lookup y = some .free)
  len : js.length = ys.length
section
variable {X : Cx} {pins : List (Addr × Obj)} {σ : St} {H : Hp} {s : Shared} {scope : Scope} {cl : List (Str × Addr)} {xs ys : List Str} {js : List Nat} {fp : List Addr} {C D : Addr} {h' : Heap}
theorem Inv.compOkT (I : Inv X pins σ H s) (S : CompScT X scope cl xs ys js) (hf : ∀ b ∈ fp, FpOk X pins H b) (hfb : ∀ b ∈ fp, b < s.heap.objs.size) (hC : s.heap.objs.size ≤ C) : (cxComp X scope cl (xs ++ ys) fp s H C).Ok where
  mod := I.ok.mod
  kind := S.kind
  glob := I.ok.glob
  blt := I.ok.blt
  above := hC
  inj := fun y z c h1 h2 => I.ok.inj y z c (S.cells y c h1) (S.cells z c h2)
  has := fun y h => S.has y h
  cab := fun _ _ h => by cases h
  hd := I.ok.hd
  frames := I.ok.frames
  stk := .inl rfl
  exf := fun b hb => by
    obtain ⟨_, h1, _, h3, h4, _⟩ := hf b hb
    exact ⟨Nat.ne_of_lt (Nat.lt_of_lt_of_le (hfb b hb) hC), fun y c e => h4 y c (S.cells y c e)⟩
  bs := I.bs
  bsz := Nat.le_trans I.ok.bsz I.sz
  noex := fun b o e hb => by
    obtain ⟨_, _, _, h3, _⟩ := hf b hb
    rcases h3 with z | z
    · exact I.ok.noex b o e z
    · exact absurd (Nat.lt_of_lt_of_le (Heap.lt_size e) (Nat.le_trans I.ok.bsz z)) (Nat.lt_irrefl _)
  exfs := fun b hb z => by
    obtain ⟨_, h1, h2, _⟩ := hf b hb
    rcases List.mem_cons.mp (I.stkSub b z) with e | e
    · exact h1 e
    · exact h2 e
  funs := I.stack
  frf := I.stkFree
theorem Inv.compInT {m : Str → Option Value} {n t' : Nat} (I : Inv X pins σ H s) (S : CompScT X scope cl xs ys js) (hf : ∀ b ∈ fp, FpOk X pins H b) (hfb : ∀ b ∈ fp, b < s.heap.objs.size) (hC : s.heap.objs.size ≤ C) (hD : s.heap.objs.size ≤ D) (hDC : D ≠ C)
    (keep : ∀ b o, s.heap.get? b = some o → h'.get? b = some o) (ns : h'.Ns C m) (ho : h'.get? D = some (lstN [] n)) :
    Inv (cxComp X scope cl (xs ++ ys) fp s H C) ((X.pn ++ pins) ++ [(D, lstN [] n)]) (List.replicate xs.length none ++ got σ js) H { s with heap := h', toks := t' } where
  ok := I.compOkT S hf hfb hC
  os := rfl
  bare := I.bare
  base := Un.kept keep
  loc := by
    refine ⟨m, ns, fun i y v e1 e2 e3 => ?_⟩
    have e1 : (xs ++ ys)[i]? = some y := e1
    by_cases hi : i < xs.length
    · rw [List.getElem?_append_left (by simpa using hi), List.getElem?_replicate, if_pos hi] at e2
      cases e2
    · obtain ⟨k, rfl⟩ : ∃ k, i = xs.length + k := ⟨i - xs.length, by omega⟩
      rw [List.getElem?_append_right (by omega), Nat.add_sub_cancel_left] at e1
      rw [List.getElem?_append_right (by simp), List.length_replicate, Nat.add_sub_cancel_left] at e2
      obtain ⟨j, hj, hN, hk, hk2⟩ := S.free k y e1
      have e4 : σ[j]? = some (some v) := by
        unfold got at e2
        rw [List.getElem?_map, hj] at e2
        have e2 : σ.getD j none = some v := Option.some.inj e2
        rw [List.getD_eq_getElem?_getD] at e2
        cases q : σ[j]? with
        | none => rw [q] at e2; cases e2
        | some z => rw [q] at e2; exact congrArg some e2
      obtain ⟨m0, hn0, hl⟩ := I.loc
      obtain ⟨u, ru, l⟩ := hl j y v hN e4 (.inr (.inl hk))
      refine ⟨u, ru, .inr ⟨hk2, ?_⟩⟩
      obtain ⟨c, hc⟩ := S.has y hk2
      rcases l with ⟨z, _⟩ | ⟨_, c', hc', hcell⟩
      · have z : X.env.scope.names.lookup y = some .local := z
        rw [hk] at z; cases z
      · have q := S.cells y c hc
        rw [hc'] at q
        cases q
        obtain ⟨oc, a1, a2⟩ := hcell
        exact ⟨_, hc, oc, keep _ _ a1, a2⟩
  cell := fun y c e => by
    obtain ⟨v, oc, a1, a2⟩ := I.cell y c (S.cells y c e)
    exact ⟨v, oc, keep _ _ a1, a2⟩
  free := I.hok.fresh hC
  freeC := fun y c e => I.freeC y c (S.cells y c e)
  pin := fun p hp => by
    rcases List.mem_append.mp (show p ∈ (X.pn ++ pins) ++ [(D, lstN [] n)] from hp) with z | z
    · obtain ⟨e, nn, ne, nf, d⟩ := I.pin p z
      exact ⟨keep _ _ e, nn, Nat.ne_of_lt (Nat.lt_of_lt_of_le (Heap.lt_size e) hC), I.nostk ne nf, d⟩
    · rw [List.mem_singleton] at z
      subst z
      exact ⟨ho, I.hok.fresh hD, hDC, I.nostk (Nat.ne_of_gt (Nat.lt_of_lt_of_le I.lt hD)) (I.nofs hD), fun v z => by cases (show Data.seq _ _ = Data.cell v from z)⟩
  hok := I.hok.kept keep
  len := by simp [got, cxComp, S.len]
end
section
variable {prog : Program} {w : World} {A : Around} {s : Shared} {R : Result → Shared → Prop}
theorem compLoop_go {elt tg iter : Expr} {scope : Scope} {pos : Pos} {it acc : Value} {env : Env} (J : Nat → Shared → Prop)
    (turn : ∀ n s, J n s → wpAny (model prog w) A (pyNext it) (fun r s1 => match r with
      | none => R (.ok .next) s1
      | some v => wpAny (model prog w) A (letOwnedTupleGo tg it v) (fun _ s2 => wpAny (model prog w) A (assign tg env v) (fun _ s3 => wpAny (model prog w) A (eval elt env) (fun x s4 =>
          wpAny (model prog w) A (call (.builtin "list.append") [acc, x]) (fun _ s5 => ∃ m, m < n ∧ J m s5) (notedBy (model prog w) A env fun e s' => R (.error e) s') s4) (notedBy (model prog w) A env fun e s' => R (.error e) s') s3) (notedBy (model prog w) A env fun e s' => R (.error e) s') s2) (notedBy (model prog w) A env fun e s' => R (.error e) s') s1) (notedBy (model prog w) A env fun e s' => R (.error e) s') s)
    (n : Nat) (h : J n s) : codeAny (model prog w) A (.compLoop (.ListComp elt [⟨tg, iter, [], 0⟩] scope pos) 0 it acc env) R s := by
  refine codeAny_loop rfl J (fun n s hJ => ?_) n h
  show wpAny _ A ((compTurn (.ListComp elt [⟨tg, iter, [], 0⟩] scope pos) 0 it acc env).onRaise (fun x => do noteFrame x env; theTreesLotGoes x)) _ _ s
  refine wpAny_noted ?_
  rw [compTurn_list]
  refine wpAny_bind (wpAny_standAt (wpAny_bind (wpAny_mono (turn n s hJ) (fun r s1 h1 => ?_) fun _ _ z => z)))
  cases r with
  | none => exact wpAny_pure h1
  | some v =>
    refine wpAny_bind (wpAny_mono h1 (fun _ s2 h2 => wpAny_bind (wpAny_mono h2 (fun _ s3 h3 => wpAny_bind (wpAny_tests_nil ?_)) fun _ _ z => z)) fun _ _ z => z)
    exact wpAny_bind (wpAny_bind (wpAny_mono h3 (fun x s4 h4 => wpAny_bind (wpAny_mono h4 (fun _ s5 h5 => wpAny_pure (wpAny_pure ⟨rfl, h5⟩)) fun _ _ z => z)) fun _ _ z => z))
end
def tLCT (wi : TI) (g : TG) (te : TE) (js : List Nat) : TE := fun σ H Q => wi σ H fun J H1 => ∃ W : Nat → Nat → List V → Hp → Prop, (∃ m, W 0 m [] H1) ∧ ∀ i m vs H, W i m vs H →
  (J.stop i H ∧ vs.length ≤ sizeLine ∧ ∀ p, H p = none → Q (.ref p) (upd H p (.lst vs))) ∨
  (J.go i H ∧ ∀ x H', J.yld i H x H' → ∀ o1 o2, g x (o1 :: o2 :: got σ js) H' fun σ2 H2 => (∃ o1 o2, σ2 = o1 :: o2 :: got σ js) ∧ te σ2 H2 fun y H'' => vs.length < sizeLine ∧ ∃ m', m' < m ∧ W (i + 1) m' (vs ++ [y]) H'')
theorem pe_lcT {X : Cx} {elt iter tg : Expr} {x x2 : Str} {scope : Scope} {cl : List (Str × Addr)} {pos : Pos} {ys : List Str} {js : List Nat} {wi : TI} {g : TG} {te : TE} (hc : X.calm = true) (S : CompScT X scope cl [x, x2] ys js) (hi : PI X tg iter wi)
    (hg : ∀ (fp : List Addr) (s : Shared) (H : Hp) (C : Addr), PG (cxComp X scope cl (x :: x2 :: ys) fp s H C) tg g)
    (he : ∀ (fp : List Addr) (s : Shared) (H : Hp) (C : Addr), PE (cxComp X scope cl (x :: x2 :: ys) fp s H C) elt te) (hs : ∀ x, foldedSetIterable iter X.env x = pure x := by intro _; rfl) :
    PE X (.ListComp elt [⟨tg, iter, [], 0⟩] scope pos) (tLCT wi g te js) := by
  intro pins s σ H Q I h
  rw [eval_ListComp]
  refine wpAny_comprehension_free (use := none) rfl hs S.clos S.kind S.names (thn (hi pins s σ H _ I h) fun v s1 h1 => thn h1 fun itv s2 h2 => ?_)
  obtain ⟨it, fp, tn, J, H2, e, I2, T, st2, f2, W, ⟨m0, w0⟩, turn⟩ := h2
  subst e
  have fpb : ∀ b ∈ fp, b < s2.heap.objs.size := fun b hb => by
    obtain ⟨o, e, _⟩ := T.obj _ _ st2 b hb
    exact Heap.lt_size e
  refine wpAny_newObj_type (wpAny_newFunctionEnv S.ncell (by intro y hy; simp at hy) (fun h₁ hns₁ hsb₁ => ?_) S.kind)
  dsimp only at hns₁ hsb₁ ⊢
  generalize hH2 : s2.heap.push { cls := .type "list", dict := none, data := .seq ([] : List Value).toArray } = G2 at hns₁ hsb₁ ⊢
  have hC : G2.objs.size = s2.heap.objs.size + 1 := by rw [← hH2, Heap.size_push]
  have hDC : s2.heap.objs.size ≠ G2.objs.size := by rw [hC]; exact Nat.ne_of_lt (Nat.lt_succ_self _)
  have hCle : s2.heap.objs.size ≤ G2.objs.size := by rw [hC]; exact Nat.le_succ _
  have below : ∀ b, b < s2.heap.objs.size → b ≠ G2.objs.size ∧ b ≠ s2.heap.objs.size := fun b hb => ⟨by rw [hC]; exact Nat.ne_of_lt (Nat.lt_succ_of_lt hb), Nat.ne_of_lt hb⟩
  have old : ∀ b o, s2.heap.get? b = some o → h₁.get? b = some o := fun b o e => hsb₁.extBut b o (below b (Heap.lt_size e)).1 (Heap.get?_push_of_some _ (hH2 ▸ Heap.get?_push_of_some _ e))
  have hacc : h₁.get? s2.heap.objs.size = some (lstN [] 0) := hsb₁.extBut _ _ hDC (Heap.get?_push_of_some _ (hH2 ▸ Heap.get?_push_size _ rfl))
  have st4 : tn 0 h₁ := T.keep _ _ _ st2 fun b _ o e => old b o e
  have I4 := fun (t' : Nat) => I2.compInT (t' := t') S f2 fpb hCle (Nat.le_refl _) hDC old hns₁ hacc
  have loop : ∀ t' : Nat, codeAny (model X.prog X.w) X.A (.compLoop (.ListComp elt [⟨tg, iter, [], 0⟩] scope pos) 0 (.ref it) (.ref s2.heap.objs.size) (compEnvC scope cl G2.objs.size X.env))
      (compPost (model X.prog X.w) X.A X.xe none (EP X pins σ Q) (.ref s2.heap.objs.size) G2.objs.size) { s2 with heap := h₁, toks := t' } := by
    intro t'
    refine compLoop_go (fun n s' => ∃ i o1 o2 H' vs its c, Inv (cxComp X scope cl (x :: x2 :: ys) fp s2 H2 G2.objs.size) ((X.pn ++ pins) ++ [(s2.heap.objs.size, lstN its c)]) (o1 :: o2 :: got σ js) H' s' ∧ tn i s'.heap ∧ (∀ b ∈ fp, H' b = none) ∧ Vals vs its ∧ W i n vs H') ?_ m0
      ⟨0, none, none, H2, [], [], 0, I4 t', st4, fun b hb => (f2 b hb).1, .nil, w0⟩
    rintro n s3 ⟨i, o1, o2, H3, vs, its, c, I3, st3, fr3, rv, w3⟩
    have stat : ∀ {H' : Hp} {its' : List Value} {c' : Nat}, (∀ b ∈ fp, H' b = none) → ∀ b ∈ fp, FpOk (cxComp X scope cl (x :: x2 :: ys) fp s2 H2 G2.objs.size) ((X.pn ++ pins) ++ [(s2.heap.objs.size, lstN its' c')]) H' b := fun hn b hb => by
      obtain ⟨_, h1, h2, h3, h4, h5⟩ := f2 b hb
      refine ⟨hn b hb, (below b (fpb b hb)).1, I2.nostk h1 h2, .inl hb, fun y c e => h4 y c (S.cells y c e), fun p hp => ?_⟩
      rcases List.mem_append.mp (show p ∈ (X.pn ++ pins) ++ [(s2.heap.objs.size, _)] from hp) with z | z
      · exact h5 p z
      · rw [List.mem_singleton] at z
        subst z
        exact Ne.symm (below b (fpb b hb)).2
    rcases turn i n vs H3 w3 with ⟨stop, hz, q⟩ | ⟨go, step⟩
    · refine thn (T.done (cxComp X scope cl (x :: x2 :: ys) fp s2 H2 G2.objs.size) rfl rfl rfl hc i _ s3 _ H3 _ I3 (stat fr3) st3 stop) fun r s4 ⟨hr, I5⟩ => ?_
      subst hr
      obtain ⟨mm, hn, _⟩ := I5.loc
      refine ⟨mm, hn, fun h'' hs'' => ⟨.ref s2.heap.objs.size, _, I2.compOut f2 hCle (Nat.le_refl _) hDC I5 (List.mem_append_right _ (List.mem_singleton.mpr rfl)) rv hz hs'', rfl, q _ ?_⟩⟩
      exact (I5.pin _ (List.mem_append_right _ (List.mem_append_right _ (List.mem_singleton.mpr rfl)))).2.1
    · refine thn (T.item (cxComp X scope cl (x :: x2 :: ys) fp s2 H2 G2.objs.size) rfl rfl rfl hc i _ s3 _ H3 _ I3 (stat fr3) st3 go) fun r s4 ⟨u, hr, h4⟩ => ?_
      subst hr
      refine thn h4 fun _ s5 ⟨xv, H5, I5, r5, y5, st5, fr5⟩ => ?_
      have I5' := I5.pinned (stat fr5) (T.obj _ _ st5)
      refine wpAny_mono (hg fp s2 H2 G2.objs.size _ s5 _ H5 xv u _ I5' r5 (step xv H5 y5 o1 o2)) (fun _ s6 ⟨σ6, H6, I6, ⟨p1, p2, e6⟩, h6⟩ => ?_) (fun _ _ z => False.elim z)
      subst e6
      refine wpAny_mono (he fp s2 H2 G2.objs.size _ s6 _ _ _ I6 h6) (fun y s7 ⟨yv, H7, I7, r7, hz, m', hm, w7⟩ => ?_) (fun _ _ z => False.elim z)
      have mD : (s2.heap.objs.size, lstN its c) ∈ (X.pn ++ pins) ++ [(s2.heap.objs.size, lstN its c)] := List.mem_append_right _ (List.mem_singleton.mpr rfl)
      have pD := I7.pin (s2.heap.objs.size, lstN its c) (List.mem_append_right _ (List.mem_append_left _ mD))
      have pfp : ∀ b ∈ fp, ∀ o, s5.heap.get? b = some o → s7.heap.get? b = some o ∧ H7 b = none := fun b hb o e => by
        have z := I7.pin (b, o) (List.mem_append_right _ (List.mem_append_right _ (mem_pinsAt hb e)))
        exact ⟨z.1, z.2.1⟩
      refine append_at pD.1 (fun h8 hs8 hD8 => ?_) (by rw [List.size_toArray, ← rv.length]; exact Nat.le_of_lt hz)
      have I7a : Inv (cxComp X scope cl (x :: x2 :: ys) fp s2 H2 G2.objs.size) (X.pn ++ pins) (p1 :: p2 :: got σ js) H7 s7 := I7.pins_of fun p hp => I7.pin p (List.mem_append_right _ (List.mem_append_left _ (List.mem_append_left _ hp)))
      have I8 := I7a.turned (t' := s7.toks) (it := s2.heap.objs.size) (fun b o hb e => (hs8.2 b hb).trans e) pD.2.1 pD.2.2.1 (.inr (Nat.le_refl _)) (fun z cc e => by
          obtain ⟨v, o, e1, e2⟩ := I2.cell z cc (S.cells z cc e)
          exact Nat.ne_of_lt (Heap.lt_size e1)) (fun p hp => by
          obtain ⟨e1, _⟩ := I2.pin p hp
          exact Nat.ne_of_lt (Heap.lt_size e1))
      refine ⟨m', hm, i + 1, p1, p2, H7, vs ++ [yv], its ++ [y], c + 1, I8.pins_of fun p hp => ?_, ?_, fun b hb => ?_, Vals.append rv (.cons r7 .nil), w7⟩
      · rcases List.mem_append.mp hp with z | z
        · exact I8.pin p (List.mem_append_right _ z)
        · rw [List.mem_singleton] at z
          subst z
          refine ⟨?_, pD.2.1, pD.2.2.1, pD.2.2.2.1, fun v z => by cases (show Data.seq _ _ = Data.cell v from z)⟩
          rw [show lstN (its ++ [y]) (c + 1) = { cls := .type "list", data := .seq (its.toArray.push y) (c + 1) } by unfold lstN; rw [List.push_toArray]]
          exact hD8
      · exact T.keep _ _ _ st5 fun b hb o e => (hs8.2 b (Nat.ne_of_lt (fpb b hb))).trans (pfp b hb o e).1
      · obtain ⟨o, e, _⟩ := T.obj _ _ st5 b hb
        exact (pfp b hb o e).2
  exact codeAny_compStart_list (loop _) (T.self _ 0 _ _ _ st4 (loop _))
end L2

set_option Elab.async false
set_option linter.all false
set_option maxRecDepth 100000
set_option maxHeartbeats 4000000
namespace SW
open PySem L2
abbrev tiAdd : TIp := ipI fun i j => i + j
structure P4 where
  t : T
  u : T
  e : Env2
  d1 : DK
  d2 : DK
/-- a pair that waits -/
def P4At (H : Hp) (m : Int) (g : P4) (w : V) : Prop := ∃ (q a1 a2 : Addr) (v x : V), w = .ref q ∧ H q = some (.tup [v, x, .ref a1, .ref a2]) ∧ Den H g.t v ∧ Den H g.u x ∧ H a1 = some (.dK g.d1) ∧ H a2 = some (.dK g.d2) ∧ SI g.e g.d1 g.d2 m ∧ NoSt g.t ∧ NoSt g.u ∧ g.d1.length + g.t.size ≤ 1000 ∧ g.d2.length + g.t.size ≤ 1000
theorem P4At.mono {H H' : Hp} {m m' : Int} {g : P4} {w : V} (k : TupLe H H') (d : DkLe H H') (hm : m ≤ m') (h : P4At H m g w) : P4At H' m' g w := by
  obtain ⟨q, a1, a2, v, x, e, h1, h2, h3, h4, h5, h6, r⟩ := h
  exact ⟨q, a1, a2, v, x, e, k _ _ h1, h2.mono k, h3.mono k, d _ _ h4, d _ _ h5, h6.mono hm, r⟩
inductive P4L (H : Hp) (m : Int) : List P4 → List V → Prop where
  | nil : P4L H m [] []
  | cons {g : P4} {w : V} {gs : List P4} {us : List V} : P4At H m g w → P4L H m gs us → P4L H m (g :: gs) (w :: us)
/-- the head is the last of the list -/
inductive P4R (H : Hp) (m : Int) : List P4 → List V → Prop where
  | nil : P4R H m [] []
  | snoc {g : P4} {w : V} {gs : List P4} {us : List V} : P4R H m gs us → P4At H m g w → P4R H m (g :: gs) (us ++ [w])
theorem P4L.mono {H H' : Hp} {m m' : Int} (k : TupLe H H') (d : DkLe H H') (hm : m ≤ m') : ∀ {gs : List P4} {us : List V}, P4L H m gs us → P4L H' m' gs us
  | _, _, .nil => .nil
  | _, _, .cons a r => .cons (a.mono k d hm) (P4L.mono k d hm r)
theorem P4R.mono {H H' : Hp} {m m' : Int} (k : TupLe H H') (d : DkLe H H') (hm : m ≤ m') : ∀ {gs : List P4} {us : List V}, P4R H m gs us → P4R H' m' gs us
  | _, _, .nil => .nil
  | _, _, .snoc r a => .snoc (P4R.mono k d hm r) (a.mono k d hm)
theorem P4L.length {H : Hp} {m : Int} : ∀ {gs : List P4} {us : List V}, P4L H m gs us → us.length = gs.length
  | _, _, .nil => rfl
  | _, _, .cons _ r => by rw [List.length_cons, List.length_cons, P4L.length r]
theorem P4R.length {H : Hp} {m : Int} : ∀ {gs : List P4} {us : List V}, P4R H m gs us → us.length = gs.length
  | _, _, .nil => rfl
  | _, _, .snoc r _ => by rw [List.length_append, List.length_cons, P4R.length r]; rfl
theorem P4L.snoc {H : Hp} {m : Int} {g : P4} {w : V} : ∀ {gs : List P4} {us : List V}, P4L H m gs us → P4At H m g w → P4L H m (gs ++ [g]) (us ++ [w])
  | _, _, .nil, h => .cons h .nil
  | _, _, .cons a r, h => .cons a (P4L.snoc r h)
theorem p4_app {H : Hp} {m : Int} : ∀ {ns : List P4} {ws : List V} {gs : List P4} {us : List V}, P4R H m gs us → P4L H m ns ws → P4R H m (ns.reverse ++ gs) (us ++ ws)
  | _, _, _, _, h, .nil => by simpa using h
  | _, _, gs, us, h, .cons (g := g) (w := w) (gs := ns) (us := ws) a r => by
    have := p4_app (P4R.snoc h a) r
    rw [List.append_assoc, List.singleton_append] at this
    rw [List.reverse_cons, List.append_assoc, List.singleton_append]
    exact this
def kids4 (g : P4) (n : Int) : List P4 := match g.t, g.u with
  | .lt x a b, .lt y c d => [⟨a, c, g.e, g.d1, g.d2⟩, ⟨b, d, (x, y) :: g.e, putK g.d1 (.inr x : Key) (.int n), putK g.d2 (.inr y : Key) (.int n)⟩]
  | t, u => (t.kids.zip u.kids).map fun p => ⟨p.1, p.2, g.e, g.d1, g.d2⟩
def sz4 (gs : List P4) : Nat := (gs.map fun g => g.t.size).sum
theorem sz4_cons (g : P4) (gs : List P4) : sz4 (g :: gs) = g.t.size + sz4 gs := by simp [sz4]
theorem sz4_append (a b : List P4) : sz4 (a ++ b) = sz4 a + sz4 b := by simp [sz4]
theorem sz4_reverse (a : List P4) : sz4 a.reverse = sz4 a := by
  induction a with
  | nil => rfl
  | cons g r ih => rw [List.reverse_cons, sz4_append, ih, sz4_cons, sz4_cons]; simp [sz4]; omega
theorem sz4_len : ∀ gs : List P4, gs.length ≤ sz4 gs
  | [] => Nat.le_refl _
  | g :: r => by have := sz4_len r; have := g.t.size_pos; rw [sz4_cons, List.length_cons]; omega
/-- two pieces of one sort, without stamps -/
inductive Two : T → T → Prop where
  | num {m n : Int} : Two (.num m) (.num n)
  | name {a b : Str} : Two (.name a) (.name b)
  | sum {a b c d : T} : Two (.sum a b) (.sum c d)
  | less {a b c d : T} : Two (.less a b) (.less c d)
  | cho {a b x c d y : T} : Two (.cho a b x) (.cho c d y)
  | lt {v w : Str} {a b c d : T} : Two (.lt v a b) (.lt w c d)
theorem two_of {t u : T} (h : kind t = kind u) (n1 : NoSt t) (n2 : NoSt u) : Two t u := by
  cases t with
  | num m => obtain ⟨n, rfl⟩ := kind_num h.symm; exact .num
  | name m => obtain ⟨n, rfl⟩ := kind_name h.symm; exact .name
  | sum a b => obtain ⟨c, d, rfl⟩ := kind_sum h.symm; exact .sum
  | less a b => obtain ⟨c, d, rfl⟩ := kind_less h.symm; exact .less
  | cho a b x => obtain ⟨c, d, y, rfl⟩ := kind_cho h.symm; exact .cho
  | lt v a b => obtain ⟨w, c, d, rfl⟩ := kind_let h.symm; exact .lt
  | st0 w => exact n1.elim
  | st1 w a => exact n1.elim
  | st2 w a b => exact n1.elim
theorem ae_two {g : P4} {n : Int} (h : Two g.t g.u) : AE g.t g.u g.e ↔ hereA g.t g.u g.e ∧ ∀ x ∈ kids4 g n, AE x.t x.u x.e := by
  obtain ⟨t, u, e, d1, d2⟩ := g
  cases h with
  | num => rw [AE.inv]; exact ⟨fun h => ⟨h.2.1, fun x hx => by cases hx⟩, fun h => ⟨rfl, h.1, rfl, fun j a b ha => by cases ha⟩⟩
  | name => rw [AE.inv]; exact ⟨fun h => ⟨h.2.1, fun x hx => by cases hx⟩, fun h => ⟨rfl, h.1, rfl, fun j a b ha => by cases ha⟩⟩
  | sum =>
    rw [AE.inv]
    constructor
    · rintro ⟨_, hh, _, hs⟩
      have := all2.mp hs
      refine ⟨hh, fun x hx => ?_⟩
      simp only [kids4, T.kids, List.zip_cons_cons, List.zip_nil_right, List.map_cons, List.map_nil, List.mem_cons, List.not_mem_nil, or_false] at hx
      rcases hx with rfl | rfl
      · exact this.1
      · exact this.2
    · rintro ⟨hh, hs⟩
      exact ⟨rfl, hh, rfl, all2.mpr ⟨hs ⟨_, _, _, _, _⟩ (.head _), hs ⟨_, _, _, _, _⟩ (.tail _ (.head _))⟩⟩
  | less =>
    rw [AE.inv]
    constructor
    · rintro ⟨_, hh, _, hs⟩
      have := all2.mp hs
      refine ⟨hh, fun x hx => ?_⟩
      simp only [kids4, T.kids, List.zip_cons_cons, List.zip_nil_right, List.map_cons, List.map_nil, List.mem_cons, List.not_mem_nil, or_false] at hx
      rcases hx with rfl | rfl
      · exact this.1
      · exact this.2
    · rintro ⟨hh, hs⟩
      exact ⟨rfl, hh, rfl, all2.mpr ⟨hs ⟨_, _, _, _, _⟩ (.head _), hs ⟨_, _, _, _, _⟩ (.tail _ (.head _))⟩⟩
  | cho =>
    rw [AE.inv]
    constructor
    · rintro ⟨_, hh, _, hs⟩
      have := all3.mp hs
      refine ⟨hh, fun x hx => ?_⟩
      simp only [kids4, T.kids, List.zip_cons_cons, List.zip_nil_right, List.map_cons, List.map_nil, List.mem_cons, List.not_mem_nil, or_false] at hx
      rcases hx with rfl | rfl | rfl
      · exact this.1
      · exact this.2.1
      · exact this.2.2
    · rintro ⟨hh, hs⟩
      exact ⟨rfl, hh, rfl, all3.mpr ⟨hs ⟨_, _, _, _, _⟩ (.head _), hs ⟨_, _, _, _, _⟩ (.tail _ (.head _)), hs ⟨_, _, _, _, _⟩ (.tail _ (.tail _ (.head _)))⟩⟩
  | lt =>
    rw [AE.inv]
    constructor
    · rintro ⟨_, hh, _, hs⟩
      have := all2.mp hs
      refine ⟨hh, fun x hx => ?_⟩
      simp only [kids4, List.mem_cons, List.not_mem_nil, or_false] at hx
      rcases hx with rfl | rfl
      · exact this.1
      · exact this.2
    · rintro ⟨hh, hs⟩
      exact ⟨rfl, hh, rfl, all2.mpr ⟨hs ⟨_, _, _, _, _⟩ (.head _), hs ⟨_, _, _, _, _⟩ (.tail _ (.head _))⟩⟩
theorem sz4_kids {g : P4} {n : Int} (h : Two g.t g.u) : sz4 (kids4 g n) < g.t.size := by
  obtain ⟨t, u, e, d1, d2⟩ := g
  cases h <;> simp [kids4, T.kids, sz4, T.size] <;> omega
def spSelf : Sp := fun vs H Q _ => ∃ (g : P4) (w : V) (m : Int), vs = [w] ∧ P4At H m g w ∧ ∀ b : Bool, (b = true ↔ kind g.t = kind g.u ∧ hereA g.t g.u g.e) → Q (.bl b) H
def spPairs : Sp := fun vs H Q _ => ∃ (g : P4) (w : V) (m n : Int), vs = [w, .int n] ∧ P4At H m g w ∧ m < n ∧ kind g.t = kind g.u ∧ ∀ (l : Addr) (ws : List V) (H' : Hp), Same H H' → H l = none → H' l = some (.lst ws) → P4L H' n (kids4 g n) ws → Q (.ref l) H'
def spSbw : Sp := fun vs H Q _ => ∃ (t u : T) (v x : V), vs = [v, x] ∧ Den H t v ∧ Den H u x ∧ NoSt t ∧ NoSt u ∧ t.size ≤ 900 ∧ ∀ (b : Bool) (H' : Hp), Same H H' → (b = true ↔ AE t u []) → Q (.bl b) H'
def spAt3 (K : PySem.W.Frag) : Sp := fun vs H Q _ => ∃ (a : Addr) (ns : List Int) (i : Nat), vs = [.ref a, .int i] ∧ SqL K H a (ns.map V.int) ∧ ∀ n, Q (.int n) H
/-! ### pieces made of a piece: some piece of the same size, without stamps -/
/-- the words in it are short -/
def WL (n : Nat) : T → Prop
  | .num _ => True
  | .name w => w.length ≤ n
  | .sum a b => WL n a ∧ WL n b
  | .less a b => WL n a ∧ WL n b
  | .cho a b c => WL n a ∧ WL n b ∧ WL n c
  | .lt w a b => w.length ≤ n ∧ WL n a ∧ WL n b
  | .st0 _ => True
  | .st1 _ a => WL n a
  | .st2 _ a b => WL n a ∧ WL n b
def spRew : Sp := fun vs H Q _ => ∃ (t : T) (v : V) (l : Addr) (tail : Str), vs = [v, .ref l, .str tail] ∧ Den H t v ∧ NoSt t ∧ WL 300 t ∧ t.size ≤ 900 ∧ H l = some (.lst []) ∧ tail.length ≤ 300 ∧ ∀ (t' : T) (v' : V) (H' : Hp), Same H H' → Den H' t' v' → NoSt t' → t'.size = t.size → Q v' H'
def spBent : Sp := fun vs H Q _ => ∃ (t : T) (v : V) (a b : Int), vs = [v, .int a, .int b] ∧ Den H t v ∧ NoSt t ∧ t.size ≤ 900 ∧ ∀ (t' : T) (v' : V) (H' : Hp), Same H H' → Den H' t' v' → NoSt t' → t'.size = t.size → Q v' H'
def spSpelt : Sp := fun vs H Q _ => ∃ (t : T) (u : V), vs = [u] ∧ NoSt t ∧ t.size ≤ 900 ∧ NAt H (nt 0 "" giv0 t [] Ow.none 0) u ∧ ∀ (t' : T) (v' : V) (H' : Hp), Same H H' → Den H' t' v' → NoSt t' → t'.size = t.size → Q v' H'
def spLaw3 (K : PySem.W.Frag) : Sp := fun vs H Q _ => ∃ (a : Addr) (ns : List Int), vs = [.ref a] ∧ SqL K H a (ns.map V.int) ∧ ns.length ≤ 63 ∧ ∀ H', Q (.bl true) H'
end SW

set_option Elab.async false
set_option linter.all false
set_option maxRecDepth 100000
namespace S3
open PySem L2 SW
-- same_by_itself ['pair', 'one', 'other']
def t_sb_1 (K : PySem.W.Frag) : TS := (tRet (tC (.bl false)))
def t_sb_2 (K : PySem.W.Frag) : TS := (tIfS (tTest (tOp rNe (tOp (rIxT K) (tVar 1) (tC (.int 0))) (tOp (rIxT K) (tVar 2) (tC (.int 0))))) (t_sb_1 K) tNext)
def t_sb_3 (K : PySem.W.Frag) : TS := (tRet (tOp rEq (tOp (rIxT K) (tVar 1) (tC (.int 1))) (tOp (rIxT K) (tVar 2) (tC (.int 1)))))
def t_sb_4 (K : PySem.W.Frag) : TS := (tIfS (tTest (tOp rEq (tOp (rIxT K) (tVar 1) (tC (.int 0))) (tC (.str "number")))) (t_sb_3 K) tNext)
def t_sb_5 (K : PySem.W.Frag) : TS := (tRet (tOp rEq (tDGet2 (tOp (rIxT K) (tVar 0) (tC (.int 2))) (tOp (rIxT K) (tVar 1) (tC (.int 1))) (tOp (rIxT K) (tVar 1) (tC (.int 1)))) (tDGet2 (tOp (rIxT K) (tVar 0) (tC (.int 3))) (tOp (rIxT K) (tVar 2) (tC (.int 1))) (tOp (rIxT K) (tVar 2) (tC (.int 1))))))
def t_sb_6 (K : PySem.W.Frag) : TS := (tIfS (tTest (tOp rEq (tOp (rIxT K) (tVar 1) (tC (.int 0))) (tC (.str "name")))) (t_sb_5 K) tNext)
def t_sb (K : PySem.W.Frag) : TS := (tSeq (tAsg (tOp (rIxT K) (tVar 0) (tC (.int 0))) (gName 1)) (tSeq (tAsg (tOp (rIxT K) (tVar 0) (tC (.int 1))) (gName 2)) (tSeq (t_sb_2 K) (tSeq (t_sb_4 K) (tSeq (t_sb_6 K) (tRet (tC (.bl true))))))))
-- pairs_within ['pair', 'number', 'one', 'other', 'words', 'other_words']
def t_pw_1 (K : PySem.W.Frag) : TS := (tSeq (tAsg (tCall spWithWord [] E0 (tCons (tOp (rIxT K) (tVar 0) (tC (.int 2))) (tCons (tOp (rIxT K) (tVar 2) (tC (.int 1))) (tCons (tVar 1) tNil)))) (gName 4)) (tSeq (tAsg (tCall spWithWord [] E0 (tCons (tOp (rIxT K) (tVar 0) (tC (.int 3))) (tCons (tOp (rIxT K) (tVar 3) (tC (.int 1))) (tCons (tVar 1) tNil)))) (gName 5)) (tRet (tLst (tCons (tTup (tCons (tOp (rIxT K) (tVar 2) (tC (.int 2))) (tCons (tOp (rIxT K) (tVar 3) (tC (.int 2))) (tCons (tOp (rIxT K) (tVar 0) (tC (.int 2))) (tCons (tOp (rIxT K) (tVar 0) (tC (.int 3))) tNil))))) (tCons (tTup (tCons (tOp (rIxT K) (tVar 2) (tC (.int 3))) (tCons (tOp (rIxT K) (tVar 3) (tC (.int 3))) (tCons (tVar 4) (tCons (tVar 5) tNil))))) tNil))))))
def t_pw_2 (K : PySem.W.Frag) : TS := (tIfS (tTest (tOp rEq (tOp (rIxT K) (tVar 2) (tC (.int 0))) (tC (.str "let")))) (t_pw_1 K) tNext)
def t_pw (K : PySem.W.Frag) : TS := (tSeq (tAsg (tOp (rIxT K) (tVar 0) (tC (.int 0))) (gName 2)) (tSeq (tAsg (tOp (rIxT K) (tVar 0) (tC (.int 1))) (gName 3)) (tSeq (t_pw_2 K) (tRet (tLCT (iZip K (tCall spParts [] E0 (tCons (tVar 2) tNil)) (tCall spParts [] E0 (tCons (tVar 3) tNil))) (gTup K 2 (gCons (gName 0) (gCons (gName 1) gNil))) (tTup (tCons (tVar 0) (tCons (tVar 1) (tCons (tOp (rIxT K) (tVar 2) (tC (.int 2))) (tCons (tOp (rIxT K) (tVar 2) (tC (.int 3))) tNil))))) [0])))))
-- same_but_words ['one', 'other', 'seen', 'waiting', 'pair']
def t_sw_1 (K : PySem.W.Frag) : TS := (tRet (tC (.bl false)))
def t_sw_2 (K : PySem.W.Frag) : TS := (tIfS (tNot (tB (tCall spSelf [] E0 (tCons (tVar 4) tNil)))) (t_sw_1 K) tNext)
def t_sw_3 (K : PySem.W.Frag) : TS := (tSeq (tAsg (tBM0 K "list" rPop (tVar 3)) (gName 4)) (tSeq (t_sw_2 K) (tSeq (tAug 2 (tC (.int 1)) tiAdd) (tDrop (tBM K "list" rExtend (tVar 3) (tCons (tCall spPairs [] E0 (tCons (tVar 4) (tCons (tVar 2) tNil))) tNil))))))
def t_sw (K : PySem.W.Frag) : TS := (tSeq (tAsg (tC (.int 0)) (gName 2)) (tSeq (tAsg (tLst (tCons (tTup (tCons (tVar 0) (tCons (tVar 1) (tCons tDNewK (tCons tDNewK tNil))))) tNil)) (gName 3)) (tSeq (tWhile (tTest (tOp rGtI (tCB (cLen K) (tCons (tVar 3) tNil)) (tC (.int 0)))) (t_sw_3 K)) (tRet (tC (.bl true))))))
-- _law_reworded ['_law_piece', '_law_places', '_law_tail', '_law_order', '_law_todo', '_law_part', '_law_own', '_law_inner', '_law_k', '_law_near', '_law_pile', '_law_many', '_law_kids', '_law_front']
def t_re_1 (K : PySem.W.Frag) : TS := (tAsg (tOp rCat (tVar 6) (tLst (tCons (tOp (rIxT K) (tVar 5) (tC (.int 1))) tNil))) (gName 9))
def t_re_2 (K : PySem.W.Frag) : TS := (tIfS (tAnd (tTest (tOp rEq (tOp (rIxT K) (tVar 5) (tC (.int 0))) (tC (.str "let")))) (tTest (tOp rEq (tVar 8) (tC (.int 1))))) (t_re_1 K) tNext)
def t_re_3 (K : PySem.W.Frag) : TS := (tSeq (tAsg (tVar 6) (gName 9)) (tSeq (t_re_2 K) (tDrop (tBM K "list" rAppend (tVar 4) (tCons (tTup (tCons (tOp (rIxL K) (tVar 7) (tVar 8)) (tCons (tVar 9) tNil))) tNil)))))
def t_re_4 (K : PySem.W.Frag) : TS := (tSeq (tAsg (tBM0 K "list" rPop (tVar 4)) (gTup K 2 (gCons (gName 5) (gCons (gName 6) gNil)))) (tSeq (tDrop (tBM K "list" rAppend (tVar 3) (tCons (tTup (tCons (tVar 5) (tCons (tVar 6) tNil))) tNil))) (tSeq (tAsg (tCall spInside [] E0 (tCons (tVar 5) tNil)) (gName 7)) (tFor (iRngD (tCons (tOp rSubI (tCB (cLen K) (tCons (tVar 7) tNil)) (tC (.int 1))) (tCons (tUn rNegI (tC (.int 1))) (tCons (tUn rNegI (tC (.int 1))) tNil)))) (gName 8) (t_re_3 K)))))
def t_re_5 (K : PySem.W.Frag) : TS := (tDrop (tBM K "list" rAppend (tVar 13) (tCons (tOp (rIxT K) (tVar 5) (tC (.int 1))) tNil)))
def t_re_6 (K : PySem.W.Frag) : TS := (tIfS (tTest (tOp (rIn K false) (tOp (rIxT K) (tVar 5) (tC (.int 0))) (tLst (tCons (tC (.str "number")) (tCons (tC (.str "name")) (tCons (tC (.str "let")) (tCons (tC (.str "stamp")) tNil))))))) (t_re_5 K) tNext)
def t_re_7 (K : PySem.W.Frag) : TS := (tAsg (tOp rAddS (tOp (rIxT K) (tVar 5) (tC (.int 1))) (tVar 2)) (gSub (tVar 13) (tC (.int 1)) rSetL))
def t_re_8 (K : PySem.W.Frag) : TS := (tIfS (tOr (tTest (tOp rEq (tOp (rIxT K) (tVar 5) (tC (.int 0))) (tC (.str "let")))) (tAnd (tTest (tOp rEq (tOp (rIxT K) (tVar 5) (tC (.int 0))) (tC (.str "name")))) (tTest (tOp (rIn K false) (tOp (rIxT K) (tVar 5) (tC (.int 1))) (tVar 6))))) (t_re_7 K) tNext)
def t_re_9 (K : PySem.W.Frag) : TS := (tSeq (tAsg (tCB (cLen K) (tCons (tCall spInside [] E0 (tCons (tVar 5) tNil)) tNil)) (gName 11)) (tSeq (tAsg (tRevL K (tSl (rSlL K) (tVar 10) (tPart (tOp rSubI (tCB (cLen K) (tCons (tVar 10) tNil)) (tVar 11))) tNoPart)) (gName 12)) (tSeq (tAsg (tSl (rSlL K) (tVar 10) tNoPart (tPart (tOp rSubI (tCB (cLen K) (tCons (tVar 10) tNil)) (tVar 11)))) (gName 10)) (tSeq (tAsg (tLst (tCons (tOp (rIxT K) (tVar 5) (tC (.int 0))) tNil)) (gName 13)) (tSeq (t_re_6 K) (tSeq (t_re_8 K) (tDrop (tBM K "list" rAppend (tVar 10) (tCons (tCB (cTupleOf K) (tCons (tOp rCat (tVar 13) (tVar 12)) tNil)) tNil)))))))))
def t_re (K : PySem.W.Frag) : TS := (tSeq (tAsg (tLst tNil) (gName 3)) (tSeq (tAsg (tLst (tCons (tTup (tCons (tVar 0) (tCons (tVar 1) tNil))) tNil)) (gName 4)) (tSeq (tWhile (tTest (tOp (rNeNil K) (tVar 4) (tLst tNil))) (t_re_4 K)) (tSeq (tAsg (tLst tNil) (gName 10)) (tSeq (tFor (iRev K (tVar 3)) (gTup K 2 (gCons (gName 5) (gCons (gName 6) gNil))) (t_re_9 K)) (tRet (tOp (rIxL K) (tVar 10) (tC (.int 0)))))))))
-- _law_bent ['_law_piece', '_law_way', '_law_spot', '_law_order', '_law_todo', '_law_part', '_law_pile', '_law_k', '_law_many', '_law_kids', '_law_front']
def t_bn_1 (K : PySem.W.Frag) : TS := (tSeq (tAsg (tBM0 K "list" rPop (tVar 4)) (gName 5)) (tSeq (tDrop (tBM K "list" rAppend (tVar 3) (tCons (tVar 5) tNil))) (tAsg (tOp rCat (tVar 4) (tRevL K (tCall spInside [] E0 (tCons (tVar 5) tNil)))) (gName 4))))
def t_bn_2 (K : PySem.W.Frag) : TS := (tDrop (tBM K "list" rAppend (tVar 10) (tCons (tOp (rIxT K) (tVar 5) (tC (.int 1))) tNil)))
def t_bn_3 (K : PySem.W.Frag) : TS := (tIfS (tTest (tOp (rIn K false) (tOp (rIxT K) (tVar 5) (tC (.int 0))) (tLst (tCons (tC (.str "number")) (tCons (tC (.str "name")) (tCons (tC (.str "let")) tNil)))))) (t_bn_2 K) tNext)
def t_bn_4 (K : PySem.W.Frag) : TS := (tAsg (tOp rAddI (tOp (rIxT K) (tVar 5) (tC (.int 1))) (tC (.int 1))) (gSub (tVar 10) (tC (.int 1)) rSetL))
def t_bn_5 (K : PySem.W.Frag) : TS := (tIfS (tAnd (tTest (tOp rGtI (tVar 1) (tC (.int 0)))) (tAnd (tTest (tOp rEq (tVar 7) (tOp rModI (tVar 2) (tCB (cLen K) (tCons (tVar 3) tNil))))) (tTest (tOp rEq (tOp (rIxT K) (tVar 5) (tC (.int 0))) (tC (.str "number")))))) (t_bn_4 K) tNext)
def t_bn_6 (K : PySem.W.Frag) : TS := (tAsg (tC (.str "sab")) (gSub (tVar 10) (tC (.int 1)) rSetL))
def t_bn_7 (K : PySem.W.Frag) : TS := (tIfS (tAnd (tTest (tOp rGtI (tVar 1) (tC (.int 0)))) (tAnd (tTest (tOp rEq (tVar 7) (tOp rModI (tVar 2) (tCB (cLen K) (tCons (tVar 3) tNil))))) (tTest (tOp (rIn K false) (tOp (rIxT K) (tVar 5) (tC (.int 0))) (tLst (tCons (tC (.str "name")) (tCons (tC (.str "let")) tNil))))))) (t_bn_6 K) tNext)
def t_bn_8 (K : PySem.W.Frag) : TS := (tSeq (tAsg (tOp (rIxL K) (tVar 3) (tVar 7)) (gName 5)) (tSeq (tAsg (tCB (cLen K) (tCons (tCall spInside [] E0 (tCons (tVar 5) tNil)) tNil)) (gName 8)) (tSeq (tAsg (tRevL K (tSl (rSlL K) (tVar 6) (tPart (tOp rSubI (tCB (cLen K) (tCons (tVar 6) tNil)) (tVar 8))) tNoPart)) (gName 9)) (tSeq (tAsg (tSl (rSlL K) (tVar 6) tNoPart (tPart (tOp rSubI (tCB (cLen K) (tCons (tVar 6) tNil)) (tVar 8)))) (gName 6)) (tSeq (tAsg (tLst (tCons (tOp (rIxT K) (tVar 5) (tC (.int 0))) tNil)) (gName 10)) (tSeq (t_bn_3 K) (tSeq (t_bn_5 K) (tSeq (t_bn_7 K) (tDrop (tBM K "list" rAppend (tVar 6) (tCons (tCB (cTupleOf K) (tCons (tOp rCat (tVar 10) (tVar 9)) tNil)) tNil)))))))))))
def t_bn (K : PySem.W.Frag) : TS := (tSeq (tAsg (tLst tNil) (gName 3)) (tSeq (tAsg (tLst (tCons (tVar 0) tNil)) (gName 4)) (tSeq (tWhile (tTest (tOp (rNeNil K) (tVar 4) (tLst tNil))) (t_bn_1 K)) (tSeq (tAsg (tLst tNil) (gName 6)) (tSeq (tFor (iRngD (tCons (tOp rSubI (tCB (cLen K) (tCons (tVar 3) tNil)) (tC (.int 1))) (tCons (tUn rNegI (tC (.int 1))) (tCons (tUn rNegI (tC (.int 1))) tNil)))) (gName 7) (t_bn_8 K)) (tRet (tOp (rIxL K) (tVar 6) (tC (.int 0)))))))))
-- _law_spelt_out ['_law_tree', '_law_order', '_law_todo', '_law_node', '_law_letters', '_law_pile', '_law_many', '_law_kids', '_law_front', '_law_word']
def t_sp_1 (K : PySem.W.Frag) : TS := (tSeq (tAsg (tBM0 K "list" rPop (tVar 2)) (gName 3)) (tSeq (tDrop (tBM K "list" rAppend (tVar 1) (tCons (tVar 3) tNil))) (tAsg (tOp rCat (tVar 2) (tRevL K (tOp (rIxT K) (tVar 3) (tC (.int 3))))) (gName 2))))
def t_sp_2 (K : PySem.W.Frag) : TS := (tDrop (tBM K "list" rAppend (tVar 8) (tCons (tOp (rIxT K) (tVar 3) (tC (.int 1))) tNil)))
def t_sp_3 (K : PySem.W.Frag) : TS := (tIfS (tTest (tOp (rIn K false) (tOp (rIxT K) (tVar 3) (tC (.int 0))) (tLst (tCons (tC (.str "number")) (tCons (tC (.str "name")) tNil))))) (t_sp_2 K) tNext)
def t_sp_4 (K : PySem.W.Frag) : TS := (tSeq (tAsg (tOp rAddS (tOp rAddS (tC (.str "w")) (tOp rIxS (tVar 4) (tOp rModI (tOp rDivI (tOp (rIxT K) (tVar 3) (tC (.int 1))) (tC (.int 26))) (tC (.int 26))))) (tOp rIxS (tVar 4) (tOp rModI (tOp (rIxT K) (tVar 3) (tC (.int 1))) (tC (.int 26))))) (gName 9)) (tAsg (tLst (tCons (tOp (rIxT K) (tVar 3) (tC (.int 0))) (tCons (tVar 9) tNil))) (gName 8)))
def t_sp_5 (K : PySem.W.Frag) : TS := (tIfS (tOr (tTest (tOp rEq (tOp (rIxT K) (tVar 3) (tC (.int 0))) (tC (.str "let")))) (tAnd (tTest (tOp rEq (tOp (rIxT K) (tVar 3) (tC (.int 0))) (tC (.str "name")))) (tNot (tB (tCB (cIsi K) (tCons (tOp (rIxT K) (tVar 3) (tC (.int 1))) (tCons (tC (.ty "str")) tNil))))))) (t_sp_4 K) tNext)
def t_sp_6 (K : PySem.W.Frag) : TS := (tSeq (tAsg (tCB (cLen K) (tCons (tOp (rIxT K) (tVar 3) (tC (.int 3))) tNil)) (gName 6)) (tSeq (tAsg (tRevL K (tSl (rSlL K) (tVar 5) (tPart (tOp rSubI (tCB (cLen K) (tCons (tVar 5) tNil)) (tVar 6))) tNoPart)) (gName 7)) (tSeq (tAsg (tSl (rSlL K) (tVar 5) tNoPart (tPart (tOp rSubI (tCB (cLen K) (tCons (tVar 5) tNil)) (tVar 6)))) (gName 5)) (tSeq (tAsg (tLst (tCons (tOp (rIxT K) (tVar 3) (tC (.int 0))) tNil)) (gName 8)) (tSeq (t_sp_3 K) (tSeq (t_sp_5 K) (tDrop (tBM K "list" rAppend (tVar 5) (tCons (tCB (cTupleOf K) (tCons (tOp rCat (tVar 8) (tVar 7)) tNil)) tNil)))))))))
def t_sp (K : PySem.W.Frag) : TS := (tSeq (tAsg (tLst tNil) (gName 1)) (tSeq (tAsg (tLst (tCons (tVar 0) tNil)) (gName 2)) (tSeq (tWhile (tTest (tOp (rNeNil K) (tVar 2) (tLst tNil))) (t_sp_1 K)) (tSeq (tAsg (tC (.str "abcdefghijklmnopqrstuvwxyz")) (gName 4)) (tSeq (tAsg (tLst tNil) (gName 5)) (tSeq (tFor (iRev K (tVar 1)) (gName 3) (t_sp_6 K)) (tRet (tOp (rIxL K) (tVar 5) (tC (.int 0))))))))))
-- _law_at ['_law_script', '_law_k']
def t_at3_1 (K : PySem.W.Frag) : TS := (tRet (tOp (rIxL K) (tVar 0) (tVar 1)))
def t_at3_2 (K : PySem.W.Frag) : TS := (tIfS (tTest (tOp rLtI (tVar 1) (tCB (cLen K) (tCons (tVar 0) tNil)))) (t_at3_1 K) tNext)
def t_at3 (K : PySem.W.Frag) : TS := (tSeq (t_at3_2 K) (tRet (tC (.int 0))))
-- law ['_law_script', '_law_one', '_law_other', '_law_due', '_law_pair', '_law_told', '_law_same']
def t_law_1 (K : PySem.W.Frag) : TS := (tAsg (tCall spSpelt [] E0 (tCons (tOp (rIxT K) (tCall spNoted [] E0 (tCons (tVar 1) (tCons (tC (.str "")) (tCons tDNewK (tCons (tC (.int 0)) tNil))))) (tC (.int 0))) tNil)) (gName 2))
def t_law_2 (K : PySem.W.Frag) : TS := (tIfS (tTest (tOp rEq (tOp rModI (tOp rDivI (tCall (spAt3 K) [] E0 (tCons (tVar 0) (tCons (tC (.int 0)) tNil))) (tC (.int 3))) (tC (.int 2))) (tC (.int 1)))) (t_law_1 K) tNext)
def t_law_3 (K : PySem.W.Frag) : TS := (tRet (tC (.bl false)))
def t_law_4 (K : PySem.W.Frag) : TS := (tIfS (tOr (tNot (tB (tCB (cIsi K) (tCons (tVar 5) (tCons (tC (.ty "bool")) tNil))))) (tTest (tOp rNe (tVar 5) (tVar 3)))) (t_law_3 K) tNext)
def t_law_5 (K : PySem.W.Frag) : TS := (tSeq (tAsg (tCall spSbw [] E0 (tCons (tOp (rIxT K) (tVar 4) (tC (.int 0))) (tCons (tOp (rIxT K) (tVar 4) (tC (.int 1))) tNil))) (gName 5)) (t_law_4 K))
def t_law (K : PySem.W.Frag) : TS := (tSeq (tAsg (tCall (spDrawn K S0) [] E0 (tCons (tSl (rSlL K) (tVar 0) (tPart (tC (.int 2))) (tPart (tOp rAddI (tC (.int 2)) (tCall (spRoom K) [] E0 (tCons (tVar 0) (tCons (tC (.int 30)) (tCons (tC (.int 98)) tNil))))))) (tCons (tLst tNil) tNil))) (gName 1)) (tSeq (tAsg (tCall spRew [] E0 (tCons (tVar 1) (tCons (tLst tNil) (tCons (tC (.str "zz")) tNil)))) (gName 2)) (tSeq (t_law_2 K) (tSeq (tAsg (tCall spBent [] E0 (tCons (tVar 2) (tCons (tOp rModI (tCall (spAt3 K) [] E0 (tCons (tVar 0) (tCons (tC (.int 0)) tNil))) (tC (.int 3))) (tCons (tCall (spAt3 K) [] E0 (tCons (tVar 0) (tCons (tC (.int 1)) tNil))) tNil)))) (gName 2)) (tSeq (tAsg (tCall spGoes [] E0 (tCons (tVar 2) (tCons (tOp (rIxT K) (tCall spNoted [] E0 (tCons (tVar 1) (tCons (tC (.str "")) (tCons tDNewK (tCons (tC (.int 0)) tNil))))) (tC (.int 0))) tNil))) (gName 3)) (tSeq (tFor (iList K (tLst (tCons (tTup (tCons (tVar 1) (tCons (tVar 2) tNil))) (tCons (tTup (tCons (tVar 2) (tCons (tVar 1) tNil))) tNil)))) (gName 4) (t_law_5 K)) (tSeq (tAsg (tCall spSbw [] E0 (tCons (tVar 1) (tCons (tVar 1) tNil))) (gName 6)) (tRet (tAndV (tCB (cIsi K) (tCons (tVar 6) (tCons (tC (.ty "bool")) tNil))) (tVar 6))))))))))
end S3

set_option Elab.async false
set_option linter.all false
set_option maxRecDepth 100000
set_option maxHeartbeats 4000000
namespace S3
open PySem L2 SW
variable {K : PySem.W.Frag} {vs : List V} {H H₀ : Hp} {Q : VK} {E : XK}
theorem rd_at3 (h : spAt3 K vs H Q E) : t_at3 K (fin Q) (start ["_law_script", "_law_k"] vs) H := by
  obtain ⟨a, ns, i, rfl, ha, hQ⟩ := h
  refine ⟨_, rfl, _, rfl, a, _, rfl, .inl ha, _, _, rfl, rfl, _, rfl, ?_⟩
  refine ite2 (fun hlt => ?_) (fun _ => hQ 0)
  have hlt : (i : Int) < ((ns.map V.int).length : Int) := of_decide_eq_true hlt
  rw [List.length_map] at hlt
  have hi : i < ns.length := by omega
  exact ⟨_, rfl, _, rfl, a, _, _, _, rfl, rfl, ha, atI_nat (v := V.int ns[i]) (by rw [List.getElem?_map, List.getElem?_eq_getElem hi]; rfl), hQ _⟩
theorem getW_scal {d1 d2 : DK} {e : Env2} {m : Int} (S : SI e d1 d2 m) (a b : Str) : scal (getW d1 a) (getW d2 b) = true := by
  unfold getW
  cases q : valV d1 (.inr a : Key) with
  | none =>
    cases r : valV d2 (.inr b : Key) with
    | none => rfl
    | some v => obtain ⟨x, rfl, _⟩ := S.i2 _ _ r; rfl
  | some v =>
    obtain ⟨x, rfl, _⟩ := S.i1 _ _ q
    cases r : valV d2 (.inr b : Key) with
    | none => rfl
    | some v => obtain ⟨y, rfl, _⟩ := S.i2 _ _ r; rfl
theorem rd_sb (h : spSelf vs H Q E) : t_sb K (fin Q) (start ["pair", "one", "other"] vs) H := by
  obtain ⟨⟨t, u, e, d1, d2⟩, w, m, rfl, ⟨q, a1, a2, v, x, rfl, hq, dt, du, h1, h2, S, n1, n2, _⟩, k⟩ := h
  obtain ⟨p, ks, rfl, hp, _⟩ := id dt.open
  obtain ⟨p2, ks2, rfl, hp2, _⟩ := id du.open
  refine ⟨_, rfl, q, _, _, _, rfl, rfl, SqT.of hq, atI_nat (j := 0) rfl, ?_⟩
  refine ⟨_, rfl, q, _, _, _, rfl, rfl, SqT.of hq, atI_nat (j := 1) rfl, ?_⟩
  refine ⟨_, rfl, p, _, _, _, rfl, rfl, SqT.of hp, hd_kind t ks, _, rfl, p2, _, _, _, rfl, rfl, SqT.of hp2, hd_kind u ks2, rfl, _, rfl, ?_⟩
  by_cases hk : kind t = kind u
  · refine iteNS (congrArg V.str hk) ?_
    have tw := two_of hk n1 n2
    cases tw with
    | @num i j =>
      refine ⟨_, rfl, p, _, _, _, rfl, rfl, SqT.of hp, atI_nat (j := 0) rfl, rfl, _, rfl, iteY (by decide +kernel) ?_⟩
      refine ⟨_, rfl, p, _, _, _, rfl, rfl, SqT.of hp, atI_nat (j := 1) rfl, _, rfl, p2, _, _, _, rfl, rfl, SqT.of hp2, atI_nat (j := 1) rfl, rfl, k _ ?_⟩
      rw [decide_eq_true_iff]
      exact ⟨fun z => ⟨rfl, V.int.inj z⟩, fun z => congrArg V.int z.2⟩
    | @name a b =>
      refine ⟨_, rfl, p, _, _, _, rfl, rfl, SqT.of hp, atI_nat (j := 0) rfl, rfl, _, rfl, iteN (by decide +kernel) ?_⟩
      refine ⟨_, rfl, p, _, _, _, rfl, rfl, SqT.of hp, atI_nat (j := 0) rfl, rfl, _, rfl, iteY (by decide +kernel) ?_⟩
      refine ⟨_, rfl, q, _, _, _, rfl, rfl, SqT.of hq, atI_nat (j := 2) rfl, a1, rfl, .inl ⟨_, .inl h1⟩, _, rfl, p, _, _, _, rfl, rfl, SqT.of hp, atI_nat (j := 1) rfl, _, rfl, p, _, _, _, rfl, rfl, SqT.of hp, atI_nat (j := 1) rfl, _, DGet.k (k := .inr a) h1, ?_⟩
      refine ⟨_, rfl, q, _, _, _, rfl, rfl, SqT.of hq, atI_nat (j := 3) rfl, a2, rfl, .inl ⟨_, .inl h2⟩, _, rfl, p2, _, _, _, rfl, rfl, SqT.of hp2, atI_nat (j := 1) rfl, _, rfl, p2, _, _, _, rfl, rfl, SqT.of hp2, atI_nat (j := 1) rfl, _, DGet.k (k := .inr b) h2, ?_⟩
      refine ⟨getW_scal S a b, k _ ?_⟩
      rw [decide_eq_true_iff]
      exact (S.rel a b).trans ⟨fun z => ⟨rfl, z⟩, fun z => z.2⟩
    | sum =>
      refine ⟨_, rfl, p, _, _, _, rfl, rfl, SqT.of hp, atI_nat (j := 0) rfl, rfl, _, rfl, iteN (by decide +kernel) ?_⟩
      refine ⟨_, rfl, p, _, _, _, rfl, rfl, SqT.of hp, atI_nat (j := 0) rfl, rfl, _, rfl, iteN (by decide +kernel) ?_⟩
      exact k true ⟨fun _ => ⟨rfl, trivial⟩, fun _ => rfl⟩
    | less =>
      refine ⟨_, rfl, p, _, _, _, rfl, rfl, SqT.of hp, atI_nat (j := 0) rfl, rfl, _, rfl, iteN (by decide +kernel) ?_⟩
      refine ⟨_, rfl, p, _, _, _, rfl, rfl, SqT.of hp, atI_nat (j := 0) rfl, rfl, _, rfl, iteN (by decide +kernel) ?_⟩
      exact k true ⟨fun _ => ⟨rfl, trivial⟩, fun _ => rfl⟩
    | cho =>
      refine ⟨_, rfl, p, _, _, _, rfl, rfl, SqT.of hp, atI_nat (j := 0) rfl, rfl, _, rfl, iteN (by decide +kernel) ?_⟩
      refine ⟨_, rfl, p, _, _, _, rfl, rfl, SqT.of hp, atI_nat (j := 0) rfl, rfl, _, rfl, iteN (by decide +kernel) ?_⟩
      exact k true ⟨fun _ => ⟨rfl, trivial⟩, fun _ => rfl⟩
    | lt =>
      refine ⟨_, rfl, p, _, _, _, rfl, rfl, SqT.of hp, atI_nat (j := 0) rfl, rfl, _, rfl, iteN (by decide +kernel) ?_⟩
      refine ⟨_, rfl, p, _, _, _, rfl, rfl, SqT.of hp, atI_nat (j := 0) rfl, rfl, _, rfl, iteN (by decide +kernel) ?_⟩
      exact k true ⟨fun _ => ⟨rfl, trivial⟩, fun _ => rfl⟩
  · refine iteY (by rw [decide_eq_false (fun z => hk (V.str.inj z))]; rfl) ?_
    exact k false ⟨(fun z => by cases z), fun z => absurd z.1 hk⟩
theorem rd_pw (h : spPairs vs H Q E) : t_pw K (fin Q) (start ["pair", "number", "one", "other", "words", "other_words"] vs) H := by
  obtain ⟨⟨t, u, e, d1, d2⟩, w, m, n, rfl, ⟨q, a1, a2, v, x, rfl, hq, dt, du, h1, h2, S, n1, n2, f1, f2⟩, hmn, hk, k⟩ := h
  have tw := two_of hk n1 n2
  obtain ⟨p, ks, rfl, hp, _⟩ := id dt.open
  obtain ⟨p2, ks2, rfl, hp2, _⟩ := id du.open
  refine ⟨_, rfl, q, _, _, _, rfl, rfl, SqT.of hq, atI_nat (j := 0) rfl, ?_⟩
  refine ⟨_, rfl, q, _, _, _, rfl, rfl, SqT.of hq, atI_nat (j := 1) rfl, ?_⟩
  refine ⟨_, rfl, p, _, _, _, rfl, rfl, SqT.of hp, hd_kind t ks, rfl, _, rfl, ?_⟩
  -- no let
  have plain : kind t ≠ "let" → (∀ (z : Int), kids4 ⟨t, u, e, d1, d2⟩ z = (t.kids.zip u.kids).map fun p => ⟨p.1, p.2, e, d1, d2⟩) → t.kids.length = u.kids.length → (∀ a ∈ t.kids, NoSt a) → (∀ a ∈ u.kids, NoSt a) →
      (tRet (tLCT (iZip K (tCall spParts [] E0 (tCons (tVar 2) tNil)) (tCall spParts [] E0 (tCons (tVar 3) tNil))) (gTup K 2 (gCons (gName 0) (gCons (gName 1) gNil))) (tTup (tCons (tVar 0) (tCons (tVar 1) (tCons (tOp (rIxT K) (tVar 2) (tC (.int 2))) (tCons (tOp (rIxT K) (tVar 2) (tC (.int 3))) tNil))))) [0])) (fin Q) [some (.ref q), some (.int n), some (.ref p), some (.ref p2), none, none] H := by
    intro _ ek hkl ns1 ns2
    refine ⟨_, rfl, t, .ref p, rfl, dt, fun l1 us1 H1 s1 g1 e1 => ?_⟩
    refine ⟨_, rfl, u, .ref p2, rfl, du.mono (tl_same s1), fun l2 us2 H2 s2 g2 e2 => ?_⟩
    have s12 := s1.trans s2
    have e1' := e1.mono (tl_same s2)
    have hl1 := e1.length
    have hl2 := e2.length
    have hkz : (kids4 ⟨t, u, e, d1, d2⟩ n).length = us1.length := by rw [ek, List.length_map, List.length_zip]; omega
    have hk3 : t.kids.length ≤ 3 := by cases t <;> simp [T.kids]
    refine ⟨l1, l2, us1, us2, rfl, SqT.of (s2 _ _ g1), SqT.of g2, ?_⟩
    refine ⟨fun i mm ws H' => i ≤ us1.length ∧ mm = us1.length - i ∧ Same H2 H' ∧ P4L H' n ((kids4 ⟨t, u, e, d1, d2⟩ n).take i) ws, ⟨_, Nat.zero_le _, rfl, fun _ _ z => z, .nil⟩, ?_⟩
    rintro i mm ws H3 ⟨hi, rfl, s3, pl⟩
    have s13 := s12.trans s3
    have hwl := pl.length
    rw [List.length_take, hkz] at hwl
    have g13 := s3 _ _ (s2 _ _ g1)
    have g23 := s3 _ _ g2
    by_cases hn : i = us1.length
    · refine .inl ⟨⟨us1, SqT.of g13, by omega⟩, by rw [hwl, sizeLine_eq]; omega, fun l hl => ?_⟩
      rw [List.take_of_length_le (by omega)] at pl
      have s4 := same_new (o := .lst ws) hl
      exact k l ws _ (s13.trans s4) (s13.free hl) upd_same (pl.mono (tl_same s4) (dk_same s4) (Int.le_refl _))
    · have hlt : i < us1.length := by omega
      obtain ⟨xa, hxa⟩ : ∃ xa, us1[i]? = some xa := ⟨us1[i], List.getElem?_eq_getElem _⟩
      obtain ⟨xb, hxb⟩ : ∃ xb, us2[i]? = some xb := ⟨us2[i]'(by omega), List.getElem?_eq_getElem _⟩
      refine .inr ⟨⟨us1, us2, xa, xb, SqT.of g13, SqT.of g23, hxa, hxb⟩, ?_⟩
      rintro z H4 ⟨pz, xa', xb', rfl, hpz, rfl, q1, q2⟩ o1 o2
      have ea := q1 us1 (SqT.of g13)
      have eb := q2 us2 (SqT.of g23)
      rw [hxa] at ea; rw [hxb] at eb
      cases ea; cases eb
      have s4 := same_new (o := .tup [xa, xb]) hpz
      have g4 : (upd H3 pz (.tup [xa, xb])) pz = some (.tup [xa, xb]) := upd_same
      generalize upd H3 pz (.tup [xa, xb]) = H4 at s4 g4 ⊢
      have s14 := s13.trans s4
      have hq4 := s14 _ _ hq
      refine ⟨pz, _, rfl, SqT.of g4, rfl, _, _, rfl, _, _, rfl, rfl, ⟨_, _, rfl⟩, ?_⟩
      refine ⟨_, rfl, _, rfl, _, rfl, q, _, _, _, rfl, rfl, SqT.of hq4, atI_nat (j := 2) rfl, _, rfl, q, _, _, _, rfl, rfl, SqT.of hq4, atI_nat (j := 3) rfl, szl, fun r hr => ?_⟩
      have s5 := same_new (o := .tup [xa, xb, .ref a1, .ref a2]) hr
      refine ⟨by rw [hwl, sizeLine_eq]; omega, us1.length - (i + 1), by omega, hlt, rfl, s3.trans (s4.trans s5), ?_⟩
      obtain ⟨ta, hta, da⟩ := denL_at e1' hxa
      obtain ⟨tb, htb, db⟩ := denL_at e2 hxb
      have hget : (kids4 ⟨t, u, e, d1, d2⟩ n)[i]? = some ⟨ta, tb, e, d1, d2⟩ := by
        rw [ek, List.getElem?_map, List.getElem?_zip_eq_some.mpr (⟨hta, htb⟩ : t.kids[i]? = some (ta, tb).1 ∧ u.kids[i]? = some (ta, tb).2)]
        rfl
      rw [List.take_add_one, hget]
      have s35 := s4.trans s5
      have s25 := s3.trans s35
      have s15 := s14.trans s5
      have hsz := kid_size (List.mem_of_getElem? hta)
      refine (pl.mono (tl_same s35) (dk_same s35) (Int.le_refl _)).snoc ⟨r, a1, a2, xa, xb, rfl, upd_same, da.mono (tl_same s25), db.mono (tl_same s25), s15 _ _ h1, s15 _ _ h2, S.mono (by omega), ns1 _ (List.mem_of_getElem? hta), ns2 _ (List.mem_of_getElem? htb), ?_, ?_⟩
      · show d1.length + ta.size ≤ 1000
        have f1 : d1.length + t.size ≤ 1000 := f1
        omega
      · show d2.length + ta.size ≤ 1000
        have f2 : d2.length + t.size ≤ 1000 := f2
        omega
  cases tw with
  | @num i1 i2 =>
    have hne : kind (T.num i1) ≠ "let" := by simp only [kind]; decide +kernel
    exact iteN (decide_eq_false fun z => hne (V.str.inj z)) (plain hne (fun _ => rfl) rfl (fun a ha => by cases ha) (fun a ha => by cases ha))
  | @name i1 i2 =>
    have hne : kind (T.name i1) ≠ "let" := by simp only [kind]; decide +kernel
    exact iteN (decide_eq_false fun z => hne (V.str.inj z)) (plain hne (fun _ => rfl) rfl (fun a ha => by cases ha) (fun a ha => by cases ha))
  | @sum i1 i2 i3 i4 =>
    have hne : kind (T.sum i1 i2) ≠ "let" := by simp only [kind]; decide +kernel
    exact iteN (decide_eq_false fun z => hne (V.str.inj z)) (plain hne (fun _ => rfl) rfl (by intro a ha; simp only [T.kids, List.mem_cons, List.not_mem_nil, or_false] at ha; exact ha.elim (fun z => z ▸ n1.1) fun z => z ▸ n1.2) (by intro a ha; simp only [T.kids, List.mem_cons, List.not_mem_nil, or_false] at ha; exact ha.elim (fun z => z ▸ n2.1) fun z => z ▸ n2.2))
  | @less i1 i2 i3 i4 =>
    have hne : kind (T.less i1 i2) ≠ "let" := by simp only [kind]; decide +kernel
    exact iteN (decide_eq_false fun z => hne (V.str.inj z)) (plain hne (fun _ => rfl) rfl (by intro a ha; simp only [T.kids, List.mem_cons, List.not_mem_nil, or_false] at ha; exact ha.elim (fun z => z ▸ n1.1) fun z => z ▸ n1.2) (by intro a ha; simp only [T.kids, List.mem_cons, List.not_mem_nil, or_false] at ha; exact ha.elim (fun z => z ▸ n2.1) fun z => z ▸ n2.2))
  | @cho i1 i2 i5 i3 i4 i6 =>
    have hne : kind (T.cho i1 i2 i5) ≠ "let" := by simp only [kind]; decide +kernel
    exact iteN (decide_eq_false fun z => hne (V.str.inj z)) (plain hne (fun _ => rfl) rfl (by intro a ha; simp only [T.kids, List.mem_cons, List.not_mem_nil, or_false] at ha; exact ha.elim (fun z => z ▸ n1.1) fun ha => ha.elim (fun z => z ▸ n1.2.1) fun z => z ▸ n1.2.2) (by intro a ha; simp only [T.kids, List.mem_cons, List.not_mem_nil, or_false] at ha; exact ha.elim (fun z => z ▸ n2.1) fun ha => ha.elim (fun z => z ▸ n2.2.1) fun z => z ▸ n2.2.2))
  | @lt w1 w2 b1 b2 c1 c2 =>
    refine iteY (by simp only [kind]; decide +kernel) ?_
    obtain ⟨p', x1, y1, ep, hp', dx1, dy1⟩ := dt
    cases ep
    obtain ⟨p2', x2, y2, ep2, hp2', dx2, dy2⟩ := du
    cases ep2
    have f1 : d1.length + (T.lt w1 b1 b2).size ≤ 1000 := f1
    have f2 : d2.length + (T.lt w1 b1 b2).size ≤ 1000 := f2
    simp only [T.size] at f1 f2
    have hb2 := b2.size_pos
    refine ⟨_, rfl, q, _, _, _, rfl, rfl, SqT.of hq, atI_nat (j := 2) rfl, _, rfl, p, _, _, _, rfl, rfl, SqT.of hp', atI_nat (j := 1) rfl, _, rfl, a1, w1, _, d1, rfl, h1, by omega, fun m1 H1 fm1 s1 g1 => ?_⟩
    refine ⟨_, rfl, q, _, _, _, rfl, rfl, SqT.of (s1 _ _ hq), atI_nat (j := 3) rfl, _, rfl, p2, _, _, _, rfl, rfl, SqT.of (s1 _ _ hp2'), atI_nat (j := 1) rfl, _, rfl, a2, w2, _, d2, rfl, s1 _ _ h2, by omega, fun m2 H2 fm2 s2 g2 => ?_⟩
    have s12 := s1.trans s2
    have hq2 := s12 _ _ hq
    have hpa := s12 _ _ hp'
    have hpb := s12 _ _ hp2'
    refine ⟨_, rfl, p, _, _, _, rfl, rfl, SqT.of hpa, atI_nat (j := 2) rfl, _, rfl, p2, _, _, _, rfl, rfl, SqT.of hpb, atI_nat (j := 2) rfl, _, rfl, q, _, _, _, rfl, rfl, SqT.of hq2, atI_nat (j := 2) rfl, _, rfl, q, _, _, _, rfl, rfl, SqT.of hq2, atI_nat (j := 3) rfl, szl, fun r1 hr1 => ?_⟩
    have s3 := same_new (o := .tup [x1, x2, .ref a1, .ref a2]) hr1
    have g3 : (upd H2 r1 (.tup [x1, x2, .ref a1, .ref a2])) r1 = some (.tup [x1, x2, .ref a1, .ref a2]) := upd_same
    generalize upd H2 r1 (.tup [x1, x2, .ref a1, .ref a2]) = H3 at s3 g3 ⊢
    refine ⟨_, rfl, p, _, _, _, rfl, rfl, SqT.of (s3 _ _ hpa), atI_nat (j := 3) rfl, _, rfl, p2, _, _, _, rfl, rfl, SqT.of (s3 _ _ hpb), atI_nat (j := 3) rfl, _, rfl, _, rfl, szl, fun r2 hr2 => ?_⟩
    have s4 := same_new (o := .tup [y1, y2, .ref m1, .ref m2]) hr2
    have g4 : (upd H3 r2 (.tup [y1, y2, .ref m1, .ref m2])) r2 = some (.tup [y1, y2, .ref m1, .ref m2]) := upd_same
    generalize upd H3 r2 (.tup [y1, y2, .ref m1, .ref m2]) = H4 at s4 g4 ⊢
    refine ⟨szl, fun l hl => ?_⟩
    have s5 := same_new (o := .lst [.ref r1, .ref r2]) hl
    have s35 := s4.trans s5
    have s25 := s3.trans s35
    have s15 := s2.trans s25
    have s05 := s1.trans s15
    have lp1 := length_putK d1 (.inr w1 : Key) (.int n)
    have lp2 := length_putK d2 (.inr w2 : Key) (.int n)
    refine k l _ _ s05 ((s12.trans (s3.trans s4)).free hl) upd_same (.cons ⟨r1, a1, a2, x1, x2, rfl, s35 _ _ g3, dx1.mono (tl_same s05), dx2.mono (tl_same s05), s05 _ _ h1, s05 _ _ h2, S.mono (by omega), n1.1, n2.1, ?_, ?_⟩
      (.cons ⟨r2, m1, m2, y1, y2, rfl, s5 _ _ g4, dy1.mono (tl_same s05), dy2.mono (tl_same s05), s15 _ _ g1, s25 _ _ g2, S.put hmn w1 w2, n1.2, n2.2, ?_, ?_⟩ .nil))
    · show d1.length + b1.size ≤ 1000; omega
    · show d2.length + b1.size ≤ 1000; omega
    · show (putK d1 (.inr w1 : Key) (.int n)).length + b2.size ≤ 1000; have := b1.size_pos; omega
    · show (putK d2 (.inr w2 : Key) (.int n)).length + b2.size ≤ 1000; have := b1.size_pos; omega
theorem rd_sw (h : spSbw vs H Q E) : t_sw K (fin Q) (start ["one", "other", "seen", "waiting", "pair"] vs) H := by
  obtain ⟨t, u, v, x, rfl, dt, du, n1, n2, hsz, k⟩ := h
  refine ⟨_, rfl, _, rfl, fun a1 ha1 => ?_⟩
  have s1 := same_new (o := .dK []) ha1
  have g1 : (upd H a1 (.dK [])) a1 = some (.dK []) := upd_same
  generalize upd H a1 (.dK []) = H1 at s1 g1 ⊢
  refine fun a2 ha2 => ?_
  have s2 := same_new (o := .dK []) ha2
  have g2 : (upd H1 a2 (.dK [])) a2 = some (.dK []) := upd_same
  generalize upd H1 a2 (.dK []) = H2 at s2 g2 ⊢
  refine ⟨szl, fun q hq => ?_⟩
  have s3 := same_new (o := .tup [v, x, .ref a1, .ref a2]) hq
  have g3 : (upd H2 q (.tup [v, x, .ref a1, .ref a2])) q = some (.tup [v, x, .ref a1, .ref a2]) := upd_same
  generalize upd H2 q (.tup [v, x, .ref a1, .ref a2]) = H3 at s3 g3 ⊢
  refine ⟨szl, fun wl hwl => ?_⟩
  have s4 := same_new (o := .lst [.ref q]) hwl
  have g4 : (upd H3 wl (.lst [.ref q])) wl = some (.lst [.ref q]) := upd_same
  generalize upd H3 wl (.lst [.ref q]) = H4 at s4 g4 ⊢
  have u3 := s3.trans s4
  have u2 := s2.trans u3
  have u1 := s1.trans u2
  have nwl : H wl = none := (s1.trans (s2.trans s3)).free hwl
  have p0 : P4At H4 0 ⟨t, u, [], [], []⟩ (.ref q) := ⟨q, a1, a2, v, x, rfl, s4 _ _ g3, dt.mono (tl_same u1), du.mono (tl_same u1), u2 _ _ g1, u3 _ _ g2, SI.start, n1, n2, by show 0 + t.size ≤ 1000; omega, by show 0 + t.size ≤ 1000; omega⟩
  refine ⟨fun m σ H' => ∃ (n : Int) (gs : List P4) (us : List V) (j4 : Option V), σ = [some v, some x, some (.int n), some (.ref wl), j4] ∧ Same H H' ∧ H' wl = some (.lst us) ∧ P4R H' n gs us ∧ (AE t u [] ↔ ∀ g ∈ gs, AE g.t g.u g.e) ∧ sz4 gs ≤ 900 ∧ m = sz4 gs,
    ⟨_, 0, [⟨t, u, [], [], []⟩], [.ref q], _, rfl, u1, g4, .snoc (us := []) .nil p0, by simp, by simp [sz4]; omega, rfl⟩, ?_⟩
  clear p0 u1 u2 u3 g4 s4 g3 s3 g2 s2 g1 s1 hwl hq ha2
  rintro m σ H5 ⟨n, gs, us, j4, rfl, s5, h5, pr, hae, few, rfl⟩
  have hul := pr.length
  have hgl := sz4_len gs
  refine ⟨_, rfl, wl, _, rfl, .inl (SqL.of h5), _, _, rfl, rfl, _, rfl, ?_⟩
  cases pr with
  | nil => exact iteN rfl (k true H5 s5 ⟨fun _ => hae.mpr (by intro g hg; cases hg), fun _ => rfl⟩)
  | @snoc g w gs us pr pg =>
    refine iteY (decide_eq_true (by rw [List.length_append]; simp only [List.length_cons, List.length_nil]; omega)) ?_
    refine ⟨fun σ' H' => ∃ m', m' < sz4 (g :: gs) ∧ ∃ (n : Int) (gs : List P4) (us : List V) (j4 : Option V), σ' = [some v, some x, some (.int n), some (.ref wl), j4] ∧ Same H H' ∧ H' wl = some (.lst us) ∧ P4R H' n gs us ∧ (AE t u [] ↔ ∀ g ∈ gs, AE g.t g.u g.e) ∧ sz4 gs ≤ 900 ∧ m' = sz4 gs, fun _ _ h => h, ?_⟩
    refine ⟨_, rfl, .inl ⟨rfl, _, SqL.of h5⟩, wl, _, w, rfl, rfl, h5, pop_at, ?_⟩
    rw [drop_at]
    have m6 := tl_lst (o := .lst us) h5
    have k6 := dk_lst (o := .lst us) h5
    have s6 : Same H (upd H5 wl (.lst us)) := same_old s5 nwl
    have h6 : (upd H5 wl (.lst us)) wl = some (.lst us) := upd_same
    have pr6 := pr.mono m6 k6 (Int.le_refl n)
    have pg6 := pg.mono m6 k6 (Int.le_refl n)
    generalize upd H5 wl (.lst us) = H6 at s6 h6 pr6 pg6 ⊢
    obtain ⟨_, _, _, _, _, _, _, _, _, _, _, _, ns1, ns2, _⟩ := id pg6
    have hall : (∀ x ∈ g :: gs, AE x.t x.u x.e) ↔ AE g.t g.u g.e ∧ ∀ x ∈ gs, AE x.t x.u x.e := by
      constructor
      · exact fun h => ⟨h _ (.head _), fun x hx => h x (.tail _ hx)⟩
      · rintro ⟨a, b⟩ x hx
        rcases List.mem_cons.mp hx with rfl | hx
        · exact a
        · exact b x hx
    rw [hall] at hae
    refine ⟨_, rfl, g, w, n, rfl, pg6, fun b hb => ⟨_, rfl, ?_⟩⟩
    cases b with
    | false =>
      refine iteT (k false H6 s6 ⟨(fun z => by cases z), fun z => ?_⟩)
      have ag := (hae.mp z).1
      rw [AE.inv] at ag
      exact hb.mpr ⟨ag.1, ag.2.1⟩
    | true =>
      refine iteF ?_
      obtain ⟨hk, hh⟩ := hb.mp rfl
      have tw := two_of hk ns1 ns2
      refine ⟨_, rfl, _, _, rfl, rfl, ?_⟩
      refine ⟨_, rfl, .inl ⟨rfl, _, SqL.of h6⟩, _, rfl, _, rfl, g, w, n, n + 1, rfl, pg6, by omega, hk, fun l ws H7 s7 n7 h7 p7 => ?_⟩
      have h67 := s7 _ _ h6
      have hzk := sz4_kids (n := n + 1) tw
      have hwl7 := p7.length
      have hlk := sz4_len (kids4 g (n + 1))
      have hul6 := pr6.length
      rw [sz4_cons] at few hgl
      rw [List.length_cons] at hgl
      refine ⟨wl, l, _, _, rfl, rfl, h67, h7, by rw [hwl7, hul6, sizeLine_eq]; omega, ?_⟩
      have m8 := tl_lst (o := .lst (us ++ ws)) h67
      have k8 := dk_lst (o := .lst (us ++ ws)) h67
      have pr8 := (pr6.mono (tl_same s7) (dk_same s7) (show n ≤ n + 1 by omega)).mono m8 k8 (Int.le_refl _)
      refine ⟨sz4 ((kids4 g (n + 1)).reverse ++ gs), by rw [sz4_append, sz4_reverse, sz4_cons]; omega, n + 1, _, us ++ ws, _, rfl, same_old (s6.trans s7) nwl, upd_same, p4_app pr8 (p7.mono m8 k8 (Int.le_refl _)), ?_, by rw [sz4_append, sz4_reverse]; omega, rfl⟩
      rw [hae, ae_two (n := n + 1) tw]
      constructor
      · rintro ⟨⟨_, a⟩, b⟩ y hy
        rcases List.mem_append.mp hy with z | z
        · exact a y (List.mem_reverse.mp z)
        · exact b y z
      · intro h
        exact ⟨⟨hh, fun y hy => h y (List.mem_append_left _ (List.mem_reverse.mpr hy))⟩, fun y hy => h y (List.mem_append_right _ hy)⟩
end S3

set_option Elab.async false
set_option linter.all false
set_option maxRecDepth 100000
set_option maxHeartbeats 4000000
namespace SW
open PySem L2
/-! ### a forest, and all its pieces in order -/
inductive Fl : List T → List T → Prop where
  | nil : Fl [] []
  | cons {e : T} {r o : List T} : Fl (e.kids ++ r) o → Fl (e :: r) (e :: o)
theorem fl_all : ∀ (n : Nat) (F : List T), sizes F ≤ n → ∃ o, Fl F o ∧ o.length = sizes F
  | _, [], _ => ⟨[], .nil, rfl⟩
  | 0, e :: r, h => by have := e.size_pos; rw [sizes_cons] at h; omega
  | n + 1, e :: r, h => by
    have hk := sizes_kids e
    rw [sizes_cons] at h
    obtain ⟨o, h1, h2⟩ := fl_all n (e.kids ++ r) (by rw [sizes_append]; omega)
    refine ⟨e :: o, .cons h1, ?_⟩
    rw [List.length_cons, h2, sizes_append, sizes_cons]; omega
theorem Fl.uniq : ∀ {o F F' : List T}, Fl F o → Fl F' o → F = F'
  | _, _, _, .nil, .nil => rfl
  | _, _, _, .cons (e := e) (r := r) a, .cons (r := r') b => by
    have := Fl.uniq a b
    rw [List.append_cancel_left this]
theorem Fl.drop : ∀ {F o : List T} (j : Nat), Fl F o → ∃ F', Fl F' (o.drop j)
  | F, o, 0, h => ⟨F, h⟩
  | _, _, j + 1, .nil => ⟨[], .nil⟩
  | _, _, j + 1, .cons a => Fl.drop j a
theorem Fl.back {F o : List T} {j : Nat} {e : T} {G : List T} (h : Fl F o) (he : o[j]? = some e) (g : Fl G (o.drop (j + 1))) : ∃ r, G = e.kids ++ r ∧ Fl (e :: r) (o.drop j) := by
  obtain ⟨hj, ee⟩ := List.getElem?_eq_some_iff.mp he
  have hd : o.drop j = e :: o.drop (j + 1) := by rw [List.drop_eq_getElem_cons hj, ee]
  obtain ⟨F', f⟩ := h.drop j
  rw [hd] at f
  cases f with
  | cons a => exact ⟨_, g.uniq a, by rw [hd]; exact .cons a⟩
theorem Fl.len : ∀ {F o : List T}, Fl F o → F.length ≤ o.length
  | _, _, .nil => Nat.le_refl _
  | _, _, .cons a => by
    have := Fl.len a
    rw [List.length_append] at this
    rw [List.length_cons, List.length_cons]; omega
theorem Fl.nost : ∀ {F o : List T}, Fl F o → (∀ t ∈ F, NoSt t) → ∀ t ∈ o, NoSt t
  | _, _, .nil, _ => fun t ht => by cases ht
  | _, _, .cons (e := e) a, h => fun t ht => by
    rcases List.mem_cons.mp ht with rfl | ht
    · exact h _ (.head _)
    · refine Fl.nost a (fun x hx => ?_) t ht
      rcases List.mem_append.mp hx with z | z
      · have he := h e (.head _)
        cases e <;> simp only [T.kids, List.mem_cons, List.not_mem_nil, or_false] at z
        case sum => exact z.elim (fun y => y ▸ he.1) fun y => y ▸ he.2
        case less => exact z.elim (fun y => y ▸ he.1) fun y => y ▸ he.2
        case cho => exact z.elim (fun y => y ▸ he.1) fun z => z.elim (fun y => y ▸ he.2.1) fun y => y ▸ he.2.2
        case lt => exact z.elim (fun y => y ▸ he.1) fun y => y ▸ he.2
        case st1 => exact he.elim
        case st2 => exact he.elim
      · exact h x (.tail _ z)
/-- one by one: a piece of the same size, without stamps -/
inductive Mt : List T → List T → Prop where
  | nil : Mt [] []
  | cons {t t' : T} {ts ts' : List T} : NoSt t' → t'.size = t.size → Mt ts ts' → Mt (t :: ts) (t' :: ts')
theorem Mt.length : ∀ {a b : List T}, Mt a b → b.length = a.length
  | _, _, .nil => rfl
  | _, _, .cons _ _ r => by rw [List.length_cons, List.length_cons, Mt.length r]
theorem Mt.split : ∀ {a b c : List T}, Mt (a ++ b) c → ∃ c1 c2, c = c1 ++ c2 ∧ Mt a c1 ∧ Mt b c2
  | [], b, c, h => ⟨[], c, rfl, .nil, h⟩
  | x :: a, b, _, .cons h1 h2 r => by
    obtain ⟨c1, c2, rfl, k1, k2⟩ := Mt.split (a := a) r
    exact ⟨_ :: c1, c2, rfl, .cons h1 h2 k1, k2⟩
/-- what stands ahead in a piece of that sort -/
def Frt : T → List V → Prop
  | .num _, fr => ∃ n, fr = [.str "number", .int n]
  | .name _, fr => ∃ w, fr = [.str "name", .str w]
  | .sum _ _, fr => fr = [.str "sum"]
  | .less _ _, fr => fr = [.str "less"]
  | .cho _ _ _, fr => fr = [.str "choose"]
  | .lt _ _ _, fr => ∃ w, fr = [.str "let", .str w]
  | _, _ => False
theorem mk_node {H : Hp} {e : T} {fr us : List V} {ts : List T} {q : Addr} (hf : Frt e fr) (m : Mt e.kids ts) (d : DenL H ts us) (hq : H q = some (.tup (fr ++ us))) : ∃ t', Den H t' (.ref q) ∧ NoSt t' ∧ t'.size = e.size := by
  cases e with
  | num n =>
    obtain ⟨n', rfl⟩ := hf
    cases m; cases d
    exact ⟨.num n', ⟨q, rfl, hq⟩, trivial, rfl⟩
  | name w =>
    obtain ⟨w', rfl⟩ := hf
    cases m; cases d
    exact ⟨.name w', ⟨q, rfl, hq⟩, trivial, rfl⟩
  | sum a b =>
    cases (show fr = _ from hf)
    cases m with | cons n1 z1 m => cases m with | cons n2 z2 m => cases m; cases d with | cons d1 d => cases d with | cons d2 d => cases d; exact ⟨.sum _ _, ⟨q, _, _, rfl, hq, d1, d2⟩, ⟨n1, n2⟩, by simp only [T.size, z1, z2]⟩
  | less a b =>
    cases (show fr = _ from hf)
    cases m with | cons n1 z1 m => cases m with | cons n2 z2 m => cases m; cases d with | cons d1 d => cases d with | cons d2 d => cases d; exact ⟨.less _ _, ⟨q, _, _, rfl, hq, d1, d2⟩, ⟨n1, n2⟩, by simp only [T.size, z1, z2]⟩
  | cho a b c =>
    cases (show fr = _ from hf)
    cases m with | cons n1 z1 m => cases m with | cons n2 z2 m => cases m with | cons n3 z3 m => cases m; cases d with | cons d1 d => cases d with | cons d2 d => cases d with | cons d3 d => cases d; exact ⟨.cho _ _ _, ⟨q, _, _, _, rfl, hq, d1, d2, d3⟩, ⟨n1, n2, n3⟩, by simp only [T.size, z1, z2, z3]⟩
  | lt w a b =>
    obtain ⟨w', rfl⟩ := hf
    cases m with | cons n1 z1 m => cases m with | cons n2 z2 m => cases m; cases d with | cons d1 d => cases d with | cons d2 d => cases d; exact ⟨.lt w' _ _, ⟨q, _, _, rfl, hq, d1, d2⟩, ⟨n1, n2⟩, by simp only [T.size, z1, z2]⟩
  | st0 w => exact hf.elim
  | st1 w a => exact hf.elim
  | st2 w a b => exact hf.elim
theorem DenL.cut2 {H : Hp} : ∀ {a b : List T} {us : List V}, DenL H (a ++ b) us → DenL H a (us.take a.length) ∧ DenL H b (us.drop a.length)
  | [], b, us, h => ⟨by rw [List.length_nil, List.take_zero]; exact .nil, h⟩
  | x :: a, b, _, .cons h r => by
    obtain ⟨k1, k2⟩ := DenL.cut2 (a := a) r
    exact ⟨.cons h k1, k2⟩
/-- the pile: the last one first -/
def PilOk (H : Hp) (F : List T) (pus : List V) : Prop := ∃ ts, DenL H ts pus.reverse ∧ Mt F ts
theorem PilOk.mono {H H' : Hp} {F : List T} {pus : List V} (k : TupLe H H') (h : PilOk H F pus) : PilOk H' F pus := by
  obtain ⟨ts, d, m⟩ := h
  exact ⟨ts, d.mono k, m⟩
theorem PilOk.len {H : Hp} {F : List T} {pus : List V} (h : PilOk H F pus) : pus.length = F.length := by
  obtain ⟨ts, d, m⟩ := h
  have := d.length
  rw [List.length_reverse] at this
  rw [this, m.length]
/-- a node is made of the last ones -/
theorem PilOk.push {H H' : Hp} {e : T} {r : List T} {pus fr : List V} {q : Addr} (h : PilOk H (e.kids ++ r) pus) (k : TupLe H H') (hf : Frt e fr) (hq : H' q = some (.tup (fr ++ (pus.drop (pus.length - e.kids.length)).reverse))) : PilOk H' (e :: r) (pus.take (pus.length - e.kids.length) ++ [.ref q]) := by
  have hlen := h.len
  rw [List.length_append] at hlen
  obtain ⟨ts, d, m⟩ := h
  obtain ⟨c1, c2, rfl, m1, m2⟩ := m.split
  have hc1 := m1.length
  obtain ⟨d1, d2⟩ := (d.mono k).cut2
  rw [hc1, List.take_reverse] at d1
  rw [hc1, List.drop_reverse] at d2
  obtain ⟨t', dt, nt, zt⟩ := mk_node hf m1 d1 hq
  refine ⟨t' :: c2, ?_, .cons nt zt m2⟩
  rw [List.reverse_append, List.reverse_cons, List.reverse_nil, List.nil_append, List.singleton_append]
  exact .cons dt d2
theorem PilOk.nil {H : Hp} : PilOk H [] [] := ⟨[], .nil, .nil⟩
theorem PilOk.one {H : Hp} {t : T} {pus : List V} (h : PilOk H [t] pus) : ∃ t' v, pus = [v] ∧ Den H t' v ∧ NoSt t' ∧ t'.size = t.size := by
  have hl := h.len
  obtain ⟨ts, d, m⟩ := h
  match pus, hl with
  | [v], _ =>
    cases m with
    | cons n z m =>
    cases m
    cases d with
    | cons d r => exact ⟨_, v, rfl, d, n, z⟩
end SW
namespace S3
open PySem L2 SW
variable {K : PySem.W.Frag} {vs : List V} {H H₀ : Hp} {Q : VK} {E : XK}
/-- the last ones are cut off -/
theorem rd_cut {ip im ik : Nat} {σ : St} {pl : Addr} {pus : List V} {n : Nat} {u : TS} {D : Ends} (hp : σ[ip]? = some (some (.ref pl))) (hm : σ[im]? = some (some (.int n))) (h1 : ik ≠ ip) (h2 : ik ≠ im) (hH : H pl = some (.lst pus)) (hn : n ≤ pus.length)
    (hD : ∀ (kl pn : Addr) (H' : Hp), Same H H' → H kl = none → H pn = none → kl ≠ pn → H' kl = some (.lst (pus.drop (pus.length - n)).reverse) → H' pn = some (.lst (pus.take (pus.length - n))) → u D ((σ.set ik (some (.ref kl))).set ip (some (.ref pn))) H') :
    (tSeq (tAsg (tRevL K (tSl (rSlL K) (tVar ip) (tPart (tOp rSubI (tCB (cLen K) (tCons (tVar ip) tNil)) (tVar im))) tNoPart)) (gName ik)) (tSeq (tAsg (tSl (rSlL K) (tVar ip) tNoPart (tPart (tOp rSubI (tCB (cLen K) (tCons (tVar ip) tNil)) (tVar im)))) (gName ip)) u)) D σ H := by
  refine ⟨_, hp, _, hp, pl, pus, rfl, .inl (SqL.of hH), _, hm, _, _, rfl, rfl, _, rfl, pl, pus, rfl, SqL.of hH, fun sl hsl => ?_⟩
  rw [cutN_from hn]
  have s1 := same_new (o := .lst (pus.drop (pus.length - n))) hsl
  have g1 : (upd H sl (.lst (pus.drop (pus.length - n)))) sl = some (.lst (pus.drop (pus.length - n))) := upd_same
  generalize upd H sl (.lst (pus.drop (pus.length - n))) = H1 at s1 g1 ⊢
  refine ⟨sl, _, rfl, SqL.of g1, fun kl hkl => ?_⟩
  have s2 := same_new (o := .lst (pus.drop (pus.length - n)).reverse) hkl
  have g2 : (upd H1 kl (.lst (pus.drop (pus.length - n)).reverse)) kl = some (.lst (pus.drop (pus.length - n)).reverse) := upd_same
  generalize upd H1 kl (.lst (pus.drop (pus.length - n)).reverse) = H2 at s2 g2 ⊢
  have s12 := s1.trans s2
  have hp2 : (σ.set ik (some (.ref kl)))[ip]? = some (some (.ref pl)) := by rw [List.getElem?_set_ne h1]; exact hp
  have hm2 : (σ.set ik (some (.ref kl)))[im]? = some (some (.int n)) := by rw [List.getElem?_set_ne h2]; exact hm
  have hH2 := s12 _ _ hH
  refine ⟨_, hp2, _, hp2, pl, pus, rfl, .inl (SqL.of hH2), _, hm2, _, _, rfl, rfl, _, rfl, pl, pus, rfl, SqL.of hH2, fun pn hpn => ?_⟩
  rw [cutN_to hn]
  have s3 := same_new (o := .lst (pus.take (pus.length - n))) hpn
  exact hD kl pn _ (s12.trans s3) (s1.free hkl) (s12.free hpn) (ne_of_none g2 hpn) (s3 _ _ g2) upd_same
/-- the node is put on the pile -/
theorem rd_put {ip ik fi : Nat} {σ : St} {pn kl fl : Addr} {qus kus fr : List V} {D : Ends} (hp : σ[ip]? = some (some (.ref pn))) (hk : σ[ik]? = some (some (.ref kl))) (hf : σ[fi]? = some (some (.ref fl))) (h1 : H pn = some (.lst qus)) (h2 : H kl = some (.lst kus)) (h3 : H fl = some (.lst fr))
    (f1 : qus.length ≤ 5000) (f2 : kus.length ≤ 5000) (f3 : fr.length ≤ 5000)
    (hD : ∀ (q : Addr) (H1 : Hp), Same H H1 → H1 q = some (.tup (fr ++ kus)) → D.nx σ (upd H1 pn (.lst (qus ++ [.ref q])))) :
    (tDrop (tBM K "list" rAppend (tVar ip) (tCons (tCB (cTupleOf K) (tCons (tOp rCat (tVar fi) (tVar ik)) tNil)) tNil))) D σ H := by
  refine ⟨_, hp, .inl ⟨rfl, _, SqL.of h1⟩, _, hf, _, hk, fl, kl, _, _, rfl, rfl, h3, h2, by rw [sizeLine_eq]; omega, fun l hl => ?_⟩
  have s1 := same_new (o := .lst (fr ++ kus)) hl
  have g1 : (upd H l (.lst (fr ++ kus))) l = some (.lst (fr ++ kus)) := upd_same
  generalize upd H l (.lst (fr ++ kus)) = H1 at s1 g1 ⊢
  refine ⟨l, _, rfl, .inl ⟨SqL.of g1, fun q hq => ?_⟩⟩
  have s2 := same_new (o := .tup (fr ++ kus)) hq
  have g2 : (upd H1 q (.tup (fr ++ kus))) q = some (.tup (fr ++ kus)) := upd_same
  generalize upd H1 q (.tup (fr ++ kus)) = H2 at s2 g2 ⊢
  exact ⟨pn, _, _, rfl, rfl, (s1.trans s2) _ _ h1, by rw [sizeLine_eq]; omega, hD q H2 (s1.trans s2) g2⟩
end S3

set_option Elab.async false
set_option linter.all false
set_option maxRecDepth 100000
set_option maxHeartbeats 4000000
namespace SW
open PySem L2
/-- all but what stands at fl is kept -/
def ButL (fl : Addr) (H H' : Hp) : Prop := ∀ b o, b ≠ fl → H b = some o → H' b = some o
theorem ButL.refl {fl : Addr} {H : Hp} : ButL fl H H := fun _ _ _ h => h
theorem ButL.same {fl : Addr} {H H1 H2 : Hp} (a : ButL fl H H1) (s : Same H1 H2) : ButL fl H H2 := fun b o hb e => s b o (a b o hb e)
theorem ButL.upd {fl : Addr} {H H1 : Hp} {o : HO} (a : ButL fl H H1) : ButL fl H (upd H1 fl o) := fun b x hb e => by rw [upd_ne hb]; exact a b x hb e
theorem cat_cons {α : Type} {us tus : List α} : (tus ++ us.reverse).reverse = us ++ tus.reverse := by simp
end SW
namespace S3
open PySem L2 SW
variable {K : PySem.W.Frag} {vs : List V} {H H₀ : Hp} {Q : VK} {E : XK}
theorem and3 {T3 : TT} {σ : St} {Qb : Bool → Hp → Prop} {a b k : Int} {ol : Addr} {ous : List V} (h1 : σ[1]? = some (some (.int a))) (h2 : σ[2]? = some (some (.int b))) (h7 : σ[7]? = some (some (.int k))) (h3 : σ[3]? = some (some (.ref ol))) (hol : H ol = some (.lst ous)) (hpos : 0 < ous.length)
    (q0 : Qb false H) (q3 : T3 σ H Qb) : (tAnd (tTest (tOp rGtI (tVar 1) (tC (.int 0)))) (tAnd (tTest (tOp rEq (tVar 7) (tOp rModI (tVar 2) (tCB (cLen K) (tCons (tVar 3) tNil))))) T3)) σ H Qb := by
  refine ⟨_, h1, _, _, rfl, rfl, _, rfl, ite2 (fun _ => ?_) (fun _ => q0)⟩
  exact ⟨_, h7, _, h2, _, h3, ol, _, rfl, .inl (SqL.of hol), _, _, rfl, rfl, (by show (0 : Int) < (ous.length : Int); omega), rfl, _, rfl, ite2 (fun _ => q3) (fun _ => q0)⟩
/-- what stands ahead of a bent piece -/
theorem rd_bn_fr {e : T} {p ol fl : Addr} {a b k : Int} {ks ous : List V} {σ : St} {u : TS} {D : Ends} (he : NoSt e) (h1 : σ[1]? = some (some (.int a))) (h2 : σ[2]? = some (some (.int b))) (h7 : σ[7]? = some (some (.int k))) (h3 : σ[3]? = some (some (.ref ol))) (h5 : σ[5]? = some (some (.ref p))) (h10 : σ[10]? = some (some (.ref fl)))
    (hp : H p = some (.tup (hd e ++ ks))) (hol : H ol = some (.lst ous)) (hpos : 0 < ous.length) (hfl : H fl = some (.lst [.str (kind e)])) (nol : ol ≠ fl)
    (hD : ∀ (fr : List V) (H' : Hp), ButL fl H H' → H' fl = some (.lst fr) → Frt e fr → fr.length ≤ 2 → u D σ H') :
    (tSeq (t_bn_3 K) (tSeq (t_bn_5 K) (tSeq (t_bn_7 K) u))) D σ H := by
  have npf : p ≠ fl := ne_of hp hfl (by intro z; cases z)
  -- behind the first test; the list is fr
  have tail : ∀ (fr : List V) (H1 : Hp), ButL fl H H1 → H1 fl = some (.lst fr) → Frt e fr → fr.length ≤ 2 → (tSeq (t_bn_5 K) (tSeq (t_bn_7 K) u)) D σ H1 := by
    intro fr H1 b1 g1 ff fn
    have hp1 := b1 _ _ npf hp
    have hol1 := b1 _ _ nol hol
    -- behind the second
    have tail2 : ∀ (fr : List V) (H2 : Hp), ButL fl H H2 → H2 fl = some (.lst fr) → Frt e fr → fr.length ≤ 2 → (tSeq (t_bn_7 K) u) D σ H2 := by
      intro fr H2 b2 g2 ff fn
      have hp2 := b2 _ _ npf hp
      have hol2 := b2 _ _ nol hol
      refine and3 h1 h2 h7 h3 hol2 hpos (iteF (hD fr H2 b2 g2 ff fn)) ?_
      refine ⟨_, h5, p, _, _, _, rfl, rfl, SqT.of hp2, hd_kind e ks, szl, fun l hl => ?_⟩
      have s3 := same_new (o := .lst [.str "name", .str "let"]) hl
      have g3 : (upd H2 l (.lst [.str "name", .str "let"])) l = some (.lst [.str "name", .str "let"]) := upd_same
      generalize upd H2 l (.lst [.str "name", .str "let"]) = H3 at s3 g3 ⊢
      refine ⟨l, _, rfl, .inl (SqL.of g3), rfl, rfl, _, rfl, ?_⟩
      have b3 := b2.same s3
      have g3' := s3 _ _ g2
      cases e with
      | num n => exact iteN (by simp only [kind]; decide +kernel) (hD fr H3 b3 g3' ff fn)
      | sum x y => exact iteN (by simp only [kind]; decide +kernel) (hD fr H3 b3 g3' ff fn)
      | less x y => exact iteN (by simp only [kind]; decide +kernel) (hD fr H3 b3 g3' ff fn)
      | cho x y z => exact iteN (by simp only [kind]; decide +kernel) (hD fr H3 b3 g3' ff fn)
      | name w =>
        obtain ⟨w', rfl⟩ := ff
        exact iteY (by simp only [kind]; decide +kernel) ⟨_, h10, fl, _, 1, 1, rfl, rfl, g3', rfl, hD [.str "name", .str "sab"] _ b3.upd upd_same ⟨_, rfl⟩ (by simp)⟩
      | lt w x y =>
        obtain ⟨w', rfl⟩ := ff
        exact iteY (by simp only [kind]; decide +kernel) ⟨_, h10, fl, _, 1, 1, rfl, rfl, g3', rfl, hD [.str "let", .str "sab"] _ b3.upd upd_same ⟨_, rfl⟩ (by simp)⟩
      | st0 w => exact he.elim
      | st1 w x => exact he.elim
      | st2 w x y => exact he.elim
    refine and3 h1 h2 h7 h3 hol1 hpos (iteF (tail2 fr H1 b1 g1 ff fn)) ?_
    refine ⟨_, h5, p, _, _, _, rfl, rfl, SqT.of hp1, hd_kind e ks, rfl, _, rfl, ?_⟩
    refine ite2 (fun hn => ?_) (fun _ => tail2 fr H1 b1 g1 ff fn)
    obtain ⟨n, rfl⟩ := kind_num (V.str.inj (of_decide_eq_true hn))
    obtain ⟨n', rfl⟩ := ff
    refine ⟨_, h5, p, _, _, _, rfl, rfl, SqT.of hp1, atI_nat (j := 1) rfl, _, _, rfl, rfl, _, h10, fl, _, 1, 1, rfl, rfl, g1, rfl, tail2 [.str "number", .int (n + 1)] _ b1.upd upd_same ⟨_, rfl⟩ (by simp)⟩
  refine ⟨_, h5, p, _, _, _, rfl, rfl, SqT.of hp, hd_kind e ks, szl, fun l hl => ?_⟩
  have s1 := same_new (o := .lst [.str "number", .str "name", .str "let"]) hl
  have g1 : (upd H l (.lst [.str "number", .str "name", .str "let"])) l = some (.lst [.str "number", .str "name", .str "let"]) := upd_same
  generalize upd H l (.lst [.str "number", .str "name", .str "let"]) = H1 at s1 g1 ⊢
  refine ⟨l, _, rfl, .inl (SqL.of g1), rfl, rfl, _, rfl, ?_⟩
  have b1 : ButL fl H H1 := ButL.refl.same s1
  have hfl1 := s1 _ _ hfl
  have hp1 := s1 _ _ hp
  cases e with
  | num n => exact iteY (by simp only [kind]; decide +kernel) ⟨_, h10, .inl ⟨rfl, _, SqL.of hfl1⟩, _, h5, p, _, _, _, rfl, rfl, SqT.of hp1, atI_nat (j := 1) rfl, fl, _, _, rfl, rfl, hfl1, szl, tail _ _ b1.upd upd_same ⟨_, rfl⟩ (by simp)⟩
  | name w => exact iteY (by simp only [kind]; decide +kernel) ⟨_, h10, .inl ⟨rfl, _, SqL.of hfl1⟩, _, h5, p, _, _, _, rfl, rfl, SqT.of hp1, atI_nat (j := 1) rfl, fl, _, _, rfl, rfl, hfl1, szl, tail _ _ b1.upd upd_same ⟨_, rfl⟩ (by simp)⟩
  | lt w x y => exact iteY (by simp only [kind]; decide +kernel) ⟨_, h10, .inl ⟨rfl, _, SqL.of hfl1⟩, _, h5, p, _, _, _, rfl, rfl, SqT.of hp1, atI_nat (j := 1) rfl, fl, _, _, rfl, rfl, hfl1, szl, tail _ _ b1.upd upd_same ⟨_, rfl⟩ (by simp)⟩
  | sum x y => exact iteN (by simp only [kind]; decide +kernel) (tail _ _ b1 hfl1 rfl (by simp))
  | less x y => exact iteN (by simp only [kind]; decide +kernel) (tail _ _ b1 hfl1 rfl (by simp))
  | cho x y z => exact iteN (by simp only [kind]; decide +kernel) (tail _ _ b1 hfl1 rfl (by simp))
  | st0 w => exact he.elim
  | st1 w x => exact he.elim
  | st2 w x y => exact he.elim
theorem rd_bn (h : spBent vs H Q E) : t_bn K (fin Q) (start ["_law_piece", "_law_way", "_law_spot", "_law_order", "_law_todo", "_law_part", "_law_pile", "_law_k", "_law_many", "_law_kids", "_law_front"] vs) H := by
  obtain ⟨t, v, a, b, rfl, dt, ns, hsz, kQ⟩ := h
  obtain ⟨o, ho, hol0⟩ := fl_all t.size [t] (by simp [sizes])
  have hol0 : o.length = t.size := by rw [hol0]; simp [sizes]
  refine ⟨szl, fun ol hol => ?_⟩
  have s1 := same_new (o := .lst []) hol
  have g1 : (upd H ol (.lst [])) ol = some (.lst []) := upd_same
  generalize upd H ol (.lst []) = H1 at s1 g1 ⊢
  refine ⟨_, rfl, szl, fun tl htl => ?_⟩
  have s2 := same_new (o := .lst [v]) htl
  have g2 : (upd H1 tl (.lst [v])) tl = some (.lst [v]) := upd_same
  have ne2 : ol ≠ tl := ne_of_none g1 htl
  generalize upd H1 tl (.lst [v]) = H2 at s2 g2 ⊢
  have s12 := s1.trans s2
  refine ⟨fun m σ H' => ∃ (tl : Addr) (os st rest : List T) (ous tus : List V) (j5 : Option V), σ = [some v, some (.int a), some (.int b), some (.ref ol), some (.ref tl), j5, none, none, none, none, none] ∧ Same H H' ∧ H tl = none ∧ ol ≠ tl ∧ H' ol = some (.lst ous) ∧ H' tl = some (.lst tus) ∧ DenL H' os ous ∧ DenL H' st tus.reverse ∧ Fl st rest ∧ os ++ rest = o ∧ m = rest.length,
    ⟨_, tl, [], [t], o, [], [v], _, rfl, s12, s1.free htl, ne2, s2 _ _ g1, g2, .nil, .cons (dt.mono (tl_same s12)) .nil, ho, rfl, rfl⟩, ?_⟩
  clear s12 g2 ne2 s2 g1 s1 htl tl
  rintro m σ H3 ⟨tl, os, st, rest, ous, tus, j5, rfl, s3, ntl, ne, h3o, h3t, dos, dst, fl, eo, rfl⟩
  have hlen := congrArg List.length eo
  rw [List.length_append] at hlen
  have hoslen := dos.length
  refine ⟨_, rfl, szl, fun e0 he0 => ?_⟩
  have s4 := same_new (o := .lst []) he0
  have g4 : (upd H3 e0 (.lst [])) e0 = some (.lst []) := upd_same
  generalize upd H3 e0 (.lst []) = H4 at s4 g4 ⊢
  have h4t := s4 _ _ h3t
  have h4o := s4 _ _ h3o
  have s34 := s3.trans s4
  refine ⟨tl, e0, tus, rfl, rfl, SqL.of h4t, SqL.of g4, _, rfl, ?_⟩
  cases fl with
  | nil =>
    have htl : tus.length = 0 := by have := dst.length; rw [List.length_reverse] at this; simpa using this
    have htn : tus = [] := List.length_eq_zero_iff.mp htl
    subst htn
    refine iteN rfl ?_
    have eo : os = o := by simpa using eo
    subst eo
    clear dst h3t h4t ntl
    -- from behind
    refine ⟨szl, fun pl hpl => ?_⟩
    have s5 := same_new (o := .lst []) hpl
    have g5 : (upd H4 pl (.lst [])) pl = some (.lst []) := upd_same
    generalize upd H4 pl (.lst []) = H5 at s5 g5 ⊢
    have h5o := s5 _ _ h4o
    refine ⟨_, rfl, ol, _, rfl, .inl (SqL.of h5o), _, _, rfl, rfl, _, rfl, _, rfl, (ous.length : Int) - 1, -1, rfl, ⟨by omega, by omega, by omega, by omega⟩, ?_⟩
    have en : ((ous.length : Int) - 1 - -1).toNat = ous.length := by omega
    rw [en]
    refine ⟨fun i m σ H' => m = ous.length - i ∧ i ≤ ous.length ∧ Same H H' ∧ H' ol = some (.lst ous) ∧ DenL H' os ous ∧ ∃ (pl : Addr) (pus : List V) (F : List T) (j5 j7 j8 j9 j10 : Option V), σ = [some v, some (.int a), some (.int b), some (.ref ol), some (.ref tl), j5, some (.ref pl), j7, j8, j9, j10] ∧ H pl = none ∧ ol ≠ pl ∧ H' pl = some (.lst pus) ∧ Fl F (os.drop (ous.length - i)) ∧ PilOk H' F pus,
      ⟨_, rfl, Nat.zero_le _, s34.trans s5, h5o, (dos.mono (tl_same s4)).mono (tl_same s5), pl, [], [], _, _, _, _, _, rfl, s34.free hpl, ne_of_none h4o hpl, g5, by rw [Nat.sub_zero, List.drop_of_length_le (by omega)]; exact .nil, .nil⟩, ?_⟩
    clear g5 h5o s5 hpl pl g4 h4o s34 s4 he0 dos h3o s3
    rintro i m σ H6 ⟨rfl, hi, s6, h6o, dos6, pl, pus, F, j5, j7, j8, j9, j10, rfl, npl, nop, h6p, flF, po⟩
    by_cases hn : i = ous.length
    · refine .inl ⟨by show ous.length ≤ i; omega, ?_⟩
      rw [hn, Nat.sub_self, List.drop_zero] at flF
      cases flF.uniq ho
      obtain ⟨t', v', rfl, d', n', z'⟩ := po.one
      exact ⟨_, rfl, pl, _, _, _, rfl, rfl, SqL.of h6p, atI_nat (j := 0) rfl, kQ t' v' H6 s6 d' n' z'⟩
    · have hlt : i < ous.length := by omega
      refine .inr ⟨show i < ous.length from hlt, _, fun σ2 H2 h => ⟨ous.length - (i + 1), by omega, h⟩, ?_⟩
      rintro v3 H7 ⟨rfl, rfl⟩
      obtain ⟨j, hj⟩ : ∃ j : Nat, j = ous.length - 1 - i := ⟨_, rfl⟩
      rw [show (ous.length : Int) - 1 - (i : Int) = (j : Int) by omega]
      obtain ⟨u, hu⟩ : ∃ u, ous[j]? = some u := ⟨ous[j]'(by omega), List.getElem?_eq_getElem _⟩
      obtain ⟨e, he, du⟩ := denL_at dos6 hu
      have nse : NoSt e := ho.nost (by intro x hx; simp at hx; subst hx; exact ns) e (List.mem_of_getElem? he)
      obtain ⟨p, ks, rfl, hp, _⟩ := id du.open
      rw [show ous.length - i = j + 1 by omega] at flF
      obtain ⟨r, rfl, flE⟩ := ho.back he flF
      have hpl9 := po.len
      have hFl := flF.len
      rw [List.length_drop] at hFl
      refine ⟨_, rfl, _, rfl, ol, ous, _, _, rfl, rfl, SqL.of h6o, atI_nat hu, ?_⟩
      refine ⟨_, rfl, e, .ref p, rfl, du, fun il us Ha sa na ha da => ⟨il, us, rfl, .inl (SqL.of ha), ?_⟩⟩
      have hul := da.length
      rw [List.length_append] at hpl9 hFl
      refine rd_cut (ip := 6) (im := 8) (ik := 9) rfl rfl (by decide) (by decide) (sa _ _ h6p) (by omega) fun kl pn Hb sb nk np nkp gk gp => ?_
      have sab := sa.trans sb
      refine ⟨_, rfl, p, _, _, _, rfl, rfl, SqT.of (sab _ _ hp), hd_kind e ks, szl, fun fl hfl => ?_⟩
      have sc := same_new (o := .lst [.str (kind e)]) hfl
      have gc : (upd Hb fl (.lst [.str (kind e)])) fl = some (.lst [.str (kind e)]) := upd_same
      generalize upd Hb fl (.lst [.str (kind e)]) = Hc at sc gc ⊢
      have sac := sab.trans sc
      have h6oc := sac _ _ h6o
      have nof : ol ≠ fl := ne_of_none (sab _ _ h6o) hfl
      refine rd_bn_fr (σ := [some v, some (.int a), some (.int b), some (.ref ol), some (.ref tl), some (.ref p), some (.ref pn), some (.int j), some (.int us.length), some (.ref kl), some (.ref fl)]) nse rfl rfl rfl rfl rfl rfl (sac _ _ hp) h6oc (by omega) gc nof fun fr Hd bd gd ff fn => ?_
      have nkf : kl ≠ fl := ne_of_none gk hfl
      have nnf : pn ≠ fl := ne_of_none gp hfl
      have hkd := bd _ _ nkf (sc _ _ gk)
      have hpd := bd _ _ nnf (sc _ _ gp)
      refine rd_put (ip := 6) (ik := 9) (fi := 10) rfl rfl rfl hpd hkd gd (by rw [List.length_take]; omega) (by rw [List.length_reverse, List.length_drop]; omega) (by omega) fun q He se ge => ?_
      have same7 : ∀ b o, b ≠ pn → b ≠ fl → H7 b = some o → (upd He pn (.lst (pus.take (pus.length - us.length) ++ [.ref q]))) b = some o := fun b o h1 h2 e => by
        rw [upd_ne h1]; exact se _ _ (bd _ _ h2 (sac _ _ e))
      have tl7 : TupLe H7 He := fun b xs e => se _ _ (bd _ _ (ne_of (sac _ _ e) gc (by intro z; cases z)) (sac _ _ e))
      have hpe := se _ _ hpd
      have tlU := tl_lst (o := .lst (pus.take (pus.length - us.length) ++ [.ref q])) hpe
      have npn6 : ∀ {b : Addr} {o : HO}, H7 b = some o → b ≠ pn := fun e => ne_of_none (sa _ _ e) np
      have nfl6 : ∀ {b : Addr} {o : HO}, H7 b = some o → b ≠ fl := fun e => ne_of_none (sab _ _ e) hfl
      refine ⟨rfl, hlt, fun b o e => same7 b o (npn6 (s6 _ _ e)) (nfl6 (s6 _ _ e)) (s6 _ _ e), same7 _ _ (npn6 h6o) (nfl6 h6o) h6o, (dos6.mono tl7).mono tlU, pn, _, e :: r, _, _, _, _, _, rfl, (s6.trans sa).free np, npn6 h6o, upd_same, by rw [show ous.length - (i + 1) = j by omega]; exact flE, ?_⟩
      rw [hul] at ge tlU ⊢
      exact (po.push tl7 ff ge).mono tlU
  | @cons e r o' fl =>
    obtain ⟨tus', u, rfl⟩ : ∃ tus' u, tus = tus' ++ [u] := by
      have hl := dst.length
      rw [List.length_reverse, List.length_cons] at hl
      exact ⟨tus.dropLast, tus.getLast (by intro z; subst z; simp at hl), (List.dropLast_concat_getLast _).symm⟩
    rw [List.reverse_append, List.reverse_cons, List.reverse_nil, List.nil_append, List.singleton_append] at dst
    cases dst with
    | cons de dst =>
    refine iteY (by simp) ?_
    refine ⟨fun σ' H' => ∃ m', m' < (e :: o').length ∧ ∃ (tl : Addr) (os st rest : List T) (ous tus : List V) (j5 : Option V), σ' = [some v, some (.int a), some (.int b), some (.ref ol), some (.ref tl), j5, none, none, none, none, none] ∧ Same H H' ∧ H tl = none ∧ ol ≠ tl ∧ H' ol = some (.lst ous) ∧ H' tl = some (.lst tus) ∧ DenL H' os ous ∧ DenL H' st tus.reverse ∧ Fl st rest ∧ os ++ rest = o ∧ m' = rest.length, fun _ _ h => h, ?_⟩
    refine ⟨_, rfl, .inl ⟨rfl, _, SqL.of h4t⟩, tl, _, u, rfl, rfl, h4t, pop_at, ?_⟩
    rw [drop_at]
    have m5 := tl_lst (o := .lst tus') h4t
    have s5 : Same H (upd H4 tl (.lst tus')) := same_old s34 ntl
    have h5t : (upd H4 tl (.lst tus')) tl = some (.lst tus') := upd_same
    have h5o : (upd H4 tl (.lst tus')) ol = some (.lst ous) := by rw [upd_ne ne]; exact h4o
    have k5 : TupLe H3 (upd H4 tl (.lst tus')) := (tl_same s4).trans m5
    generalize upd H4 tl (.lst tus') = H5 at s5 h5t h5o k5 ⊢
    have hl' := fl.len
    rw [List.length_append] at hl'
    have hdl := dst.length
    rw [List.length_reverse] at hdl
    rw [List.length_cons] at hlen
    refine ⟨_, rfl, .inl ⟨rfl, _, SqL.of h5o⟩, _, rfl, ol, _, _, rfl, rfl, h5o, by rw [hoslen, sizeLine_eq]; omega, ?_⟩
    have m6 := tl_lst (o := .lst (ous ++ [u])) h5o
    have s6 : Same H (upd H5 ol (.lst (ous ++ [u]))) := same_old s5 hol
    have h6o : (upd H5 ol (.lst (ous ++ [u]))) ol = some (.lst (ous ++ [u])) := upd_same
    have h6t : (upd H5 ol (.lst (ous ++ [u]))) tl = some (.lst tus') := by rw [upd_ne ne.symm]; exact h5t
    have k6 := k5.trans m6
    generalize upd H5 ol (.lst (ous ++ [u])) = H6 at s6 h6o h6t k6 ⊢
    refine ⟨_, rfl, _, rfl, e, u, rfl, de.mono k6, fun il us H7 s7 n7 h7 d7 => ⟨il, us, rfl, SqL.of h7, fun rl hrl => ?_⟩⟩
    have s8 := same_new (o := .lst us.reverse) hrl
    have g8 : (upd H7 rl (.lst us.reverse)) rl = some (.lst us.reverse) := upd_same
    generalize upd H7 rl (.lst us.reverse) = H8 at s8 g8 ⊢
    have s78 := s7.trans s8
    have hk3 : e.kids.length ≤ 3 := by cases e <;> simp [T.kids]
    have hul := d7.length
    refine ⟨tl, rl, _, _, rfl, rfl, s78 _ _ h6t, g8, by rw [List.length_reverse, hul, hdl, sizeLine_eq]; omega, fun tl2 htl2 => ?_⟩
    have s9 := same_new (o := .lst (tus' ++ us.reverse)) htl2
    have s89 := s8.trans s9
    have s79 := s78.trans s9
    have k9 := k6.trans (tl_same s79)
    refine ⟨o'.length, by simp, tl2, os ++ [e], e.kids ++ r, o', ous ++ [u], tus' ++ us.reverse, _, rfl, s6.trans s79, (s6.trans s78).free htl2, ne_of_none (s78 _ _ h6o) htl2, s79 _ _ h6o, upd_same, (dos.mono k9).append (.cons (de.mono k9) .nil), ?_, fl, by simpa using eo, rfl⟩
    rw [cat_cons]
    exact (d7.mono (tl_same s89)).append (dst.mono k9)
end S3

set_option Elab.async false
set_option linter.all false
set_option maxRecDepth 100000
set_option maxHeartbeats 4000000
namespace SW
open PySem L2
/-! ### notes and pieces of one shape -/
def NX (t : T) (x : V) : Prop := match t with
  | .num _ => ∃ i, x = .int i
  | .name _ => (∃ i, x = .int i) ∨ ∃ s : Str, x = .str s
  | .lt _ _ _ => ∃ i, x = .int i
  | _ => True
inductive NTT : NT → T → Prop where
  | mk {k : Str} {x : V} {src : Str} {path : List Int} {ks : List NT} {t : T} : kind t = k → NX t x → ks.length = t.kids.length → (∀ (j : Nat) n a, ks[j]? = some n → t.kids[j]? = some a → NTT n a) → NTT (.mk k x src path ks) t
theorem ntt_nt {c : Int} {src : Str} : ∀ (t : T) (p : List Int) (o : Ow) (i : Nat), NoSt t → NTT (nt c src giv0 t p o i) t
  | .num n, p, o, i, _ => .mk (t := .num n) rfl ⟨_, rfl⟩ rfl fun j n a h => by cases h
  | .name w, p, o, i, _ => by
    have en : nt c src giv0 (.name w) p o i = .mk "name" (ownV o w) src p [] := by
      show nodeOf c src giv0 (.name w, p, o) i [] = _
      unfold nodeOf ownV
      dsimp only
      cases o w <;> rfl
    rw [en]
    refine .mk (t := .name w) rfl ?_ rfl fun j n a h => by cases h
    unfold ownV
    cases o w with
    | none => exact .inr ⟨_, rfl⟩
    | some x => exact .inl ⟨_, rfl⟩
  | .sum a b, p, o, i, h => .mk (t := .sum a b) (ks := [_, _]) rfl trivial rfl (all2.mpr ⟨ntt_nt a _ _ _ h.1, ntt_nt b _ _ _ h.2⟩)
  | .less a b, p, o, i, h => .mk (t := .less a b) (ks := [_, _]) rfl trivial rfl (all2.mpr ⟨ntt_nt a _ _ _ h.1, ntt_nt b _ _ _ h.2⟩)
  | .cho a b d, p, o, i, h => .mk (t := .cho a b d) (ks := [_, _, _]) rfl trivial rfl (all3.mpr ⟨ntt_nt a _ _ _ h.1, ntt_nt b _ _ _ h.2.1, ntt_nt d _ _ _ h.2.2⟩)
  | .lt w a b, p, o, i, h => .mk (t := .lt w a b) (ks := [_, _]) rfl ⟨_, rfl⟩ rfl (all2.mpr ⟨ntt_nt a _ _ _ h.1, ntt_nt b _ _ _ h.2⟩)
/-- a note at u of the shape t, in H₀ -/
def NDn (H : Hp) (t : T) (u : V) : Prop := ∃ n, NAt H n u ∧ NTT n t
inductive NDL (H : Hp) : List T → List V → Prop where
  | nil : NDL H [] []
  | cons {t : T} {v : V} {ts : List T} {vs : List V} : NDn H t v → NDL H ts vs → NDL H (t :: ts) (v :: vs)
theorem NDL.length {H : Hp} : ∀ {ts : List T} {vs : List V}, NDL H ts vs → vs.length = ts.length
  | _, _, .nil => rfl
  | _, _, .cons _ r => by rw [List.length_cons, List.length_cons, NDL.length r]
theorem NDL.append {H : Hp} : ∀ {ts us : List T} {vs ws : List V}, NDL H ts vs → NDL H us ws → NDL H (ts ++ us) (vs ++ ws)
  | _, _, _, _, .nil, q => q
  | _, _, _, _, .cons a r, q => .cons a (NDL.append r q)
theorem NDL.get {H : Hp} : ∀ {ts : List T} {us : List V} {j : Nat} {u : V}, NDL H ts us → us[j]? = some u → ∃ t, ts[j]? = some t ∧ NDn H t u
  | _, _, 0, _, .cons a _, h => by cases h; exact ⟨_, rfl, a⟩
  | _, _, j + 1, _, .cons _ r, h => NDL.get (j := j) r h
theorem ndl_of {H : Hp} : ∀ {ks : List NT} {us : List V} {ts : List T}, NLAt H ks us → ks.length = ts.length → (∀ (j : Nat) n a, ks[j]? = some n → ts[j]? = some a → NTT n a) → NDL H ts us
  | _, _, [], .nil, _, _ => .nil
  | _, _, t :: ts, .cons (n := n) a r, hl, h => .cons ⟨n, a, h 0 n t rfl rfl⟩ (ndl_of r (Nat.succ.inj hl) fun j n a h1 h2 => h (j + 1) n a h1 h2)
theorem NDn.open {H : Hp} {t : T} {u : V} (h : NDn H t u) : ∃ (p sp kl : Addr) (x : V) (us : List V), u = .ref p ∧ H p = some (.tup [.str (kind t), x, .ref sp, .ref kl]) ∧ NX t x ∧ H kl = some (.lst us) ∧ NDL H t.kids us := by
  obtain ⟨n, na, nt⟩ := h
  cases nt with
  | @mk k x src path ks t hk hx hl hs =>
  cases na with
  | mk h1 h2 h3 h4 h5 =>
  subst hk
  exact ⟨_, _, _, x, _, rfl, h1, hx, h4, ndl_of h5 hl hs⟩
theorem dF {x y : Str} {d : Decidable (V.str x = V.str y)} (h : x ≠ y) : @decide _ d = false := decide_eq_false fun z => h (V.str.inj z)
end SW
namespace S3
open PySem L2 SW
variable {K : PySem.W.Frag} {vs : List V} {H H₀ : Hp} {Q : VK} {E : XK}
/-- what stands ahead of a piece that is spelt out: the list is at fl, or a new one -/
theorem rd_sp_fr {e : T} {p sp kl fl : Addr} {x : V} {a0 a1 a2 a5 a6 a7 j9 : Option V} {u : TS} {D : Ends} (he : NoSt e) (hx : NX e x) (hp : H p = some (.tup [.str (kind e), x, .ref sp, .ref kl])) (hfl : H fl = some (.lst [.str (kind e)]))
    (hD : ∀ (fr : List V) (fl' : Addr) (H' : Hp) (j9 : Option V), ButL fl H H' → (fl' = fl ∨ H fl' = none) → H' fl' = some (.lst fr) → Frt e fr → fr.length ≤ 2 → u D [a0, a1, a2, some (.ref p), some (.str "abcdefghijklmnopqrstuvwxyz"), a5, a6, a7, some (.ref fl'), j9] H') :
    (tSeq (t_sp_3 K) (tSeq (t_sp_5 K) u)) D [a0, a1, a2, some (.ref p), some (.str "abcdefghijklmnopqrstuvwxyz"), a5, a6, a7, some (.ref fl), j9] H := by
  have npf : p ≠ fl := ne_of hp hfl (by intro z; cases z)
  -- a new word
  have word : ∀ (i : Int) (k : Str) (H1 : Hp), x = .int i → k = kind e → ButL fl H H1 → (∀ w : Str, Frt e [.str k, .str w]) → (tSeq (t_sp_4 K) u) D [a0, a1, a2, some (.ref p), some (.str "abcdefghijklmnopqrstuvwxyz"), a5, a6, a7, some (.ref fl), j9] H1 := by
    intro i k H1 ex ek b1 ff
    subst ex ek
    have hp1 := b1 _ _ npf hp
    obtain ⟨c1, hc1, at1⟩ := letter_at (i / 26)
    obtain ⟨c2, hc2, at2⟩ := letter_at i
    refine ⟨_, rfl, _, rfl, p, _, _, _, rfl, rfl, SqT.of hp1, atI_nat (j := 1) rfl, _, _, rfl, rfl, ⟨by decide, by decide⟩, _, _, rfl, rfl, (show (0 : Int) < 26 by decide), _, _, c1, rfl, rfl, by decide +kernel, at1, _, _, rfl, rfl, ?_⟩
    refine ⟨(by show 1 + 1 ≤ sizeLine; rw [sizeLine_eq]; decide), _, rfl, _, rfl, p, _, _, _, rfl, rfl, SqT.of hp1, atI_nat (j := 1) rfl, _, _, rfl, rfl, (show (0 : Int) < 26 by decide), _, _, c2, rfl, rfl, by decide +kernel, at2, _, _, rfl, rfl, (by show 2 + 1 ≤ sizeLine; rw [sizeLine_eq]; decide), ?_⟩
    refine ⟨_, rfl, p, _, _, _, rfl, rfl, SqT.of hp1, atI_nat (j := 0) rfl, _, rfl, szl, fun fl' hfl' => ?_⟩
    refine hD _ fl' _ _ (b1.same (same_new hfl')) ?_ upd_same (ff _) (by simp)
    by_cases q : fl' = fl
    · exact .inl q
    · refine .inr ?_
      cases z : H fl' with
      | none => rfl
      | some o => have := b1 _ _ q z; rw [hfl'] at this; cases this
  refine ⟨_, rfl, p, _, _, _, rfl, rfl, SqT.of hp, atI_nat (j := 0) rfl, szl, fun l hl => ?_⟩
  have s1 := same_new (o := .lst [.str "number", .str "name"]) hl
  have g1 : (upd H l (.lst [.str "number", .str "name"])) l = some (.lst [.str "number", .str "name"]) := upd_same
  generalize upd H l (.lst [.str "number", .str "name"]) = H1 at s1 g1 ⊢
  refine ⟨l, _, rfl, .inl (SqL.of g1), rfl, rfl, _, rfl, ?_⟩
  have b1 : ButL fl H H1 := ButL.refl.same s1
  have hfl1 := s1 _ _ hfl
  have hp1 := s1 _ _ hp
  cases e with
  | num n =>
    obtain ⟨i, rfl⟩ := hx
    refine iteY (by simp only [kind]; decide +kernel) ⟨_, rfl, .inl ⟨rfl, _, SqL.of hfl1⟩, _, rfl, p, _, _, _, rfl, rfl, SqT.of hp1, atI_nat (j := 1) rfl, fl, _, _, rfl, rfl, hfl1, szl, ?_⟩
    have b2 : ButL fl H (upd H1 fl (.lst ([.str "number"] ++ [.int i]))) := b1.upd
    refine ⟨_, rfl, p, _, _, _, rfl, rfl, SqT.of (b2 _ _ npf hp), atI_nat (j := 0) rfl, rfl, _, rfl, iteN (dF (by simp only [kind]; decide +kernel)) ?_⟩
    refine ⟨_, rfl, p, _, _, _, rfl, rfl, SqT.of (b2 _ _ npf hp), atI_nat (j := 0) rfl, rfl, _, rfl, iteN (dF (by simp only [kind]; decide +kernel)) (iteF ?_)⟩
    exact hD _ fl _ _ b2 (.inl rfl) upd_same ⟨_, rfl⟩ (by simp)
  | name w =>
    refine iteY (by simp only [kind]; decide +kernel) ⟨_, rfl, .inl ⟨rfl, _, SqL.of hfl1⟩, _, rfl, p, _, _, _, rfl, rfl, SqT.of hp1, atI_nat (j := 1) rfl, fl, _, _, rfl, rfl, hfl1, szl, ?_⟩
    have b2 : ButL fl H (upd H1 fl (.lst ([.str "name"] ++ [x]))) := b1.upd
    refine ⟨_, rfl, p, _, _, _, rfl, rfl, SqT.of (b2 _ _ npf hp), atI_nat (j := 0) rfl, rfl, _, rfl, iteN (dF (by simp only [kind]; decide +kernel)) ?_⟩
    refine ⟨_, rfl, p, _, _, _, rfl, rfl, SqT.of (b2 _ _ npf hp), atI_nat (j := 0) rfl, rfl, _, rfl, iteY (by simp only [kind]; decide +kernel) ?_⟩
    rcases hx with ⟨i, rfl⟩ | ⟨s, rfl⟩
    · exact ⟨_, rfl, p, _, _, _, rfl, rfl, SqT.of (b2 _ _ npf hp), atI_nat (j := 1) rfl, _, _, _, _, rfl, .int _, kt_int_str, _, rfl, iteT (word i "name" _ rfl rfl b2 fun w => ⟨_, rfl⟩)⟩
    · exact ⟨_, rfl, p, _, _, _, rfl, rfl, SqT.of (b2 _ _ npf hp), atI_nat (j := 1) rfl, _, _, _, _, rfl, .str _, kt_str_str, _, rfl, iteF (hD _ fl _ _ b2 (.inl rfl) upd_same ⟨_, rfl⟩ (by simp))⟩
  | lt w x1 y1 =>
    obtain ⟨i, rfl⟩ := hx
    refine iteN (by simp only [kind]; decide +kernel) ?_
    exact ⟨_, rfl, p, _, _, _, rfl, rfl, SqT.of hp1, atI_nat (j := 0) rfl, rfl, _, rfl, iteY (by simp only [kind]; decide +kernel) (iteT (word i "let" _ rfl rfl b1 fun w => ⟨_, rfl⟩))⟩
  | sum x1 y1 =>
    refine iteN (by simp only [kind]; decide +kernel) ?_
    refine ⟨_, rfl, p, _, _, _, rfl, rfl, SqT.of hp1, atI_nat (j := 0) rfl, rfl, _, rfl, iteN (dF (by simp only [kind]; decide +kernel)) ?_⟩
    exact ⟨_, rfl, p, _, _, _, rfl, rfl, SqT.of hp1, atI_nat (j := 0) rfl, rfl, _, rfl, iteN (dF (by simp only [kind]; decide +kernel)) (iteF (hD _ fl _ _ b1 (.inl rfl) hfl1 rfl (by simp)))⟩
  | less x1 y1 =>
    refine iteN (by simp only [kind]; decide +kernel) ?_
    refine ⟨_, rfl, p, _, _, _, rfl, rfl, SqT.of hp1, atI_nat (j := 0) rfl, rfl, _, rfl, iteN (dF (by simp only [kind]; decide +kernel)) ?_⟩
    exact ⟨_, rfl, p, _, _, _, rfl, rfl, SqT.of hp1, atI_nat (j := 0) rfl, rfl, _, rfl, iteN (dF (by simp only [kind]; decide +kernel)) (iteF (hD _ fl _ _ b1 (.inl rfl) hfl1 rfl (by simp)))⟩
  | cho x1 y1 z1 =>
    refine iteN (by simp only [kind]; decide +kernel) ?_
    refine ⟨_, rfl, p, _, _, _, rfl, rfl, SqT.of hp1, atI_nat (j := 0) rfl, rfl, _, rfl, iteN (dF (by simp only [kind]; decide +kernel)) ?_⟩
    exact ⟨_, rfl, p, _, _, _, rfl, rfl, SqT.of hp1, atI_nat (j := 0) rfl, rfl, _, rfl, iteN (dF (by simp only [kind]; decide +kernel)) (iteF (hD _ fl _ _ b1 (.inl rfl) hfl1 rfl (by simp)))⟩
  | st0 w => exact he.elim
  | st1 w x1 => exact he.elim
  | st2 w x1 y1 => exact he.elim
end S3

set_option Elab.async false
set_option linter.all false
set_option maxRecDepth 100000
set_option maxHeartbeats 4000000
namespace L2
open PySem
theorem for_back {K : PySem.W.Frag} {a : Addr} {xs : List V} {g : TG} {tb : TS} {D : Ends} {σ : St} {H : Hp} (Pv : Nat → St → Hp → Prop) (h0 : Pv 0 σ H) (hl : ∀ i σ H, i ≤ xs.length → Pv i σ H → SqL K H a xs)
    (hs : ∀ i x σ H, i < xs.length → xs[xs.length - 1 - i]? = some x → Pv i σ H → g x σ H fun σ2 H2 => tb { D with nx := Pv (i + 1), ct := Pv (i + 1), bk := D.nx } σ2 H2) (hd : ∀ σ H, Pv xs.length σ H → D.nx σ H) :
    ∃ W : Nat → Nat → St → Hp → Prop, (∃ m, W 0 m σ H) ∧ ∀ i m σ H, W i m σ H →
      ((Itrev K a xs.length).stop i H ∧ D.nx σ H) ∨ ((Itrev K a xs.length).go i H ∧ ∃ N : St → Hp → Prop, (∀ σ' H', N σ' H' → ∃ m', m' < m ∧ W (i + 1) m' σ' H') ∧ ∀ x H', (Itrev K a xs.length).yld i H x H' → g x σ H' fun σ2 H2 => tb { D with nx := N, ct := N, bk := D.nx } σ2 H2) := by
  refine ⟨fun i m σ H => m = xs.length - i ∧ i ≤ xs.length ∧ Pv i σ H, ⟨_, rfl, Nat.zero_le _, h0⟩, ?_⟩
  rintro i m σ H ⟨rfl, hi, pv⟩
  by_cases e : i = xs.length
  · subst e
    exact .inl ⟨rfl, hd _ _ pv⟩
  · have hlt : i < xs.length := by omega
    refine .inr ⟨⟨hlt, xs, xs[xs.length - 1 - i]'(by omega), hl _ _ _ hi pv, rfl, List.getElem?_eq_getElem _⟩, Pv (i + 1), fun σ' H' h => ⟨xs.length - (i + 1), by omega, rfl, hlt, h⟩, ?_⟩
    rintro x H' ⟨rfl, hx⟩
    exact hs i x σ H' hlt (hx xs (hl _ _ _ hi pv)) pv
end L2
namespace S3
open PySem L2 SW
variable {K : PySem.W.Frag} {vs : List V} {H H₀ : Hp} {Q : VK} {E : XK}
theorem rd_sp (h : spSpelt vs H Q E) : t_sp K (fin Q) (start ["_law_tree", "_law_order", "_law_todo", "_law_node", "_law_letters", "_law_pile", "_law_many", "_law_kids", "_law_front", "_law_word"] vs) H := by
  obtain ⟨t, v, rfl, ns, hsz, na, kQ⟩ := h
  have nd0 : NDn H t v := ⟨_, na, ntt_nt t _ _ _ ns⟩
  obtain ⟨o, ho, hol0⟩ := fl_all t.size [t] (by simp [sizes])
  have hol0 : o.length = t.size := by rw [hol0]; simp [sizes]
  refine ⟨szl, fun ol hol => ?_⟩
  have s1 := same_new (o := .lst []) hol
  have g1 : (upd H ol (.lst [])) ol = some (.lst []) := upd_same
  generalize upd H ol (.lst []) = H1 at s1 g1 ⊢
  refine ⟨_, rfl, szl, fun tl htl => ?_⟩
  have s2 := same_new (o := .lst [v]) htl
  have g2 : (upd H1 tl (.lst [v])) tl = some (.lst [v]) := upd_same
  have ne2 : ol ≠ tl := ne_of_none g1 htl
  generalize upd H1 tl (.lst [v]) = H2 at s2 g2 ⊢
  have s12 := s1.trans s2
  refine ⟨fun m σ H' => ∃ (tl : Addr) (os st rest : List T) (ous tus : List V) (j3 : Option V), σ = [some v, some (.ref ol), some (.ref tl), j3, none, none, none, none, none, none] ∧ Same H H' ∧ H tl = none ∧ ol ≠ tl ∧ H' ol = some (.lst ous) ∧ H' tl = some (.lst tus) ∧ NDL H os ous ∧ NDL H st tus.reverse ∧ Fl st rest ∧ os ++ rest = o ∧ m = rest.length,
    ⟨_, tl, [], [t], o, [], [v], _, rfl, s12, s1.free htl, ne2, s2 _ _ g1, g2, .nil, .cons nd0 .nil, ho, rfl, rfl⟩, ?_⟩
  clear s12 g2 ne2 s2 g1 s1 htl tl
  rintro m σ H3 ⟨tl, os, st, rest, ous, tus, j3, rfl, s3, ntl, ne, h3o, h3t, dos, dst, fl, eo, rfl⟩
  have hlen := congrArg List.length eo
  rw [List.length_append] at hlen
  have hoslen := dos.length
  refine ⟨_, rfl, szl, fun e0 he0 => ?_⟩
  have s4 := same_new (o := .lst []) he0
  have g4 : (upd H3 e0 (.lst [])) e0 = some (.lst []) := upd_same
  generalize upd H3 e0 (.lst []) = H4 at s4 g4 ⊢
  have h4t := s4 _ _ h3t
  have h4o := s4 _ _ h3o
  have s34 := s3.trans s4
  refine ⟨tl, e0, tus, rfl, rfl, SqL.of h4t, SqL.of g4, _, rfl, ?_⟩
  cases fl with
  | nil =>
    have htl : tus.length = 0 := by have := dst.length; rw [List.length_reverse] at this; simpa using this
    have htn : tus = [] := List.length_eq_zero_iff.mp htl
    subst htn
    refine iteN rfl ?_
    have eo : os = o := by simpa using eo
    subst eo
    clear dst h3t h4t ntl
    refine ⟨szl, fun pl hpl => ?_⟩
    have s5 := same_new (o := .lst []) hpl
    have g5 : (upd H4 pl (.lst [])) pl = some (.lst []) := upd_same
    generalize upd H4 pl (.lst []) = H5 at s5 g5 ⊢
    have h5o := s5 _ _ h4o
    refine ⟨_, rfl, ol, ous, rfl, SqL.of h5o, ?_⟩
    refine for_back (K := K) (a := ol) (xs := ous) (fun i σ H' => i ≤ ous.length ∧ Same H H' ∧ H' ol = some (.lst ous) ∧ ∃ (pl : Addr) (pus : List V) (F : List T) (j3 j6 j7 j8 j9 : Option V), σ = [some v, some (.ref ol), some (.ref tl), j3, some (.str "abcdefghijklmnopqrstuvwxyz"), some (.ref pl), j6, j7, j8, j9] ∧ H pl = none ∧ ol ≠ pl ∧ H' pl = some (.lst pus) ∧ Fl F (os.drop (ous.length - i)) ∧ PilOk H' F pus)
      ⟨Nat.zero_le _, s34.trans s5, h5o, pl, [], [], _, _, _, _, _, rfl, s34.free hpl, ne_of_none h4o hpl, g5, by rw [Nat.sub_zero, List.drop_of_length_le (by omega)]; exact .nil, .nil⟩ (fun i σ H' _ h => SqL.of h.2.2.1) ?_ ?_
    · clear g5 h5o s5 hpl pl g4 h4o s34 s4 he0 h3o s3
      rintro i u σ H7 hlt hu ⟨_, s6, h6o, pl, pus, F, j3, j6, j7, j8, j9, rfl, npl, nop, h6p, flF, po⟩
      obtain ⟨j, hj⟩ : ∃ j : Nat, j = ous.length - 1 - i := ⟨_, rfl⟩
      rw [← hj] at hu
      obtain ⟨e, he, du⟩ := dos.get hu
      have nse : NoSt e := ho.nost (by intro x hx; simp at hx; subst hx; exact ns) e (List.mem_of_getElem? he)
      obtain ⟨p, sp, kl0, x, us, rfl, hp, hx, hkl0, dk⟩ := du.open
      rw [show ous.length - i = j + 1 by omega] at flF
      obtain ⟨r, rfl, flE⟩ := ho.back he flF
      have hpl9 := po.len
      have hFl := flF.len
      rw [List.length_drop] at hFl
      have hul := dk.length
      refine ⟨_, rfl, p, _, _, _, rfl, rfl, SqT.of (s6 _ _ hp), atI_nat (j := 3) rfl, kl0, us, rfl, .inl (SqL.of (s6 _ _ hkl0)), ?_⟩
      rw [List.length_append] at hpl9 hFl
      refine rd_cut (ip := 5) (im := 6) (ik := 7) rfl rfl (by decide) (by decide) h6p (by omega) fun kl pn Hb sb nk np nkp gk gp => ?_
      refine ⟨_, rfl, p, _, _, _, rfl, rfl, SqT.of (sb _ _ (s6 _ _ hp)), atI_nat (j := 0) rfl, szl, fun fl hfl => ?_⟩
      have sc := same_new (o := .lst [.str (kind e)]) hfl
      have gc : (upd Hb fl (.lst [.str (kind e)])) fl = some (.lst [.str (kind e)]) := upd_same
      generalize upd Hb fl (.lst [.str (kind e)]) = Hc at sc gc ⊢
      have sac := sb.trans sc
      refine rd_sp_fr nse hx (sac _ _ (s6 _ _ hp)) gc fun fr fl' Hd j9' bd nfl' gd ff fn => ?_
      have nkf : kl ≠ fl := ne_of_none gk hfl
      have nnf : pn ≠ fl := ne_of_none gp hfl
      have hkd := bd _ _ nkf (sc _ _ gk)
      have hpd := bd _ _ nnf (sc _ _ gp)
      refine rd_put (ip := 5) (ik := 7) (fi := 8) rfl rfl rfl hpd hkd gd (by rw [List.length_take]; omega) (by rw [List.length_reverse, List.length_drop]; omega) (by omega) fun q He se ge => ?_
      have same7 : ∀ b o, b ≠ pn → b ≠ fl → H7 b = some o → (upd He pn (.lst (pus.take (pus.length - us.length) ++ [.ref q]))) b = some o := fun b o h1 h2 e => by
        rw [upd_ne h1]; exact se _ _ (bd _ _ h2 (sac _ _ e))
      have tl7 : TupLe H7 He := fun b xs e => se _ _ (bd _ _ (ne_of (sac _ _ e) gc (by intro z; cases z)) (sac _ _ e))
      have hpe := se _ _ hpd
      have tlU := tl_lst (o := .lst (pus.take (pus.length - us.length) ++ [.ref q])) hpe
      have npn6 : ∀ {b : Addr} {o : HO}, H7 b = some o → b ≠ pn := fun e => ne_of_none e np
      have nfl6 : ∀ {b : Addr} {o : HO}, H7 b = some o → b ≠ fl := fun e => ne_of_none (sb _ _ e) hfl
      refine ⟨hlt, fun b o e => same7 b o (npn6 (s6 _ _ e)) (nfl6 (s6 _ _ e)) (s6 _ _ e), same7 _ _ (npn6 h6o) (nfl6 h6o) h6o, pn, _, e :: r, _, _, _, _, _, rfl, s6.free np, npn6 h6o, upd_same, by rw [show ous.length - (i + 1) = j by omega]; exact flE, ?_⟩
      rw [hul] at ge tlU ⊢
      exact (po.push tl7 ff ge).mono tlU
    · rintro σ H6 ⟨_, s6, h6o, pl, pus, F, j3, j6, j7, j8, j9, rfl, npl, nop, h6p, flF, po⟩
      rw [Nat.sub_self, List.drop_zero] at flF
      cases flF.uniq ho
      obtain ⟨t', v', rfl, d', n', z'⟩ := po.one
      exact ⟨_, rfl, pl, _, _, _, rfl, rfl, SqL.of h6p, atI_nat (j := 0) rfl, kQ t' v' H6 s6 d' n' z'⟩
  | @cons e r o' fl =>
    obtain ⟨tus', u, rfl⟩ : ∃ tus' u, tus = tus' ++ [u] := by
      have hl := dst.length
      rw [List.length_reverse, List.length_cons] at hl
      exact ⟨tus.dropLast, tus.getLast (by intro z; subst z; simp at hl), (List.dropLast_concat_getLast _).symm⟩
    rw [List.reverse_append, List.reverse_cons, List.reverse_nil, List.nil_append, List.singleton_append] at dst
    cases dst with
    | cons de dst =>
    refine iteY (by simp) ?_
    refine ⟨fun σ' H' => ∃ m', m' < (e :: o').length ∧ ∃ (tl : Addr) (os st rest : List T) (ous tus : List V) (j3 : Option V), σ' = [some v, some (.ref ol), some (.ref tl), j3, none, none, none, none, none, none] ∧ Same H H' ∧ H tl = none ∧ ol ≠ tl ∧ H' ol = some (.lst ous) ∧ H' tl = some (.lst tus) ∧ NDL H os ous ∧ NDL H st tus.reverse ∧ Fl st rest ∧ os ++ rest = o ∧ m' = rest.length, fun _ _ h => h, ?_⟩
    refine ⟨_, rfl, .inl ⟨rfl, _, SqL.of h4t⟩, tl, _, u, rfl, rfl, h4t, pop_at, ?_⟩
    rw [drop_at]
    have s5 : Same H (upd H4 tl (.lst tus')) := same_old s34 ntl
    have h5t : (upd H4 tl (.lst tus')) tl = some (.lst tus') := upd_same
    have h5o : (upd H4 tl (.lst tus')) ol = some (.lst ous) := by rw [upd_ne ne]; exact h4o
    generalize upd H4 tl (.lst tus') = H5 at s5 h5t h5o ⊢
    have hl' := fl.len
    rw [List.length_append] at hl'
    have hdl := dst.length
    rw [List.length_reverse] at hdl
    rw [List.length_cons] at hlen
    refine ⟨_, rfl, .inl ⟨rfl, _, SqL.of h5o⟩, _, rfl, ol, _, _, rfl, rfl, h5o, by rw [hoslen, sizeLine_eq]; omega, ?_⟩
    have s6 : Same H (upd H5 ol (.lst (ous ++ [u]))) := same_old s5 hol
    have h6o : (upd H5 ol (.lst (ous ++ [u]))) ol = some (.lst (ous ++ [u])) := upd_same
    have h6t : (upd H5 ol (.lst (ous ++ [u]))) tl = some (.lst tus') := by rw [upd_ne ne.symm]; exact h5t
    generalize upd H5 ol (.lst (ous ++ [u])) = H6 at s6 h6o h6t ⊢
    obtain ⟨p, sp, kl0, x, us, rfl, hp, hx, hkl0, d7⟩ := id de.open
    refine ⟨_, rfl, _, rfl, p, _, _, _, rfl, rfl, SqT.of (s6 _ _ hp), atI_nat (j := 3) rfl, kl0, us, rfl, SqL.of (s6 _ _ hkl0), fun rl hrl => ?_⟩
    have s8 := same_new (o := .lst us.reverse) hrl
    have g8 : (upd H6 rl (.lst us.reverse)) rl = some (.lst us.reverse) := upd_same
    generalize upd H6 rl (.lst us.reverse) = H8 at s8 g8 ⊢
    have hk3 : e.kids.length ≤ 3 := by cases e <;> simp [T.kids]
    have hul := d7.length
    refine ⟨tl, rl, _, _, rfl, rfl, s8 _ _ h6t, g8, by rw [List.length_reverse, hul, hdl, sizeLine_eq]; omega, fun tl2 htl2 => ?_⟩
    have s9 := same_new (o := .lst (tus' ++ us.reverse)) htl2
    have s89 := s8.trans s9
    refine ⟨o'.length, by simp, tl2, os ++ [e], e.kids ++ r, o', ous ++ [.ref p], tus' ++ us.reverse, _, rfl, s6.trans s89, (s6.trans s8).free htl2, ne_of_none (s8 _ _ h6o) htl2, s89 _ _ h6o, upd_same, dos.append (.cons de .nil), ?_, fl, by simpa using eo, rfl⟩
    rw [cat_cons]
    exact d7.append dst
end S3

set_option Elab.async false
set_option linter.all false
set_option maxRecDepth 100000
set_option maxHeartbeats 4000000
namespace SW
open PySem L2
/-- all but the two lists -/
def rs2 (ol tl : Addr) (H : Hp) : Hp := fun b => if b = ol ∨ b = tl then none else H b
section
variable {ol tl : Addr} {H H' : Hp}
theorem rs2_ol {o : HO} : rs2 ol tl (upd H ol o) = rs2 ol tl H := by
  funext b
  unfold rs2
  by_cases h : b = ol ∨ b = tl
  · rw [if_pos h, if_pos h]
  · rw [if_neg h, if_neg h, upd_ne (fun z => h (.inl z))]
theorem rs2_tl {o : HO} : rs2 ol tl (upd H tl o) = rs2 ol tl H := by
  funext b
  unfold rs2
  by_cases h : b = ol ∨ b = tl
  · rw [if_pos h, if_pos h]
  · rw [if_neg h, if_neg h, upd_ne (fun z => h (.inr z))]
theorem rs2_same (s : Same H H') : Same (rs2 ol tl H) (rs2 ol tl H') := fun b o e => by
  unfold rs2 at e ⊢
  by_cases h : b = ol ∨ b = tl
  · rw [if_pos h] at e; cases e
  · rw [if_neg h] at e ⊢; exact s b o e
theorem rs2_le : Same (rs2 ol tl H) H := fun b o e => by
  unfold rs2 at e
  by_cases h : b = ol ∨ b = tl
  · rw [if_pos h] at e; cases e
  · rw [if_neg h] at e; exact e
theorem rs2_at {b : Addr} {o : HO} (h : H b = some o) (h1 : b ≠ ol) (h2 : b ≠ tl) : rs2 ol tl H b = some o := by
  unfold rs2
  rw [if_neg (fun z => z.elim h1 h2)]; exact h
end
abbrev RE := T × List Str
def REAt (H : Hp) (e : RE) (u : V) : Prop := ∃ (q l : Addr) (v : V), u = .ref q ∧ H q = some (.tup [v, .ref l]) ∧ Den H e.1 v ∧ H l = some (.lst (e.2.map V.str)) ∧ e.2.length + e.1.size ≤ 1000 ∧ WL 300 e.1
theorem REAt.same {H H' : Hp} {e : RE} {u : V} (s : Same H H') (h : REAt H e u) : REAt H' e u := by
  obtain ⟨q, l, v, e1, h1, h2, h3, r⟩ := h
  exact ⟨q, l, v, e1, s _ _ h1, h2.mono (tl_same s), s _ _ h3, r⟩
inductive REL (H : Hp) : List RE → List V → Prop where
  | nil : REL H [] []
  | cons {e : RE} {u : V} {es : List RE} {us : List V} : REAt H e u → REL H es us → REL H (e :: es) (u :: us)
inductive RER (H : Hp) : List RE → List V → Prop where
  | nil : RER H [] []
  | snoc {e : RE} {u : V} {es : List RE} {us : List V} : RER H es us → REAt H e u → RER H (e :: es) (us ++ [u])
theorem REL.same {H H' : Hp} (s : Same H H') : ∀ {es : List RE} {us : List V}, REL H es us → REL H' es us
  | _, _, .nil => .nil
  | _, _, .cons a r => .cons (a.same s) (REL.same s r)
theorem RER.same {H H' : Hp} (s : Same H H') : ∀ {es : List RE} {us : List V}, RER H es us → RER H' es us
  | _, _, .nil => .nil
  | _, _, .snoc r a => .snoc (RER.same s r) (a.same s)
theorem REL.snoc {H : Hp} {e : RE} {u : V} : ∀ {es : List RE} {us : List V}, REL H es us → REAt H e u → REL H (es ++ [e]) (us ++ [u])
  | _, _, .nil, h => .cons h .nil
  | _, _, .cons a r, h => .cons a (REL.snoc r h)
theorem REL.length {H : Hp} : ∀ {es : List RE} {us : List V}, REL H es us → us.length = es.length
  | _, _, .nil => rfl
  | _, _, .cons _ r => by rw [List.length_cons, List.length_cons, REL.length r]
theorem RER.length {H : Hp} : ∀ {es : List RE} {us : List V}, RER H es us → us.length = es.length
  | _, _, .nil => rfl
  | _, _, .snoc r _ => by rw [List.length_append, List.length_cons, RER.length r]; rfl
theorem REL.get {H : Hp} : ∀ {es : List RE} {us : List V} {j : Nat} {u : V}, REL H es us → us[j]? = some u → ∃ e, es[j]? = some e ∧ REAt H e u
  | _, _, 0, _, .cons a _, h => by cases h; exact ⟨_, rfl, a⟩
  | _, _, j + 1, _, .cons _ r, h => REL.get (j := j) r h
theorem wl_kid {n : Nat} {t a : T} (h : WL n t) (ha : a ∈ t.kids) : WL n a := by
  cases t <;> simp only [T.kids, List.mem_cons, List.not_mem_nil, or_false] at ha
  case sum => exact ha.elim (fun y => y ▸ h.1) fun y => y ▸ h.2
  case less => exact ha.elim (fun y => y ▸ h.1) fun y => y ▸ h.2
  case cho => exact ha.elim (fun y => y ▸ h.1) fun z => z.elim (fun y => y ▸ h.2.1) fun y => y ▸ h.2.2
  case lt => exact ha.elim (fun y => y ▸ h.2.1) fun y => y ▸ h.2.2
  case st1 => exact ha ▸ h
  case st2 => exact ha.elim (fun y => y ▸ h.1) fun y => y ▸ h.2
structure RwB (H₀ H : Hp) (ol tl : Addr) (os st : List RE) (ous tus : List V) : Prop where
  same : Same H₀ H
  n1 : H₀ ol = none
  n2 : H₀ tl = none
  ne : ol ≠ tl
  ol_ : H ol = some (.lst ous)
  tl_ : H tl = some (.lst tus)
  el : REL (rs2 ol tl H) os ous
  er : RER (rs2 ol tl H) st tus
section
variable {H₀ H H' : Hp} {ol tl : Addr} {os st : List RE} {ous tus : List V} {e : RE} {u : V}
theorem RwB.grow (B : RwB H₀ H ol tl os st ous tus) (s : Same H H') : RwB H₀ H' ol tl os st ous tus :=
  ⟨B.same.trans s, B.n1, B.n2, B.ne, s _ _ B.ol_, s _ _ B.tl_, B.el.same (rs2_same s), B.er.same (rs2_same s)⟩
theorem RwB.push (B : RwB H₀ H ol tl os st ous tus) (he : REAt (rs2 ol tl H) e u) : RwB H₀ (upd H tl (.lst (tus ++ [u]))) ol tl os (e :: st) ous (tus ++ [u]) :=
  ⟨same_old B.same B.n2, B.n1, B.n2, B.ne, by rw [upd_ne B.ne]; exact B.ol_, upd_same, by rw [rs2_tl]; exact B.el, by rw [rs2_tl]; exact .snoc B.er he⟩
theorem RwB.put (B : RwB H₀ H ol tl os st ous tus) (he : REAt (rs2 ol tl H) e u) : RwB H₀ (upd H ol (.lst (ous ++ [u]))) ol tl (os ++ [e]) st (ous ++ [u]) tus :=
  ⟨same_old B.same B.n1, B.n1, B.n2, B.ne, upd_same, by rw [upd_ne B.ne.symm]; exact B.tl_, by rw [rs2_ol]; exact B.el.snoc he, by rw [rs2_ol]; exact B.er⟩
theorem RwB.pop (B : RwB H₀ H ol tl os (e :: st) ous (tus ++ [u])) (h : RER (rs2 ol tl H) st tus) : RwB H₀ (upd H tl (.lst tus)) ol tl os st ous tus :=
  ⟨same_old B.same B.n2, B.n1, B.n2, B.ne, by rw [upd_ne B.ne]; exact B.ol_, upd_same, by rw [rs2_tl]; exact B.el, by rw [rs2_tl]; exact h⟩
end
end SW
namespace S3
open PySem L2 SW
variable {K : PySem.W.Frag} {vs : List V} {H H₀ : Hp} {Q : VK} {E : XK}
/-- the kids of one entry are pushed -/
theorem rd_re_kids {v0 v1 v2 : Option V} {ol tl p l il : Addr} {os st : List RE} {ous tus us ks : List V} {e : RE} {D : Ends} {j8 j9 j10 j11 j12 j13 : Option V}
    (B : RwB H₀ H ol tl os st ous tus) (hp : H p = some (.tup (hd e.1 ++ ks))) (hl : rs2 ol tl H l = some (.lst (e.2.map V.str))) (f1 : e.2.length + e.1.size ≤ 1000) (wl : WL 300 e.1) (hil : H il = some (.lst us)) (nil : il ≠ tl) (dk : DenL H e.1.kids us) (few : tus.length ≤ 4000)
    (hD : ∀ (ns : List RE) (tus' : List V) (H' : Hp) (j8 j9 : Option V), RwB H₀ H' ol tl os (ns ++ st) ous tus' → ns.map Prod.fst = e.1.kids → D.nx [v0, v1, v2, some (.ref ol), some (.ref tl), some (.ref p), some (.ref l), some (.ref il), j8, j9, j10, j11, j12, j13] H') :
    (tFor (iRngD (tCons (tOp rSubI (tCB (cLen K) (tCons (tVar 7) tNil)) (tC (.int 1))) (tCons (tUn rNegI (tC (.int 1))) (tCons (tUn rNegI (tC (.int 1))) tNil)))) (gName 8) (t_re_3 K)) D
      [v0, v1, v2, some (.ref ol), some (.ref tl), some (.ref p), some (.ref l), some (.ref il), j8, j9, j10, j11, j12, j13] H := by
  have hlen := dk.length
  have hk3 : e.1.kids.length ≤ 3 := by cases e.1 <;> simp [T.kids]
  refine ⟨_, rfl, il, _, rfl, .inl (SqL.of hil), _, _, rfl, rfl, _, rfl, _, rfl, (us.length : Int) - 1, -1, rfl, ⟨by omega, by omega, by omega, by omega⟩, ?_⟩
  have en : ((us.length : Int) - 1 - -1).toNat = us.length := by omega
  rw [en]
  refine ⟨fun i m σ H' => m = us.length - i ∧ i ≤ us.length ∧ Same (rs2 ol tl H) (rs2 ol tl H') ∧ H' il = some (.lst us) ∧ (∃ j8 j9, σ = [v0, v1, v2, some (.ref ol), some (.ref tl), some (.ref p), some (.ref l), some (.ref il), j8, j9, j10, j11, j12, j13]) ∧ ∃ (ns : List RE) (tus' : List V), tus'.length = tus.length + i ∧ ns.map Prod.fst = e.1.kids.drop (us.length - i) ∧ RwB H₀ H' ol tl os (ns ++ st) ous tus',
    ⟨_, rfl, Nat.zero_le _, fun _ _ z => z, hil, ⟨_, _, rfl⟩, [], tus, rfl, by rw [Nat.sub_zero, List.drop_of_length_le (by omega)]; rfl, B⟩, ?_⟩
  have npo : p ≠ ol := ne_of hp B.ol_ (by intro z; cases z)
  have npt : p ≠ tl := ne_of hp B.tl_ (by intro z; cases z)
  have hpr := rs2_at hp npo npt
  have dkr : DenL (rs2 ol tl H) e.1.kids us := dk.mono fun b xs z => rs2_at z (ne_of z B.ol_ (by intro z; cases z)) (ne_of z B.tl_ (by intro z; cases z))
  clear B
  rintro i m σ H2 ⟨rfl, hi, sr, hil2, ⟨j8, j9, rfl⟩, ns, tus', hl', hns, B2⟩
  by_cases hn : i = us.length
  · refine .inl ⟨by show us.length ≤ i; omega, hD ns tus' H2 _ _ B2 ?_⟩
    rw [hns, hn, Nat.sub_self, List.drop_zero]
  · have hlt : i < us.length := by omega
    refine .inr ⟨show i < us.length from hlt, _, fun σ2 H2 h => ⟨us.length - (i + 1), by omega, h⟩, ?_⟩
    rintro v3 H3 ⟨rfl, rfl⟩
    obtain ⟨j, hj⟩ : ∃ j : Nat, j = us.length - 1 - i := ⟨_, rfl⟩
    rw [show (us.length : Int) - 1 - (i : Int) = (j : Int) by omega]
    obtain ⟨x, hx⟩ : ∃ x, us[j]? = some x := ⟨us[j]'(by omega), List.getElem?_eq_getElem _⟩
    obtain ⟨tk, htk, dx⟩ := denL_at dkr hx
    have hsz := kid_size (List.mem_of_getElem? htk)
    have hdrop : e.1.kids.drop (us.length - (i + 1)) = tk :: e.1.kids.drop (us.length - i) := by
      rw [show us.length - (i + 1) = j by omega, show us.length - i = j + 1 by omega]
      obtain ⟨hjk, ee⟩ := List.getElem?_eq_some_iff.mp htk
      rw [List.drop_eq_getElem_cons hjk, ee]
    have hp3 : H3 p = some (.tup (hd e.1 ++ ks)) := rs2_le _ _ (sr _ _ hpr)
    have hl3 := sr _ _ hl
    -- one is pushed, with the words ws
    have app : ∀ (nl : Addr) (ws : List Str) (H4 : Hp), Same H3 H4 → rs2 ol tl H4 nl = some (.lst (ws.map V.str)) → ws.length ≤ e.2.length + 1 →
        (tDrop (tBM K "list" rAppend (tVar 4) (tCons (tTup (tCons (tOp (rIxL K) (tVar 7) (tVar 8)) (tCons (tVar 9) tNil))) tNil))) { D with nx := fun σ' H' => us.length - (i + 1) = us.length - (i + 1) ∧ i + 1 ≤ us.length ∧ Same (rs2 ol tl H) (rs2 ol tl H') ∧ H' il = some (.lst us) ∧ (∃ j8 j9, σ' = [v0, v1, v2, some (.ref ol), some (.ref tl), some (.ref p), some (.ref l), some (.ref il), j8, j9, j10, j11, j12, j13]) ∧ ∃ (ns : List RE) (tus' : List V), tus'.length = tus.length + (i + 1) ∧ ns.map Prod.fst = e.1.kids.drop (us.length - (i + 1)) ∧ RwB H₀ H' ol tl os (ns ++ st) ous tus', ct := fun σ' H' => us.length - (i + 1) = us.length - (i + 1) ∧ i + 1 ≤ us.length ∧ Same (rs2 ol tl H) (rs2 ol tl H') ∧ H' il = some (.lst us) ∧ (∃ j8 j9, σ' = [v0, v1, v2, some (.ref ol), some (.ref tl), some (.ref p), some (.ref l), some (.ref il), j8, j9, j10, j11, j12, j13]) ∧ ∃ (ns : List RE) (tus' : List V), tus'.length = tus.length + (i + 1) ∧ ns.map Prod.fst = e.1.kids.drop (us.length - (i + 1)) ∧ RwB H₀ H' ol tl os (ns ++ st) ous tus', bk := D.nx }
          [v0, v1, v2, some (.ref ol), some (.ref tl), some (.ref p), some (.ref l), some (.ref il), some (.int j), some (.ref nl), j10, j11, j12, j13] H4 := by
      intro nl ws H4 s4 hnl hwl
      have B4 := B2.grow s4
      refine ⟨_, rfl, .inl ⟨rfl, _, SqL.of B4.tl_⟩, _, rfl, _, rfl, il, _, _, x, rfl, rfl, SqL.of (s4 _ _ hil2), atI_nat hx, _, rfl, szl, fun q hq => ?_⟩
      have s5 := same_new (o := .tup [x, .ref nl]) hq
      have g5 : (upd H4 q (.tup [x, .ref nl])) q = some (.tup [x, .ref nl]) := upd_same
      generalize upd H4 q (.tup [x, .ref nl]) = H5 at s5 g5 ⊢
      have B5 := B4.grow s5
      have sr5 := sr.trans ((rs2_same s4).trans (rs2_same s5))
      have nqo : q ≠ ol := ne_of g5 B5.ol_ (by intro z; cases z)
      have nqt : q ≠ tl := ne_of g5 B5.tl_ (by intro z; cases z)
      have hat : REAt (rs2 ol tl H5) (tk, ws) (.ref q) := ⟨q, nl, x, rfl, rs2_at g5 nqo nqt, dx.mono (tl_same sr5), rs2_same s5 _ _ hnl, by show ws.length + tk.size ≤ 1000; omega, wl_kid wl (List.mem_of_getElem? htk)⟩
      refine ⟨tl, tus', .ref q, rfl, rfl, B5.tl_, by rw [sizeLine_eq]; omega, rfl, hlt, by rw [rs2_tl]; exact sr5, by rw [upd_ne nil]; exact s5 _ _ (s4 _ _ hil2), ⟨_, _, rfl⟩, (tk, ws) :: ns, tus' ++ [.ref q], by simp [hl']; omega, by rw [hdrop, List.map_cons, hns], by rw [List.cons_append]; exact B5.push hat⟩
    have plain := app l e.2 H3 (fun _ _ z => z) hl3 (by omega)
    refine ⟨_, rfl, ?_⟩
    refine ⟨_, rfl, p, _, _, _, rfl, rfl, SqT.of hp3, hd_kind e.1 ks, rfl, _, rfl, ?_⟩
    refine ite2 (fun hlet => ?_) (fun _ => iteF plain)
    obtain ⟨w, b1, b2, elt⟩ := kind_let (V.str.inj (of_decide_eq_true hlet))
    refine ⟨_, rfl, rfl, _, rfl, ?_⟩
    refine ite2 (fun _ => ?_) (fun _ => plain)
    have hw9 : atI (hd e.1 ++ ks) 1 = some (.str w) := by rw [elt]; exact atI_nat (j := 1) rfl
    refine ⟨_, rfl, _, rfl, p, _, _, _, rfl, rfl, SqT.of hp3, hw9, szl, fun l1 hl1 => ?_⟩
    have s4 := same_new (o := .lst [.str w]) hl1
    have g4 : (upd H3 l1 (.lst [.str w])) l1 = some (.lst [.str w]) := upd_same
    generalize upd H3 l1 (.lst [.str w]) = H4 at s4 g4 ⊢
    have hl4 := s4 _ _ (rs2_le _ _ hl3)
    refine ⟨l, l1, _, _, rfl, rfl, hl4, g4, by rw [List.length_map, sizeLine_eq]; simp only [List.length_cons, List.length_nil]; omega, fun nl hnl => ?_⟩
    have s5 := same_new (o := .lst (e.2.map V.str ++ [.str w])) hnl
    have nno : nl ≠ ol := fun z => by subst z; rw [s4 _ _ B2.ol_] at hnl; cases hnl
    have nnt : nl ≠ tl := fun z => by subst z; rw [s4 _ _ B2.tl_] at hnl; cases hnl
    exact app nl (e.2 ++ [w]) _ (s4.trans s5) (rs2_at (by rw [upd_same, List.map_append]; rfl) nno nnt) (by simp)
end S3

set_option Elab.async false
set_option linter.all false
set_option maxRecDepth 100000
set_option maxHeartbeats 4000000
namespace SW
open PySem L2
theorem flat_strs (ws : List Str) : (ws.map V.str).all flatV = true := by
  rw [List.all_map]
  exact List.all_eq_true.mpr fun x _ => rfl
end SW
namespace S3
open PySem L2 SW
variable {K : PySem.W.Frag} {vs : List V} {H H₀ : Hp} {Q : VK} {E : XK}
theorem rd_re_fr {e : T} {p l fl : Addr} {tail : Str} {ks : List V} {ws : List Str} {σ : St} {u : TS} {D : Ends} (he : NoSt e) (wl : WL 300 e) (ht : tail.length ≤ 300) (h2 : σ[2]? = some (some (.str tail))) (h5 : σ[5]? = some (some (.ref p))) (h6 : σ[6]? = some (some (.ref l))) (h13 : σ[13]? = some (some (.ref fl)))
    (hp : H p = some (.tup (hd e ++ ks))) (hl : H l = some (.lst (ws.map V.str))) (nlf : l ≠ fl) (hfl : H fl = some (.lst [.str (kind e)]))
    (hD : ∀ (fr : List V) (H' : Hp), ButL fl H H' → H' fl = some (.lst fr) → Frt e fr → fr.length ≤ 2 → u D σ H') :
    (tSeq (t_re_6 K) (tSeq (t_re_8 K) u)) D σ H := by
  have npf : p ≠ fl := ne_of hp hfl (by intro z; cases z)
  refine ⟨_, h5, p, _, _, _, rfl, rfl, SqT.of hp, hd_kind e ks, szl, fun l0 hl0 => ?_⟩
  have s1 := same_new (o := .lst [.str "number", .str "name", .str "let", .str "stamp"]) hl0
  have g1 : (upd H l0 (.lst [.str "number", .str "name", .str "let", .str "stamp"])) l0 = some (.lst [.str "number", .str "name", .str "let", .str "stamp"]) := upd_same
  generalize upd H l0 (.lst [.str "number", .str "name", .str "let", .str "stamp"]) = H1 at s1 g1 ⊢
  refine ⟨l0, _, rfl, .inl (SqL.of g1), rfl, rfl, _, rfl, ?_⟩
  have b1 : ButL fl H H1 := ButL.refl.same s1
  have hfl1 := s1 _ _ hfl
  have hp1 := s1 _ _ hp
  cases e with
  | num n =>
    refine iteY (by simp only [kind]; decide +kernel) ⟨_, h13, .inl ⟨rfl, _, SqL.of hfl1⟩, _, h5, p, _, _, _, rfl, rfl, SqT.of hp1, atI_nat (j := 1) rfl, fl, _, _, rfl, rfl, hfl1, szl, ?_⟩
    have b2 : ButL fl H (upd H1 fl (.lst ([.str "number"] ++ [.int n]))) := b1.upd
    have hp2 := b2 _ _ npf hp
    refine ⟨_, h5, p, _, _, _, rfl, rfl, SqT.of hp2, atI_nat (j := 0) rfl, rfl, _, rfl, iteN (dF (by decide +kernel)) ?_⟩
    exact ⟨_, h5, p, _, _, _, rfl, rfl, SqT.of hp2, atI_nat (j := 0) rfl, rfl, _, rfl, iteN (dF (by decide +kernel)) (iteF (hD _ _ b2 upd_same ⟨_, rfl⟩ (by simp)))⟩
  | name w =>
    refine iteY (by simp only [kind]; decide +kernel) ⟨_, h13, .inl ⟨rfl, _, SqL.of hfl1⟩, _, h5, p, _, _, _, rfl, rfl, SqT.of hp1, atI_nat (j := 1) rfl, fl, _, _, rfl, rfl, hfl1, szl, ?_⟩
    have b2 : ButL fl H (upd H1 fl (.lst ([.str "name"] ++ [.str w]))) := b1.upd
    have hp2 := b2 _ _ npf hp
    have hl2 := b2 _ _ nlf hl
    refine ⟨_, h5, p, _, _, _, rfl, rfl, SqT.of hp2, atI_nat (j := 0) rfl, rfl, _, rfl, iteN (dF (by decide +kernel)) ?_⟩
    refine ⟨_, h5, p, _, _, _, rfl, rfl, SqT.of hp2, atI_nat (j := 0) rfl, rfl, _, rfl, iteY (by decide +kernel) ?_⟩
    refine ⟨_, h5, p, _, _, _, rfl, rfl, SqT.of hp2, atI_nat (j := 1) rfl, _, h6, l, _, rfl, .inl (SqL.of hl2), rfl, flat_strs ws, _, rfl, ite2 (fun _ => ?_) (fun _ => hD _ _ b2 upd_same ⟨_, rfl⟩ (by simp))⟩
    have wl : w.length ≤ 300 := wl
    exact ⟨_, h5, p, _, _, _, rfl, rfl, SqT.of hp2, atI_nat (j := 1) rfl, _, h2, w, tail, rfl, rfl, by rw [sizeLine_eq]; omega, _, h13, fl, _, 1, 1, rfl, rfl, upd_same, rfl, hD [.str "name", .str (w ++ tail)] _ b2.upd upd_same ⟨_, rfl⟩ (by simp)⟩
  | lt w x y =>
    refine iteY (by simp only [kind]; decide +kernel) ⟨_, h13, .inl ⟨rfl, _, SqL.of hfl1⟩, _, h5, p, _, _, _, rfl, rfl, SqT.of hp1, atI_nat (j := 1) rfl, fl, _, _, rfl, rfl, hfl1, szl, ?_⟩
    have b2 : ButL fl H (upd H1 fl (.lst ([.str "let"] ++ [.str w]))) := b1.upd
    have hp2 := b2 _ _ npf hp
    have wl : w.length ≤ 300 := wl.1
    refine ⟨_, h5, p, _, _, _, rfl, rfl, SqT.of hp2, atI_nat (j := 0) rfl, rfl, _, rfl, iteY (by decide +kernel) (iteT ?_)⟩
    exact ⟨_, h5, p, _, _, _, rfl, rfl, SqT.of hp2, atI_nat (j := 1) rfl, _, h2, w, tail, rfl, rfl, by rw [sizeLine_eq]; omega, _, h13, fl, _, 1, 1, rfl, rfl, upd_same, rfl, hD [.str "let", .str (w ++ tail)] _ b2.upd upd_same ⟨_, rfl⟩ (by simp)⟩
  | sum x y =>
    refine iteN (by simp only [kind]; decide +kernel) ?_
    refine ⟨_, h5, p, _, _, _, rfl, rfl, SqT.of hp1, atI_nat (j := 0) rfl, rfl, _, rfl, iteN (dF (by decide +kernel)) ?_⟩
    exact ⟨_, h5, p, _, _, _, rfl, rfl, SqT.of hp1, atI_nat (j := 0) rfl, rfl, _, rfl, iteN (dF (by decide +kernel)) (iteF (hD _ _ b1 hfl1 rfl (by simp)))⟩
  | less x y =>
    refine iteN (by simp only [kind]; decide +kernel) ?_
    refine ⟨_, h5, p, _, _, _, rfl, rfl, SqT.of hp1, atI_nat (j := 0) rfl, rfl, _, rfl, iteN (dF (by decide +kernel)) ?_⟩
    exact ⟨_, h5, p, _, _, _, rfl, rfl, SqT.of hp1, atI_nat (j := 0) rfl, rfl, _, rfl, iteN (dF (by decide +kernel)) (iteF (hD _ _ b1 hfl1 rfl (by simp)))⟩
  | cho x y z =>
    refine iteN (by simp only [kind]; decide +kernel) ?_
    refine ⟨_, h5, p, _, _, _, rfl, rfl, SqT.of hp1, atI_nat (j := 0) rfl, rfl, _, rfl, iteN (dF (by decide +kernel)) ?_⟩
    exact ⟨_, h5, p, _, _, _, rfl, rfl, SqT.of hp1, atI_nat (j := 0) rfl, rfl, _, rfl, iteN (dF (by decide +kernel)) (iteF (hD _ _ b1 hfl1 rfl (by simp)))⟩
  | st0 w => exact he.elim
  | st1 w x => exact he.elim
  | st2 w x y => exact he.elim
theorem rd_re (h : spRew vs H Q E) : t_re K (fin Q) (start ["_law_piece", "_law_places", "_law_tail", "_law_order", "_law_todo", "_law_part", "_law_own", "_law_inner", "_law_k", "_law_near", "_law_pile", "_law_many", "_law_kids", "_law_front"] vs) H := by
  obtain ⟨t, v, l0, tail, rfl, dt, ns, wl, hsz, hl0, ht, kQ⟩ := h
  obtain ⟨o, ho, hol0⟩ := fl_all t.size [t] (by simp [sizes])
  have hol0 : o.length = t.size := by rw [hol0]; simp [sizes]
  refine ⟨szl, fun ol hol => ?_⟩
  have s1 := same_new (o := .lst []) hol
  have g1 : (upd H ol (.lst [])) ol = some (.lst []) := upd_same
  generalize upd H ol (.lst []) = H1 at s1 g1 ⊢
  refine ⟨_, rfl, _, rfl, szl, fun q hq => ?_⟩
  have s1b := same_new (o := .tup [v, .ref l0]) hq
  have g1b : (upd H1 q (.tup [v, .ref l0])) q = some (.tup [v, .ref l0]) := upd_same
  generalize upd H1 q (.tup [v, .ref l0]) = H1b at s1b g1b ⊢
  refine ⟨szl, fun tl htl => ?_⟩
  have s2 := same_new (o := .lst [.ref q]) htl
  have g2 : (upd H1b tl (.lst [.ref q])) tl = some (.lst [.ref q]) := upd_same
  have ne2 : ol ≠ tl := ne_of_none (s1b _ _ g1) htl
  generalize upd H1b tl (.lst [.ref q]) = H2 at s2 g2 ⊢
  have s12 := s1.trans (s1b.trans s2)
  have ntl : H tl = none := (s1.trans s1b).free htl
  have e0 : REAt (rs2 ol tl H2) (t, []) (.ref q) := by
    have hq2 := s2 _ _ g1b
    have hl2 := s12 _ _ hl0
    refine ⟨q, l0, v, rfl, rs2_at hq2 (ne_of hq2 ((s1b.trans s2) _ _ g1) (by intro z; cases z)) (ne_of hq2 g2 (by intro z; cases z)), ?_, rs2_at hl2 (ne_of_none hl0 hol) (ne_of_none hl0 ntl), by show 0 + t.size ≤ 1000; omega, wl⟩
    exact dt.mono fun b xs z => rs2_at (s12 _ _ z) (ne_of_none z hol) (ne_of_none z ntl)
  have B0 : RwB H H2 ol tl [] [(t, [])] [] [.ref q] := ⟨s12, hol, ntl, ne2, (s1b.trans s2) _ _ g1, g2, .nil, .snoc (us := []) .nil e0⟩
  refine ⟨fun m σ H' => ∃ (os st : List RE) (rest : List T) (ous tus : List V) (j5 j6 j7 j8 j9 : Option V), σ = [some v, some (.ref l0), some (.str tail), some (.ref ol), some (.ref tl), j5, j6, j7, j8, j9, none, none, none, none] ∧ RwB H H' ol tl os st ous tus ∧ Fl (st.map Prod.fst) rest ∧ os.map Prod.fst ++ rest = o ∧ m = rest.length,
    ⟨_, [], [(t, [])], o, [], [.ref q], _, _, _, _, _, rfl, B0, ho, rfl, rfl⟩, ?_⟩
  clear B0 e0 ntl s12 ne2 g2 s2 htl g1b s1b hq q g1 s1
  rintro m σ H3 ⟨os, st, rest, ous, tus, j5, j6, j7, j8, j9, rfl, B3, fl, eo, rfl⟩
  have hlen := congrArg List.length eo
  rw [List.length_append, List.length_map] at hlen
  have hoslen := B3.el.length
  refine ⟨_, rfl, szl, fun e0 he0 => ?_⟩
  have s4 := same_new (o := .lst []) he0
  have g4 : (upd H3 e0 (.lst [])) e0 = some (.lst []) := upd_same
  have B4 := B3.grow s4
  generalize upd H3 e0 (.lst []) = H4 at s4 g4 B4 ⊢
  refine ⟨tl, e0, tus, rfl, rfl, SqL.of B4.tl_, SqL.of g4, _, rfl, ?_⟩
  have her := B4.er
  cases her with
  | nil =>
    refine iteN rfl ?_
    cases fl
    have hlen : os.length = o.length := by simpa using hlen
    have eo : os.map Prod.fst = o := by simpa using eo
    have el4 : REL H4 os ous := B4.el.same rs2_le
    have h4o := B4.ol_
    have s34 := B4.same
    clear B3 B4
    refine ⟨szl, fun pl hpl => ?_⟩
    have s5 := same_new (o := .lst []) hpl
    have g5 : (upd H4 pl (.lst [])) pl = some (.lst []) := upd_same
    generalize upd H4 pl (.lst []) = H5 at s5 g5 ⊢
    refine ⟨_, rfl, ol, ous, rfl, SqL.of (s5 _ _ h4o), ?_⟩
    refine for_back (K := K) (a := ol) (xs := ous) (fun i σ H' => i ≤ ous.length ∧ Same H4 H' ∧ ∃ (pl : Addr) (pus : List V) (F : List T) (j5 j6 j7 j8 j9 j11 j12 j13 : Option V), σ = [some v, some (.ref l0), some (.str tail), some (.ref ol), some (.ref tl), j5, j6, j7, j8, j9, some (.ref pl), j11, j12, j13] ∧ H4 pl = none ∧ H' pl = some (.lst pus) ∧ Fl F (o.drop (ous.length - i)) ∧ PilOk H' F pus)
      ⟨Nat.zero_le _, s5, pl, [], [], _, _, _, _, _, _, _, _, rfl, hpl, g5, by rw [Nat.sub_zero, List.drop_of_length_le (by omega)]; exact .nil, .nil⟩ (fun i σ H' _ h => SqL.of (h.2.1 _ _ h4o)) ?_ ?_
    · clear g5 s5 hpl pl g4 s4 he0
      rintro i u σ H7 hlt hu ⟨_, s6, pl, pus, F, j5, j6, j7, j8, j9, j11, j12, j13, rfl, npl, h6p, flF, po⟩
      obtain ⟨j, hj⟩ : ∃ j : Nat, j = ous.length - 1 - i := ⟨_, rfl⟩
      rw [← hj] at hu
      obtain ⟨re, hre, q, l, pv, rfl, hq, den, hl, f1, wle⟩ := el4.get hu
      have he : o[j]? = some re.1 := by rw [← eo, List.getElem?_map, hre]; rfl
      have nse : NoSt re.1 := ho.nost (by intro x hx; simp at hx; subst hx; exact ns) re.1 (List.mem_of_getElem? he)
      obtain ⟨p, ks, rfl, hp, _⟩ := id den.open
      rw [show ous.length - i = j + 1 by omega] at flF
      obtain ⟨r, rfl, flE⟩ := ho.back he flF
      have hpl9 := po.len
      have hFl := flF.len
      rw [List.length_drop] at hFl
      refine ⟨q, _, rfl, SqT.of (s6 _ _ hq), rfl, _, _, rfl, _, _, rfl, rfl, ?_⟩
      refine ⟨_, rfl, re.1, .ref p, rfl, den.mono (tl_same s6), fun il us Ha sa na ha da => ⟨il, us, rfl, .inl (SqL.of ha), ?_⟩⟩
      have hul := da.length
      rw [List.length_append] at hpl9 hFl
      refine rd_cut (ip := 10) (im := 11) (ik := 12) rfl rfl (by decide) (by decide) (sa _ _ h6p) (by omega) fun kl pn Hb sb nk np nkp gk gp => ?_
      have sab := sa.trans sb
      have s6b := s6.trans sab
      refine ⟨_, rfl, p, _, _, _, rfl, rfl, SqT.of (s6b _ _ hp), hd_kind re.1 ks, szl, fun fl hfl => ?_⟩
      have sc := same_new (o := .lst [.str (kind re.1)]) hfl
      have gc : (upd Hb fl (.lst [.str (kind re.1)])) fl = some (.lst [.str (kind re.1)]) := upd_same
      generalize upd Hb fl (.lst [.str (kind re.1)]) = Hc at sc gc ⊢
      have sac := sab.trans sc
      have s6c := s6.trans sac
      have nlf : l ≠ fl := ne_of_none (s6b _ _ hl) hfl
      refine rd_re_fr (σ := [some v, some (.ref l0), some (.str tail), some (.ref ol), some (.ref tl), some (.ref p), some (.ref l), j7, j8, j9, some (.ref pn), some (.int us.length), some (.ref kl), some (.ref fl)]) (ws := re.2) nse wle ht rfl rfl rfl rfl (s6c _ _ hp) (s6c _ _ hl) nlf gc fun fr Hd bd gd ff fn => ?_
      have nkf : kl ≠ fl := ne_of_none gk hfl
      have nnf : pn ≠ fl := ne_of_none gp hfl
      have hkd := bd _ _ nkf (sc _ _ gk)
      have hpd := bd _ _ nnf (sc _ _ gp)
      refine rd_put (ip := 10) (ik := 12) (fi := 13) rfl rfl rfl hpd hkd gd (by rw [List.length_take]; omega) (by rw [List.length_reverse, List.length_drop]; omega) (by omega) fun q2 He se ge => ?_
      have same7 : ∀ b o, b ≠ pn → b ≠ fl → H7 b = some o → (upd He pn (.lst (pus.take (pus.length - us.length) ++ [.ref q2]))) b = some o := fun b o h1 h2 e => by
        rw [upd_ne h1]; exact se _ _ (bd _ _ h2 (sac _ _ e))
      have tl7 : TupLe H7 He := fun b xs e => se _ _ (bd _ _ (ne_of (sac _ _ e) gc (by intro z; cases z)) (sac _ _ e))
      have hpe := se _ _ hpd
      have tlU := tl_lst (o := .lst (pus.take (pus.length - us.length) ++ [.ref q2])) hpe
      have npn6 : ∀ {b : Addr} {o : HO}, H7 b = some o → b ≠ pn := fun e => ne_of_none (sa _ _ e) np
      have nfl6 : ∀ {b : Addr} {o : HO}, H7 b = some o → b ≠ fl := fun e => ne_of_none (sab _ _ e) hfl
      refine ⟨hlt, fun b o e => same7 b o (npn6 (s6 _ _ e)) (nfl6 (s6 _ _ e)) (s6 _ _ e), pn, _, re.1 :: r, _, _, _, _, _, _, _, _, rfl, (s6.trans sa).free np, upd_same, by rw [show ous.length - (i + 1) = j by omega]; exact flE, ?_⟩
      rw [hul] at ge tlU ⊢
      exact (po.push tl7 ff ge).mono tlU
    · rintro σ H6 ⟨_, s6, pl, pus, F, j5, j6, j7, j8, j9, j11, j12, j13, rfl, npl, h6p, flF, po⟩
      rw [Nat.sub_self, List.drop_zero] at flF
      cases flF.uniq ho
      obtain ⟨t', v', rfl, d', n', z'⟩ := po.one
      exact ⟨_, rfl, pl, _, _, _, rfl, rfl, SqL.of h6p, atI_nat (j := 0) rfl, kQ t' v' H6 (s34.trans s6) d' n' z'⟩
  | @snoc re u st tus her ha =>
    refine iteY (by simp) ?_
    cases fl with
    | @cons e r o' fl =>
    refine ⟨fun σ' H' => ∃ m', m' < (re.1 :: o').length ∧ ∃ (os st : List RE) (rest : List T) (ous tus : List V) (j5 j6 j7 j8 j9 : Option V), σ' = [some v, some (.ref l0), some (.str tail), some (.ref ol), some (.ref tl), j5, j6, j7, j8, j9, none, none, none, none] ∧ RwB H H' ol tl os st ous tus ∧ Fl (st.map Prod.fst) rest ∧ os.map Prod.fst ++ rest = o ∧ m' = rest.length, fun _ _ h => h, ?_⟩
    refine ⟨_, rfl, .inl ⟨rfl, _, SqL.of B4.tl_⟩, tl, _, u, rfl, rfl, B4.tl_, pop_at, ?_⟩
    rw [drop_at]
    have B5 := B4.pop her
    have ha5 : REAt (rs2 ol tl (upd H4 tl (.lst tus))) re u := by rw [rs2_tl]; exact ha
    generalize upd H4 tl (.lst tus) = H5 at B5 ha5 ⊢
    obtain ⟨q, l, pv, rfl, hq, den, hl, f1, wle⟩ := ha5
    obtain ⟨p, ks, rfl, hp, _⟩ := id den.open
    have hl' := fl.len
    rw [List.length_append, List.length_map] at hl'
    have hdl := her.length
    rw [List.length_cons] at hlen
    refine ⟨q, _, rfl, SqT.of (rs2_le _ _ hq), rfl, _, _, rfl, _, _, rfl, rfl, ?_⟩
    refine ⟨_, rfl, .inl ⟨rfl, _, SqL.of B5.ol_⟩, _, rfl, _, rfl, szl, fun q4 hq4 => ?_⟩
    have s6 := same_new (o := .tup [.ref p, .ref l]) hq4
    have g6 : (upd H5 q4 (.tup [.ref p, .ref l])) q4 = some (.tup [.ref p, .ref l]) := upd_same
    have B6 := B5.grow s6
    generalize upd H5 q4 (.tup [.ref p, .ref l]) = H6 at s6 g6 B6 ⊢
    have r6 := rs2_same (ol := ol) (tl := tl) s6
    refine ⟨ol, ous, _, rfl, rfl, B6.ol_, by rw [hoslen, sizeLine_eq]; omega, ?_⟩
    have hat : REAt (rs2 ol tl H6) re (.ref q4) := ⟨q4, l, .ref p, rfl, rs2_at g6 (ne_of g6 B6.ol_ (by intro z; cases z)) (ne_of g6 B6.tl_ (by intro z; cases z)), den.mono (tl_same r6), r6 _ _ hl, f1, wle⟩
    have B7 := B6.put hat
    have hp7 : rs2 ol tl (upd H6 ol (.lst (ous ++ [.ref q4]))) p = some (.tup (hd re.1 ++ ks)) := by rw [rs2_ol]; exact r6 _ _ hp
    have hl7 : rs2 ol tl (upd H6 ol (.lst (ous ++ [.ref q4]))) l = some (.lst (re.2.map V.str)) := by rw [rs2_ol]; exact r6 _ _ hl
    have den7 : Den (rs2 ol tl (upd H6 ol (.lst (ous ++ [.ref q4])))) re.1 (.ref p) := by rw [rs2_ol]; exact den.mono (tl_same r6)
    generalize upd H6 ol (.lst (ous ++ [.ref q4])) = H7 at B7 hp7 hl7 den7 ⊢
    refine ⟨_, rfl, re.1, .ref p, rfl, den7.mono (tl_same rs2_le), fun il us H8 s8 n8 h8 d8 => ?_⟩
    have r8 := rs2_same (ol := ol) (tl := tl) s8
    refine rd_re_kids (e := re) (B7.grow s8) (s8 _ _ (rs2_le _ _ hp7)) (r8 _ _ hl7) f1 wle h8 (fun z => by subst z; rw [B7.tl_] at n8; cases n8) d8 (by omega) fun ns' tus' H9 j8 j9 B9 en => ?_
    refine ⟨o'.length, by simp, os ++ [re], ns' ++ st, o', _, tus', _, _, _, _, _, rfl, B9, ?_, ?_, rfl⟩
    · rw [List.map_append, en]; exact fl
    · rw [List.map_append, List.append_assoc]; exact eo
end S3

set_option Elab.async false
set_option linter.all false
set_option maxRecDepth 100000
set_option maxHeartbeats 4000000
namespace SW
open PySem L2
theorem kt_bool_bool {K : PySem.W.Frag} : PySem.W.kitOne K (.type "bool") (.type "bool") = some true := by kernel_rfl
theorem nost_of : ∀ {t : T}, WT S0 t → NoSt t
  | .num _, _ => trivial
  | .name _, _ => trivial
  | .sum _ _, h => ⟨nost_of h.1, nost_of h.2⟩
  | .less _ _, h => ⟨nost_of h.1, nost_of h.2⟩
  | .cho _ _ _, h => ⟨nost_of h.1, nost_of h.2.1, nost_of h.2.2⟩
  | .lt _ _ _, h => ⟨nost_of h.2.1, nost_of h.2.2⟩
  | .st0 _, h => h
  | .st1 _ _, h => h.1
  | .st2 _ _ _, h => h.1
theorem wl_of : ∀ {t : T}, WT S0 t → WL 300 t
  | .num _, _ => trivial
  | .name w, h => by have := h.few; show w.length ≤ 300; omega
  | .sum _ _, h => ⟨wl_of h.1, wl_of h.2⟩
  | .less _ _, h => ⟨wl_of h.1, wl_of h.2⟩
  | .cho _ _ _, h => ⟨wl_of h.1, wl_of h.2.1, wl_of h.2.2⟩
  | .lt w _ _, h => ⟨by have := h.1.few; show w.length ≤ 300; omega, wl_of h.2.1, wl_of h.2.2⟩
  | .st0 _, h => trivial
  | .st1 w a, h => h.1.elim
  | .st2 _ _ _, h => ⟨wl_of h.2.1, wl_of h.2.2⟩
theorem cut_map3 (ns : List Int) (lo hi : Option Int) : ∃ ms : List Int, cutV (ns.map V.int) lo hi = ms.map V.int ∧ ms.length ≤ ns.length := by
  refine ⟨(ns.drop (HT.sIx ns.length 0 lo)).take (HT.sIx ns.length ns.length hi - HT.sIx ns.length 0 lo), ?_, ?_⟩
  · unfold cutV
    rw [List.length_map, List.map_take, List.map_drop]
  · rw [List.length_take, List.length_drop]; omega
end SW
namespace S3
open PySem L2 SW
variable {K : PySem.W.Frag} {vs : List V} {H H₀ : Hp} {Q : VK} {E : XK}
/-- from the bending on -/
theorem rd_law_b {a : Addr} {ns : List Int} {t t2 : T} {v v2 : V} (ha : SqL K H a (ns.map V.int)) (d : Den H t v) (d2 : Den H t2 v2) (n1 : NoSt t) (n2 : NoSt t2) (z1 : t.size ≤ 200) (z2 : t2.size = t.size) (hQ : ∀ H', Q (.bl true) H') :
    (tSeq (tAsg (tCall spBent [] E0 (tCons (tVar 2) (tCons (tOp rModI (tCall (spAt3 K) [] E0 (tCons (tVar 0) (tCons (tC (.int 0)) tNil))) (tC (.int 3))) (tCons (tCall (spAt3 K) [] E0 (tCons (tVar 0) (tCons (tC (.int 1)) tNil))) tNil)))) (gName 2)) (tSeq (tAsg (tCall spGoes [] E0 (tCons (tVar 2) (tCons (tOp (rIxT K) (tCall spNoted [] E0 (tCons (tVar 1) (tCons (tC (.str "")) (tCons tDNewK (tCons (tC (.int 0)) tNil))))) (tC (.int 0))) tNil))) (gName 3)) (tSeq (tFor (iList K (tLst (tCons (tTup (tCons (tVar 1) (tCons (tVar 2) tNil))) (tCons (tTup (tCons (tVar 2) (tCons (tVar 1) tNil))) tNil)))) (gName 4) (t_law_5 K)) (tSeq (tAsg (tCall spSbw [] E0 (tCons (tVar 1) (tCons (tVar 1) tNil))) (gName 6)) (tRet (tAndV (tCB (cIsi K) (tCons (tVar 6) (tCons (tC (.ty "bool")) tNil))) (tVar 6))))))) (fin Q)
      [some (.ref a), some v, some v2, none, none, none, none] H := by
  refine ⟨_, rfl, _, rfl, a, ns, 0, rfl, ha, fun m1 => ⟨_, _, rfl, rfl, (show (0 : Int) < 3 by decide), _, rfl, a, ns, 1, rfl, ha, fun m2 => ?_⟩⟩
  refine ⟨t2, v2, _, _, rfl, d2, n2, by omega, fun t4 v4 H1 s1 d4 n4 z4 => ?_⟩
  refine ⟨_, rfl, _, rfl, fun gd hgd => ?_⟩
  have s2 := same_new (o := .dK []) hgd
  have g2 : (upd H1 gd (.dK [])) gd = some (.dK []) := upd_same
  generalize upd H1 gd (.dK []) = H2 at s2 g2 ⊢
  have s12 := s1.trans s2
  refine ⟨t, v, "", gd, [], giv0, 0, rfl, d.mono (tl_same s12), by omega, g2, fun w => .inl ⟨rfl, rfl⟩, fun r u H3 s3 na hr => ⟨r, _, _, _, rfl, rfl, SqT.of hr, atI_nat (j := 0) rfl, ?_⟩⟩
  refine ⟨t4, v4, u, _, rfl, d4.mono (tl_same (s2.trans s3)), na, nt_wf (fun w g h => by cases h) _ _ _ _, by omega, fun b H4 s4 hb => ?_⟩
  rw [goes_ae0 n1] at hb
  have s14 := s12.trans (s3.trans s4)
  have dt := d.mono (tl_same s14)
  have du := d4.mono (tl_same (s2.trans (s3.trans s4)))
  clear na hr g2
  generalize H4 = G at s14 dt du
  refine ⟨_, rfl, _, rfl, szl, fun p1 hp1 => ?_⟩
  have e1 := same_new (o := .tup [v, v4]) hp1
  have k1 : (upd G p1 (.tup [v, v4])) p1 = some (.tup [v, v4]) := upd_same
  generalize upd G p1 (.tup [v, v4]) = G1 at e1 k1 ⊢
  refine ⟨_, rfl, _, rfl, szl, fun p2 hp2 => ?_⟩
  have e2 := same_new (o := .tup [v4, v]) hp2
  have k2 : (upd G1 p2 (.tup [v4, v])) p2 = some (.tup [v4, v]) := upd_same
  generalize upd G1 p2 (.tup [v4, v]) = G2 at e2 k2 ⊢
  refine ⟨szl, fun pl hpl => ?_⟩
  have e3 := same_new (o := .lst [.ref p1, .ref p2]) hpl
  have k3 : (upd G2 pl (.lst [.ref p1, .ref p2])) pl = some (.lst [.ref p1, .ref p2]) := upd_same
  generalize upd G2 pl (.lst [.ref p1, .ref p2]) = G3 at e3 k3 ⊢
  have e13 := e1.trans (e2.trans e3)
  have dt3 := dt.mono (tl_same e13)
  have du3 := du.mono (tl_same e13)
  have q1 := (e2.trans e3) _ _ k1
  have q2 := e3 _ _ k2
  refine ⟨pl, rfl, ⟨_, SqL.of k3⟩, ?_⟩
  -- the answer is the one that is due
  have told : ∀ (b2 : Bool) (G' : Hp) (p : Addr), Same G3 G' → (b2 = true ↔ AE t4 t []) → (t_law_4 K) { (fin Q) with nx := fun σ H' => Same G3 H' ∧ ∃ j4 j5, σ = [some (.ref a), some v, some v4, some (.bl b), j4, j5, none], ct := fun σ H' => Same G3 H' ∧ ∃ j4 j5, σ = [some (.ref a), some v, some v4, some (.bl b), j4, j5, none], bk := (tSeq (tAsg (tCall spSbw [] E0 (tCons (tVar 1) (tCons (tVar 1) tNil))) (gName 6)) (tRet (tAndV (tCB (cIsi K) (tCons (tVar 6) (tCons (tC (.ty "bool")) tNil))) (tVar 6)))) (fin Q) } [some (.ref a), some v, some v4, some (.bl b), some (.ref p), some (.bl b2), none] G' := by
    intro b2 G' p sg hb2
    have eb : b2 = b := by
      rw [Bool.eq_iff_iff, hb2, hb]
    subst eb
    refine ⟨_, rfl, _, _, _, _, rfl, .bl _, kt_bool_bool, _, rfl, iteF ?_⟩
    exact ⟨_, rfl, _, rfl, rfl, _, rfl, iteNS rfl ⟨sg, _, _, rfl⟩⟩
  refine for_list (K := K) (a := pl) (xs := [.ref p1, .ref p2]) (fun i σ H' => Same G3 H' ∧ ∃ j4 j5, σ = [some (.ref a), some v, some v4, some (.bl b), j4, j5, none]) ⟨fun _ _ z => z, _, _, rfl⟩ (fun i σ H' _ h => SqL.of (h.1 _ _ k3)) ?_ ?_
  · rintro i y σ G4 hi ⟨s4', j4, j5, rfl⟩
    have dt4 := dt3.mono (tl_same s4')
    have du4 := du3.mono (tl_same s4')
    match i, hi with
    | 0, hi =>
      cases hi
      refine ⟨_, rfl, p1, _, _, _, rfl, rfl, SqT.of (s4' _ _ q1), atI_nat (j := 0) rfl, _, rfl, p1, _, _, _, rfl, rfl, SqT.of (s4' _ _ q1), atI_nat (j := 1) rfl, ?_⟩
      exact ⟨t, t4, v, v4, rfl, dt4, du4, n1, n4, by omega, fun b2 G5 s5 hb2 => told b2 G5 p1 (s4'.trans s5) (hb2.trans ae_swap)⟩
    | 1, hi =>
      cases hi
      refine ⟨_, rfl, p2, _, _, _, rfl, rfl, SqT.of (s4' _ _ q2), atI_nat (j := 0) rfl, _, rfl, p2, _, _, _, rfl, rfl, SqT.of (s4' _ _ q2), atI_nat (j := 1) rfl, ?_⟩
      exact ⟨t4, t, v4, v, rfl, du4, dt4, n4, n1, by omega, fun b2 G5 s5 hb2 => told b2 G5 p2 (s4'.trans s5) hb2⟩
  · rintro σ G4 ⟨s4', j4, j5, rfl⟩
    have dt4 := dt3.mono (tl_same s4')
    refine ⟨_, rfl, _, rfl, t, t, v, v, rfl, dt4, dt4, n1, n1, by omega, fun b3 G5 s5 hb3 => ?_⟩
    have e : b3 = true := hb3.mpr (ae_refl t.size t [] (Nat.le_refl _))
    subst e
    exact ⟨_, rfl, _, _, _, _, rfl, .bl _, kt_bool_bool, _, rfl, iteT ⟨_, rfl, hQ _⟩⟩
theorem rd_law (h : spLaw3 K vs H Q E) : t_law K (fin Q) (start ["_law_script", "_law_one", "_law_other", "_law_due", "_law_pair", "_law_told", "_law_same"] vs) H := by
  obtain ⟨a, ns, rfl, ha, hl, hQ⟩ := h
  have hl' : (ns.map V.int).length ≤ 63 := by rw [List.length_map]; exact hl
  obtain ⟨ms, em, hms⟩ := cut_map3 ns (some 2) (some (2 + 30))
  refine ⟨_, rfl, _, rfl, _, rfl, a, _, _, _, rfl, ha, hl', _, _, rfl, rfl, _, rfl, a, _, rfl, ha, fun q hq => ?_⟩
  have s1 := same_new (o := .lst (cutV (ns.map V.int) (some 2) (some (2 + 30)))) hq
  have g1 : (upd H q (.lst (cutV (ns.map V.int) (some 2) (some (2 + 30))))) q = some (.lst (ms.map V.int)) := by rw [upd_same, em]
  generalize upd H q (.lst (cutV (ns.map V.int) (some 2) (some (2 + 30)))) = H1 at s1 g1 ⊢
  refine ⟨szl, fun q2 hq2 => ?_⟩
  have s2 := same_new (o := .lst []) hq2
  have g2 : (upd H1 q2 (.lst [])) q2 = some (.lst []) := upd_same
  generalize upd H1 q2 (.lst []) = H2 at s2 g2 ⊢
  refine ⟨q, q2, ms, [], rfl, SqL.of (s2 _ _ g1), by omega, g2, by decide, fun x hx => (by cases hx), fun t v H3 s3 d w hsz hnm => ?_⟩
  have s13 := s1.trans (s2.trans s3)
  have n1 := nost_of w
  refine ⟨_, rfl, szl, fun l0 hl0 => ?_⟩
  have s4 := same_new (o := .lst []) hl0
  have g4 : (upd H3 l0 (.lst [])) l0 = some (.lst []) := upd_same
  generalize upd H3 l0 (.lst []) = H4 at s4 g4 ⊢
  have d4 := d.mono (tl_same s4)
  refine ⟨t, v, l0, "zz", rfl, d4, n1, wl_of w, by omega, g4, by decide +kernel, fun t2 v2 H5 s5 d5 n5 z5 => ?_⟩
  have s15 := s13.trans (s4.trans s5)
  have dt5 := d4.mono (tl_same s5)
  refine ⟨_, rfl, a, ns, 0, rfl, s15.seq ha, fun m0 => ⟨_, _, rfl, rfl, ⟨by decide, by decide⟩, _, _, rfl, rfl, (show (0 : Int) < 2 by decide), rfl, _, rfl, ?_⟩⟩
  refine ite2 (fun _ => ?_) (fun _ => rd_law_b (s15.seq ha) dt5 d5 n1 n5 (by omega) z5 hQ)
  refine ⟨_, rfl, fun gd hgd => ?_⟩
  have s6 := same_new (o := .dK []) hgd
  have g6 : (upd H5 gd (.dK [])) gd = some (.dK []) := upd_same
  generalize upd H5 gd (.dK []) = H6 at s6 g6 ⊢
  have dt6 := dt5.mono (tl_same s6)
  refine ⟨t, v, "", gd, [], giv0, 0, rfl, dt6, by omega, g6, fun w => .inl ⟨rfl, rfl⟩, fun r u H7 s7 na hr => ⟨r, _, _, _, rfl, rfl, SqT.of hr, atI_nat (j := 0) rfl, ?_⟩⟩
  refine ⟨t, u, rfl, n1, by omega, na, fun t3 v3 H8 s8 d8 n8 z8 => ?_⟩
  have s18 := s15.trans (s6.trans (s7.trans s8))
  exact rd_law_b (s18.seq ha) (dt6.mono (tl_same (s7.trans s8))) d8 n1 n8 (by omega) z8 hQ
end S3

set_option Elab.async false
set_option linter.all false
set_option maxRecDepth 100000
set_option maxHeartbeats 4000000
namespace K3
open PySem L2 SW
def top (i : Nat) : Stmt := PySem.Challenge.pw_stampword_k03_same_but_words.main.body.getD i (.Pass ⟨0, 0, 0, 0⟩)
structure Adr where
  a__law_any : Addr
  a__law_any_word : Addr
  a__law_room : Addr
  a__law_inside : Addr
  a__law_at : Addr
  a__law_drawn_piece : Addr
  a__law_noted : Addr
  a__law_goes_with : Addr
  a_parts : Addr
  a_with_word : Addr
  a_same_by_itself : Addr
  a_pairs_within : Addr
  a_same_but_words : Addr
  a__law_reworded : Addr
  a__law_bent : Addr
  a__law_spelt_out : Addr
structure Txt (mg : Str → Option Value) (a : Adr) : Prop where
  n_abs : mg "abs" = none
  n_len : mg "len" = none
  n_int : mg "int" = none
  n_list : mg "list" = none
  n_min : mg "min" = none
  n_tuple : mg "tuple" = none
  n_range : mg "range" = none
  n_dict : mg "dict" = none
  n_reversed : mg "reversed" = none
  n_zip : mg "zip" = none
  n_str : mg "str" = none
  n_isinstance : mg "isinstance" = none
  n_bool : mg "bool" = none
  g__law_any : mg "_law_any" = some (.ref a.a__law_any)
  g__law_any_word : mg "_law_any_word" = some (.ref a.a__law_any_word)
  g__law_room : mg "_law_room" = some (.ref a.a__law_room)
  g__law_inside : mg "_law_inside" = some (.ref a.a__law_inside)
  g__law_at : mg "_law_at" = some (.ref a.a__law_at)
  g__law_drawn_piece : mg "_law_drawn_piece" = some (.ref a.a__law_drawn_piece)
  g__law_noted : mg "_law_noted" = some (.ref a.a__law_noted)
  g__law_goes_with : mg "_law_goes_with" = some (.ref a.a__law_goes_with)
  g_parts : mg "parts" = some (.ref a.a_parts)
  g_with_word : mg "with_word" = some (.ref a.a_with_word)
  g_same_by_itself : mg "same_by_itself" = some (.ref a.a_same_by_itself)
  g_pairs_within : mg "pairs_within" = some (.ref a.a_pairs_within)
  g_same_but_words : mg "same_but_words" = some (.ref a.a_same_but_words)
  g__law_reworded : mg "_law_reworded" = some (.ref a.a__law_reworded)
  g__law_bent : mg "_law_bent" = some (.ref a.a__law_bent)
  g__law_spelt_out : mg "_law_spelt_out" = some (.ref a.a__law_spelt_out)
seal L2.PE L2.PT L2.PW L2.PA L2.PS L2.PSs L2.PC L2.PG L2.PGs L2.PI L2.PO
section
variable {P : Program} {w : World} {K : PySem.W.Frag} {mg : Str → Option Value} {base : Heap} {a : Adr} {f : Addr} {fd : FuncData}
theorem sc_any : FnScope ["_law_cell", "_law_size"] ["_law_cell"] (defScope (top 17)) := ⟨rfl, rfl, rfl, by decide +kernel, rfl, by decide +kernel, by decide +kernel⟩
theorem ok_any (F : Fun K "_law_any" "_law_any" (top 17) f fd) (T : Txt mg a) : FnOk P w K mg base CX0 1 f fd ["_law_cell"] spAny := by
  refine F.ok sc_any (fun vs H Q E h => ?_) (fun cdv A outer s H vs Q E hr h => ⟨SW.t_any K, ?_, SW.rd_any h⟩)
  · obtain ⟨_, rfl, _⟩ := h
    rfl
  have nd := sc_any.nd
  have hu := hu_of hr
  have hu0 := hr.units0
  have p0 : ∀ {pos : Pos}, PE ((cxOf CX0 P w K mg base ["_law_cell", "_law_size"] "_law_any" (defScope (top 17)) f cdv A outer s H E).nox) (.Name "_law_cell" pos) (tVar 0) := fun {pos} => pv 0
  have p1 : ∀ {pos : Pos}, PE ((cxOf CX0 P w K mg base ["_law_cell", "_law_size"] "_law_any" (defScope (top 17)) f cdv A outer s H E).nox) (.Name "_law_size" pos) (tVar 1) := fun {pos} => pv 1
  have l1 : Loc (((cxOf CX0 P w K mg base ["_law_cell", "_law_size"] "_law_any" (defScope (top 17)) f cdv A outer s H E).nox)).env.scope "_law_size" := by first | exact Or.inl rfl | exact Or.inr rfl
  have g1 : ∀ {pos : Pos}, PG ((cxOf CX0 P w K mg base ["_law_cell", "_law_size"] "_law_any" (defScope (top 17)) f cdv A outer s H E).nox) (.Name "_law_size" pos) (gName 1) := fun {pos} => pg_name (i := 1) nd rfl l1
  exact (pss_cons (ps_set (i := 1) nd rfl l1 (pe_op op_mod (pe_op op_fdiv p0 pe_int) (pe_op op_pow pe_int pe_int))) (pss_one (ps_ret (pe_op op_mul p1 (pe_ix ix_list (pe_lst (pa_cons pe_int (pa_cons (pe_un un_neg pe_int) pa_nil))) (pe_op op_mod p0 pe_int) (fun _ _ => rfl))))))
theorem sc_aw : FnScope ["_law_cell", "_law_left", "_law_word"] ["_law_cell"] (defScope (top 16)) := ⟨rfl, rfl, rfl, by decide +kernel, rfl, by decide +kernel, by decide +kernel⟩
theorem ok_aw (F : Fun K "_law_any_word" "_law_any_word" (top 16) f fd) (T : Txt mg a) : FnOk P w K mg base CX0 1 f fd ["_law_cell"] spWord := by
  refine F.ok sc_aw (fun vs H Q E h => ?_) (fun cdv A outer s H vs Q E hr h => ⟨SW.t_aw K, ?_, SW.rd_aw h⟩)
  · obtain ⟨_, rfl, _⟩ := h
    rfl
  have nd := sc_aw.nd
  have hu := hu_of hr
  have hu0 := hr.units0
  have p0 : ∀ {pos : Pos}, PE ((cxOf CX0 P w K mg base ["_law_cell", "_law_left", "_law_word"] "_law_any_word" (defScope (top 16)) f cdv A outer s H E).nox) (.Name "_law_cell" pos) (tVar 0) := fun {pos} => pv 0
  have p1 : ∀ {pos : Pos}, PE ((cxOf CX0 P w K mg base ["_law_cell", "_law_left", "_law_word"] "_law_any_word" (defScope (top 16)) f cdv A outer s H E).nox) (.Name "_law_left" pos) (tVar 1) := fun {pos} => pv 1
  have p2 : ∀ {pos : Pos}, PE ((cxOf CX0 P w K mg base ["_law_cell", "_law_left", "_law_word"] "_law_any_word" (defScope (top 16)) f cdv A outer s H E).nox) (.Name "_law_word" pos) (tVar 2) := fun {pos} => pv 2
  have l1 : Loc (((cxOf CX0 P w K mg base ["_law_cell", "_law_left", "_law_word"] "_law_any_word" (defScope (top 16)) f cdv A outer s H E).nox)).env.scope "_law_left" := by first | exact Or.inl rfl | exact Or.inr rfl
  have g1 : ∀ {pos : Pos}, PG ((cxOf CX0 P w K mg base ["_law_cell", "_law_left", "_law_word"] "_law_any_word" (defScope (top 16)) f cdv A outer s H E).nox) (.Name "_law_left" pos) (gName 1) := fun {pos} => pg_name (i := 1) nd rfl l1
  have l2 : Loc (((cxOf CX0 P w K mg base ["_law_cell", "_law_left", "_law_word"] "_law_any_word" (defScope (top 16)) f cdv A outer s H E).nox)).env.scope "_law_word" := by first | exact Or.inl rfl | exact Or.inr rfl
  have g2 : ∀ {pos : Pos}, PG ((cxOf CX0 P w K mg base ["_law_cell", "_law_left", "_law_word"] "_law_any_word" (defScope (top 16)) f cdv A outer s H E).nox) (.Name "_law_word" pos) (gName 2) := fun {pos} => pg_name (i := 2) nd rfl l2
  have k_abs : Gl ((cxOf CX0 P w K mg base ["_law_cell", "_law_left", "_law_word"] "_law_any_word" (defScope (top 16)) f cdv A outer s H E).nox) "abs" := by rfl
  exact (pss_cons (ps_set (i := 1) nd rfl l1 (pe_op op_mod (pe_callB call_abs k_abs T.n_abs bo_abs (pa_cons p0 pa_nil)) (pe_op op_pow pe_int pe_int))) (pss_cons (ps_set (i := 2) nd rfl l2 pe_str) (pss_cons (ps_while PassesOwn.never (pt_cmpR op_ge p1 pe_int (nomark _)) (pss_cons (ps_set (i := 2) nd rfl l2 (pe_op op_add_str (pe_ix ix_str pe_str (pe_op op_mod p1 pe_int) (fun _ _ => rfl)) p2)) (pss_one (ps_set (i := 1) nd rfl l1 (pe_op op_sub (pe_op op_fdiv p1 pe_int) pe_int))))) (pss_one (ps_ret p2)))))
theorem sc_room : FnScope ["_law_script", "_law_most", "_law_bound"] ["_law_script", "_law_most", "_law_bound"] (defScope (top 18)) := ⟨rfl, rfl, rfl, by decide +kernel, rfl, by decide +kernel, by decide +kernel⟩
theorem ok_room (F : Fun K "_law_room" "_law_room" (top 18) f fd) (T : Txt mg a) : FnOk P w K mg base CX0 1 f fd ["_law_script", "_law_most", "_law_bound"] (spRoom K) := by
  refine F.ok sc_room (fun vs H Q E h => ?_) (fun cdv A outer s H vs Q E hr h => ⟨SW.t_room K, ?_, SW.rd_room h⟩)
  · obtain ⟨_, _, _, _, rfl, _⟩ := h
    rfl
  have nd := sc_room.nd
  have hu := hu_of hr
  have hu0 := hr.units0
  have p0 : ∀ {pos : Pos}, PE ((cxOf CX0 P w K mg base ["_law_script", "_law_most", "_law_bound"] "_law_room" (defScope (top 18)) f cdv A outer s H E).nox) (.Name "_law_script" pos) (tVar 0) := fun {pos} => pv 0
  have p1 : ∀ {pos : Pos}, PE ((cxOf CX0 P w K mg base ["_law_script", "_law_most", "_law_bound"] "_law_room" (defScope (top 18)) f cdv A outer s H E).nox) (.Name "_law_most" pos) (tVar 1) := fun {pos} => pv 1
  have p2 : ∀ {pos : Pos}, PE ((cxOf CX0 P w K mg base ["_law_script", "_law_most", "_law_bound"] "_law_room" (defScope (top 18)) f cdv A outer s H E).nox) (.Name "_law_bound" pos) (tVar 2) := fun {pos} => pv 2
  have k_len : Gl ((cxOf CX0 P w K mg base ["_law_script", "_law_most", "_law_bound"] "_law_room" (defScope (top 18)) f cdv A outer s H E).nox) "len" := by rfl
  exact (pss_cons (ps_if (pt_cmpR op_gt (pe_callB call_len_seq k_len T.n_len bo_len (pa_cons p0 pa_nil)) pe_int (nomark _)) (pss_one (ps_ret p2)) pss_nil) (pss_one (ps_ret p1)))
theorem sc_ins : FnScope ["_law_piece"] ["_law_piece"] (defScope (top 10)) := ⟨rfl, rfl, rfl, by decide +kernel, rfl, by decide +kernel, by decide +kernel⟩
theorem ok_ins (F : Fun K "_law_inside" "_law_inside" (top 10) f fd) (T : Txt mg a) : FnOk P w K mg base CX0 1 f fd ["_law_piece"] spInside := by
  refine F.ok sc_ins (fun vs H Q E h => ?_) (fun cdv A outer s H vs Q E hr h => ⟨SW.t_ins K, ?_, SW.rd_ins h⟩)
  · obtain ⟨_, _, rfl, _⟩ := h
    rfl
  have nd := sc_ins.nd
  have hu := hu_of hr
  have hu0 := hr.units0
  have p0 : ∀ {pos : Pos}, PE ((cxOf CX0 P w K mg base ["_law_piece"] "_law_inside" (defScope (top 10)) f cdv A outer s H E).nox) (.Name "_law_piece" pos) (tVar 0) := fun {pos} => pv 0
  have k_int : Gl ((cxOf CX0 P w K mg base ["_law_piece"] "_law_inside" (defScope (top 10)) f cdv A outer s H E).nox) "int" := by rfl
  have k_list : Gl ((cxOf CX0 P w K mg base ["_law_piece"] "_law_inside" (defScope (top 10)) f cdv A outer s H E).nox) "list" := by rfl
  exact (pss_cons (ps_if (pt_cmpR op_in_seq (pe_ix ix_tup p0 pe_int (fun _ _ => rfl)) (pe_lst (pa_cons pe_str (pa_cons pe_str pa_nil))) (by with_unfolding_all rfl)) (pss_one (ps_ret (pe_lst pa_nil))) pss_nil) (pss_one (ps_ret (pe_callTy call_list_of k_list T.n_list bo_list (pa_cons (pe_slice sl_tup p0 (po_some (pe_op op_add pe_int (pe_callTy call_int1 k_int T.n_int bo_int (pa_cons (pe_cmpR op_in_seq (pe_ix ix_tup p0 pe_int (fun _ _ => rfl)) (pe_lst (pa_cons pe_str (pa_cons pe_str pa_nil))) (by with_unfolding_all rfl)) pa_nil)))) po_none) pa_nil)))))
theorem sc_at3 : FnScope ["_law_script", "_law_k"] ["_law_script", "_law_k"] (defScope (top 8)) := ⟨rfl, rfl, rfl, by decide +kernel, rfl, by decide +kernel, by decide +kernel⟩
theorem ok_at3 (F : Fun K "_law_at" "_law_at" (top 8) f fd) (T : Txt mg a) : FnOk P w K mg base CX0 1 f fd ["_law_script", "_law_k"] (spAt3 K) := by
  refine F.ok sc_at3 (fun vs H Q E h => ?_) (fun cdv A outer s H vs Q E hr h => ⟨S3.t_at3 K, ?_, S3.rd_at3 h⟩)
  · obtain ⟨_, _, _, rfl, _⟩ := h
    rfl
  have nd := sc_at3.nd
  have hu := hu_of hr
  have hu0 := hr.units0
  have p0 : ∀ {pos : Pos}, PE ((cxOf CX0 P w K mg base ["_law_script", "_law_k"] "_law_at" (defScope (top 8)) f cdv A outer s H E).nox) (.Name "_law_script" pos) (tVar 0) := fun {pos} => pv 0
  have p1 : ∀ {pos : Pos}, PE ((cxOf CX0 P w K mg base ["_law_script", "_law_k"] "_law_at" (defScope (top 8)) f cdv A outer s H E).nox) (.Name "_law_k" pos) (tVar 1) := fun {pos} => pv 1
  have k_len : Gl ((cxOf CX0 P w K mg base ["_law_script", "_law_k"] "_law_at" (defScope (top 8)) f cdv A outer s H E).nox) "len" := by rfl
  exact (pss_cons (ps_if (pt_cmpR op_lt p1 (pe_callB call_len_seq k_len T.n_len bo_len (pa_cons p0 pa_nil)) (nomark _)) (pss_one (ps_ret (pe_ix ix_list p0 p1 (fun _ _ => rfl)))) pss_nil) (pss_one (ps_ret pe_int)))
theorem sc_dp : FnScope ["_law_cells", "_law_stamps", "_law_pile", "_law_cell", "_law_rest", "_law_way", "_law_word", "_law_inner", "_law_look", "_law_name", "_law_many", "_law_made", "_law_last"] ["_law_cells", "_law_stamps"] (defScope (top 9)) := ⟨rfl, rfl, rfl, by decide +kernel, rfl, by decide +kernel, by decide +kernel⟩
theorem ok_dp (F : Fun K "_law_drawn_piece" "_law_drawn_piece" (top 9) f fd) (T : Txt mg a)
    {fd__law_any_word : FuncData} (G__law_any_word : FnOk P w K mg base CX0 1 a.a__law_any_word fd__law_any_word ["_law_cell"] spWord) (F__law_any_word : Fun K "_law_any_word" "_law_any_word" (top 16) a.a__law_any_word fd__law_any_word) (b__law_any_word : Binds K fd__law_any_word ["_law_cell"] [])
    {fd__law_any : FuncData} (G__law_any : FnOk P w K mg base CX0 1 a.a__law_any fd__law_any ["_law_cell"] spAny) (F__law_any : Fun K "_law_any" "_law_any" (top 17) a.a__law_any fd__law_any) (b__law_any : Binds K fd__law_any ["_law_cell"] []) : FnOk P w K mg base CX0 2 f fd ["_law_cells", "_law_stamps"] (spDrawn K S0) := by
  refine F.ok sc_dp (fun vs H Q E h => ?_) (fun cdv A outer s H vs Q E hr h => ⟨SW.t_dp K, ?_, SW.rd_dp h⟩)
  · obtain ⟨_, _, _, _, rfl, _⟩ := h
    rfl
  have nd := sc_dp.nd
  have hu := hu_of hr
  have hu0 := hr.units0
  have p0 : ∀ {pos : Pos}, PE ((cxOf CX0 P w K mg base ["_law_cells", "_law_stamps", "_law_pile", "_law_cell", "_law_rest", "_law_way", "_law_word", "_law_inner", "_law_look", "_law_name", "_law_many", "_law_made", "_law_last"] "_law_drawn_piece" (defScope (top 9)) f cdv A outer s H E).nox) (.Name "_law_cells" pos) (tVar 0) := fun {pos} => pv 0
  have p1 : ∀ {pos : Pos}, PE ((cxOf CX0 P w K mg base ["_law_cells", "_law_stamps", "_law_pile", "_law_cell", "_law_rest", "_law_way", "_law_word", "_law_inner", "_law_look", "_law_name", "_law_many", "_law_made", "_law_last"] "_law_drawn_piece" (defScope (top 9)) f cdv A outer s H E).nox) (.Name "_law_stamps" pos) (tVar 1) := fun {pos} => pv 1
  have p2 : ∀ {pos : Pos}, PE ((cxOf CX0 P w K mg base ["_law_cells", "_law_stamps", "_law_pile", "_law_cell", "_law_rest", "_law_way", "_law_word", "_law_inner", "_law_look", "_law_name", "_law_many", "_law_made", "_law_last"] "_law_drawn_piece" (defScope (top 9)) f cdv A outer s H E).nox) (.Name "_law_pile" pos) (tVar 2) := fun {pos} => pv 2
  have p3 : ∀ {pos : Pos}, PE ((cxOf CX0 P w K mg base ["_law_cells", "_law_stamps", "_law_pile", "_law_cell", "_law_rest", "_law_way", "_law_word", "_law_inner", "_law_look", "_law_name", "_law_many", "_law_made", "_law_last"] "_law_drawn_piece" (defScope (top 9)) f cdv A outer s H E).nox) (.Name "_law_cell" pos) (tVar 3) := fun {pos} => pv 3
  have p4 : ∀ {pos : Pos}, PE ((cxOf CX0 P w K mg base ["_law_cells", "_law_stamps", "_law_pile", "_law_cell", "_law_rest", "_law_way", "_law_word", "_law_inner", "_law_look", "_law_name", "_law_many", "_law_made", "_law_last"] "_law_drawn_piece" (defScope (top 9)) f cdv A outer s H E).nox) (.Name "_law_rest" pos) (tVar 4) := fun {pos} => pv 4
  have p5 : ∀ {pos : Pos}, PE ((cxOf CX0 P w K mg base ["_law_cells", "_law_stamps", "_law_pile", "_law_cell", "_law_rest", "_law_way", "_law_word", "_law_inner", "_law_look", "_law_name", "_law_many", "_law_made", "_law_last"] "_law_drawn_piece" (defScope (top 9)) f cdv A outer s H E).nox) (.Name "_law_way" pos) (tVar 5) := fun {pos} => pv 5
  have p6 : ∀ {pos : Pos}, PE ((cxOf CX0 P w K mg base ["_law_cells", "_law_stamps", "_law_pile", "_law_cell", "_law_rest", "_law_way", "_law_word", "_law_inner", "_law_look", "_law_name", "_law_many", "_law_made", "_law_last"] "_law_drawn_piece" (defScope (top 9)) f cdv A outer s H E).nox) (.Name "_law_word" pos) (tVar 6) := fun {pos} => pv 6
  have p7 : ∀ {pos : Pos}, PE ((cxOf CX0 P w K mg base ["_law_cells", "_law_stamps", "_law_pile", "_law_cell", "_law_rest", "_law_way", "_law_word", "_law_inner", "_law_look", "_law_name", "_law_many", "_law_made", "_law_last"] "_law_drawn_piece" (defScope (top 9)) f cdv A outer s H E).nox) (.Name "_law_inner" pos) (tVar 7) := fun {pos} => pv 7
  have p8 : ∀ {pos : Pos}, PE ((cxOf CX0 P w K mg base ["_law_cells", "_law_stamps", "_law_pile", "_law_cell", "_law_rest", "_law_way", "_law_word", "_law_inner", "_law_look", "_law_name", "_law_many", "_law_made", "_law_last"] "_law_drawn_piece" (defScope (top 9)) f cdv A outer s H E).nox) (.Name "_law_look" pos) (tVar 8) := fun {pos} => pv 8
  have p9 : ∀ {pos : Pos}, PE ((cxOf CX0 P w K mg base ["_law_cells", "_law_stamps", "_law_pile", "_law_cell", "_law_rest", "_law_way", "_law_word", "_law_inner", "_law_look", "_law_name", "_law_many", "_law_made", "_law_last"] "_law_drawn_piece" (defScope (top 9)) f cdv A outer s H E).nox) (.Name "_law_name" pos) (tVar 9) := fun {pos} => pv 9
  have p10 : ∀ {pos : Pos}, PE ((cxOf CX0 P w K mg base ["_law_cells", "_law_stamps", "_law_pile", "_law_cell", "_law_rest", "_law_way", "_law_word", "_law_inner", "_law_look", "_law_name", "_law_many", "_law_made", "_law_last"] "_law_drawn_piece" (defScope (top 9)) f cdv A outer s H E).nox) (.Name "_law_many" pos) (tVar 10) := fun {pos} => pv 10
  have p11 : ∀ {pos : Pos}, PE ((cxOf CX0 P w K mg base ["_law_cells", "_law_stamps", "_law_pile", "_law_cell", "_law_rest", "_law_way", "_law_word", "_law_inner", "_law_look", "_law_name", "_law_many", "_law_made", "_law_last"] "_law_drawn_piece" (defScope (top 9)) f cdv A outer s H E).nox) (.Name "_law_made" pos) (tVar 11) := fun {pos} => pv 11
  have p12 : ∀ {pos : Pos}, PE ((cxOf CX0 P w K mg base ["_law_cells", "_law_stamps", "_law_pile", "_law_cell", "_law_rest", "_law_way", "_law_word", "_law_inner", "_law_look", "_law_name", "_law_many", "_law_made", "_law_last"] "_law_drawn_piece" (defScope (top 9)) f cdv A outer s H E).nox) (.Name "_law_last" pos) (tVar 12) := fun {pos} => pv 12
  have l2 : Loc (((cxOf CX0 P w K mg base ["_law_cells", "_law_stamps", "_law_pile", "_law_cell", "_law_rest", "_law_way", "_law_word", "_law_inner", "_law_look", "_law_name", "_law_many", "_law_made", "_law_last"] "_law_drawn_piece" (defScope (top 9)) f cdv A outer s H E).nox)).env.scope "_law_pile" := by first | exact Or.inl rfl | exact Or.inr rfl
  have g2 : ∀ {pos : Pos}, PG ((cxOf CX0 P w K mg base ["_law_cells", "_law_stamps", "_law_pile", "_law_cell", "_law_rest", "_law_way", "_law_word", "_law_inner", "_law_look", "_law_name", "_law_many", "_law_made", "_law_last"] "_law_drawn_piece" (defScope (top 9)) f cdv A outer s H E).nox) (.Name "_law_pile" pos) (gName 2) := fun {pos} => pg_name (i := 2) nd rfl l2
  have l3 : Loc (((cxOf CX0 P w K mg base ["_law_cells", "_law_stamps", "_law_pile", "_law_cell", "_law_rest", "_law_way", "_law_word", "_law_inner", "_law_look", "_law_name", "_law_many", "_law_made", "_law_last"] "_law_drawn_piece" (defScope (top 9)) f cdv A outer s H E).nox)).env.scope "_law_cell" := by first | exact Or.inl rfl | exact Or.inr rfl
  have g3 : ∀ {pos : Pos}, PG ((cxOf CX0 P w K mg base ["_law_cells", "_law_stamps", "_law_pile", "_law_cell", "_law_rest", "_law_way", "_law_word", "_law_inner", "_law_look", "_law_name", "_law_many", "_law_made", "_law_last"] "_law_drawn_piece" (defScope (top 9)) f cdv A outer s H E).nox) (.Name "_law_cell" pos) (gName 3) := fun {pos} => pg_name (i := 3) nd rfl l3
  have l4 : Loc (((cxOf CX0 P w K mg base ["_law_cells", "_law_stamps", "_law_pile", "_law_cell", "_law_rest", "_law_way", "_law_word", "_law_inner", "_law_look", "_law_name", "_law_many", "_law_made", "_law_last"] "_law_drawn_piece" (defScope (top 9)) f cdv A outer s H E).nox)).env.scope "_law_rest" := by first | exact Or.inl rfl | exact Or.inr rfl
  have g4 : ∀ {pos : Pos}, PG ((cxOf CX0 P w K mg base ["_law_cells", "_law_stamps", "_law_pile", "_law_cell", "_law_rest", "_law_way", "_law_word", "_law_inner", "_law_look", "_law_name", "_law_many", "_law_made", "_law_last"] "_law_drawn_piece" (defScope (top 9)) f cdv A outer s H E).nox) (.Name "_law_rest" pos) (gName 4) := fun {pos} => pg_name (i := 4) nd rfl l4
  have l5 : Loc (((cxOf CX0 P w K mg base ["_law_cells", "_law_stamps", "_law_pile", "_law_cell", "_law_rest", "_law_way", "_law_word", "_law_inner", "_law_look", "_law_name", "_law_many", "_law_made", "_law_last"] "_law_drawn_piece" (defScope (top 9)) f cdv A outer s H E).nox)).env.scope "_law_way" := by first | exact Or.inl rfl | exact Or.inr rfl
  have g5 : ∀ {pos : Pos}, PG ((cxOf CX0 P w K mg base ["_law_cells", "_law_stamps", "_law_pile", "_law_cell", "_law_rest", "_law_way", "_law_word", "_law_inner", "_law_look", "_law_name", "_law_many", "_law_made", "_law_last"] "_law_drawn_piece" (defScope (top 9)) f cdv A outer s H E).nox) (.Name "_law_way" pos) (gName 5) := fun {pos} => pg_name (i := 5) nd rfl l5
  have l6 : Loc (((cxOf CX0 P w K mg base ["_law_cells", "_law_stamps", "_law_pile", "_law_cell", "_law_rest", "_law_way", "_law_word", "_law_inner", "_law_look", "_law_name", "_law_many", "_law_made", "_law_last"] "_law_drawn_piece" (defScope (top 9)) f cdv A outer s H E).nox)).env.scope "_law_word" := by first | exact Or.inl rfl | exact Or.inr rfl
  have g6 : ∀ {pos : Pos}, PG ((cxOf CX0 P w K mg base ["_law_cells", "_law_stamps", "_law_pile", "_law_cell", "_law_rest", "_law_way", "_law_word", "_law_inner", "_law_look", "_law_name", "_law_many", "_law_made", "_law_last"] "_law_drawn_piece" (defScope (top 9)) f cdv A outer s H E).nox) (.Name "_law_word" pos) (gName 6) := fun {pos} => pg_name (i := 6) nd rfl l6
  have l7 : Loc (((cxOf CX0 P w K mg base ["_law_cells", "_law_stamps", "_law_pile", "_law_cell", "_law_rest", "_law_way", "_law_word", "_law_inner", "_law_look", "_law_name", "_law_many", "_law_made", "_law_last"] "_law_drawn_piece" (defScope (top 9)) f cdv A outer s H E).nox)).env.scope "_law_inner" := by first | exact Or.inl rfl | exact Or.inr rfl
  have g7 : ∀ {pos : Pos}, PG ((cxOf CX0 P w K mg base ["_law_cells", "_law_stamps", "_law_pile", "_law_cell", "_law_rest", "_law_way", "_law_word", "_law_inner", "_law_look", "_law_name", "_law_many", "_law_made", "_law_last"] "_law_drawn_piece" (defScope (top 9)) f cdv A outer s H E).nox) (.Name "_law_inner" pos) (gName 7) := fun {pos} => pg_name (i := 7) nd rfl l7
  have l8 : Loc (((cxOf CX0 P w K mg base ["_law_cells", "_law_stamps", "_law_pile", "_law_cell", "_law_rest", "_law_way", "_law_word", "_law_inner", "_law_look", "_law_name", "_law_many", "_law_made", "_law_last"] "_law_drawn_piece" (defScope (top 9)) f cdv A outer s H E).nox)).env.scope "_law_look" := by first | exact Or.inl rfl | exact Or.inr rfl
  have g8 : ∀ {pos : Pos}, PG ((cxOf CX0 P w K mg base ["_law_cells", "_law_stamps", "_law_pile", "_law_cell", "_law_rest", "_law_way", "_law_word", "_law_inner", "_law_look", "_law_name", "_law_many", "_law_made", "_law_last"] "_law_drawn_piece" (defScope (top 9)) f cdv A outer s H E).nox) (.Name "_law_look" pos) (gName 8) := fun {pos} => pg_name (i := 8) nd rfl l8
  have l9 : Loc (((cxOf CX0 P w K mg base ["_law_cells", "_law_stamps", "_law_pile", "_law_cell", "_law_rest", "_law_way", "_law_word", "_law_inner", "_law_look", "_law_name", "_law_many", "_law_made", "_law_last"] "_law_drawn_piece" (defScope (top 9)) f cdv A outer s H E).nox)).env.scope "_law_name" := by first | exact Or.inl rfl | exact Or.inr rfl
  have g9 : ∀ {pos : Pos}, PG ((cxOf CX0 P w K mg base ["_law_cells", "_law_stamps", "_law_pile", "_law_cell", "_law_rest", "_law_way", "_law_word", "_law_inner", "_law_look", "_law_name", "_law_many", "_law_made", "_law_last"] "_law_drawn_piece" (defScope (top 9)) f cdv A outer s H E).nox) (.Name "_law_name" pos) (gName 9) := fun {pos} => pg_name (i := 9) nd rfl l9
  have l10 : Loc (((cxOf CX0 P w K mg base ["_law_cells", "_law_stamps", "_law_pile", "_law_cell", "_law_rest", "_law_way", "_law_word", "_law_inner", "_law_look", "_law_name", "_law_many", "_law_made", "_law_last"] "_law_drawn_piece" (defScope (top 9)) f cdv A outer s H E).nox)).env.scope "_law_many" := by first | exact Or.inl rfl | exact Or.inr rfl
  have g10 : ∀ {pos : Pos}, PG ((cxOf CX0 P w K mg base ["_law_cells", "_law_stamps", "_law_pile", "_law_cell", "_law_rest", "_law_way", "_law_word", "_law_inner", "_law_look", "_law_name", "_law_many", "_law_made", "_law_last"] "_law_drawn_piece" (defScope (top 9)) f cdv A outer s H E).nox) (.Name "_law_many" pos) (gName 10) := fun {pos} => pg_name (i := 10) nd rfl l10
  have l11 : Loc (((cxOf CX0 P w K mg base ["_law_cells", "_law_stamps", "_law_pile", "_law_cell", "_law_rest", "_law_way", "_law_word", "_law_inner", "_law_look", "_law_name", "_law_many", "_law_made", "_law_last"] "_law_drawn_piece" (defScope (top 9)) f cdv A outer s H E).nox)).env.scope "_law_made" := by first | exact Or.inl rfl | exact Or.inr rfl
  have g11 : ∀ {pos : Pos}, PG ((cxOf CX0 P w K mg base ["_law_cells", "_law_stamps", "_law_pile", "_law_cell", "_law_rest", "_law_way", "_law_word", "_law_inner", "_law_look", "_law_name", "_law_many", "_law_made", "_law_last"] "_law_drawn_piece" (defScope (top 9)) f cdv A outer s H E).nox) (.Name "_law_made" pos) (gName 11) := fun {pos} => pg_name (i := 11) nd rfl l11
  have l12 : Loc (((cxOf CX0 P w K mg base ["_law_cells", "_law_stamps", "_law_pile", "_law_cell", "_law_rest", "_law_way", "_law_word", "_law_inner", "_law_look", "_law_name", "_law_many", "_law_made", "_law_last"] "_law_drawn_piece" (defScope (top 9)) f cdv A outer s H E).nox)).env.scope "_law_last" := by first | exact Or.inl rfl | exact Or.inr rfl
  have g12 : ∀ {pos : Pos}, PG ((cxOf CX0 P w K mg base ["_law_cells", "_law_stamps", "_law_pile", "_law_cell", "_law_rest", "_law_way", "_law_word", "_law_inner", "_law_look", "_law_name", "_law_many", "_law_made", "_law_last"] "_law_drawn_piece" (defScope (top 9)) f cdv A outer s H E).nox) (.Name "_law_last" pos) (gName 12) := fun {pos} => pg_name (i := 12) nd rfl l12
  have k_len : Gl ((cxOf CX0 P w K mg base ["_law_cells", "_law_stamps", "_law_pile", "_law_cell", "_law_rest", "_law_way", "_law_word", "_law_inner", "_law_look", "_law_name", "_law_many", "_law_made", "_law_last"] "_law_drawn_piece" (defScope (top 9)) f cdv A outer s H E).nox) "len" := by rfl
  have k_int : Gl ((cxOf CX0 P w K mg base ["_law_cells", "_law_stamps", "_law_pile", "_law_cell", "_law_rest", "_law_way", "_law_word", "_law_inner", "_law_look", "_law_name", "_law_many", "_law_made", "_law_last"] "_law_drawn_piece" (defScope (top 9)) f cdv A outer s H E).nox) "int" := by rfl
  have k_min : Gl ((cxOf CX0 P w K mg base ["_law_cells", "_law_stamps", "_law_pile", "_law_cell", "_law_rest", "_law_way", "_law_word", "_law_inner", "_law_look", "_law_name", "_law_many", "_law_made", "_law_last"] "_law_drawn_piece" (defScope (top 9)) f cdv A outer s H E).nox) "min" := by rfl
  have k_tuple : Gl ((cxOf CX0 P w K mg base ["_law_cells", "_law_stamps", "_law_pile", "_law_cell", "_law_rest", "_law_way", "_law_word", "_law_inner", "_law_look", "_law_name", "_law_many", "_law_made", "_law_last"] "_law_drawn_piece" (defScope (top 9)) f cdv A outer s H E).nox) "tuple" := by rfl
  have k__law_any_word : Gl ((cxOf CX0 P w K mg base ["_law_cells", "_law_stamps", "_law_pile", "_law_cell", "_law_rest", "_law_way", "_law_word", "_law_inner", "_law_look", "_law_name", "_law_many", "_law_made", "_law_last"] "_law_drawn_piece" (defScope (top 9)) f cdv A outer s H E).nox) "_law_any_word" := by rfl
  have k__law_any : Gl ((cxOf CX0 P w K mg base ["_law_cells", "_law_stamps", "_law_pile", "_law_cell", "_law_rest", "_law_way", "_law_word", "_law_inner", "_law_look", "_law_name", "_law_many", "_law_made", "_law_last"] "_law_drawn_piece" (defScope (top 9)) f cdv A outer s H E).nox) "_law_any" := by rfl
  exact (pss_cons (ps_set (i := 2) nd rfl l2 (pe_lst (pa_cons (pe_tup (pa_cons pe_str (pa_cons pe_str pa_nil))) pa_nil))) (pss_cons (ps_for PassesOwn.never rfl (pi_list p0) g3 (pss_cons (ps_set (i := 4) nd rfl l4 (pe_op op_fdiv p3 pe_int)) (pss_cons (ps_set (i := 5) nd rfl l5 (pe_op op_mod p3 pe_int)) (pss_cons (ps_set (i := 6) nd rfl l6 (pe_ix ix_list (pe_lst (pa_cons pe_str (pa_cons pe_str (pa_cons pe_str (pa_cons pe_str pa_nil))))) (pe_op op_mod p4 pe_int) (fun _ _ => rfl))) (pss_cons (ps_if (pt_cmpR op_eq (pe_op op_mod p4 pe_int) pe_int (nomark _)) (pss_one (ps_set (i := 6) nd rfl l6 (pe_op op_add_str (pe_call G__law_any_word (hr.mono (by decide)) k__law_any_word T.g__law_any_word F__law_any_word.kp b__law_any_word .nil pass0 (pa_cons (pe_op op_fdiv p4 pe_int) pa_nil)) pe_str))) pss_nil) (pss_cons (ps_set (i := 7) nd rfl l7 (pe_slice sl_list p2 (po_some (pe_un un_neg pe_int)) po_none)) (pss_one (ps_if (pw_or (pt_cmpR op_eq p5 pe_int (nomark _)) (pw_or1 (pw_and (pt_cmpR op_eq (pe_callB call_len_seq k_len T.n_len bo_len (pa_cons p7 pa_nil)) pe_int (nomark _)) (pw_and1 (pt_chain op_lt op_lt pe_int p5 pe_int))).pt)).pt (pss_one (ps_expr (pe_bm PySem.F.plainAttrs_list PySem.F.slot_list_append PySem.F.type_list_append mt_append p2 (pa_cons (pe_tup (pa_cons pe_str (pa_cons (pe_ix ix_list (pe_lst (pa_cons (pe_op op_sub (pe_op op_mod p4 pe_int) pe_int) (pa_cons (pe_call G__law_any (hr.mono (by decide)) k__law_any T.g__law_any F__law_any.kp b__law_any .nil pass0 (pa_cons p4 pa_nil)) pa_nil))) (pe_callTy call_int1 k_int T.n_int bo_int (pa_cons (pe_cmpR op_eq (pe_op op_mod p4 pe_int) pe_int (nomark _)) pa_nil)) (fun _ _ => rfl)) pa_nil))) pa_nil)))) (pss_one (ps_if (pt_cmpR op_lt p5 pe_int (nomark _)) (pss_one (ps_expr (pe_bm PySem.F.plainAttrs_list PySem.F.slot_list_append PySem.F.type_list_append mt_append p2 (pa_cons (pe_tup (pa_cons pe_str (pa_cons p6 pa_nil))) pa_nil)))) (pss_one (ps_if (pw_and (pt_cmpR op_eq p5 pe_int (nomark _)) (pw_and1 (pt_cmpR op_eq (pe_callB call_len_seq k_len T.n_len bo_len (pa_cons p7 pa_nil)) pe_int (nomark _)))).pt (pss_one (ps_set (i := 2) nd rfl l2 (pe_op op_cat (pe_slice sl_list p2 po_none (po_some (pe_un un_neg pe_int))) (pe_lst (pa_cons (pe_tup (pa_cons pe_str (pa_cons (pe_ix ix_list p7 pe_int (fun _ _ => rfl)) (pa_cons (pe_ix ix_list p7 pe_int (fun _ _ => rfl)) (pa_cons (pe_ix ix_list p7 pe_int (fun _ _ => rfl)) pa_nil))))) pa_nil))))) (pss_one (ps_if (pt_cmpR op_lt p5 pe_int (nomark _)) (pss_one (ps_set (i := 2) nd rfl l2 (pe_op op_cat (pe_slice sl_list p2 po_none (po_some (pe_un un_neg pe_int))) (pe_lst (pa_cons (pe_tup (pa_cons (pe_ix ix_list (pe_lst (pa_cons pe_str (pa_cons pe_str pa_nil))) (pe_op op_mod p5 pe_int) (fun _ _ => rfl)) (pa_cons (pe_ix ix_list p7 (pe_un un_neg pe_int) (fun _ _ => rfl)) (pa_cons (pe_ix ix_list p7 (pe_un un_neg pe_int) (fun _ _ => rfl)) pa_nil)))) pa_nil))))) (pss_one (ps_if (pt_cmpR op_eq p5 pe_int (nomark _)) (pss_cons (ps_set (i := 8) nd rfl l8 (pe_ix ix_list p7 (pe_un un_neg pe_int) (fun _ _ => rfl))) (pss_cons (ps_if (pt_cmpR op_in_seq (pe_ix ix_tup p8 pe_int (fun _ _ => rfl)) (pe_lst (pa_cons pe_str (pa_cons pe_str pa_nil))) (by with_unfolding_all rfl)) (pss_one (ps_set (i := 8) nd rfl l8 (pe_ix ix_tup p8 pe_int (fun _ _ => rfl)))) pss_nil) (pss_cons (ps_if (pw_and (pt_cmpR op_eq (pe_ix ix_tup p8 pe_int (fun _ _ => rfl)) pe_str (nomark _)) (pw_and1 (pt_cmpR op_gt (pe_op op_mod p4 pe_int) pe_int (nomark _)))).pt (pss_one (ps_set (i := 6) nd rfl l6 (pe_ix ix_tup p8 pe_int (fun _ _ => rfl)))) pss_nil) (pss_one (ps_set (i := 2) nd rfl l2 (pe_op op_cat (pe_slice sl_list p2 po_none (po_some (pe_un un_neg pe_int))) (pe_lst (pa_cons (pe_tup (pa_cons pe_str (pa_cons p6 (pa_cons (pe_ix ix_list p7 (pe_un un_neg pe_int) (fun _ _ => rfl)) (pa_cons (pe_ix ix_list p7 (pe_un un_neg pe_int) (fun _ _ => rfl)) pa_nil))))) pa_nil)))))))) (pss_one (ps_if (pt_cmpR (op_neNil hu0) p1 (pe_lst pa_nil) (nomark _)) (pss_cons (ps_asg (pe_ix ix_list p1 (pe_op op_mod p4 (pe_callB call_len_seq k_len T.n_len bo_len (pa_cons p1 pa_nil))) (fun _ _ => rfl)) (pg_tup rfl (pgs_cons g9 (pgs_cons g10 pgs_nil)))) (pss_cons (ps_set (i := 10) nd rfl l10 (pe_callB (call_min2 rfl) k_min T.n_min bo_min (pa_cons p10 (pa_cons (pe_callB call_len_seq k_len T.n_len bo_len (pa_cons p2 pa_nil)) pa_nil)))) (pss_one (ps_if (pt_cmpR op_eq p10 (pe_ix ix_tup (pe_ix ix_list p1 (pe_op op_mod p4 (pe_callB call_len_seq k_len T.n_len bo_len (pa_cons p1 pa_nil))) (fun _ _ => rfl)) pe_int (fun _ _ => rfl)) (nomark _)) (pss_cons (ps_set (i := 11) nd rfl l11 (pe_callTy call_tuple_of k_tuple T.n_tuple bo_tuple (pa_cons (pe_op op_cat (pe_lst (pa_cons pe_str (pa_cons p9 pa_nil))) (pe_slice sl_list p2 (po_some (pe_op op_sub (pe_callB call_len_seq k_len T.n_len bo_len (pa_cons p2 pa_nil)) p10)) po_none)) pa_nil))) (pss_one (ps_set (i := 2) nd rfl l2 (pe_op op_cat (pe_slice sl_list p2 po_none (po_some (pe_op op_sub (pe_callB call_len_seq k_len T.n_len bo_len (pa_cons p2 pa_nil)) p10))) (pe_lst (pa_cons p11 pa_nil)))))) pss_nil)))) pss_nil)))))))))))))))))) (pss_cons (ps_while PassesOwn.never (pt_cmpR op_gt (pe_callB call_len_seq k_len T.n_len bo_len (pa_cons p2 pa_nil)) pe_int (nomark _)) (pss_cons (ps_set (i := 12) nd rfl l12 (pe_bm0 PySem.F.plainAttrs_list PySem.F.slot_list_pop PySem.F.type_list_pop mt_pop p2)) (pss_one (ps_expr (pe_bm PySem.F.plainAttrs_list PySem.F.slot_list_append PySem.F.type_list_append mt_append p2 (pa_cons (pe_tup (pa_cons pe_str (pa_cons (pe_bm0 PySem.F.plainAttrs_list PySem.F.slot_list_pop PySem.F.type_list_pop mt_pop p2) (pa_cons p12 pa_nil)))) pa_nil)))))) (pss_one (ps_ret (pe_ix ix_list p2 pe_int (fun _ _ => rfl)))))))
theorem sc_no : FnScope ["_law_piece", "_law_source", "_law_given", "_law_count", "_law_order", "_law_todo", "_law_part", "_law_path", "_law_own", "_law_inner", "_law_k", "_law_near", "_law_pile", "_law_many", "_law_kids", "_law_extra"] ["_law_piece", "_law_source", "_law_given", "_law_count"] (defScope (top 11)) := ⟨rfl, rfl, rfl, by decide +kernel, rfl, by decide +kernel, by decide +kernel⟩
theorem ok_no (F : Fun K "_law_noted" "_law_noted" (top 11) f fd) (T : Txt mg a)
    {fd__law_inside : FuncData} (G__law_inside : FnOk P w K mg base CX0 1 a.a__law_inside fd__law_inside ["_law_piece"] spInside) (F__law_inside : Fun K "_law_inside" "_law_inside" (top 10) a.a__law_inside fd__law_inside) (b__law_inside : Binds K fd__law_inside ["_law_piece"] []) : FnOk P w K mg base CX0 2 f fd ["_law_piece", "_law_source", "_law_given", "_law_count"] spNoted := by
  refine F.ok sc_no (fun vs H Q E h => ?_) (fun cdv A outer s H vs Q E hr h => ⟨S3.t_no K, ?_, S3.rd_no h⟩)
  · obtain ⟨_, _, _, _, _, _, _, rfl, _⟩ := h
    rfl
  have nd := sc_no.nd
  have hu := hu_of hr
  have hu0 := hr.units0
  have p0 : ∀ {pos : Pos}, PE ((cxOf CX0 P w K mg base ["_law_piece", "_law_source", "_law_given", "_law_count", "_law_order", "_law_todo", "_law_part", "_law_path", "_law_own", "_law_inner", "_law_k", "_law_near", "_law_pile", "_law_many", "_law_kids", "_law_extra"] "_law_noted" (defScope (top 11)) f cdv A outer s H E).nox) (.Name "_law_piece" pos) (tVar 0) := fun {pos} => pv 0
  have p1 : ∀ {pos : Pos}, PE ((cxOf CX0 P w K mg base ["_law_piece", "_law_source", "_law_given", "_law_count", "_law_order", "_law_todo", "_law_part", "_law_path", "_law_own", "_law_inner", "_law_k", "_law_near", "_law_pile", "_law_many", "_law_kids", "_law_extra"] "_law_noted" (defScope (top 11)) f cdv A outer s H E).nox) (.Name "_law_source" pos) (tVar 1) := fun {pos} => pv 1
  have p2 : ∀ {pos : Pos}, PE ((cxOf CX0 P w K mg base ["_law_piece", "_law_source", "_law_given", "_law_count", "_law_order", "_law_todo", "_law_part", "_law_path", "_law_own", "_law_inner", "_law_k", "_law_near", "_law_pile", "_law_many", "_law_kids", "_law_extra"] "_law_noted" (defScope (top 11)) f cdv A outer s H E).nox) (.Name "_law_given" pos) (tVar 2) := fun {pos} => pv 2
  have p3 : ∀ {pos : Pos}, PE ((cxOf CX0 P w K mg base ["_law_piece", "_law_source", "_law_given", "_law_count", "_law_order", "_law_todo", "_law_part", "_law_path", "_law_own", "_law_inner", "_law_k", "_law_near", "_law_pile", "_law_many", "_law_kids", "_law_extra"] "_law_noted" (defScope (top 11)) f cdv A outer s H E).nox) (.Name "_law_count" pos) (tVar 3) := fun {pos} => pv 3
  have p4 : ∀ {pos : Pos}, PE ((cxOf CX0 P w K mg base ["_law_piece", "_law_source", "_law_given", "_law_count", "_law_order", "_law_todo", "_law_part", "_law_path", "_law_own", "_law_inner", "_law_k", "_law_near", "_law_pile", "_law_many", "_law_kids", "_law_extra"] "_law_noted" (defScope (top 11)) f cdv A outer s H E).nox) (.Name "_law_order" pos) (tVar 4) := fun {pos} => pv 4
  have p5 : ∀ {pos : Pos}, PE ((cxOf CX0 P w K mg base ["_law_piece", "_law_source", "_law_given", "_law_count", "_law_order", "_law_todo", "_law_part", "_law_path", "_law_own", "_law_inner", "_law_k", "_law_near", "_law_pile", "_law_many", "_law_kids", "_law_extra"] "_law_noted" (defScope (top 11)) f cdv A outer s H E).nox) (.Name "_law_todo" pos) (tVar 5) := fun {pos} => pv 5
  have p6 : ∀ {pos : Pos}, PE ((cxOf CX0 P w K mg base ["_law_piece", "_law_source", "_law_given", "_law_count", "_law_order", "_law_todo", "_law_part", "_law_path", "_law_own", "_law_inner", "_law_k", "_law_near", "_law_pile", "_law_many", "_law_kids", "_law_extra"] "_law_noted" (defScope (top 11)) f cdv A outer s H E).nox) (.Name "_law_part" pos) (tVar 6) := fun {pos} => pv 6
  have p7 : ∀ {pos : Pos}, PE ((cxOf CX0 P w K mg base ["_law_piece", "_law_source", "_law_given", "_law_count", "_law_order", "_law_todo", "_law_part", "_law_path", "_law_own", "_law_inner", "_law_k", "_law_near", "_law_pile", "_law_many", "_law_kids", "_law_extra"] "_law_noted" (defScope (top 11)) f cdv A outer s H E).nox) (.Name "_law_path" pos) (tVar 7) := fun {pos} => pv 7
  have p8 : ∀ {pos : Pos}, PE ((cxOf CX0 P w K mg base ["_law_piece", "_law_source", "_law_given", "_law_count", "_law_order", "_law_todo", "_law_part", "_law_path", "_law_own", "_law_inner", "_law_k", "_law_near", "_law_pile", "_law_many", "_law_kids", "_law_extra"] "_law_noted" (defScope (top 11)) f cdv A outer s H E).nox) (.Name "_law_own" pos) (tVar 8) := fun {pos} => pv 8
  have p9 : ∀ {pos : Pos}, PE ((cxOf CX0 P w K mg base ["_law_piece", "_law_source", "_law_given", "_law_count", "_law_order", "_law_todo", "_law_part", "_law_path", "_law_own", "_law_inner", "_law_k", "_law_near", "_law_pile", "_law_many", "_law_kids", "_law_extra"] "_law_noted" (defScope (top 11)) f cdv A outer s H E).nox) (.Name "_law_inner" pos) (tVar 9) := fun {pos} => pv 9
  have p10 : ∀ {pos : Pos}, PE ((cxOf CX0 P w K mg base ["_law_piece", "_law_source", "_law_given", "_law_count", "_law_order", "_law_todo", "_law_part", "_law_path", "_law_own", "_law_inner", "_law_k", "_law_near", "_law_pile", "_law_many", "_law_kids", "_law_extra"] "_law_noted" (defScope (top 11)) f cdv A outer s H E).nox) (.Name "_law_k" pos) (tVar 10) := fun {pos} => pv 10
  have p11 : ∀ {pos : Pos}, PE ((cxOf CX0 P w K mg base ["_law_piece", "_law_source", "_law_given", "_law_count", "_law_order", "_law_todo", "_law_part", "_law_path", "_law_own", "_law_inner", "_law_k", "_law_near", "_law_pile", "_law_many", "_law_kids", "_law_extra"] "_law_noted" (defScope (top 11)) f cdv A outer s H E).nox) (.Name "_law_near" pos) (tVar 11) := fun {pos} => pv 11
  have p12 : ∀ {pos : Pos}, PE ((cxOf CX0 P w K mg base ["_law_piece", "_law_source", "_law_given", "_law_count", "_law_order", "_law_todo", "_law_part", "_law_path", "_law_own", "_law_inner", "_law_k", "_law_near", "_law_pile", "_law_many", "_law_kids", "_law_extra"] "_law_noted" (defScope (top 11)) f cdv A outer s H E).nox) (.Name "_law_pile" pos) (tVar 12) := fun {pos} => pv 12
  have p13 : ∀ {pos : Pos}, PE ((cxOf CX0 P w K mg base ["_law_piece", "_law_source", "_law_given", "_law_count", "_law_order", "_law_todo", "_law_part", "_law_path", "_law_own", "_law_inner", "_law_k", "_law_near", "_law_pile", "_law_many", "_law_kids", "_law_extra"] "_law_noted" (defScope (top 11)) f cdv A outer s H E).nox) (.Name "_law_many" pos) (tVar 13) := fun {pos} => pv 13
  have p14 : ∀ {pos : Pos}, PE ((cxOf CX0 P w K mg base ["_law_piece", "_law_source", "_law_given", "_law_count", "_law_order", "_law_todo", "_law_part", "_law_path", "_law_own", "_law_inner", "_law_k", "_law_near", "_law_pile", "_law_many", "_law_kids", "_law_extra"] "_law_noted" (defScope (top 11)) f cdv A outer s H E).nox) (.Name "_law_kids" pos) (tVar 14) := fun {pos} => pv 14
  have p15 : ∀ {pos : Pos}, PE ((cxOf CX0 P w K mg base ["_law_piece", "_law_source", "_law_given", "_law_count", "_law_order", "_law_todo", "_law_part", "_law_path", "_law_own", "_law_inner", "_law_k", "_law_near", "_law_pile", "_law_many", "_law_kids", "_law_extra"] "_law_noted" (defScope (top 11)) f cdv A outer s H E).nox) (.Name "_law_extra" pos) (tVar 15) := fun {pos} => pv 15
  have l4 : Loc (((cxOf CX0 P w K mg base ["_law_piece", "_law_source", "_law_given", "_law_count", "_law_order", "_law_todo", "_law_part", "_law_path", "_law_own", "_law_inner", "_law_k", "_law_near", "_law_pile", "_law_many", "_law_kids", "_law_extra"] "_law_noted" (defScope (top 11)) f cdv A outer s H E).nox)).env.scope "_law_order" := by first | exact Or.inl rfl | exact Or.inr rfl
  have g4 : ∀ {pos : Pos}, PG ((cxOf CX0 P w K mg base ["_law_piece", "_law_source", "_law_given", "_law_count", "_law_order", "_law_todo", "_law_part", "_law_path", "_law_own", "_law_inner", "_law_k", "_law_near", "_law_pile", "_law_many", "_law_kids", "_law_extra"] "_law_noted" (defScope (top 11)) f cdv A outer s H E).nox) (.Name "_law_order" pos) (gName 4) := fun {pos} => pg_name (i := 4) nd rfl l4
  have l5 : Loc (((cxOf CX0 P w K mg base ["_law_piece", "_law_source", "_law_given", "_law_count", "_law_order", "_law_todo", "_law_part", "_law_path", "_law_own", "_law_inner", "_law_k", "_law_near", "_law_pile", "_law_many", "_law_kids", "_law_extra"] "_law_noted" (defScope (top 11)) f cdv A outer s H E).nox)).env.scope "_law_todo" := by first | exact Or.inl rfl | exact Or.inr rfl
  have g5 : ∀ {pos : Pos}, PG ((cxOf CX0 P w K mg base ["_law_piece", "_law_source", "_law_given", "_law_count", "_law_order", "_law_todo", "_law_part", "_law_path", "_law_own", "_law_inner", "_law_k", "_law_near", "_law_pile", "_law_many", "_law_kids", "_law_extra"] "_law_noted" (defScope (top 11)) f cdv A outer s H E).nox) (.Name "_law_todo" pos) (gName 5) := fun {pos} => pg_name (i := 5) nd rfl l5
  have l6 : Loc (((cxOf CX0 P w K mg base ["_law_piece", "_law_source", "_law_given", "_law_count", "_law_order", "_law_todo", "_law_part", "_law_path", "_law_own", "_law_inner", "_law_k", "_law_near", "_law_pile", "_law_many", "_law_kids", "_law_extra"] "_law_noted" (defScope (top 11)) f cdv A outer s H E).nox)).env.scope "_law_part" := by first | exact Or.inl rfl | exact Or.inr rfl
  have g6 : ∀ {pos : Pos}, PG ((cxOf CX0 P w K mg base ["_law_piece", "_law_source", "_law_given", "_law_count", "_law_order", "_law_todo", "_law_part", "_law_path", "_law_own", "_law_inner", "_law_k", "_law_near", "_law_pile", "_law_many", "_law_kids", "_law_extra"] "_law_noted" (defScope (top 11)) f cdv A outer s H E).nox) (.Name "_law_part" pos) (gName 6) := fun {pos} => pg_name (i := 6) nd rfl l6
  have l7 : Loc (((cxOf CX0 P w K mg base ["_law_piece", "_law_source", "_law_given", "_law_count", "_law_order", "_law_todo", "_law_part", "_law_path", "_law_own", "_law_inner", "_law_k", "_law_near", "_law_pile", "_law_many", "_law_kids", "_law_extra"] "_law_noted" (defScope (top 11)) f cdv A outer s H E).nox)).env.scope "_law_path" := by first | exact Or.inl rfl | exact Or.inr rfl
  have g7 : ∀ {pos : Pos}, PG ((cxOf CX0 P w K mg base ["_law_piece", "_law_source", "_law_given", "_law_count", "_law_order", "_law_todo", "_law_part", "_law_path", "_law_own", "_law_inner", "_law_k", "_law_near", "_law_pile", "_law_many", "_law_kids", "_law_extra"] "_law_noted" (defScope (top 11)) f cdv A outer s H E).nox) (.Name "_law_path" pos) (gName 7) := fun {pos} => pg_name (i := 7) nd rfl l7
  have l8 : Loc (((cxOf CX0 P w K mg base ["_law_piece", "_law_source", "_law_given", "_law_count", "_law_order", "_law_todo", "_law_part", "_law_path", "_law_own", "_law_inner", "_law_k", "_law_near", "_law_pile", "_law_many", "_law_kids", "_law_extra"] "_law_noted" (defScope (top 11)) f cdv A outer s H E).nox)).env.scope "_law_own" := by first | exact Or.inl rfl | exact Or.inr rfl
  have g8 : ∀ {pos : Pos}, PG ((cxOf CX0 P w K mg base ["_law_piece", "_law_source", "_law_given", "_law_count", "_law_order", "_law_todo", "_law_part", "_law_path", "_law_own", "_law_inner", "_law_k", "_law_near", "_law_pile", "_law_many", "_law_kids", "_law_extra"] "_law_noted" (defScope (top 11)) f cdv A outer s H E).nox) (.Name "_law_own" pos) (gName 8) := fun {pos} => pg_name (i := 8) nd rfl l8
  have l9 : Loc (((cxOf CX0 P w K mg base ["_law_piece", "_law_source", "_law_given", "_law_count", "_law_order", "_law_todo", "_law_part", "_law_path", "_law_own", "_law_inner", "_law_k", "_law_near", "_law_pile", "_law_many", "_law_kids", "_law_extra"] "_law_noted" (defScope (top 11)) f cdv A outer s H E).nox)).env.scope "_law_inner" := by first | exact Or.inl rfl | exact Or.inr rfl
  have g9 : ∀ {pos : Pos}, PG ((cxOf CX0 P w K mg base ["_law_piece", "_law_source", "_law_given", "_law_count", "_law_order", "_law_todo", "_law_part", "_law_path", "_law_own", "_law_inner", "_law_k", "_law_near", "_law_pile", "_law_many", "_law_kids", "_law_extra"] "_law_noted" (defScope (top 11)) f cdv A outer s H E).nox) (.Name "_law_inner" pos) (gName 9) := fun {pos} => pg_name (i := 9) nd rfl l9
  have l10 : Loc (((cxOf CX0 P w K mg base ["_law_piece", "_law_source", "_law_given", "_law_count", "_law_order", "_law_todo", "_law_part", "_law_path", "_law_own", "_law_inner", "_law_k", "_law_near", "_law_pile", "_law_many", "_law_kids", "_law_extra"] "_law_noted" (defScope (top 11)) f cdv A outer s H E).nox)).env.scope "_law_k" := by first | exact Or.inl rfl | exact Or.inr rfl
  have g10 : ∀ {pos : Pos}, PG ((cxOf CX0 P w K mg base ["_law_piece", "_law_source", "_law_given", "_law_count", "_law_order", "_law_todo", "_law_part", "_law_path", "_law_own", "_law_inner", "_law_k", "_law_near", "_law_pile", "_law_many", "_law_kids", "_law_extra"] "_law_noted" (defScope (top 11)) f cdv A outer s H E).nox) (.Name "_law_k" pos) (gName 10) := fun {pos} => pg_name (i := 10) nd rfl l10
  have l11 : Loc (((cxOf CX0 P w K mg base ["_law_piece", "_law_source", "_law_given", "_law_count", "_law_order", "_law_todo", "_law_part", "_law_path", "_law_own", "_law_inner", "_law_k", "_law_near", "_law_pile", "_law_many", "_law_kids", "_law_extra"] "_law_noted" (defScope (top 11)) f cdv A outer s H E).nox)).env.scope "_law_near" := by first | exact Or.inl rfl | exact Or.inr rfl
  have g11 : ∀ {pos : Pos}, PG ((cxOf CX0 P w K mg base ["_law_piece", "_law_source", "_law_given", "_law_count", "_law_order", "_law_todo", "_law_part", "_law_path", "_law_own", "_law_inner", "_law_k", "_law_near", "_law_pile", "_law_many", "_law_kids", "_law_extra"] "_law_noted" (defScope (top 11)) f cdv A outer s H E).nox) (.Name "_law_near" pos) (gName 11) := fun {pos} => pg_name (i := 11) nd rfl l11
  have l12 : Loc (((cxOf CX0 P w K mg base ["_law_piece", "_law_source", "_law_given", "_law_count", "_law_order", "_law_todo", "_law_part", "_law_path", "_law_own", "_law_inner", "_law_k", "_law_near", "_law_pile", "_law_many", "_law_kids", "_law_extra"] "_law_noted" (defScope (top 11)) f cdv A outer s H E).nox)).env.scope "_law_pile" := by first | exact Or.inl rfl | exact Or.inr rfl
  have g12 : ∀ {pos : Pos}, PG ((cxOf CX0 P w K mg base ["_law_piece", "_law_source", "_law_given", "_law_count", "_law_order", "_law_todo", "_law_part", "_law_path", "_law_own", "_law_inner", "_law_k", "_law_near", "_law_pile", "_law_many", "_law_kids", "_law_extra"] "_law_noted" (defScope (top 11)) f cdv A outer s H E).nox) (.Name "_law_pile" pos) (gName 12) := fun {pos} => pg_name (i := 12) nd rfl l12
  have l13 : Loc (((cxOf CX0 P w K mg base ["_law_piece", "_law_source", "_law_given", "_law_count", "_law_order", "_law_todo", "_law_part", "_law_path", "_law_own", "_law_inner", "_law_k", "_law_near", "_law_pile", "_law_many", "_law_kids", "_law_extra"] "_law_noted" (defScope (top 11)) f cdv A outer s H E).nox)).env.scope "_law_many" := by first | exact Or.inl rfl | exact Or.inr rfl
  have g13 : ∀ {pos : Pos}, PG ((cxOf CX0 P w K mg base ["_law_piece", "_law_source", "_law_given", "_law_count", "_law_order", "_law_todo", "_law_part", "_law_path", "_law_own", "_law_inner", "_law_k", "_law_near", "_law_pile", "_law_many", "_law_kids", "_law_extra"] "_law_noted" (defScope (top 11)) f cdv A outer s H E).nox) (.Name "_law_many" pos) (gName 13) := fun {pos} => pg_name (i := 13) nd rfl l13
  have l14 : Loc (((cxOf CX0 P w K mg base ["_law_piece", "_law_source", "_law_given", "_law_count", "_law_order", "_law_todo", "_law_part", "_law_path", "_law_own", "_law_inner", "_law_k", "_law_near", "_law_pile", "_law_many", "_law_kids", "_law_extra"] "_law_noted" (defScope (top 11)) f cdv A outer s H E).nox)).env.scope "_law_kids" := by first | exact Or.inl rfl | exact Or.inr rfl
  have g14 : ∀ {pos : Pos}, PG ((cxOf CX0 P w K mg base ["_law_piece", "_law_source", "_law_given", "_law_count", "_law_order", "_law_todo", "_law_part", "_law_path", "_law_own", "_law_inner", "_law_k", "_law_near", "_law_pile", "_law_many", "_law_kids", "_law_extra"] "_law_noted" (defScope (top 11)) f cdv A outer s H E).nox) (.Name "_law_kids" pos) (gName 14) := fun {pos} => pg_name (i := 14) nd rfl l14
  have l15 : Loc (((cxOf CX0 P w K mg base ["_law_piece", "_law_source", "_law_given", "_law_count", "_law_order", "_law_todo", "_law_part", "_law_path", "_law_own", "_law_inner", "_law_k", "_law_near", "_law_pile", "_law_many", "_law_kids", "_law_extra"] "_law_noted" (defScope (top 11)) f cdv A outer s H E).nox)).env.scope "_law_extra" := by first | exact Or.inl rfl | exact Or.inr rfl
  have g15 : ∀ {pos : Pos}, PG ((cxOf CX0 P w K mg base ["_law_piece", "_law_source", "_law_given", "_law_count", "_law_order", "_law_todo", "_law_part", "_law_path", "_law_own", "_law_inner", "_law_k", "_law_near", "_law_pile", "_law_many", "_law_kids", "_law_extra"] "_law_noted" (defScope (top 11)) f cdv A outer s H E).nox) (.Name "_law_extra" pos) (gName 15) := fun {pos} => pg_name (i := 15) nd rfl l15
  have k_range : Gl ((cxOf CX0 P w K mg base ["_law_piece", "_law_source", "_law_given", "_law_count", "_law_order", "_law_todo", "_law_part", "_law_path", "_law_own", "_law_inner", "_law_k", "_law_near", "_law_pile", "_law_many", "_law_kids", "_law_extra"] "_law_noted" (defScope (top 11)) f cdv A outer s H E).nox) "range" := by rfl
  have k_len : Gl ((cxOf CX0 P w K mg base ["_law_piece", "_law_source", "_law_given", "_law_count", "_law_order", "_law_todo", "_law_part", "_law_path", "_law_own", "_law_inner", "_law_k", "_law_near", "_law_pile", "_law_many", "_law_kids", "_law_extra"] "_law_noted" (defScope (top 11)) f cdv A outer s H E).nox) "len" := by rfl
  have k_dict : Gl ((cxOf CX0 P w K mg base ["_law_piece", "_law_source", "_law_given", "_law_count", "_law_order", "_law_todo", "_law_part", "_law_path", "_law_own", "_law_inner", "_law_k", "_law_near", "_law_pile", "_law_many", "_law_kids", "_law_extra"] "_law_noted" (defScope (top 11)) f cdv A outer s H E).nox) "dict" := by rfl
  have k_list : Gl ((cxOf CX0 P w K mg base ["_law_piece", "_law_source", "_law_given", "_law_count", "_law_order", "_law_todo", "_law_part", "_law_path", "_law_own", "_law_inner", "_law_k", "_law_near", "_law_pile", "_law_many", "_law_kids", "_law_extra"] "_law_noted" (defScope (top 11)) f cdv A outer s H E).nox) "list" := by rfl
  have k_reversed : Gl ((cxOf CX0 P w K mg base ["_law_piece", "_law_source", "_law_given", "_law_count", "_law_order", "_law_todo", "_law_part", "_law_path", "_law_own", "_law_inner", "_law_k", "_law_near", "_law_pile", "_law_many", "_law_kids", "_law_extra"] "_law_noted" (defScope (top 11)) f cdv A outer s H E).nox) "reversed" := by rfl
  have k__law_inside : Gl ((cxOf CX0 P w K mg base ["_law_piece", "_law_source", "_law_given", "_law_count", "_law_order", "_law_todo", "_law_part", "_law_path", "_law_own", "_law_inner", "_law_k", "_law_near", "_law_pile", "_law_many", "_law_kids", "_law_extra"] "_law_noted" (defScope (top 11)) f cdv A outer s H E).nox) "_law_inside" := by rfl
  exact (pss_cons (ps_set (i := 4) nd rfl l4 (pe_lst pa_nil)) (pss_cons (ps_set (i := 5) nd rfl l5 (pe_lst (pa_cons (pe_tup (pa_cons p0 (pa_cons (pe_tup pa_nil) (pa_cons pe_dnewK pa_nil)))) pa_nil))) (pss_cons (ps_while PassesOwn.never (pt_cmpR (op_neNil hu0) p5 (pe_lst pa_nil) (nomark _)) (pss_cons (ps_asg (pe_bm0 PySem.F.plainAttrs_list PySem.F.slot_list_pop PySem.F.type_list_pop mt_pop p5) (pg_tup rfl (pgs_cons g6 (pgs_cons g7 (pgs_cons g8 pgs_nil))))) (pss_cons (ps_expr (pe_bm PySem.F.plainAttrs_list PySem.F.slot_list_append PySem.F.type_list_append mt_append p4 (pa_cons (pe_tup (pa_cons p6 (pa_cons p7 (pa_cons p8 pa_nil)))) pa_nil))) (pss_cons (ps_set (i := 9) nd rfl l9 (pe_call G__law_inside (hr.mono (by decide)) k__law_inside T.g__law_inside F__law_inside.kp b__law_inside .nil pass0 (pa_cons p6 pa_nil))) (pss_one (ps_for PassesOwn.never rfl (pi_rangeD k_range T.n_range (pa_cons (pe_op op_sub (pe_callB call_len_seq k_len T.n_len bo_len (pa_cons p9 pa_nil)) pe_int) (pa_cons (pe_un un_neg pe_int) (pa_cons (pe_un un_neg pe_int) pa_nil)))) g10 (pss_cons (ps_set (i := 11) nd rfl l11 p8) (pss_cons (ps_if (pw_and (pt_cmpR op_eq (pe_ix ix_tup p6 pe_int (fun _ _ => rfl)) pe_str (nomark _)) (pw_and1 (pt_cmpR op_eq p10 pe_int (nomark _)))).pt (pss_cons (ps_set (i := 11) nd rfl l11 (pe_callTy call_dictD k_dict T.n_dict bo_dict (pa_cons p8 pa_nil))) (pss_one (ps_dput hu p11 (pe_ix ix_tup p6 pe_int (fun _ _ => rfl)) (pe_op op_add p3 (pe_callB call_len_seq k_len T.n_len bo_len (pa_cons p4 pa_nil))) rfl))) pss_nil) (pss_one (ps_expr (pe_bm PySem.F.plainAttrs_list PySem.F.slot_list_append PySem.F.type_list_append mt_append p5 (pa_cons (pe_tup (pa_cons (pe_ix ix_list p9 p10 (fun _ _ => rfl)) (pa_cons (pe_op op_catA p7 (pe_tup (pa_cons p10 pa_nil))) (pa_cons p11 pa_nil)))) pa_nil)))))))))))) (pss_cons (ps_set (i := 12) nd rfl l12 (pe_lst pa_nil)) (pss_cons (ps_for PassesOwn.never rfl (pi_rangeD k_range T.n_range (pa_cons (pe_op op_sub (pe_callB call_len_seq k_len T.n_len bo_len (pa_cons p4 pa_nil)) pe_int) (pa_cons (pe_un un_neg pe_int) (pa_cons (pe_un un_neg pe_int) pa_nil)))) g10 (pss_cons (ps_asg (pe_ix ix_list p4 p10 (fun _ _ => rfl)) (pg_tup rfl (pgs_cons g6 (pgs_cons g7 (pgs_cons g8 pgs_nil))))) (pss_cons (ps_set (i := 13) nd rfl l13 (pe_callB call_len_seq k_len T.n_len bo_len (pa_cons (pe_call G__law_inside (hr.mono (by decide)) k__law_inside T.g__law_inside F__law_inside.kp b__law_inside .nil pass0 (pa_cons p6 pa_nil)) pa_nil))) (pss_cons (ps_set (i := 14) nd rfl l14 (pe_revL rfl k_list T.n_list k_reversed T.n_reversed (pe_slice sl_list p12 (po_some (pe_op op_sub (pe_callB call_len_seq k_len T.n_len bo_len (pa_cons p12 pa_nil)) p13)) po_none))) (pss_cons (ps_set (i := 12) nd rfl l12 (pe_slice sl_list p12 po_none (po_some (pe_op op_sub (pe_callB call_len_seq k_len T.n_len bo_len (pa_cons p12 pa_nil)) p13)))) (pss_cons (ps_set (i := 15) nd rfl l15 pe_non) (pss_cons (ps_if (pt_cmpR op_in_seq (pe_ix ix_tup p6 pe_int (fun _ _ => rfl)) (pe_lst (pa_cons pe_str (pa_cons pe_str (pa_cons pe_str pa_nil)))) (by with_unfolding_all rfl)) (pss_one (ps_set (i := 15) nd rfl l15 (pe_ix ix_tup p6 pe_int (fun _ _ => rfl)))) pss_nil) (pss_cons (ps_if (pt_cmpR op_eq (pe_ix ix_tup p6 pe_int (fun _ _ => rfl)) pe_str (nomark _)) (pss_one (ps_set (i := 15) nd rfl l15 (pe_op op_add (pe_op op_add p3 p10) pe_int))) pss_nil) (pss_cons (ps_if (pw_and (pt_cmpR op_eq (pe_ix ix_tup p6 pe_int (fun _ _ => rfl)) pe_str (nomark _)) (pw_and1 (pt_cmp (pc_din hu (pe_ix ix_tup p6 pe_int (fun _ _ => rfl)) p8)))).pt (pss_one (ps_set (i := 15) nd rfl l15 (pe_dget hu p8 (pe_ix ix_tup p6 pe_int (fun _ _ => rfl)) (fun _ _ => rfl)))) pss_nil) (pss_one (ps_if (pw_and (pt_cmpR op_eq (pe_ix ix_tup p6 pe_int (fun _ _ => rfl)) pe_str (nomark _)) (pw_and (pt_cmp (pc_dnotin hu (pe_ix ix_tup p6 pe_int (fun _ _ => rfl)) p8)) (pw_and1 (pt_cmp (pc_din hu (pe_ix ix_tup p6 pe_int (fun _ _ => rfl)) p2))))).pt (pss_one (ps_expr (pe_bm PySem.F.plainAttrs_list PySem.F.slot_list_append PySem.F.type_list_append mt_append p12 (pa_cons (pe_dget hu p2 (pe_ix ix_tup p6 pe_int (fun _ _ => rfl)) (fun _ _ => rfl)) pa_nil)))) (pss_one (ps_expr (pe_bm PySem.F.plainAttrs_list PySem.F.slot_list_append PySem.F.type_list_append mt_append p12 (pa_cons (pe_tup (pa_cons (pe_ix ix_tup p6 pe_int (fun _ _ => rfl)) (pa_cons p15 (pa_cons (pe_tup (pa_cons p1 (pa_cons p7 pa_nil))) (pa_cons p14 pa_nil))))) pa_nil))))))))))))))) (pss_one (ps_ret (pe_tup (pa_cons (pe_ix ix_list p12 pe_int (fun _ _ => rfl)) (pa_cons (pe_op op_add p3 (pe_callB call_len_seq k_len T.n_len bo_len (pa_cons p4 pa_nil))) pa_nil))))))))))
theorem sc_gw : FnScope ["_law_found", "_law_tree", "_law_todo", "_law_part", "_law_node", "_law_forth", "_law_back", "_law_inner", "_law_k", "_law_near", "_law_far"] ["_law_found", "_law_tree"] (defScope (top 12)) := ⟨rfl, rfl, rfl, by decide +kernel, rfl, by decide +kernel, by decide +kernel⟩
theorem ok_gw (F : Fun K "_law_goes_with" "_law_goes_with" (top 12) f fd) (T : Txt mg a)
    {fd__law_inside : FuncData} (G__law_inside : FnOk P w K mg base CX0 1 a.a__law_inside fd__law_inside ["_law_piece"] spInside) (F__law_inside : Fun K "_law_inside" "_law_inside" (top 10) a.a__law_inside fd__law_inside) (b__law_inside : Binds K fd__law_inside ["_law_piece"] []) : FnOk P w K mg base CX0 2 f fd ["_law_found", "_law_tree"] spGoes := by
  refine F.ok sc_gw (fun vs H Q E h => ?_) (fun cdv A outer s H vs Q E hr h => ⟨S3.t_gw K, ?_, S3.rd_gw h⟩)
  · obtain ⟨_, _, _, _, rfl, _⟩ := h
    rfl
  have nd := sc_gw.nd
  have hu := hu_of hr
  have hu0 := hr.units0
  have p0 : ∀ {pos : Pos}, PE ((cxOf CX0 P w K mg base ["_law_found", "_law_tree", "_law_todo", "_law_part", "_law_node", "_law_forth", "_law_back", "_law_inner", "_law_k", "_law_near", "_law_far"] "_law_goes_with" (defScope (top 12)) f cdv A outer s H E).nox) (.Name "_law_found" pos) (tVar 0) := fun {pos} => pv 0
  have p1 : ∀ {pos : Pos}, PE ((cxOf CX0 P w K mg base ["_law_found", "_law_tree", "_law_todo", "_law_part", "_law_node", "_law_forth", "_law_back", "_law_inner", "_law_k", "_law_near", "_law_far"] "_law_goes_with" (defScope (top 12)) f cdv A outer s H E).nox) (.Name "_law_tree" pos) (tVar 1) := fun {pos} => pv 1
  have p2 : ∀ {pos : Pos}, PE ((cxOf CX0 P w K mg base ["_law_found", "_law_tree", "_law_todo", "_law_part", "_law_node", "_law_forth", "_law_back", "_law_inner", "_law_k", "_law_near", "_law_far"] "_law_goes_with" (defScope (top 12)) f cdv A outer s H E).nox) (.Name "_law_todo" pos) (tVar 2) := fun {pos} => pv 2
  have p3 : ∀ {pos : Pos}, PE ((cxOf CX0 P w K mg base ["_law_found", "_law_tree", "_law_todo", "_law_part", "_law_node", "_law_forth", "_law_back", "_law_inner", "_law_k", "_law_near", "_law_far"] "_law_goes_with" (defScope (top 12)) f cdv A outer s H E).nox) (.Name "_law_part" pos) (tVar 3) := fun {pos} => pv 3
  have p4 : ∀ {pos : Pos}, PE ((cxOf CX0 P w K mg base ["_law_found", "_law_tree", "_law_todo", "_law_part", "_law_node", "_law_forth", "_law_back", "_law_inner", "_law_k", "_law_near", "_law_far"] "_law_goes_with" (defScope (top 12)) f cdv A outer s H E).nox) (.Name "_law_node" pos) (tVar 4) := fun {pos} => pv 4
  have p5 : ∀ {pos : Pos}, PE ((cxOf CX0 P w K mg base ["_law_found", "_law_tree", "_law_todo", "_law_part", "_law_node", "_law_forth", "_law_back", "_law_inner", "_law_k", "_law_near", "_law_far"] "_law_goes_with" (defScope (top 12)) f cdv A outer s H E).nox) (.Name "_law_forth" pos) (tVar 5) := fun {pos} => pv 5
  have p6 : ∀ {pos : Pos}, PE ((cxOf CX0 P w K mg base ["_law_found", "_law_tree", "_law_todo", "_law_part", "_law_node", "_law_forth", "_law_back", "_law_inner", "_law_k", "_law_near", "_law_far"] "_law_goes_with" (defScope (top 12)) f cdv A outer s H E).nox) (.Name "_law_back" pos) (tVar 6) := fun {pos} => pv 6
  have p7 : ∀ {pos : Pos}, PE ((cxOf CX0 P w K mg base ["_law_found", "_law_tree", "_law_todo", "_law_part", "_law_node", "_law_forth", "_law_back", "_law_inner", "_law_k", "_law_near", "_law_far"] "_law_goes_with" (defScope (top 12)) f cdv A outer s H E).nox) (.Name "_law_inner" pos) (tVar 7) := fun {pos} => pv 7
  have p8 : ∀ {pos : Pos}, PE ((cxOf CX0 P w K mg base ["_law_found", "_law_tree", "_law_todo", "_law_part", "_law_node", "_law_forth", "_law_back", "_law_inner", "_law_k", "_law_near", "_law_far"] "_law_goes_with" (defScope (top 12)) f cdv A outer s H E).nox) (.Name "_law_k" pos) (tVar 8) := fun {pos} => pv 8
  have p9 : ∀ {pos : Pos}, PE ((cxOf CX0 P w K mg base ["_law_found", "_law_tree", "_law_todo", "_law_part", "_law_node", "_law_forth", "_law_back", "_law_inner", "_law_k", "_law_near", "_law_far"] "_law_goes_with" (defScope (top 12)) f cdv A outer s H E).nox) (.Name "_law_near" pos) (tVar 9) := fun {pos} => pv 9
  have p10 : ∀ {pos : Pos}, PE ((cxOf CX0 P w K mg base ["_law_found", "_law_tree", "_law_todo", "_law_part", "_law_node", "_law_forth", "_law_back", "_law_inner", "_law_k", "_law_near", "_law_far"] "_law_goes_with" (defScope (top 12)) f cdv A outer s H E).nox) (.Name "_law_far" pos) (tVar 10) := fun {pos} => pv 10
  have l2 : Loc (((cxOf CX0 P w K mg base ["_law_found", "_law_tree", "_law_todo", "_law_part", "_law_node", "_law_forth", "_law_back", "_law_inner", "_law_k", "_law_near", "_law_far"] "_law_goes_with" (defScope (top 12)) f cdv A outer s H E).nox)).env.scope "_law_todo" := by first | exact Or.inl rfl | exact Or.inr rfl
  have g2 : ∀ {pos : Pos}, PG ((cxOf CX0 P w K mg base ["_law_found", "_law_tree", "_law_todo", "_law_part", "_law_node", "_law_forth", "_law_back", "_law_inner", "_law_k", "_law_near", "_law_far"] "_law_goes_with" (defScope (top 12)) f cdv A outer s H E).nox) (.Name "_law_todo" pos) (gName 2) := fun {pos} => pg_name (i := 2) nd rfl l2
  have l3 : Loc (((cxOf CX0 P w K mg base ["_law_found", "_law_tree", "_law_todo", "_law_part", "_law_node", "_law_forth", "_law_back", "_law_inner", "_law_k", "_law_near", "_law_far"] "_law_goes_with" (defScope (top 12)) f cdv A outer s H E).nox)).env.scope "_law_part" := by first | exact Or.inl rfl | exact Or.inr rfl
  have g3 : ∀ {pos : Pos}, PG ((cxOf CX0 P w K mg base ["_law_found", "_law_tree", "_law_todo", "_law_part", "_law_node", "_law_forth", "_law_back", "_law_inner", "_law_k", "_law_near", "_law_far"] "_law_goes_with" (defScope (top 12)) f cdv A outer s H E).nox) (.Name "_law_part" pos) (gName 3) := fun {pos} => pg_name (i := 3) nd rfl l3
  have l4 : Loc (((cxOf CX0 P w K mg base ["_law_found", "_law_tree", "_law_todo", "_law_part", "_law_node", "_law_forth", "_law_back", "_law_inner", "_law_k", "_law_near", "_law_far"] "_law_goes_with" (defScope (top 12)) f cdv A outer s H E).nox)).env.scope "_law_node" := by first | exact Or.inl rfl | exact Or.inr rfl
  have g4 : ∀ {pos : Pos}, PG ((cxOf CX0 P w K mg base ["_law_found", "_law_tree", "_law_todo", "_law_part", "_law_node", "_law_forth", "_law_back", "_law_inner", "_law_k", "_law_near", "_law_far"] "_law_goes_with" (defScope (top 12)) f cdv A outer s H E).nox) (.Name "_law_node" pos) (gName 4) := fun {pos} => pg_name (i := 4) nd rfl l4
  have l5 : Loc (((cxOf CX0 P w K mg base ["_law_found", "_law_tree", "_law_todo", "_law_part", "_law_node", "_law_forth", "_law_back", "_law_inner", "_law_k", "_law_near", "_law_far"] "_law_goes_with" (defScope (top 12)) f cdv A outer s H E).nox)).env.scope "_law_forth" := by first | exact Or.inl rfl | exact Or.inr rfl
  have g5 : ∀ {pos : Pos}, PG ((cxOf CX0 P w K mg base ["_law_found", "_law_tree", "_law_todo", "_law_part", "_law_node", "_law_forth", "_law_back", "_law_inner", "_law_k", "_law_near", "_law_far"] "_law_goes_with" (defScope (top 12)) f cdv A outer s H E).nox) (.Name "_law_forth" pos) (gName 5) := fun {pos} => pg_name (i := 5) nd rfl l5
  have l6 : Loc (((cxOf CX0 P w K mg base ["_law_found", "_law_tree", "_law_todo", "_law_part", "_law_node", "_law_forth", "_law_back", "_law_inner", "_law_k", "_law_near", "_law_far"] "_law_goes_with" (defScope (top 12)) f cdv A outer s H E).nox)).env.scope "_law_back" := by first | exact Or.inl rfl | exact Or.inr rfl
  have g6 : ∀ {pos : Pos}, PG ((cxOf CX0 P w K mg base ["_law_found", "_law_tree", "_law_todo", "_law_part", "_law_node", "_law_forth", "_law_back", "_law_inner", "_law_k", "_law_near", "_law_far"] "_law_goes_with" (defScope (top 12)) f cdv A outer s H E).nox) (.Name "_law_back" pos) (gName 6) := fun {pos} => pg_name (i := 6) nd rfl l6
  have l7 : Loc (((cxOf CX0 P w K mg base ["_law_found", "_law_tree", "_law_todo", "_law_part", "_law_node", "_law_forth", "_law_back", "_law_inner", "_law_k", "_law_near", "_law_far"] "_law_goes_with" (defScope (top 12)) f cdv A outer s H E).nox)).env.scope "_law_inner" := by first | exact Or.inl rfl | exact Or.inr rfl
  have g7 : ∀ {pos : Pos}, PG ((cxOf CX0 P w K mg base ["_law_found", "_law_tree", "_law_todo", "_law_part", "_law_node", "_law_forth", "_law_back", "_law_inner", "_law_k", "_law_near", "_law_far"] "_law_goes_with" (defScope (top 12)) f cdv A outer s H E).nox) (.Name "_law_inner" pos) (gName 7) := fun {pos} => pg_name (i := 7) nd rfl l7
  have l8 : Loc (((cxOf CX0 P w K mg base ["_law_found", "_law_tree", "_law_todo", "_law_part", "_law_node", "_law_forth", "_law_back", "_law_inner", "_law_k", "_law_near", "_law_far"] "_law_goes_with" (defScope (top 12)) f cdv A outer s H E).nox)).env.scope "_law_k" := by first | exact Or.inl rfl | exact Or.inr rfl
  have g8 : ∀ {pos : Pos}, PG ((cxOf CX0 P w K mg base ["_law_found", "_law_tree", "_law_todo", "_law_part", "_law_node", "_law_forth", "_law_back", "_law_inner", "_law_k", "_law_near", "_law_far"] "_law_goes_with" (defScope (top 12)) f cdv A outer s H E).nox) (.Name "_law_k" pos) (gName 8) := fun {pos} => pg_name (i := 8) nd rfl l8
  have l9 : Loc (((cxOf CX0 P w K mg base ["_law_found", "_law_tree", "_law_todo", "_law_part", "_law_node", "_law_forth", "_law_back", "_law_inner", "_law_k", "_law_near", "_law_far"] "_law_goes_with" (defScope (top 12)) f cdv A outer s H E).nox)).env.scope "_law_near" := by first | exact Or.inl rfl | exact Or.inr rfl
  have g9 : ∀ {pos : Pos}, PG ((cxOf CX0 P w K mg base ["_law_found", "_law_tree", "_law_todo", "_law_part", "_law_node", "_law_forth", "_law_back", "_law_inner", "_law_k", "_law_near", "_law_far"] "_law_goes_with" (defScope (top 12)) f cdv A outer s H E).nox) (.Name "_law_near" pos) (gName 9) := fun {pos} => pg_name (i := 9) nd rfl l9
  have l10 : Loc (((cxOf CX0 P w K mg base ["_law_found", "_law_tree", "_law_todo", "_law_part", "_law_node", "_law_forth", "_law_back", "_law_inner", "_law_k", "_law_near", "_law_far"] "_law_goes_with" (defScope (top 12)) f cdv A outer s H E).nox)).env.scope "_law_far" := by first | exact Or.inl rfl | exact Or.inr rfl
  have g10 : ∀ {pos : Pos}, PG ((cxOf CX0 P w K mg base ["_law_found", "_law_tree", "_law_todo", "_law_part", "_law_node", "_law_forth", "_law_back", "_law_inner", "_law_k", "_law_near", "_law_far"] "_law_goes_with" (defScope (top 12)) f cdv A outer s H E).nox) (.Name "_law_far" pos) (gName 10) := fun {pos} => pg_name (i := 10) nd rfl l10
  have k_len : Gl ((cxOf CX0 P w K mg base ["_law_found", "_law_tree", "_law_todo", "_law_part", "_law_node", "_law_forth", "_law_back", "_law_inner", "_law_k", "_law_near", "_law_far"] "_law_goes_with" (defScope (top 12)) f cdv A outer s H E).nox) "len" := by rfl
  have k_range : Gl ((cxOf CX0 P w K mg base ["_law_found", "_law_tree", "_law_todo", "_law_part", "_law_node", "_law_forth", "_law_back", "_law_inner", "_law_k", "_law_near", "_law_far"] "_law_goes_with" (defScope (top 12)) f cdv A outer s H E).nox) "range" := by rfl
  have k_dict : Gl ((cxOf CX0 P w K mg base ["_law_found", "_law_tree", "_law_todo", "_law_part", "_law_node", "_law_forth", "_law_back", "_law_inner", "_law_k", "_law_near", "_law_far"] "_law_goes_with" (defScope (top 12)) f cdv A outer s H E).nox) "dict" := by rfl
  have k__law_inside : Gl ((cxOf CX0 P w K mg base ["_law_found", "_law_tree", "_law_todo", "_law_part", "_law_node", "_law_forth", "_law_back", "_law_inner", "_law_k", "_law_near", "_law_far"] "_law_goes_with" (defScope (top 12)) f cdv A outer s H E).nox) "_law_inside" := by rfl
  exact (pss_cons (ps_set (i := 2) nd rfl l2 (pe_lst (pa_cons (pe_tup (pa_cons p0 (pa_cons p1 (pa_cons pe_dnewK (pa_cons pe_dnewK pa_nil))))) pa_nil))) (pss_cons (ps_while PassesOwn.never (pt_cmpR (op_neNil hu0) p2 (pe_lst pa_nil) (nomark _)) (pss_cons (ps_asg (pe_bm0 PySem.F.plainAttrs_list PySem.F.slot_list_pop PySem.F.type_list_pop mt_pop p2) (pg_tup rfl (pgs_cons g3 (pgs_cons g4 (pgs_cons g5 (pgs_cons g6 pgs_nil)))))) (pss_cons (ps_if (pt_cmpR op_ne (pe_ix ix_tup p3 pe_int (fun _ _ => rfl)) (pe_ix ix_tup p4 pe_int (fun _ _ => rfl)) (nomark _)) (pss_one (ps_ret pe_bl)) pss_nil) (pss_cons (ps_if (pw_and (pt_cmpR op_eq (pe_ix ix_tup p3 pe_int (fun _ _ => rfl)) pe_str (nomark _)) (pw_and1 (pt_cmpR op_ne (pe_ix ix_tup p3 pe_int (fun _ _ => rfl)) (pe_ix ix_tup p4 pe_int (fun _ _ => rfl)) (nomark _)))).pt (pss_one (ps_ret pe_bl)) pss_nil) (pss_cons (ps_if (pt_cmpR op_eq (pe_ix ix_tup p3 pe_int (fun _ _ => rfl)) pe_str (nomark _)) (pss_cons (ps_if (pt_cmpR op_ne (pe_dget2 hu p5 (pe_ix ix_tup p3 pe_int (fun _ _ => rfl)) (pe_ix ix_tup p3 pe_int (fun _ _ => rfl)) ⟨rfl, rfl, rfl, rfl⟩) (pe_ix ix_tup p4 pe_int (fun _ _ => rfl)) (nomark _)) (pss_one (ps_ret pe_bl)) pss_nil) (pss_one (ps_if (pt_cmpR op_ne (pe_dget2 hu p6 (pe_ix ix_tup p4 pe_int (fun _ _ => rfl)) (pe_ix ix_tup p3 pe_int (fun _ _ => rfl)) ⟨rfl, rfl, rfl, rfl⟩) (pe_ix ix_tup p3 pe_int (fun _ _ => rfl)) (nomark _)) (pss_one (ps_ret pe_bl)) pss_nil))) pss_nil) (pss_cons (ps_set (i := 7) nd rfl l7 (pe_call G__law_inside (hr.mono (by decide)) k__law_inside T.g__law_inside F__law_inside.kp b__law_inside .nil pass0 (pa_cons p3 pa_nil))) (pss_cons (ps_if (pt_cmpR op_ne (pe_callB call_len_seq k_len T.n_len bo_len (pa_cons p7 pa_nil)) (pe_callB call_len_seq k_len T.n_len bo_len (pa_cons (pe_ix ix_tup p4 pe_int (fun _ _ => rfl)) pa_nil)) (nomark _)) (pss_one (ps_ret pe_bl)) pss_nil) (pss_one (ps_for PassesOwn.never rfl (pi_range1 k_range T.n_range (pa_cons (pe_callB call_len_seq k_len T.n_len bo_len (pa_cons p7 pa_nil)) pa_nil)) g8 (pss_cons (ps_set (i := 9) nd rfl l9 p5) (pss_cons (ps_set (i := 10) nd rfl l10 p6) (pss_cons (ps_if (pw_and (pt_cmpR op_eq (pe_ix ix_tup p3 pe_int (fun _ _ => rfl)) pe_str (nomark _)) (pw_and1 (pt_cmpR op_eq p8 pe_int (nomark _)))).pt (pss_cons (ps_set (i := 9) nd rfl l9 (pe_callTy call_dictD k_dict T.n_dict bo_dict (pa_cons p5 pa_nil))) (pss_cons (ps_dput hu p9 (pe_ix ix_tup p3 pe_int (fun _ _ => rfl)) (pe_ix ix_tup p4 pe_int (fun _ _ => rfl)) rfl) (pss_cons (ps_set (i := 10) nd rfl l10 (pe_callTy call_dictD k_dict T.n_dict bo_dict (pa_cons p6 pa_nil))) (pss_one (ps_dput hu p10 (pe_ix ix_tup p4 pe_int (fun _ _ => rfl)) (pe_ix ix_tup p3 pe_int (fun _ _ => rfl)) rfl))))) pss_nil) (pss_one (ps_expr (pe_bm PySem.F.plainAttrs_list PySem.F.slot_list_append PySem.F.type_list_append mt_append p2 (pa_cons (pe_tup (pa_cons (pe_ix ix_list p7 p8 (fun _ _ => rfl)) (pa_cons (pe_ix ix_list (pe_ix ix_tup p4 pe_int (fun _ _ => rfl)) p8 (fun _ _ => rfl)) (pa_cons p9 (pa_cons p10 pa_nil))))) pa_nil)))))))))))))))) (pss_one (ps_ret pe_bl))))
theorem sc_parts : FnScope ["piece", "kind"] ["piece"] (defScope (top 1)) := ⟨rfl, rfl, rfl, by decide +kernel, rfl, by decide +kernel, by decide +kernel⟩
theorem ok_parts (F : Fun K "parts" "parts" (top 1) f fd) (T : Txt mg a) : FnOk P w K mg base CX0 1 f fd ["piece"] spParts := by
  refine F.ok sc_parts (fun vs H Q E h => ?_) (fun cdv A outer s H vs Q E hr h => ⟨SW.t_parts K, ?_, SW.rd_parts h⟩)
  · obtain ⟨_, _, rfl, _⟩ := h
    rfl
  have nd := sc_parts.nd
  have hu := hu_of hr
  have hu0 := hr.units0
  have p0 : ∀ {pos : Pos}, PE ((cxOf CX0 P w K mg base ["piece", "kind"] "parts" (defScope (top 1)) f cdv A outer s H E).nox) (.Name "piece" pos) (tVar 0) := fun {pos} => pv 0
  have p1 : ∀ {pos : Pos}, PE ((cxOf CX0 P w K mg base ["piece", "kind"] "parts" (defScope (top 1)) f cdv A outer s H E).nox) (.Name "kind" pos) (tVar 1) := fun {pos} => pv 1
  have l1 : Loc (((cxOf CX0 P w K mg base ["piece", "kind"] "parts" (defScope (top 1)) f cdv A outer s H E).nox)).env.scope "kind" := by first | exact Or.inl rfl | exact Or.inr rfl
  have g1 : ∀ {pos : Pos}, PG ((cxOf CX0 P w K mg base ["piece", "kind"] "parts" (defScope (top 1)) f cdv A outer s H E).nox) (.Name "kind" pos) (gName 1) := fun {pos} => pg_name (i := 1) nd rfl l1
  exact (pss_cons (ps_set (i := 1) nd rfl l1 (pe_ix ix_tup p0 pe_int (fun _ _ => rfl))) (pss_cons (ps_if (pw_or (pt_cmpR op_eq p1 pe_str (nomark _)) (pw_or1 (pt_cmpR op_eq p1 pe_str (nomark _)))).pt (pss_one (ps_ret (pe_tup pa_nil))) pss_nil) (pss_cons (ps_if (pw_or (pt_cmpR op_eq p1 pe_str (nomark _)) (pw_or1 (pt_cmpR op_eq p1 pe_str (nomark _)))).pt (pss_one (ps_ret (pe_slice sl_tup p0 (po_some pe_int) po_none))) pss_nil) (pss_one (ps_ret (pe_slice sl_tup p0 (po_some pe_int) po_none))))))
theorem sc_ww : FnScope ["words", "word", "value", "more"] ["words", "word", "value"] (defScope (top 2)) := ⟨rfl, rfl, rfl, by decide +kernel, rfl, by decide +kernel, by decide +kernel⟩
theorem ok_ww (F : Fun K "with_word" "with_word" (top 2) f fd) (T : Txt mg a) : FnOk P w K mg base CX0 1 f fd ["words", "word", "value"] spWithWord := by
  refine F.ok sc_ww (fun vs H Q E h => ?_) (fun cdv A outer s H vs Q E hr h => ⟨SW.t_ww K, ?_, SW.rd_ww h⟩)
  · obtain ⟨_, _, _, _, rfl, _⟩ := h
    rfl
  have nd := sc_ww.nd
  have hu := hu_of hr
  have hu0 := hr.units0
  have p0 : ∀ {pos : Pos}, PE ((cxOf CX0 P w K mg base ["words", "word", "value", "more"] "with_word" (defScope (top 2)) f cdv A outer s H E).nox) (.Name "words" pos) (tVar 0) := fun {pos} => pv 0
  have p1 : ∀ {pos : Pos}, PE ((cxOf CX0 P w K mg base ["words", "word", "value", "more"] "with_word" (defScope (top 2)) f cdv A outer s H E).nox) (.Name "word" pos) (tVar 1) := fun {pos} => pv 1
  have p2 : ∀ {pos : Pos}, PE ((cxOf CX0 P w K mg base ["words", "word", "value", "more"] "with_word" (defScope (top 2)) f cdv A outer s H E).nox) (.Name "value" pos) (tVar 2) := fun {pos} => pv 2
  have p3 : ∀ {pos : Pos}, PE ((cxOf CX0 P w K mg base ["words", "word", "value", "more"] "with_word" (defScope (top 2)) f cdv A outer s H E).nox) (.Name "more" pos) (tVar 3) := fun {pos} => pv 3
  have l3 : Loc (((cxOf CX0 P w K mg base ["words", "word", "value", "more"] "with_word" (defScope (top 2)) f cdv A outer s H E).nox)).env.scope "more" := by first | exact Or.inl rfl | exact Or.inr rfl
  have g3 : ∀ {pos : Pos}, PG ((cxOf CX0 P w K mg base ["words", "word", "value", "more"] "with_word" (defScope (top 2)) f cdv A outer s H E).nox) (.Name "more" pos) (gName 3) := fun {pos} => pg_name (i := 3) nd rfl l3
  have k_dict : Gl ((cxOf CX0 P w K mg base ["words", "word", "value", "more"] "with_word" (defScope (top 2)) f cdv A outer s H E).nox) "dict" := by rfl
  exact (pss_cons (ps_set (i := 3) nd rfl l3 (pe_callTy call_dictD k_dict T.n_dict bo_dict (pa_cons p0 pa_nil))) (pss_cons (ps_dput hu p3 p1 p2 rfl) (pss_one (ps_ret p3))))
theorem sc_sb : FnScope ["pair", "one", "other"] ["pair"] (defScope (top 4)) := ⟨rfl, rfl, rfl, by decide +kernel, rfl, by decide +kernel, by decide +kernel⟩
theorem ok_sb (F : Fun K "same_by_itself" "same_by_itself" (top 4) f fd) (T : Txt mg a) : FnOk P w K mg base CX0 1 f fd ["pair"] spSelf := by
  refine F.ok sc_sb (fun vs H Q E h => ?_) (fun cdv A outer s H vs Q E hr h => ⟨S3.t_sb K, ?_, S3.rd_sb h⟩)
  · obtain ⟨_, _, _, rfl, _⟩ := h
    rfl
  have nd := sc_sb.nd
  have hu := hu_of hr
  have hu0 := hr.units0
  have p0 : ∀ {pos : Pos}, PE ((cxOf CX0 P w K mg base ["pair", "one", "other"] "same_by_itself" (defScope (top 4)) f cdv A outer s H E).nox) (.Name "pair" pos) (tVar 0) := fun {pos} => pv 0
  have p1 : ∀ {pos : Pos}, PE ((cxOf CX0 P w K mg base ["pair", "one", "other"] "same_by_itself" (defScope (top 4)) f cdv A outer s H E).nox) (.Name "one" pos) (tVar 1) := fun {pos} => pv 1
  have p2 : ∀ {pos : Pos}, PE ((cxOf CX0 P w K mg base ["pair", "one", "other"] "same_by_itself" (defScope (top 4)) f cdv A outer s H E).nox) (.Name "other" pos) (tVar 2) := fun {pos} => pv 2
  have l1 : Loc (((cxOf CX0 P w K mg base ["pair", "one", "other"] "same_by_itself" (defScope (top 4)) f cdv A outer s H E).nox)).env.scope "one" := by first | exact Or.inl rfl | exact Or.inr rfl
  have g1 : ∀ {pos : Pos}, PG ((cxOf CX0 P w K mg base ["pair", "one", "other"] "same_by_itself" (defScope (top 4)) f cdv A outer s H E).nox) (.Name "one" pos) (gName 1) := fun {pos} => pg_name (i := 1) nd rfl l1
  have l2 : Loc (((cxOf CX0 P w K mg base ["pair", "one", "other"] "same_by_itself" (defScope (top 4)) f cdv A outer s H E).nox)).env.scope "other" := by first | exact Or.inl rfl | exact Or.inr rfl
  have g2 : ∀ {pos : Pos}, PG ((cxOf CX0 P w K mg base ["pair", "one", "other"] "same_by_itself" (defScope (top 4)) f cdv A outer s H E).nox) (.Name "other" pos) (gName 2) := fun {pos} => pg_name (i := 2) nd rfl l2
  exact (pss_cons (ps_set (i := 1) nd rfl l1 (pe_ix ix_tup p0 pe_int (fun _ _ => rfl))) (pss_cons (ps_set (i := 2) nd rfl l2 (pe_ix ix_tup p0 pe_int (fun _ _ => rfl))) (pss_cons (ps_if (pt_cmpR op_ne (pe_ix ix_tup p1 pe_int (fun _ _ => rfl)) (pe_ix ix_tup p2 pe_int (fun _ _ => rfl)) (nomark _)) (pss_one (ps_ret pe_bl)) pss_nil) (pss_cons (ps_if (pt_cmpR op_eq (pe_ix ix_tup p1 pe_int (fun _ _ => rfl)) pe_str (nomark _)) (pss_one (ps_ret (pe_cmpR op_eq (pe_ix ix_tup p1 pe_int (fun _ _ => rfl)) (pe_ix ix_tup p2 pe_int (fun _ _ => rfl)) (nomark _)))) pss_nil) (pss_cons (ps_if (pt_cmpR op_eq (pe_ix ix_tup p1 pe_int (fun _ _ => rfl)) pe_str (nomark _)) (pss_one (ps_ret (pe_cmpR op_eq (pe_dget2 hu (pe_ix ix_tup p0 pe_int (fun _ _ => rfl)) (pe_ix ix_tup p1 pe_int (fun _ _ => rfl)) (pe_ix ix_tup p1 pe_int (fun _ _ => rfl)) ⟨rfl, rfl, rfl, rfl⟩) (pe_dget2 hu (pe_ix ix_tup p0 pe_int (fun _ _ => rfl)) (pe_ix ix_tup p2 pe_int (fun _ _ => rfl)) (pe_ix ix_tup p2 pe_int (fun _ _ => rfl)) ⟨rfl, rfl, rfl, rfl⟩) (nomark _)))) pss_nil) (pss_one (ps_ret pe_bl)))))))
theorem sc_pw : FnScope ["pair", "number", "one", "other", "words", "other_words"] ["pair", "number"] (defScope (top 5)) := ⟨rfl, rfl, rfl, by decide +kernel, rfl, by decide +kernel, by decide +kernel⟩
def lcScope (s : Stmt) : Scope := match defBody s with
  | [_, _, _, .Return (some (.ListComp _ _ sc _)) _] => sc
  | _ => defScope s
theorem lc_pw {cdv : Value} {A : Around} {outer : List Env} {s : Shared} {H : Hp} {E : XK} : CompScT ((cxOf CX0 P w K mg base ["pair", "number", "one", "other", "words", "other_words"] "pairs_within" (defScope (top 5)) f cdv A outer s H E).nox) (lcScope (top 5)) [("pair", s.heap.objs.size + 1)] ["mine", "yours"] ["pair"] [0] where
  clos := rfl
  ncell := by decide +kernel
  kind := rfl
  names := by decide +kernel
  cells := fun y c h => h
  has := fun y h => by
    have e : (relabel (lcScope (top 5)) ((cxOf CX0 P w K mg base ["pair", "number", "one", "other", "words", "other_words"] "pairs_within" (defScope (top 5)) f cdv A outer s H E).nox).env).names = ([((".0" : Str), NameKind.local), (("mine" : Str), NameKind.local), (("yours" : Str), NameKind.local), (("pair" : Str), NameKind.cell)] : List (Str × NameKind)) := rfl
    rw [e] at h
    by_cases e1 : y = "pair"
    · subst e1; exact ⟨_, rfl⟩
    · exfalso
      have q1 : (y == ("pair" : Str)) = false := beq_eq_false_iff_ne.mpr e1
      by_cases e2 : y = ".0"
      · subst e2; revert h; decide +kernel
      · by_cases e3 : y = "mine"
        · subst e3; revert h; decide +kernel
        · by_cases e4 : y = "yours"
          · subst e4; revert h; decide +kernel
          · have q2 : (y == (".0" : Str)) = false := beq_eq_false_iff_ne.mpr e2
            have q3 : (y == ("mine" : Str)) = false := beq_eq_false_iff_ne.mpr e3
            have q4 : (y == ("yours" : Str)) = false := beq_eq_false_iff_ne.mpr e4
            simp [List.lookup, q1, q2, q3, q4] at h
  free := fun k y hy => by
    cases k with
    | zero =>
      have : y = "pair" := (Option.some.inj hy).symm
      subst this
      exact ⟨0, rfl, rfl, rfl, .inl rfl⟩
    | succ k => simp at hy
  len := rfl
theorem ok_pw (F : Fun K "pairs_within" "pairs_within" (top 5) f fd) (T : Txt mg a)
    {fd_with_word : FuncData} (G_with_word : FnOk P w K mg base CX0 1 a.a_with_word fd_with_word ["words", "word", "value"] spWithWord) (F_with_word : Fun K "with_word" "with_word" (top 2) a.a_with_word fd_with_word) (b_with_word : Binds K fd_with_word ["words", "word", "value"] [])
    {fd_parts : FuncData} (G_parts : FnOk P w K mg base CX0 1 a.a_parts fd_parts ["piece"] spParts) (F_parts : Fun K "parts" "parts" (top 1) a.a_parts fd_parts) (b_parts : Binds K fd_parts ["piece"] []) : FnOk P w K mg base CX0 2 f fd ["pair", "number"] spPairs := by
  refine F.ok sc_pw (fun vs H Q E h => ?_) (fun cdv A outer s H vs Q E hr h => ⟨S3.t_pw K, ?_, S3.rd_pw h⟩)
  · obtain ⟨_, _, _, _, rfl, _⟩ := h
    rfl
  have nd := sc_pw.nd
  have hu := hu_of hr
  have hu0 := hr.units0
  have p0 : ∀ {pos : Pos}, PE ((cxOf CX0 P w K mg base ["pair", "number", "one", "other", "words", "other_words"] "pairs_within" (defScope (top 5)) f cdv A outer s H E).nox) (.Name "pair" pos) (tVar 0) := fun {pos} => pv 0
  have p1 : ∀ {pos : Pos}, PE ((cxOf CX0 P w K mg base ["pair", "number", "one", "other", "words", "other_words"] "pairs_within" (defScope (top 5)) f cdv A outer s H E).nox) (.Name "number" pos) (tVar 1) := fun {pos} => pv 1
  have p2 : ∀ {pos : Pos}, PE ((cxOf CX0 P w K mg base ["pair", "number", "one", "other", "words", "other_words"] "pairs_within" (defScope (top 5)) f cdv A outer s H E).nox) (.Name "one" pos) (tVar 2) := fun {pos} => pv 2
  have p3 : ∀ {pos : Pos}, PE ((cxOf CX0 P w K mg base ["pair", "number", "one", "other", "words", "other_words"] "pairs_within" (defScope (top 5)) f cdv A outer s H E).nox) (.Name "other" pos) (tVar 3) := fun {pos} => pv 3
  have p4 : ∀ {pos : Pos}, PE ((cxOf CX0 P w K mg base ["pair", "number", "one", "other", "words", "other_words"] "pairs_within" (defScope (top 5)) f cdv A outer s H E).nox) (.Name "words" pos) (tVar 4) := fun {pos} => pv 4
  have p5 : ∀ {pos : Pos}, PE ((cxOf CX0 P w K mg base ["pair", "number", "one", "other", "words", "other_words"] "pairs_within" (defScope (top 5)) f cdv A outer s H E).nox) (.Name "other_words" pos) (tVar 5) := fun {pos} => pv 5
  have l2 : Loc (((cxOf CX0 P w K mg base ["pair", "number", "one", "other", "words", "other_words"] "pairs_within" (defScope (top 5)) f cdv A outer s H E).nox)).env.scope "one" := by first | exact Or.inl rfl | exact Or.inr rfl
  have g2 : ∀ {pos : Pos}, PG ((cxOf CX0 P w K mg base ["pair", "number", "one", "other", "words", "other_words"] "pairs_within" (defScope (top 5)) f cdv A outer s H E).nox) (.Name "one" pos) (gName 2) := fun {pos} => pg_name (i := 2) nd rfl l2
  have l3 : Loc (((cxOf CX0 P w K mg base ["pair", "number", "one", "other", "words", "other_words"] "pairs_within" (defScope (top 5)) f cdv A outer s H E).nox)).env.scope "other" := by first | exact Or.inl rfl | exact Or.inr rfl
  have g3 : ∀ {pos : Pos}, PG ((cxOf CX0 P w K mg base ["pair", "number", "one", "other", "words", "other_words"] "pairs_within" (defScope (top 5)) f cdv A outer s H E).nox) (.Name "other" pos) (gName 3) := fun {pos} => pg_name (i := 3) nd rfl l3
  have l4 : Loc (((cxOf CX0 P w K mg base ["pair", "number", "one", "other", "words", "other_words"] "pairs_within" (defScope (top 5)) f cdv A outer s H E).nox)).env.scope "words" := by first | exact Or.inl rfl | exact Or.inr rfl
  have g4 : ∀ {pos : Pos}, PG ((cxOf CX0 P w K mg base ["pair", "number", "one", "other", "words", "other_words"] "pairs_within" (defScope (top 5)) f cdv A outer s H E).nox) (.Name "words" pos) (gName 4) := fun {pos} => pg_name (i := 4) nd rfl l4
  have l5 : Loc (((cxOf CX0 P w K mg base ["pair", "number", "one", "other", "words", "other_words"] "pairs_within" (defScope (top 5)) f cdv A outer s H E).nox)).env.scope "other_words" := by first | exact Or.inl rfl | exact Or.inr rfl
  have g5 : ∀ {pos : Pos}, PG ((cxOf CX0 P w K mg base ["pair", "number", "one", "other", "words", "other_words"] "pairs_within" (defScope (top 5)) f cdv A outer s H E).nox) (.Name "other_words" pos) (gName 5) := fun {pos} => pg_name (i := 5) nd rfl l5
  have k_zip : Gl ((cxOf CX0 P w K mg base ["pair", "number", "one", "other", "words", "other_words"] "pairs_within" (defScope (top 5)) f cdv A outer s H E).nox) "zip" := by rfl
  have k_with_word : Gl ((cxOf CX0 P w K mg base ["pair", "number", "one", "other", "words", "other_words"] "pairs_within" (defScope (top 5)) f cdv A outer s H E).nox) "with_word" := by rfl
  have k_parts : Gl ((cxOf CX0 P w K mg base ["pair", "number", "one", "other", "words", "other_words"] "pairs_within" (defScope (top 5)) f cdv A outer s H E).nox) "parts" := by rfl
  have LS : CompScT ((cxOf CX0 P w K mg base ["pair", "number", "one", "other", "words", "other_words"] "pairs_within" (defScope (top 5)) f cdv A outer s H E).nox) (lcScope (top 5)) [("pair", s.heap.objs.size + 1)] ["mine", "yours"] ["pair"] [0] := lc_pw
  exact (pss_cons (ps_set (i := 2) nd rfl l2 (pe_ix ix_tup p0 pe_int (fun _ _ => rfl))) (pss_cons (ps_set (i := 3) nd rfl l3 (pe_ix ix_tup p0 pe_int (fun _ _ => rfl))) (pss_cons (ps_if (pt_cmpR op_eq (pe_ix ix_tup p2 pe_int (fun _ _ => rfl)) pe_str (nomark _)) (pss_cons (ps_set (i := 4) nd rfl l4 (pe_call G_with_word (hr.mono (by decide)) k_with_word T.g_with_word F_with_word.kp b_with_word .nil pass0 (pa_cons (pe_ix ix_tup p0 pe_int (fun _ _ => rfl)) (pa_cons (pe_ix ix_tup p2 pe_int (fun _ _ => rfl)) (pa_cons p1 pa_nil))))) (pss_cons (ps_set (i := 5) nd rfl l5 (pe_call G_with_word (hr.mono (by decide)) k_with_word T.g_with_word F_with_word.kp b_with_word .nil pass0 (pa_cons (pe_ix ix_tup p0 pe_int (fun _ _ => rfl)) (pa_cons (pe_ix ix_tup p3 pe_int (fun _ _ => rfl)) (pa_cons p1 pa_nil))))) (pss_one (ps_ret (pe_lst (pa_cons (pe_tup (pa_cons (pe_ix ix_tup p2 pe_int (fun _ _ => rfl)) (pa_cons (pe_ix ix_tup p3 pe_int (fun _ _ => rfl)) (pa_cons (pe_ix ix_tup p0 pe_int (fun _ _ => rfl)) (pa_cons (pe_ix ix_tup p0 pe_int (fun _ _ => rfl)) pa_nil))))) (pa_cons (pe_tup (pa_cons (pe_ix ix_tup p2 pe_int (fun _ _ => rfl)) (pa_cons (pe_ix ix_tup p3 pe_int (fun _ _ => rfl)) (pa_cons p4 (pa_cons p5 pa_nil))))) pa_nil))))))) pss_nil) (pss_one (ps_ret (pe_lcT rfl LS (pi_zip k_zip T.n_zip (pe_call G_parts (hr.mono (by decide)) k_parts T.g_parts F_parts.kp b_parts .nil pass0 (pa_cons p2 pa_nil)) (pe_call G_parts (hr.mono (by decide)) k_parts T.g_parts F_parts.kp b_parts .nil pass0 (pa_cons p3 pa_nil))) (fun fp s H C => pg_tup rfl (pgs_cons (pg_name (i := 0) (by show (["mine", "yours", "pair"] : List Str).Nodup; decide +kernel) rfl (Or.inl rfl) (.inr rfl)) (pgs_cons (pg_name (i := 1) (by show (["mine", "yours", "pair"] : List Str).Nodup; decide +kernel) rfl (Or.inl rfl) (.inr rfl)) pgs_nil))) (fun fp s H C => (pe_tup (pa_cons (pv 0) (pa_cons (pv 1) (pa_cons (pe_ix ix_tup (pv 2) pe_int (fun _ _ => rfl)) (pa_cons (pe_ix ix_tup (pv 2) pe_int (fun _ _ => rfl)) pa_nil))))))))))))
theorem sc_sw : FnScope ["one", "other", "seen", "waiting", "pair"] ["one", "other"] (defScope (top 6)) := ⟨rfl, rfl, rfl, by decide +kernel, rfl, by decide +kernel, by decide +kernel⟩
theorem ok_sw (F : Fun K "same_but_words" "same_but_words" (top 6) f fd) (T : Txt mg a)
    {fd_same_by_itself : FuncData} (G_same_by_itself : FnOk P w K mg base CX0 1 a.a_same_by_itself fd_same_by_itself ["pair"] spSelf) (F_same_by_itself : Fun K "same_by_itself" "same_by_itself" (top 4) a.a_same_by_itself fd_same_by_itself) (b_same_by_itself : Binds K fd_same_by_itself ["pair"] [])
    {fd_pairs_within : FuncData} (G_pairs_within : FnOk P w K mg base CX0 2 a.a_pairs_within fd_pairs_within ["pair", "number"] spPairs) (F_pairs_within : Fun K "pairs_within" "pairs_within" (top 5) a.a_pairs_within fd_pairs_within) (b_pairs_within : Binds K fd_pairs_within ["pair", "number"] []) : FnOk P w K mg base CX0 3 f fd ["one", "other"] spSbw := by
  refine F.ok sc_sw (fun vs H Q E h => ?_) (fun cdv A outer s H vs Q E hr h => ⟨S3.t_sw K, ?_, S3.rd_sw h⟩)
  · obtain ⟨_, _, _, _, rfl, _⟩ := h
    rfl
  have nd := sc_sw.nd
  have hu := hu_of hr
  have hu0 := hr.units0
  have p0 : ∀ {pos : Pos}, PE ((cxOf CX0 P w K mg base ["one", "other", "seen", "waiting", "pair"] "same_but_words" (defScope (top 6)) f cdv A outer s H E).nox) (.Name "one" pos) (tVar 0) := fun {pos} => pv 0
  have p1 : ∀ {pos : Pos}, PE ((cxOf CX0 P w K mg base ["one", "other", "seen", "waiting", "pair"] "same_but_words" (defScope (top 6)) f cdv A outer s H E).nox) (.Name "other" pos) (tVar 1) := fun {pos} => pv 1
  have p2 : ∀ {pos : Pos}, PE ((cxOf CX0 P w K mg base ["one", "other", "seen", "waiting", "pair"] "same_but_words" (defScope (top 6)) f cdv A outer s H E).nox) (.Name "seen" pos) (tVar 2) := fun {pos} => pv 2
  have p3 : ∀ {pos : Pos}, PE ((cxOf CX0 P w K mg base ["one", "other", "seen", "waiting", "pair"] "same_but_words" (defScope (top 6)) f cdv A outer s H E).nox) (.Name "waiting" pos) (tVar 3) := fun {pos} => pv 3
  have p4 : ∀ {pos : Pos}, PE ((cxOf CX0 P w K mg base ["one", "other", "seen", "waiting", "pair"] "same_but_words" (defScope (top 6)) f cdv A outer s H E).nox) (.Name "pair" pos) (tVar 4) := fun {pos} => pv 4
  have l2 : Loc (((cxOf CX0 P w K mg base ["one", "other", "seen", "waiting", "pair"] "same_but_words" (defScope (top 6)) f cdv A outer s H E).nox)).env.scope "seen" := by first | exact Or.inl rfl | exact Or.inr rfl
  have g2 : ∀ {pos : Pos}, PG ((cxOf CX0 P w K mg base ["one", "other", "seen", "waiting", "pair"] "same_but_words" (defScope (top 6)) f cdv A outer s H E).nox) (.Name "seen" pos) (gName 2) := fun {pos} => pg_name (i := 2) nd rfl l2
  have l3 : Loc (((cxOf CX0 P w K mg base ["one", "other", "seen", "waiting", "pair"] "same_but_words" (defScope (top 6)) f cdv A outer s H E).nox)).env.scope "waiting" := by first | exact Or.inl rfl | exact Or.inr rfl
  have g3 : ∀ {pos : Pos}, PG ((cxOf CX0 P w K mg base ["one", "other", "seen", "waiting", "pair"] "same_but_words" (defScope (top 6)) f cdv A outer s H E).nox) (.Name "waiting" pos) (gName 3) := fun {pos} => pg_name (i := 3) nd rfl l3
  have l4 : Loc (((cxOf CX0 P w K mg base ["one", "other", "seen", "waiting", "pair"] "same_but_words" (defScope (top 6)) f cdv A outer s H E).nox)).env.scope "pair" := by first | exact Or.inl rfl | exact Or.inr rfl
  have g4 : ∀ {pos : Pos}, PG ((cxOf CX0 P w K mg base ["one", "other", "seen", "waiting", "pair"] "same_but_words" (defScope (top 6)) f cdv A outer s H E).nox) (.Name "pair" pos) (gName 4) := fun {pos} => pg_name (i := 4) nd rfl l4
  have k_len : Gl ((cxOf CX0 P w K mg base ["one", "other", "seen", "waiting", "pair"] "same_but_words" (defScope (top 6)) f cdv A outer s H E).nox) "len" := by rfl
  have k_same_by_itself : Gl ((cxOf CX0 P w K mg base ["one", "other", "seen", "waiting", "pair"] "same_but_words" (defScope (top 6)) f cdv A outer s H E).nox) "same_by_itself" := by rfl
  have k_pairs_within : Gl ((cxOf CX0 P w K mg base ["one", "other", "seen", "waiting", "pair"] "same_but_words" (defScope (top 6)) f cdv A outer s H E).nox) "pairs_within" := by rfl
  exact (pss_cons (ps_set (i := 2) nd rfl l2 pe_int) (pss_cons (ps_set (i := 3) nd rfl l3 (pe_lst (pa_cons (pe_tup (pa_cons p0 (pa_cons p1 (pa_cons pe_dnewK (pa_cons pe_dnewK pa_nil))))) pa_nil))) (pss_cons (ps_while PassesOwn.never (pt_cmpR op_gt (pe_callB call_len_seq k_len T.n_len bo_len (pa_cons p3 pa_nil)) pe_int (nomark _)) (pss_cons (ps_set (i := 4) nd rfl l4 (pe_bm0 PySem.F.plainAttrs_list PySem.F.slot_list_pop PySem.F.type_list_pop mt_pop p3)) (pss_cons (ps_if (pt_not (pt_val (pe_call G_same_by_itself (hr.mono (by decide)) k_same_by_itself T.g_same_by_itself F_same_by_itself.kp b_same_by_itself .nil pass0 (pa_cons p4 pa_nil)))) (pss_one (ps_ret pe_bl)) pss_nil) (pss_cons (ps_aug (i := 2) nd rfl l2 pe_int ip_add) (pss_one (ps_expr (pe_bm PySem.F.plainAttrs_list PySem.F.slot_list_extend PySem.F.type_list_extend mt_extend p3 (pa_cons (pe_call G_pairs_within (hr.mono (by decide)) k_pairs_within T.g_pairs_within F_pairs_within.kp b_pairs_within .nil pass0 (pa_cons p4 (pa_cons p2 pa_nil))) pa_nil)))))))) (pss_one (ps_ret pe_bl)))))
theorem sc_re : FnScope ["_law_piece", "_law_places", "_law_tail", "_law_order", "_law_todo", "_law_part", "_law_own", "_law_inner", "_law_k", "_law_near", "_law_pile", "_law_many", "_law_kids", "_law_front"] ["_law_piece", "_law_places", "_law_tail"] (defScope (top 13)) := ⟨rfl, rfl, rfl, by decide +kernel, rfl, by decide +kernel, by decide +kernel⟩
theorem ok_re (F : Fun K "_law_reworded" "_law_reworded" (top 13) f fd) (T : Txt mg a)
    {fd__law_inside : FuncData} (G__law_inside : FnOk P w K mg base CX0 1 a.a__law_inside fd__law_inside ["_law_piece"] spInside) (F__law_inside : Fun K "_law_inside" "_law_inside" (top 10) a.a__law_inside fd__law_inside) (b__law_inside : Binds K fd__law_inside ["_law_piece"] []) : FnOk P w K mg base CX0 2 f fd ["_law_piece", "_law_places", "_law_tail"] spRew := by
  refine F.ok sc_re (fun vs H Q E h => ?_) (fun cdv A outer s H vs Q E hr h => ⟨S3.t_re K, ?_, S3.rd_re h⟩)
  · obtain ⟨_, _, _, _, rfl, _⟩ := h
    rfl
  have nd := sc_re.nd
  have hu := hu_of hr
  have hu0 := hr.units0
  have p0 : ∀ {pos : Pos}, PE ((cxOf CX0 P w K mg base ["_law_piece", "_law_places", "_law_tail", "_law_order", "_law_todo", "_law_part", "_law_own", "_law_inner", "_law_k", "_law_near", "_law_pile", "_law_many", "_law_kids", "_law_front"] "_law_reworded" (defScope (top 13)) f cdv A outer s H E).nox) (.Name "_law_piece" pos) (tVar 0) := fun {pos} => pv 0
  have p1 : ∀ {pos : Pos}, PE ((cxOf CX0 P w K mg base ["_law_piece", "_law_places", "_law_tail", "_law_order", "_law_todo", "_law_part", "_law_own", "_law_inner", "_law_k", "_law_near", "_law_pile", "_law_many", "_law_kids", "_law_front"] "_law_reworded" (defScope (top 13)) f cdv A outer s H E).nox) (.Name "_law_places" pos) (tVar 1) := fun {pos} => pv 1
  have p2 : ∀ {pos : Pos}, PE ((cxOf CX0 P w K mg base ["_law_piece", "_law_places", "_law_tail", "_law_order", "_law_todo", "_law_part", "_law_own", "_law_inner", "_law_k", "_law_near", "_law_pile", "_law_many", "_law_kids", "_law_front"] "_law_reworded" (defScope (top 13)) f cdv A outer s H E).nox) (.Name "_law_tail" pos) (tVar 2) := fun {pos} => pv 2
  have p3 : ∀ {pos : Pos}, PE ((cxOf CX0 P w K mg base ["_law_piece", "_law_places", "_law_tail", "_law_order", "_law_todo", "_law_part", "_law_own", "_law_inner", "_law_k", "_law_near", "_law_pile", "_law_many", "_law_kids", "_law_front"] "_law_reworded" (defScope (top 13)) f cdv A outer s H E).nox) (.Name "_law_order" pos) (tVar 3) := fun {pos} => pv 3
  have p4 : ∀ {pos : Pos}, PE ((cxOf CX0 P w K mg base ["_law_piece", "_law_places", "_law_tail", "_law_order", "_law_todo", "_law_part", "_law_own", "_law_inner", "_law_k", "_law_near", "_law_pile", "_law_many", "_law_kids", "_law_front"] "_law_reworded" (defScope (top 13)) f cdv A outer s H E).nox) (.Name "_law_todo" pos) (tVar 4) := fun {pos} => pv 4
  have p5 : ∀ {pos : Pos}, PE ((cxOf CX0 P w K mg base ["_law_piece", "_law_places", "_law_tail", "_law_order", "_law_todo", "_law_part", "_law_own", "_law_inner", "_law_k", "_law_near", "_law_pile", "_law_many", "_law_kids", "_law_front"] "_law_reworded" (defScope (top 13)) f cdv A outer s H E).nox) (.Name "_law_part" pos) (tVar 5) := fun {pos} => pv 5
  have p6 : ∀ {pos : Pos}, PE ((cxOf CX0 P w K mg base ["_law_piece", "_law_places", "_law_tail", "_law_order", "_law_todo", "_law_part", "_law_own", "_law_inner", "_law_k", "_law_near", "_law_pile", "_law_many", "_law_kids", "_law_front"] "_law_reworded" (defScope (top 13)) f cdv A outer s H E).nox) (.Name "_law_own" pos) (tVar 6) := fun {pos} => pv 6
  have p7 : ∀ {pos : Pos}, PE ((cxOf CX0 P w K mg base ["_law_piece", "_law_places", "_law_tail", "_law_order", "_law_todo", "_law_part", "_law_own", "_law_inner", "_law_k", "_law_near", "_law_pile", "_law_many", "_law_kids", "_law_front"] "_law_reworded" (defScope (top 13)) f cdv A outer s H E).nox) (.Name "_law_inner" pos) (tVar 7) := fun {pos} => pv 7
  have p8 : ∀ {pos : Pos}, PE ((cxOf CX0 P w K mg base ["_law_piece", "_law_places", "_law_tail", "_law_order", "_law_todo", "_law_part", "_law_own", "_law_inner", "_law_k", "_law_near", "_law_pile", "_law_many", "_law_kids", "_law_front"] "_law_reworded" (defScope (top 13)) f cdv A outer s H E).nox) (.Name "_law_k" pos) (tVar 8) := fun {pos} => pv 8
  have p9 : ∀ {pos : Pos}, PE ((cxOf CX0 P w K mg base ["_law_piece", "_law_places", "_law_tail", "_law_order", "_law_todo", "_law_part", "_law_own", "_law_inner", "_law_k", "_law_near", "_law_pile", "_law_many", "_law_kids", "_law_front"] "_law_reworded" (defScope (top 13)) f cdv A outer s H E).nox) (.Name "_law_near" pos) (tVar 9) := fun {pos} => pv 9
  have p10 : ∀ {pos : Pos}, PE ((cxOf CX0 P w K mg base ["_law_piece", "_law_places", "_law_tail", "_law_order", "_law_todo", "_law_part", "_law_own", "_law_inner", "_law_k", "_law_near", "_law_pile", "_law_many", "_law_kids", "_law_front"] "_law_reworded" (defScope (top 13)) f cdv A outer s H E).nox) (.Name "_law_pile" pos) (tVar 10) := fun {pos} => pv 10
  have p11 : ∀ {pos : Pos}, PE ((cxOf CX0 P w K mg base ["_law_piece", "_law_places", "_law_tail", "_law_order", "_law_todo", "_law_part", "_law_own", "_law_inner", "_law_k", "_law_near", "_law_pile", "_law_many", "_law_kids", "_law_front"] "_law_reworded" (defScope (top 13)) f cdv A outer s H E).nox) (.Name "_law_many" pos) (tVar 11) := fun {pos} => pv 11
  have p12 : ∀ {pos : Pos}, PE ((cxOf CX0 P w K mg base ["_law_piece", "_law_places", "_law_tail", "_law_order", "_law_todo", "_law_part", "_law_own", "_law_inner", "_law_k", "_law_near", "_law_pile", "_law_many", "_law_kids", "_law_front"] "_law_reworded" (defScope (top 13)) f cdv A outer s H E).nox) (.Name "_law_kids" pos) (tVar 12) := fun {pos} => pv 12
  have p13 : ∀ {pos : Pos}, PE ((cxOf CX0 P w K mg base ["_law_piece", "_law_places", "_law_tail", "_law_order", "_law_todo", "_law_part", "_law_own", "_law_inner", "_law_k", "_law_near", "_law_pile", "_law_many", "_law_kids", "_law_front"] "_law_reworded" (defScope (top 13)) f cdv A outer s H E).nox) (.Name "_law_front" pos) (tVar 13) := fun {pos} => pv 13
  have l3 : Loc (((cxOf CX0 P w K mg base ["_law_piece", "_law_places", "_law_tail", "_law_order", "_law_todo", "_law_part", "_law_own", "_law_inner", "_law_k", "_law_near", "_law_pile", "_law_many", "_law_kids", "_law_front"] "_law_reworded" (defScope (top 13)) f cdv A outer s H E).nox)).env.scope "_law_order" := by first | exact Or.inl rfl | exact Or.inr rfl
  have g3 : ∀ {pos : Pos}, PG ((cxOf CX0 P w K mg base ["_law_piece", "_law_places", "_law_tail", "_law_order", "_law_todo", "_law_part", "_law_own", "_law_inner", "_law_k", "_law_near", "_law_pile", "_law_many", "_law_kids", "_law_front"] "_law_reworded" (defScope (top 13)) f cdv A outer s H E).nox) (.Name "_law_order" pos) (gName 3) := fun {pos} => pg_name (i := 3) nd rfl l3
  have l4 : Loc (((cxOf CX0 P w K mg base ["_law_piece", "_law_places", "_law_tail", "_law_order", "_law_todo", "_law_part", "_law_own", "_law_inner", "_law_k", "_law_near", "_law_pile", "_law_many", "_law_kids", "_law_front"] "_law_reworded" (defScope (top 13)) f cdv A outer s H E).nox)).env.scope "_law_todo" := by first | exact Or.inl rfl | exact Or.inr rfl
  have g4 : ∀ {pos : Pos}, PG ((cxOf CX0 P w K mg base ["_law_piece", "_law_places", "_law_tail", "_law_order", "_law_todo", "_law_part", "_law_own", "_law_inner", "_law_k", "_law_near", "_law_pile", "_law_many", "_law_kids", "_law_front"] "_law_reworded" (defScope (top 13)) f cdv A outer s H E).nox) (.Name "_law_todo" pos) (gName 4) := fun {pos} => pg_name (i := 4) nd rfl l4
  have l5 : Loc (((cxOf CX0 P w K mg base ["_law_piece", "_law_places", "_law_tail", "_law_order", "_law_todo", "_law_part", "_law_own", "_law_inner", "_law_k", "_law_near", "_law_pile", "_law_many", "_law_kids", "_law_front"] "_law_reworded" (defScope (top 13)) f cdv A outer s H E).nox)).env.scope "_law_part" := by first | exact Or.inl rfl | exact Or.inr rfl
  have g5 : ∀ {pos : Pos}, PG ((cxOf CX0 P w K mg base ["_law_piece", "_law_places", "_law_tail", "_law_order", "_law_todo", "_law_part", "_law_own", "_law_inner", "_law_k", "_law_near", "_law_pile", "_law_many", "_law_kids", "_law_front"] "_law_reworded" (defScope (top 13)) f cdv A outer s H E).nox) (.Name "_law_part" pos) (gName 5) := fun {pos} => pg_name (i := 5) nd rfl l5
  have l6 : Loc (((cxOf CX0 P w K mg base ["_law_piece", "_law_places", "_law_tail", "_law_order", "_law_todo", "_law_part", "_law_own", "_law_inner", "_law_k", "_law_near", "_law_pile", "_law_many", "_law_kids", "_law_front"] "_law_reworded" (defScope (top 13)) f cdv A outer s H E).nox)).env.scope "_law_own" := by first | exact Or.inl rfl | exact Or.inr rfl
  have g6 : ∀ {pos : Pos}, PG ((cxOf CX0 P w K mg base ["_law_piece", "_law_places", "_law_tail", "_law_order", "_law_todo", "_law_part", "_law_own", "_law_inner", "_law_k", "_law_near", "_law_pile", "_law_many", "_law_kids", "_law_front"] "_law_reworded" (defScope (top 13)) f cdv A outer s H E).nox) (.Name "_law_own" pos) (gName 6) := fun {pos} => pg_name (i := 6) nd rfl l6
  have l7 : Loc (((cxOf CX0 P w K mg base ["_law_piece", "_law_places", "_law_tail", "_law_order", "_law_todo", "_law_part", "_law_own", "_law_inner", "_law_k", "_law_near", "_law_pile", "_law_many", "_law_kids", "_law_front"] "_law_reworded" (defScope (top 13)) f cdv A outer s H E).nox)).env.scope "_law_inner" := by first | exact Or.inl rfl | exact Or.inr rfl
  have g7 : ∀ {pos : Pos}, PG ((cxOf CX0 P w K mg base ["_law_piece", "_law_places", "_law_tail", "_law_order", "_law_todo", "_law_part", "_law_own", "_law_inner", "_law_k", "_law_near", "_law_pile", "_law_many", "_law_kids", "_law_front"] "_law_reworded" (defScope (top 13)) f cdv A outer s H E).nox) (.Name "_law_inner" pos) (gName 7) := fun {pos} => pg_name (i := 7) nd rfl l7
  have l8 : Loc (((cxOf CX0 P w K mg base ["_law_piece", "_law_places", "_law_tail", "_law_order", "_law_todo", "_law_part", "_law_own", "_law_inner", "_law_k", "_law_near", "_law_pile", "_law_many", "_law_kids", "_law_front"] "_law_reworded" (defScope (top 13)) f cdv A outer s H E).nox)).env.scope "_law_k" := by first | exact Or.inl rfl | exact Or.inr rfl
  have g8 : ∀ {pos : Pos}, PG ((cxOf CX0 P w K mg base ["_law_piece", "_law_places", "_law_tail", "_law_order", "_law_todo", "_law_part", "_law_own", "_law_inner", "_law_k", "_law_near", "_law_pile", "_law_many", "_law_kids", "_law_front"] "_law_reworded" (defScope (top 13)) f cdv A outer s H E).nox) (.Name "_law_k" pos) (gName 8) := fun {pos} => pg_name (i := 8) nd rfl l8
  have l9 : Loc (((cxOf CX0 P w K mg base ["_law_piece", "_law_places", "_law_tail", "_law_order", "_law_todo", "_law_part", "_law_own", "_law_inner", "_law_k", "_law_near", "_law_pile", "_law_many", "_law_kids", "_law_front"] "_law_reworded" (defScope (top 13)) f cdv A outer s H E).nox)).env.scope "_law_near" := by first | exact Or.inl rfl | exact Or.inr rfl
  have g9 : ∀ {pos : Pos}, PG ((cxOf CX0 P w K mg base ["_law_piece", "_law_places", "_law_tail", "_law_order", "_law_todo", "_law_part", "_law_own", "_law_inner", "_law_k", "_law_near", "_law_pile", "_law_many", "_law_kids", "_law_front"] "_law_reworded" (defScope (top 13)) f cdv A outer s H E).nox) (.Name "_law_near" pos) (gName 9) := fun {pos} => pg_name (i := 9) nd rfl l9
  have l10 : Loc (((cxOf CX0 P w K mg base ["_law_piece", "_law_places", "_law_tail", "_law_order", "_law_todo", "_law_part", "_law_own", "_law_inner", "_law_k", "_law_near", "_law_pile", "_law_many", "_law_kids", "_law_front"] "_law_reworded" (defScope (top 13)) f cdv A outer s H E).nox)).env.scope "_law_pile" := by first | exact Or.inl rfl | exact Or.inr rfl
  have g10 : ∀ {pos : Pos}, PG ((cxOf CX0 P w K mg base ["_law_piece", "_law_places", "_law_tail", "_law_order", "_law_todo", "_law_part", "_law_own", "_law_inner", "_law_k", "_law_near", "_law_pile", "_law_many", "_law_kids", "_law_front"] "_law_reworded" (defScope (top 13)) f cdv A outer s H E).nox) (.Name "_law_pile" pos) (gName 10) := fun {pos} => pg_name (i := 10) nd rfl l10
  have l11 : Loc (((cxOf CX0 P w K mg base ["_law_piece", "_law_places", "_law_tail", "_law_order", "_law_todo", "_law_part", "_law_own", "_law_inner", "_law_k", "_law_near", "_law_pile", "_law_many", "_law_kids", "_law_front"] "_law_reworded" (defScope (top 13)) f cdv A outer s H E).nox)).env.scope "_law_many" := by first | exact Or.inl rfl | exact Or.inr rfl
  have g11 : ∀ {pos : Pos}, PG ((cxOf CX0 P w K mg base ["_law_piece", "_law_places", "_law_tail", "_law_order", "_law_todo", "_law_part", "_law_own", "_law_inner", "_law_k", "_law_near", "_law_pile", "_law_many", "_law_kids", "_law_front"] "_law_reworded" (defScope (top 13)) f cdv A outer s H E).nox) (.Name "_law_many" pos) (gName 11) := fun {pos} => pg_name (i := 11) nd rfl l11
  have l12 : Loc (((cxOf CX0 P w K mg base ["_law_piece", "_law_places", "_law_tail", "_law_order", "_law_todo", "_law_part", "_law_own", "_law_inner", "_law_k", "_law_near", "_law_pile", "_law_many", "_law_kids", "_law_front"] "_law_reworded" (defScope (top 13)) f cdv A outer s H E).nox)).env.scope "_law_kids" := by first | exact Or.inl rfl | exact Or.inr rfl
  have g12 : ∀ {pos : Pos}, PG ((cxOf CX0 P w K mg base ["_law_piece", "_law_places", "_law_tail", "_law_order", "_law_todo", "_law_part", "_law_own", "_law_inner", "_law_k", "_law_near", "_law_pile", "_law_many", "_law_kids", "_law_front"] "_law_reworded" (defScope (top 13)) f cdv A outer s H E).nox) (.Name "_law_kids" pos) (gName 12) := fun {pos} => pg_name (i := 12) nd rfl l12
  have l13 : Loc (((cxOf CX0 P w K mg base ["_law_piece", "_law_places", "_law_tail", "_law_order", "_law_todo", "_law_part", "_law_own", "_law_inner", "_law_k", "_law_near", "_law_pile", "_law_many", "_law_kids", "_law_front"] "_law_reworded" (defScope (top 13)) f cdv A outer s H E).nox)).env.scope "_law_front" := by first | exact Or.inl rfl | exact Or.inr rfl
  have g13 : ∀ {pos : Pos}, PG ((cxOf CX0 P w K mg base ["_law_piece", "_law_places", "_law_tail", "_law_order", "_law_todo", "_law_part", "_law_own", "_law_inner", "_law_k", "_law_near", "_law_pile", "_law_many", "_law_kids", "_law_front"] "_law_reworded" (defScope (top 13)) f cdv A outer s H E).nox) (.Name "_law_front" pos) (gName 13) := fun {pos} => pg_name (i := 13) nd rfl l13
  have k_range : Gl ((cxOf CX0 P w K mg base ["_law_piece", "_law_places", "_law_tail", "_law_order", "_law_todo", "_law_part", "_law_own", "_law_inner", "_law_k", "_law_near", "_law_pile", "_law_many", "_law_kids", "_law_front"] "_law_reworded" (defScope (top 13)) f cdv A outer s H E).nox) "range" := by rfl
  have k_len : Gl ((cxOf CX0 P w K mg base ["_law_piece", "_law_places", "_law_tail", "_law_order", "_law_todo", "_law_part", "_law_own", "_law_inner", "_law_k", "_law_near", "_law_pile", "_law_many", "_law_kids", "_law_front"] "_law_reworded" (defScope (top 13)) f cdv A outer s H E).nox) "len" := by rfl
  have k_reversed : Gl ((cxOf CX0 P w K mg base ["_law_piece", "_law_places", "_law_tail", "_law_order", "_law_todo", "_law_part", "_law_own", "_law_inner", "_law_k", "_law_near", "_law_pile", "_law_many", "_law_kids", "_law_front"] "_law_reworded" (defScope (top 13)) f cdv A outer s H E).nox) "reversed" := by rfl
  have k_list : Gl ((cxOf CX0 P w K mg base ["_law_piece", "_law_places", "_law_tail", "_law_order", "_law_todo", "_law_part", "_law_own", "_law_inner", "_law_k", "_law_near", "_law_pile", "_law_many", "_law_kids", "_law_front"] "_law_reworded" (defScope (top 13)) f cdv A outer s H E).nox) "list" := by rfl
  have k_tuple : Gl ((cxOf CX0 P w K mg base ["_law_piece", "_law_places", "_law_tail", "_law_order", "_law_todo", "_law_part", "_law_own", "_law_inner", "_law_k", "_law_near", "_law_pile", "_law_many", "_law_kids", "_law_front"] "_law_reworded" (defScope (top 13)) f cdv A outer s H E).nox) "tuple" := by rfl
  have k__law_inside : Gl ((cxOf CX0 P w K mg base ["_law_piece", "_law_places", "_law_tail", "_law_order", "_law_todo", "_law_part", "_law_own", "_law_inner", "_law_k", "_law_near", "_law_pile", "_law_many", "_law_kids", "_law_front"] "_law_reworded" (defScope (top 13)) f cdv A outer s H E).nox) "_law_inside" := by rfl
  exact (pss_cons (ps_set (i := 3) nd rfl l3 (pe_lst pa_nil)) (pss_cons (ps_set (i := 4) nd rfl l4 (pe_lst (pa_cons (pe_tup (pa_cons p0 (pa_cons p1 pa_nil))) pa_nil))) (pss_cons (ps_while PassesOwn.never (pt_cmpR (op_neNil hu0) p4 (pe_lst pa_nil) (nomark _)) (pss_cons (ps_asg (pe_bm0 PySem.F.plainAttrs_list PySem.F.slot_list_pop PySem.F.type_list_pop mt_pop p4) (pg_tup rfl (pgs_cons g5 (pgs_cons g6 pgs_nil)))) (pss_cons (ps_expr (pe_bm PySem.F.plainAttrs_list PySem.F.slot_list_append PySem.F.type_list_append mt_append p3 (pa_cons (pe_tup (pa_cons p5 (pa_cons p6 pa_nil))) pa_nil))) (pss_cons (ps_set (i := 7) nd rfl l7 (pe_call G__law_inside (hr.mono (by decide)) k__law_inside T.g__law_inside F__law_inside.kp b__law_inside .nil pass0 (pa_cons p5 pa_nil))) (pss_one (ps_for PassesOwn.never rfl (pi_rangeD k_range T.n_range (pa_cons (pe_op op_sub (pe_callB call_len_seq k_len T.n_len bo_len (pa_cons p7 pa_nil)) pe_int) (pa_cons (pe_un un_neg pe_int) (pa_cons (pe_un un_neg pe_int) pa_nil)))) g8 (pss_cons (ps_set (i := 9) nd rfl l9 p6) (pss_cons (ps_if (pw_and (pt_cmpR op_eq (pe_ix ix_tup p5 pe_int (fun _ _ => rfl)) pe_str (nomark _)) (pw_and1 (pt_cmpR op_eq p8 pe_int (nomark _)))).pt (pss_one (ps_set (i := 9) nd rfl l9 (pe_op op_cat p6 (pe_lst (pa_cons (pe_ix ix_tup p5 pe_int (fun _ _ => rfl)) pa_nil))))) pss_nil) (pss_one (ps_expr (pe_bm PySem.F.plainAttrs_list PySem.F.slot_list_append PySem.F.type_list_append mt_append p4 (pa_cons (pe_tup (pa_cons (pe_ix ix_list p7 p8 (fun _ _ => rfl)) (pa_cons p9 pa_nil))) pa_nil)))))))))))) (pss_cons (ps_set (i := 10) nd rfl l10 (pe_lst pa_nil)) (pss_cons (ps_for PassesOwn.never rfl (pi_rev k_reversed T.n_reversed p3) (pg_tup rfl (pgs_cons g5 (pgs_cons g6 pgs_nil))) (pss_cons (ps_set (i := 11) nd rfl l11 (pe_callB call_len_seq k_len T.n_len bo_len (pa_cons (pe_call G__law_inside (hr.mono (by decide)) k__law_inside T.g__law_inside F__law_inside.kp b__law_inside .nil pass0 (pa_cons p5 pa_nil)) pa_nil))) (pss_cons (ps_set (i := 12) nd rfl l12 (pe_revL rfl k_list T.n_list k_reversed T.n_reversed (pe_slice sl_list p10 (po_some (pe_op op_sub (pe_callB call_len_seq k_len T.n_len bo_len (pa_cons p10 pa_nil)) p11)) po_none))) (pss_cons (ps_set (i := 10) nd rfl l10 (pe_slice sl_list p10 po_none (po_some (pe_op op_sub (pe_callB call_len_seq k_len T.n_len bo_len (pa_cons p10 pa_nil)) p11)))) (pss_cons (ps_set (i := 13) nd rfl l13 (pe_lst (pa_cons (pe_ix ix_tup p5 pe_int (fun _ _ => rfl)) pa_nil))) (pss_cons (ps_if (pt_cmpR op_in_seq (pe_ix ix_tup p5 pe_int (fun _ _ => rfl)) (pe_lst (pa_cons pe_str (pa_cons pe_str (pa_cons pe_str (pa_cons pe_str pa_nil))))) (by with_unfolding_all rfl)) (pss_one (ps_expr (pe_bm PySem.F.plainAttrs_list PySem.F.slot_list_append PySem.F.type_list_append mt_append p13 (pa_cons (pe_ix ix_tup p5 pe_int (fun _ _ => rfl)) pa_nil)))) pss_nil) (pss_cons (ps_if (pw_or (pt_cmpR op_eq (pe_ix ix_tup p5 pe_int (fun _ _ => rfl)) pe_str (nomark _)) (pw_or1 (pw_and (pt_cmpR op_eq (pe_ix ix_tup p5 pe_int (fun _ _ => rfl)) pe_str (nomark _)) (pw_and1 (pt_cmpR op_in_seq (pe_ix ix_tup p5 pe_int (fun _ _ => rfl)) p6 (by with_unfolding_all rfl)))).pt)).pt (pss_one (ps_asg (pe_op op_add_str (pe_ix ix_tup p5 pe_int (fun _ _ => rfl)) p2) (pg_sub p13 pe_int set_list))) pss_nil) (pss_one (ps_expr (pe_bm PySem.F.plainAttrs_list PySem.F.slot_list_append PySem.F.type_list_append mt_append p10 (pa_cons (pe_callTy call_tuple_of k_tuple T.n_tuple bo_tuple (pa_cons (pe_op op_cat p13 p12) pa_nil)) pa_nil))))))))))) (pss_one (ps_ret (pe_ix ix_list p10 pe_int (fun _ _ => rfl)))))))))
theorem sc_bn : FnScope ["_law_piece", "_law_way", "_law_spot", "_law_order", "_law_todo", "_law_part", "_law_pile", "_law_k", "_law_many", "_law_kids", "_law_front"] ["_law_piece", "_law_way", "_law_spot"] (defScope (top 14)) := ⟨rfl, rfl, rfl, by decide +kernel, rfl, by decide +kernel, by decide +kernel⟩
theorem ok_bn (F : Fun K "_law_bent" "_law_bent" (top 14) f fd) (T : Txt mg a)
    {fd__law_inside : FuncData} (G__law_inside : FnOk P w K mg base CX0 1 a.a__law_inside fd__law_inside ["_law_piece"] spInside) (F__law_inside : Fun K "_law_inside" "_law_inside" (top 10) a.a__law_inside fd__law_inside) (b__law_inside : Binds K fd__law_inside ["_law_piece"] []) : FnOk P w K mg base CX0 2 f fd ["_law_piece", "_law_way", "_law_spot"] spBent := by
  refine F.ok sc_bn (fun vs H Q E h => ?_) (fun cdv A outer s H vs Q E hr h => ⟨S3.t_bn K, ?_, S3.rd_bn h⟩)
  · obtain ⟨_, _, _, _, rfl, _⟩ := h
    rfl
  have nd := sc_bn.nd
  have hu := hu_of hr
  have hu0 := hr.units0
  have p0 : ∀ {pos : Pos}, PE ((cxOf CX0 P w K mg base ["_law_piece", "_law_way", "_law_spot", "_law_order", "_law_todo", "_law_part", "_law_pile", "_law_k", "_law_many", "_law_kids", "_law_front"] "_law_bent" (defScope (top 14)) f cdv A outer s H E).nox) (.Name "_law_piece" pos) (tVar 0) := fun {pos} => pv 0
  have p1 : ∀ {pos : Pos}, PE ((cxOf CX0 P w K mg base ["_law_piece", "_law_way", "_law_spot", "_law_order", "_law_todo", "_law_part", "_law_pile", "_law_k", "_law_many", "_law_kids", "_law_front"] "_law_bent" (defScope (top 14)) f cdv A outer s H E).nox) (.Name "_law_way" pos) (tVar 1) := fun {pos} => pv 1
  have p2 : ∀ {pos : Pos}, PE ((cxOf CX0 P w K mg base ["_law_piece", "_law_way", "_law_spot", "_law_order", "_law_todo", "_law_part", "_law_pile", "_law_k", "_law_many", "_law_kids", "_law_front"] "_law_bent" (defScope (top 14)) f cdv A outer s H E).nox) (.Name "_law_spot" pos) (tVar 2) := fun {pos} => pv 2
  have p3 : ∀ {pos : Pos}, PE ((cxOf CX0 P w K mg base ["_law_piece", "_law_way", "_law_spot", "_law_order", "_law_todo", "_law_part", "_law_pile", "_law_k", "_law_many", "_law_kids", "_law_front"] "_law_bent" (defScope (top 14)) f cdv A outer s H E).nox) (.Name "_law_order" pos) (tVar 3) := fun {pos} => pv 3
  have p4 : ∀ {pos : Pos}, PE ((cxOf CX0 P w K mg base ["_law_piece", "_law_way", "_law_spot", "_law_order", "_law_todo", "_law_part", "_law_pile", "_law_k", "_law_many", "_law_kids", "_law_front"] "_law_bent" (defScope (top 14)) f cdv A outer s H E).nox) (.Name "_law_todo" pos) (tVar 4) := fun {pos} => pv 4
  have p5 : ∀ {pos : Pos}, PE ((cxOf CX0 P w K mg base ["_law_piece", "_law_way", "_law_spot", "_law_order", "_law_todo", "_law_part", "_law_pile", "_law_k", "_law_many", "_law_kids", "_law_front"] "_law_bent" (defScope (top 14)) f cdv A outer s H E).nox) (.Name "_law_part" pos) (tVar 5) := fun {pos} => pv 5
  have p6 : ∀ {pos : Pos}, PE ((cxOf CX0 P w K mg base ["_law_piece", "_law_way", "_law_spot", "_law_order", "_law_todo", "_law_part", "_law_pile", "_law_k", "_law_many", "_law_kids", "_law_front"] "_law_bent" (defScope (top 14)) f cdv A outer s H E).nox) (.Name "_law_pile" pos) (tVar 6) := fun {pos} => pv 6
  have p7 : ∀ {pos : Pos}, PE ((cxOf CX0 P w K mg base ["_law_piece", "_law_way", "_law_spot", "_law_order", "_law_todo", "_law_part", "_law_pile", "_law_k", "_law_many", "_law_kids", "_law_front"] "_law_bent" (defScope (top 14)) f cdv A outer s H E).nox) (.Name "_law_k" pos) (tVar 7) := fun {pos} => pv 7
  have p8 : ∀ {pos : Pos}, PE ((cxOf CX0 P w K mg base ["_law_piece", "_law_way", "_law_spot", "_law_order", "_law_todo", "_law_part", "_law_pile", "_law_k", "_law_many", "_law_kids", "_law_front"] "_law_bent" (defScope (top 14)) f cdv A outer s H E).nox) (.Name "_law_many" pos) (tVar 8) := fun {pos} => pv 8
  have p9 : ∀ {pos : Pos}, PE ((cxOf CX0 P w K mg base ["_law_piece", "_law_way", "_law_spot", "_law_order", "_law_todo", "_law_part", "_law_pile", "_law_k", "_law_many", "_law_kids", "_law_front"] "_law_bent" (defScope (top 14)) f cdv A outer s H E).nox) (.Name "_law_kids" pos) (tVar 9) := fun {pos} => pv 9
  have p10 : ∀ {pos : Pos}, PE ((cxOf CX0 P w K mg base ["_law_piece", "_law_way", "_law_spot", "_law_order", "_law_todo", "_law_part", "_law_pile", "_law_k", "_law_many", "_law_kids", "_law_front"] "_law_bent" (defScope (top 14)) f cdv A outer s H E).nox) (.Name "_law_front" pos) (tVar 10) := fun {pos} => pv 10
  have l3 : Loc (((cxOf CX0 P w K mg base ["_law_piece", "_law_way", "_law_spot", "_law_order", "_law_todo", "_law_part", "_law_pile", "_law_k", "_law_many", "_law_kids", "_law_front"] "_law_bent" (defScope (top 14)) f cdv A outer s H E).nox)).env.scope "_law_order" := by first | exact Or.inl rfl | exact Or.inr rfl
  have g3 : ∀ {pos : Pos}, PG ((cxOf CX0 P w K mg base ["_law_piece", "_law_way", "_law_spot", "_law_order", "_law_todo", "_law_part", "_law_pile", "_law_k", "_law_many", "_law_kids", "_law_front"] "_law_bent" (defScope (top 14)) f cdv A outer s H E).nox) (.Name "_law_order" pos) (gName 3) := fun {pos} => pg_name (i := 3) nd rfl l3
  have l4 : Loc (((cxOf CX0 P w K mg base ["_law_piece", "_law_way", "_law_spot", "_law_order", "_law_todo", "_law_part", "_law_pile", "_law_k", "_law_many", "_law_kids", "_law_front"] "_law_bent" (defScope (top 14)) f cdv A outer s H E).nox)).env.scope "_law_todo" := by first | exact Or.inl rfl | exact Or.inr rfl
  have g4 : ∀ {pos : Pos}, PG ((cxOf CX0 P w K mg base ["_law_piece", "_law_way", "_law_spot", "_law_order", "_law_todo", "_law_part", "_law_pile", "_law_k", "_law_many", "_law_kids", "_law_front"] "_law_bent" (defScope (top 14)) f cdv A outer s H E).nox) (.Name "_law_todo" pos) (gName 4) := fun {pos} => pg_name (i := 4) nd rfl l4
  have l5 : Loc (((cxOf CX0 P w K mg base ["_law_piece", "_law_way", "_law_spot", "_law_order", "_law_todo", "_law_part", "_law_pile", "_law_k", "_law_many", "_law_kids", "_law_front"] "_law_bent" (defScope (top 14)) f cdv A outer s H E).nox)).env.scope "_law_part" := by first | exact Or.inl rfl | exact Or.inr rfl
  have g5 : ∀ {pos : Pos}, PG ((cxOf CX0 P w K mg base ["_law_piece", "_law_way", "_law_spot", "_law_order", "_law_todo", "_law_part", "_law_pile", "_law_k", "_law_many", "_law_kids", "_law_front"] "_law_bent" (defScope (top 14)) f cdv A outer s H E).nox) (.Name "_law_part" pos) (gName 5) := fun {pos} => pg_name (i := 5) nd rfl l5
  have l6 : Loc (((cxOf CX0 P w K mg base ["_law_piece", "_law_way", "_law_spot", "_law_order", "_law_todo", "_law_part", "_law_pile", "_law_k", "_law_many", "_law_kids", "_law_front"] "_law_bent" (defScope (top 14)) f cdv A outer s H E).nox)).env.scope "_law_pile" := by first | exact Or.inl rfl | exact Or.inr rfl
  have g6 : ∀ {pos : Pos}, PG ((cxOf CX0 P w K mg base ["_law_piece", "_law_way", "_law_spot", "_law_order", "_law_todo", "_law_part", "_law_pile", "_law_k", "_law_many", "_law_kids", "_law_front"] "_law_bent" (defScope (top 14)) f cdv A outer s H E).nox) (.Name "_law_pile" pos) (gName 6) := fun {pos} => pg_name (i := 6) nd rfl l6
  have l7 : Loc (((cxOf CX0 P w K mg base ["_law_piece", "_law_way", "_law_spot", "_law_order", "_law_todo", "_law_part", "_law_pile", "_law_k", "_law_many", "_law_kids", "_law_front"] "_law_bent" (defScope (top 14)) f cdv A outer s H E).nox)).env.scope "_law_k" := by first | exact Or.inl rfl | exact Or.inr rfl
  have g7 : ∀ {pos : Pos}, PG ((cxOf CX0 P w K mg base ["_law_piece", "_law_way", "_law_spot", "_law_order", "_law_todo", "_law_part", "_law_pile", "_law_k", "_law_many", "_law_kids", "_law_front"] "_law_bent" (defScope (top 14)) f cdv A outer s H E).nox) (.Name "_law_k" pos) (gName 7) := fun {pos} => pg_name (i := 7) nd rfl l7
  have l8 : Loc (((cxOf CX0 P w K mg base ["_law_piece", "_law_way", "_law_spot", "_law_order", "_law_todo", "_law_part", "_law_pile", "_law_k", "_law_many", "_law_kids", "_law_front"] "_law_bent" (defScope (top 14)) f cdv A outer s H E).nox)).env.scope "_law_many" := by first | exact Or.inl rfl | exact Or.inr rfl
  have g8 : ∀ {pos : Pos}, PG ((cxOf CX0 P w K mg base ["_law_piece", "_law_way", "_law_spot", "_law_order", "_law_todo", "_law_part", "_law_pile", "_law_k", "_law_many", "_law_kids", "_law_front"] "_law_bent" (defScope (top 14)) f cdv A outer s H E).nox) (.Name "_law_many" pos) (gName 8) := fun {pos} => pg_name (i := 8) nd rfl l8
  have l9 : Loc (((cxOf CX0 P w K mg base ["_law_piece", "_law_way", "_law_spot", "_law_order", "_law_todo", "_law_part", "_law_pile", "_law_k", "_law_many", "_law_kids", "_law_front"] "_law_bent" (defScope (top 14)) f cdv A outer s H E).nox)).env.scope "_law_kids" := by first | exact Or.inl rfl | exact Or.inr rfl
  have g9 : ∀ {pos : Pos}, PG ((cxOf CX0 P w K mg base ["_law_piece", "_law_way", "_law_spot", "_law_order", "_law_todo", "_law_part", "_law_pile", "_law_k", "_law_many", "_law_kids", "_law_front"] "_law_bent" (defScope (top 14)) f cdv A outer s H E).nox) (.Name "_law_kids" pos) (gName 9) := fun {pos} => pg_name (i := 9) nd rfl l9
  have l10 : Loc (((cxOf CX0 P w K mg base ["_law_piece", "_law_way", "_law_spot", "_law_order", "_law_todo", "_law_part", "_law_pile", "_law_k", "_law_many", "_law_kids", "_law_front"] "_law_bent" (defScope (top 14)) f cdv A outer s H E).nox)).env.scope "_law_front" := by first | exact Or.inl rfl | exact Or.inr rfl
  have g10 : ∀ {pos : Pos}, PG ((cxOf CX0 P w K mg base ["_law_piece", "_law_way", "_law_spot", "_law_order", "_law_todo", "_law_part", "_law_pile", "_law_k", "_law_many", "_law_kids", "_law_front"] "_law_bent" (defScope (top 14)) f cdv A outer s H E).nox) (.Name "_law_front" pos) (gName 10) := fun {pos} => pg_name (i := 10) nd rfl l10
  have k_list : Gl ((cxOf CX0 P w K mg base ["_law_piece", "_law_way", "_law_spot", "_law_order", "_law_todo", "_law_part", "_law_pile", "_law_k", "_law_many", "_law_kids", "_law_front"] "_law_bent" (defScope (top 14)) f cdv A outer s H E).nox) "list" := by rfl
  have k_reversed : Gl ((cxOf CX0 P w K mg base ["_law_piece", "_law_way", "_law_spot", "_law_order", "_law_todo", "_law_part", "_law_pile", "_law_k", "_law_many", "_law_kids", "_law_front"] "_law_bent" (defScope (top 14)) f cdv A outer s H E).nox) "reversed" := by rfl
  have k_range : Gl ((cxOf CX0 P w K mg base ["_law_piece", "_law_way", "_law_spot", "_law_order", "_law_todo", "_law_part", "_law_pile", "_law_k", "_law_many", "_law_kids", "_law_front"] "_law_bent" (defScope (top 14)) f cdv A outer s H E).nox) "range" := by rfl
  have k_len : Gl ((cxOf CX0 P w K mg base ["_law_piece", "_law_way", "_law_spot", "_law_order", "_law_todo", "_law_part", "_law_pile", "_law_k", "_law_many", "_law_kids", "_law_front"] "_law_bent" (defScope (top 14)) f cdv A outer s H E).nox) "len" := by rfl
  have k_tuple : Gl ((cxOf CX0 P w K mg base ["_law_piece", "_law_way", "_law_spot", "_law_order", "_law_todo", "_law_part", "_law_pile", "_law_k", "_law_many", "_law_kids", "_law_front"] "_law_bent" (defScope (top 14)) f cdv A outer s H E).nox) "tuple" := by rfl
  have k__law_inside : Gl ((cxOf CX0 P w K mg base ["_law_piece", "_law_way", "_law_spot", "_law_order", "_law_todo", "_law_part", "_law_pile", "_law_k", "_law_many", "_law_kids", "_law_front"] "_law_bent" (defScope (top 14)) f cdv A outer s H E).nox) "_law_inside" := by rfl
  exact (pss_cons (ps_set (i := 3) nd rfl l3 (pe_lst pa_nil)) (pss_cons (ps_set (i := 4) nd rfl l4 (pe_lst (pa_cons p0 pa_nil))) (pss_cons (ps_while PassesOwn.never (pt_cmpR (op_neNil hu0) p4 (pe_lst pa_nil) (nomark _)) (pss_cons (ps_set (i := 5) nd rfl l5 (pe_bm0 PySem.F.plainAttrs_list PySem.F.slot_list_pop PySem.F.type_list_pop mt_pop p4)) (pss_cons (ps_expr (pe_bm PySem.F.plainAttrs_list PySem.F.slot_list_append PySem.F.type_list_append mt_append p3 (pa_cons p5 pa_nil))) (pss_one (ps_set (i := 4) nd rfl l4 (pe_op op_cat p4 (pe_revL rfl k_list T.n_list k_reversed T.n_reversed (pe_call G__law_inside (hr.mono (by decide)) k__law_inside T.g__law_inside F__law_inside.kp b__law_inside .nil pass0 (pa_cons p5 pa_nil))))))))) (pss_cons (ps_set (i := 6) nd rfl l6 (pe_lst pa_nil)) (pss_cons (ps_for PassesOwn.never rfl (pi_rangeD k_range T.n_range (pa_cons (pe_op op_sub (pe_callB call_len_seq k_len T.n_len bo_len (pa_cons p3 pa_nil)) pe_int) (pa_cons (pe_un un_neg pe_int) (pa_cons (pe_un un_neg pe_int) pa_nil)))) g7 (pss_cons (ps_set (i := 5) nd rfl l5 (pe_ix ix_list p3 p7 (fun _ _ => rfl))) (pss_cons (ps_set (i := 8) nd rfl l8 (pe_callB call_len_seq k_len T.n_len bo_len (pa_cons (pe_call G__law_inside (hr.mono (by decide)) k__law_inside T.g__law_inside F__law_inside.kp b__law_inside .nil pass0 (pa_cons p5 pa_nil)) pa_nil))) (pss_cons (ps_set (i := 9) nd rfl l9 (pe_revL rfl k_list T.n_list k_reversed T.n_reversed (pe_slice sl_list p6 (po_some (pe_op op_sub (pe_callB call_len_seq k_len T.n_len bo_len (pa_cons p6 pa_nil)) p8)) po_none))) (pss_cons (ps_set (i := 6) nd rfl l6 (pe_slice sl_list p6 po_none (po_some (pe_op op_sub (pe_callB call_len_seq k_len T.n_len bo_len (pa_cons p6 pa_nil)) p8)))) (pss_cons (ps_set (i := 10) nd rfl l10 (pe_lst (pa_cons (pe_ix ix_tup p5 pe_int (fun _ _ => rfl)) pa_nil))) (pss_cons (ps_if (pt_cmpR op_in_seq (pe_ix ix_tup p5 pe_int (fun _ _ => rfl)) (pe_lst (pa_cons pe_str (pa_cons pe_str (pa_cons pe_str pa_nil)))) (by with_unfolding_all rfl)) (pss_one (ps_expr (pe_bm PySem.F.plainAttrs_list PySem.F.slot_list_append PySem.F.type_list_append mt_append p10 (pa_cons (pe_ix ix_tup p5 pe_int (fun _ _ => rfl)) pa_nil)))) pss_nil) (pss_cons (ps_if (pw_and (pt_cmpR op_gt p1 pe_int (nomark _)) (pw_and (pt_cmpR op_eq p7 (pe_op op_mod p2 (pe_callB call_len_seq k_len T.n_len bo_len (pa_cons p3 pa_nil))) (nomark _)) (pw_and1 (pt_cmpR op_eq (pe_ix ix_tup p5 pe_int (fun _ _ => rfl)) pe_str (nomark _))))).pt (pss_one (ps_asg (pe_op op_add (pe_ix ix_tup p5 pe_int (fun _ _ => rfl)) pe_int) (pg_sub p10 pe_int set_list))) pss_nil) (pss_cons (ps_if (pw_and (pt_cmpR op_gt p1 pe_int (nomark _)) (pw_and (pt_cmpR op_eq p7 (pe_op op_mod p2 (pe_callB call_len_seq k_len T.n_len bo_len (pa_cons p3 pa_nil))) (nomark _)) (pw_and1 (pt_cmpR op_in_seq (pe_ix ix_tup p5 pe_int (fun _ _ => rfl)) (pe_lst (pa_cons pe_str (pa_cons pe_str pa_nil))) (by with_unfolding_all rfl))))).pt (pss_one (ps_asg pe_str (pg_sub p10 pe_int set_list))) pss_nil) (pss_one (ps_expr (pe_bm PySem.F.plainAttrs_list PySem.F.slot_list_append PySem.F.type_list_append mt_append p6 (pa_cons (pe_callTy call_tuple_of k_tuple T.n_tuple bo_tuple (pa_cons (pe_op op_cat p10 p9) pa_nil)) pa_nil))))))))))))) (pss_one (ps_ret (pe_ix ix_list p6 pe_int (fun _ _ => rfl)))))))))
theorem sc_sp : FnScope ["_law_tree", "_law_order", "_law_todo", "_law_node", "_law_letters", "_law_pile", "_law_many", "_law_kids", "_law_front", "_law_word"] ["_law_tree"] (defScope (top 15)) := ⟨rfl, rfl, rfl, by decide +kernel, rfl, by decide +kernel, by decide +kernel⟩
theorem ok_sp (F : Fun K "_law_spelt_out" "_law_spelt_out" (top 15) f fd) (T : Txt mg a) : FnOk P w K mg base CX0 1 f fd ["_law_tree"] spSpelt := by
  refine F.ok sc_sp (fun vs H Q E h => ?_) (fun cdv A outer s H vs Q E hr h => ⟨S3.t_sp K, ?_, S3.rd_sp h⟩)
  · obtain ⟨_, _, rfl, _⟩ := h
    rfl
  have nd := sc_sp.nd
  have hu := hu_of hr
  have hu0 := hr.units0
  have p0 : ∀ {pos : Pos}, PE ((cxOf CX0 P w K mg base ["_law_tree", "_law_order", "_law_todo", "_law_node", "_law_letters", "_law_pile", "_law_many", "_law_kids", "_law_front", "_law_word"] "_law_spelt_out" (defScope (top 15)) f cdv A outer s H E).nox) (.Name "_law_tree" pos) (tVar 0) := fun {pos} => pv 0
  have p1 : ∀ {pos : Pos}, PE ((cxOf CX0 P w K mg base ["_law_tree", "_law_order", "_law_todo", "_law_node", "_law_letters", "_law_pile", "_law_many", "_law_kids", "_law_front", "_law_word"] "_law_spelt_out" (defScope (top 15)) f cdv A outer s H E).nox) (.Name "_law_order" pos) (tVar 1) := fun {pos} => pv 1
  have p2 : ∀ {pos : Pos}, PE ((cxOf CX0 P w K mg base ["_law_tree", "_law_order", "_law_todo", "_law_node", "_law_letters", "_law_pile", "_law_many", "_law_kids", "_law_front", "_law_word"] "_law_spelt_out" (defScope (top 15)) f cdv A outer s H E).nox) (.Name "_law_todo" pos) (tVar 2) := fun {pos} => pv 2
  have p3 : ∀ {pos : Pos}, PE ((cxOf CX0 P w K mg base ["_law_tree", "_law_order", "_law_todo", "_law_node", "_law_letters", "_law_pile", "_law_many", "_law_kids", "_law_front", "_law_word"] "_law_spelt_out" (defScope (top 15)) f cdv A outer s H E).nox) (.Name "_law_node" pos) (tVar 3) := fun {pos} => pv 3
  have p4 : ∀ {pos : Pos}, PE ((cxOf CX0 P w K mg base ["_law_tree", "_law_order", "_law_todo", "_law_node", "_law_letters", "_law_pile", "_law_many", "_law_kids", "_law_front", "_law_word"] "_law_spelt_out" (defScope (top 15)) f cdv A outer s H E).nox) (.Name "_law_letters" pos) (tVar 4) := fun {pos} => pv 4
  have p5 : ∀ {pos : Pos}, PE ((cxOf CX0 P w K mg base ["_law_tree", "_law_order", "_law_todo", "_law_node", "_law_letters", "_law_pile", "_law_many", "_law_kids", "_law_front", "_law_word"] "_law_spelt_out" (defScope (top 15)) f cdv A outer s H E).nox) (.Name "_law_pile" pos) (tVar 5) := fun {pos} => pv 5
  have p6 : ∀ {pos : Pos}, PE ((cxOf CX0 P w K mg base ["_law_tree", "_law_order", "_law_todo", "_law_node", "_law_letters", "_law_pile", "_law_many", "_law_kids", "_law_front", "_law_word"] "_law_spelt_out" (defScope (top 15)) f cdv A outer s H E).nox) (.Name "_law_many" pos) (tVar 6) := fun {pos} => pv 6
  have p7 : ∀ {pos : Pos}, PE ((cxOf CX0 P w K mg base ["_law_tree", "_law_order", "_law_todo", "_law_node", "_law_letters", "_law_pile", "_law_many", "_law_kids", "_law_front", "_law_word"] "_law_spelt_out" (defScope (top 15)) f cdv A outer s H E).nox) (.Name "_law_kids" pos) (tVar 7) := fun {pos} => pv 7
  have p8 : ∀ {pos : Pos}, PE ((cxOf CX0 P w K mg base ["_law_tree", "_law_order", "_law_todo", "_law_node", "_law_letters", "_law_pile", "_law_many", "_law_kids", "_law_front", "_law_word"] "_law_spelt_out" (defScope (top 15)) f cdv A outer s H E).nox) (.Name "_law_front" pos) (tVar 8) := fun {pos} => pv 8
  have p9 : ∀ {pos : Pos}, PE ((cxOf CX0 P w K mg base ["_law_tree", "_law_order", "_law_todo", "_law_node", "_law_letters", "_law_pile", "_law_many", "_law_kids", "_law_front", "_law_word"] "_law_spelt_out" (defScope (top 15)) f cdv A outer s H E).nox) (.Name "_law_word" pos) (tVar 9) := fun {pos} => pv 9
  have l1 : Loc (((cxOf CX0 P w K mg base ["_law_tree", "_law_order", "_law_todo", "_law_node", "_law_letters", "_law_pile", "_law_many", "_law_kids", "_law_front", "_law_word"] "_law_spelt_out" (defScope (top 15)) f cdv A outer s H E).nox)).env.scope "_law_order" := by first | exact Or.inl rfl | exact Or.inr rfl
  have g1 : ∀ {pos : Pos}, PG ((cxOf CX0 P w K mg base ["_law_tree", "_law_order", "_law_todo", "_law_node", "_law_letters", "_law_pile", "_law_many", "_law_kids", "_law_front", "_law_word"] "_law_spelt_out" (defScope (top 15)) f cdv A outer s H E).nox) (.Name "_law_order" pos) (gName 1) := fun {pos} => pg_name (i := 1) nd rfl l1
  have l2 : Loc (((cxOf CX0 P w K mg base ["_law_tree", "_law_order", "_law_todo", "_law_node", "_law_letters", "_law_pile", "_law_many", "_law_kids", "_law_front", "_law_word"] "_law_spelt_out" (defScope (top 15)) f cdv A outer s H E).nox)).env.scope "_law_todo" := by first | exact Or.inl rfl | exact Or.inr rfl
  have g2 : ∀ {pos : Pos}, PG ((cxOf CX0 P w K mg base ["_law_tree", "_law_order", "_law_todo", "_law_node", "_law_letters", "_law_pile", "_law_many", "_law_kids", "_law_front", "_law_word"] "_law_spelt_out" (defScope (top 15)) f cdv A outer s H E).nox) (.Name "_law_todo" pos) (gName 2) := fun {pos} => pg_name (i := 2) nd rfl l2
  have l3 : Loc (((cxOf CX0 P w K mg base ["_law_tree", "_law_order", "_law_todo", "_law_node", "_law_letters", "_law_pile", "_law_many", "_law_kids", "_law_front", "_law_word"] "_law_spelt_out" (defScope (top 15)) f cdv A outer s H E).nox)).env.scope "_law_node" := by first | exact Or.inl rfl | exact Or.inr rfl
  have g3 : ∀ {pos : Pos}, PG ((cxOf CX0 P w K mg base ["_law_tree", "_law_order", "_law_todo", "_law_node", "_law_letters", "_law_pile", "_law_many", "_law_kids", "_law_front", "_law_word"] "_law_spelt_out" (defScope (top 15)) f cdv A outer s H E).nox) (.Name "_law_node" pos) (gName 3) := fun {pos} => pg_name (i := 3) nd rfl l3
  have l4 : Loc (((cxOf CX0 P w K mg base ["_law_tree", "_law_order", "_law_todo", "_law_node", "_law_letters", "_law_pile", "_law_many", "_law_kids", "_law_front", "_law_word"] "_law_spelt_out" (defScope (top 15)) f cdv A outer s H E).nox)).env.scope "_law_letters" := by first | exact Or.inl rfl | exact Or.inr rfl
  have g4 : ∀ {pos : Pos}, PG ((cxOf CX0 P w K mg base ["_law_tree", "_law_order", "_law_todo", "_law_node", "_law_letters", "_law_pile", "_law_many", "_law_kids", "_law_front", "_law_word"] "_law_spelt_out" (defScope (top 15)) f cdv A outer s H E).nox) (.Name "_law_letters" pos) (gName 4) := fun {pos} => pg_name (i := 4) nd rfl l4
  have l5 : Loc (((cxOf CX0 P w K mg base ["_law_tree", "_law_order", "_law_todo", "_law_node", "_law_letters", "_law_pile", "_law_many", "_law_kids", "_law_front", "_law_word"] "_law_spelt_out" (defScope (top 15)) f cdv A outer s H E).nox)).env.scope "_law_pile" := by first | exact Or.inl rfl | exact Or.inr rfl
  have g5 : ∀ {pos : Pos}, PG ((cxOf CX0 P w K mg base ["_law_tree", "_law_order", "_law_todo", "_law_node", "_law_letters", "_law_pile", "_law_many", "_law_kids", "_law_front", "_law_word"] "_law_spelt_out" (defScope (top 15)) f cdv A outer s H E).nox) (.Name "_law_pile" pos) (gName 5) := fun {pos} => pg_name (i := 5) nd rfl l5
  have l6 : Loc (((cxOf CX0 P w K mg base ["_law_tree", "_law_order", "_law_todo", "_law_node", "_law_letters", "_law_pile", "_law_many", "_law_kids", "_law_front", "_law_word"] "_law_spelt_out" (defScope (top 15)) f cdv A outer s H E).nox)).env.scope "_law_many" := by first | exact Or.inl rfl | exact Or.inr rfl
  have g6 : ∀ {pos : Pos}, PG ((cxOf CX0 P w K mg base ["_law_tree", "_law_order", "_law_todo", "_law_node", "_law_letters", "_law_pile", "_law_many", "_law_kids", "_law_front", "_law_word"] "_law_spelt_out" (defScope (top 15)) f cdv A outer s H E).nox) (.Name "_law_many" pos) (gName 6) := fun {pos} => pg_name (i := 6) nd rfl l6
  have l7 : Loc (((cxOf CX0 P w K mg base ["_law_tree", "_law_order", "_law_todo", "_law_node", "_law_letters", "_law_pile", "_law_many", "_law_kids", "_law_front", "_law_word"] "_law_spelt_out" (defScope (top 15)) f cdv A outer s H E).nox)).env.scope "_law_kids" := by first | exact Or.inl rfl | exact Or.inr rfl
  have g7 : ∀ {pos : Pos}, PG ((cxOf CX0 P w K mg base ["_law_tree", "_law_order", "_law_todo", "_law_node", "_law_letters", "_law_pile", "_law_many", "_law_kids", "_law_front", "_law_word"] "_law_spelt_out" (defScope (top 15)) f cdv A outer s H E).nox) (.Name "_law_kids" pos) (gName 7) := fun {pos} => pg_name (i := 7) nd rfl l7
  have l8 : Loc (((cxOf CX0 P w K mg base ["_law_tree", "_law_order", "_law_todo", "_law_node", "_law_letters", "_law_pile", "_law_many", "_law_kids", "_law_front", "_law_word"] "_law_spelt_out" (defScope (top 15)) f cdv A outer s H E).nox)).env.scope "_law_front" := by first | exact Or.inl rfl | exact Or.inr rfl
  have g8 : ∀ {pos : Pos}, PG ((cxOf CX0 P w K mg base ["_law_tree", "_law_order", "_law_todo", "_law_node", "_law_letters", "_law_pile", "_law_many", "_law_kids", "_law_front", "_law_word"] "_law_spelt_out" (defScope (top 15)) f cdv A outer s H E).nox) (.Name "_law_front" pos) (gName 8) := fun {pos} => pg_name (i := 8) nd rfl l8
  have l9 : Loc (((cxOf CX0 P w K mg base ["_law_tree", "_law_order", "_law_todo", "_law_node", "_law_letters", "_law_pile", "_law_many", "_law_kids", "_law_front", "_law_word"] "_law_spelt_out" (defScope (top 15)) f cdv A outer s H E).nox)).env.scope "_law_word" := by first | exact Or.inl rfl | exact Or.inr rfl
  have g9 : ∀ {pos : Pos}, PG ((cxOf CX0 P w K mg base ["_law_tree", "_law_order", "_law_todo", "_law_node", "_law_letters", "_law_pile", "_law_many", "_law_kids", "_law_front", "_law_word"] "_law_spelt_out" (defScope (top 15)) f cdv A outer s H E).nox) (.Name "_law_word" pos) (gName 9) := fun {pos} => pg_name (i := 9) nd rfl l9
  have k_list : Gl ((cxOf CX0 P w K mg base ["_law_tree", "_law_order", "_law_todo", "_law_node", "_law_letters", "_law_pile", "_law_many", "_law_kids", "_law_front", "_law_word"] "_law_spelt_out" (defScope (top 15)) f cdv A outer s H E).nox) "list" := by rfl
  have k_reversed : Gl ((cxOf CX0 P w K mg base ["_law_tree", "_law_order", "_law_todo", "_law_node", "_law_letters", "_law_pile", "_law_many", "_law_kids", "_law_front", "_law_word"] "_law_spelt_out" (defScope (top 15)) f cdv A outer s H E).nox) "reversed" := by rfl
  have k_len : Gl ((cxOf CX0 P w K mg base ["_law_tree", "_law_order", "_law_todo", "_law_node", "_law_letters", "_law_pile", "_law_many", "_law_kids", "_law_front", "_law_word"] "_law_spelt_out" (defScope (top 15)) f cdv A outer s H E).nox) "len" := by rfl
  have k_str : Gl ((cxOf CX0 P w K mg base ["_law_tree", "_law_order", "_law_todo", "_law_node", "_law_letters", "_law_pile", "_law_many", "_law_kids", "_law_front", "_law_word"] "_law_spelt_out" (defScope (top 15)) f cdv A outer s H E).nox) "str" := by rfl
  have k_isinstance : Gl ((cxOf CX0 P w K mg base ["_law_tree", "_law_order", "_law_todo", "_law_node", "_law_letters", "_law_pile", "_law_many", "_law_kids", "_law_front", "_law_word"] "_law_spelt_out" (defScope (top 15)) f cdv A outer s H E).nox) "isinstance" := by rfl
  have k_tuple : Gl ((cxOf CX0 P w K mg base ["_law_tree", "_law_order", "_law_todo", "_law_node", "_law_letters", "_law_pile", "_law_many", "_law_kids", "_law_front", "_law_word"] "_law_spelt_out" (defScope (top 15)) f cdv A outer s H E).nox) "tuple" := by rfl
  exact (pss_cons (ps_set (i := 1) nd rfl l1 (pe_lst pa_nil)) (pss_cons (ps_set (i := 2) nd rfl l2 (pe_lst (pa_cons p0 pa_nil))) (pss_cons (ps_while PassesOwn.never (pt_cmpR (op_neNil hu0) p2 (pe_lst pa_nil) (nomark _)) (pss_cons (ps_set (i := 3) nd rfl l3 (pe_bm0 PySem.F.plainAttrs_list PySem.F.slot_list_pop PySem.F.type_list_pop mt_pop p2)) (pss_cons (ps_expr (pe_bm PySem.F.plainAttrs_list PySem.F.slot_list_append PySem.F.type_list_append mt_append p1 (pa_cons p3 pa_nil))) (pss_one (ps_set (i := 2) nd rfl l2 (pe_op op_cat p2 (pe_revL rfl k_list T.n_list k_reversed T.n_reversed (pe_ix ix_tup p3 pe_int (fun _ _ => rfl))))))))) (pss_cons (ps_set (i := 4) nd rfl l4 pe_str) (pss_cons (ps_set (i := 5) nd rfl l5 (pe_lst pa_nil)) (pss_cons (ps_for PassesOwn.never rfl (pi_rev k_reversed T.n_reversed p1) g3 (pss_cons (ps_set (i := 6) nd rfl l6 (pe_callB call_len_seq k_len T.n_len bo_len (pa_cons (pe_ix ix_tup p3 pe_int (fun _ _ => rfl)) pa_nil))) (pss_cons (ps_set (i := 7) nd rfl l7 (pe_revL rfl k_list T.n_list k_reversed T.n_reversed (pe_slice sl_list p5 (po_some (pe_op op_sub (pe_callB call_len_seq k_len T.n_len bo_len (pa_cons p5 pa_nil)) p6)) po_none))) (pss_cons (ps_set (i := 5) nd rfl l5 (pe_slice sl_list p5 po_none (po_some (pe_op op_sub (pe_callB call_len_seq k_len T.n_len bo_len (pa_cons p5 pa_nil)) p6)))) (pss_cons (ps_set (i := 8) nd rfl l8 (pe_lst (pa_cons (pe_ix ix_tup p3 pe_int (fun _ _ => rfl)) pa_nil))) (pss_cons (ps_if (pt_cmpR op_in_seq (pe_ix ix_tup p3 pe_int (fun _ _ => rfl)) (pe_lst (pa_cons pe_str (pa_cons pe_str pa_nil))) (by with_unfolding_all rfl)) (pss_one (ps_expr (pe_bm PySem.F.plainAttrs_list PySem.F.slot_list_append PySem.F.type_list_append mt_append p8 (pa_cons (pe_ix ix_tup p3 pe_int (fun _ _ => rfl)) pa_nil)))) pss_nil) (pss_cons (ps_if (pw_or (pt_cmpR op_eq (pe_ix ix_tup p3 pe_int (fun _ _ => rfl)) pe_str (nomark _)) (pw_or1 (pw_and (pt_cmpR op_eq (pe_ix ix_tup p3 pe_int (fun _ _ => rfl)) pe_str (nomark _)) (pw_and1 (pt_not (pt_val (pe_callB call_isi k_isinstance T.n_isinstance bo_isinstance (pa_cons (pe_ix ix_tup p3 pe_int (fun _ _ => rfl)) (pa_cons (pe_bltn (v := .ty "str") k_str T.n_str bo_str rfl) pa_nil))))))).pt)).pt (pss_cons (ps_set (i := 9) nd rfl l9 (pe_op op_add_str (pe_op op_add_str pe_str (pe_ix ix_str p4 (pe_op op_mod (pe_op op_fdiv (pe_ix ix_tup p3 pe_int (fun _ _ => rfl)) pe_int) pe_int) (fun _ _ => rfl))) (pe_ix ix_str p4 (pe_op op_mod (pe_ix ix_tup p3 pe_int (fun _ _ => rfl)) pe_int) (fun _ _ => rfl)))) (pss_one (ps_set (i := 8) nd rfl l8 (pe_lst (pa_cons (pe_ix ix_tup p3 pe_int (fun _ _ => rfl)) (pa_cons p9 pa_nil)))))) pss_nil) (pss_one (ps_expr (pe_bm PySem.F.plainAttrs_list PySem.F.slot_list_append PySem.F.type_list_append mt_append p5 (pa_cons (pe_callTy call_tuple_of k_tuple T.n_tuple bo_tuple (pa_cons (pe_op op_cat p8 p7) pa_nil)) pa_nil))))))))))) (pss_one (ps_ret (pe_ix ix_list p5 pe_int (fun _ _ => rfl))))))))))
theorem sc_law : FnScope ["_law_script", "_law_one", "_law_other", "_law_due", "_law_pair", "_law_told", "_law_same"] ["_law_script"] (defScope (top 19)) := ⟨rfl, rfl, rfl, by decide +kernel, rfl, by decide +kernel, by decide +kernel⟩
theorem ok_law (F : Fun K "law" "law" (top 19) f fd) (T : Txt mg a)
    {fd__law_room : FuncData} (G__law_room : FnOk P w K mg base CX0 1 a.a__law_room fd__law_room ["_law_script", "_law_most", "_law_bound"] (spRoom K)) (F__law_room : Fun K "_law_room" "_law_room" (top 18) a.a__law_room fd__law_room) (b__law_room : Binds K fd__law_room ["_law_script", "_law_most", "_law_bound"] [])
    {fd__law_drawn_piece : FuncData} (G__law_drawn_piece : FnOk P w K mg base CX0 2 a.a__law_drawn_piece fd__law_drawn_piece ["_law_cells", "_law_stamps"] (spDrawn K S0)) (F__law_drawn_piece : Fun K "_law_drawn_piece" "_law_drawn_piece" (top 9) a.a__law_drawn_piece fd__law_drawn_piece) (b__law_drawn_piece : Binds K fd__law_drawn_piece ["_law_cells", "_law_stamps"] [])
    {fd__law_reworded : FuncData} (G__law_reworded : FnOk P w K mg base CX0 2 a.a__law_reworded fd__law_reworded ["_law_piece", "_law_places", "_law_tail"] spRew) (F__law_reworded : Fun K "_law_reworded" "_law_reworded" (top 13) a.a__law_reworded fd__law_reworded) (b__law_reworded : Binds K fd__law_reworded ["_law_piece", "_law_places", "_law_tail"] [])
    {fd__law_at : FuncData} (G__law_at : FnOk P w K mg base CX0 1 a.a__law_at fd__law_at ["_law_script", "_law_k"] (spAt3 K)) (F__law_at : Fun K "_law_at" "_law_at" (top 8) a.a__law_at fd__law_at) (b__law_at : Binds K fd__law_at ["_law_script", "_law_k"] [])
    {fd__law_noted : FuncData} (G__law_noted : FnOk P w K mg base CX0 2 a.a__law_noted fd__law_noted ["_law_piece", "_law_source", "_law_given", "_law_count"] spNoted) (F__law_noted : Fun K "_law_noted" "_law_noted" (top 11) a.a__law_noted fd__law_noted) (b__law_noted : Binds K fd__law_noted ["_law_piece", "_law_source", "_law_given", "_law_count"] [])
    {fd__law_spelt_out : FuncData} (G__law_spelt_out : FnOk P w K mg base CX0 1 a.a__law_spelt_out fd__law_spelt_out ["_law_tree"] spSpelt) (F__law_spelt_out : Fun K "_law_spelt_out" "_law_spelt_out" (top 15) a.a__law_spelt_out fd__law_spelt_out) (b__law_spelt_out : Binds K fd__law_spelt_out ["_law_tree"] [])
    {fd__law_bent : FuncData} (G__law_bent : FnOk P w K mg base CX0 2 a.a__law_bent fd__law_bent ["_law_piece", "_law_way", "_law_spot"] spBent) (F__law_bent : Fun K "_law_bent" "_law_bent" (top 14) a.a__law_bent fd__law_bent) (b__law_bent : Binds K fd__law_bent ["_law_piece", "_law_way", "_law_spot"] [])
    {fd__law_goes_with : FuncData} (G__law_goes_with : FnOk P w K mg base CX0 2 a.a__law_goes_with fd__law_goes_with ["_law_found", "_law_tree"] spGoes) (F__law_goes_with : Fun K "_law_goes_with" "_law_goes_with" (top 12) a.a__law_goes_with fd__law_goes_with) (b__law_goes_with : Binds K fd__law_goes_with ["_law_found", "_law_tree"] [])
    {fd_same_but_words : FuncData} (G_same_but_words : FnOk P w K mg base CX0 3 a.a_same_but_words fd_same_but_words ["one", "other"] spSbw) (F_same_but_words : Fun K "same_but_words" "same_but_words" (top 6) a.a_same_but_words fd_same_but_words) (b_same_but_words : Binds K fd_same_but_words ["one", "other"] []) : FnOk P w K mg base CX0 4 f fd ["_law_script"] (spLaw3 K) := by
  refine F.ok sc_law (fun vs H Q E h => ?_) (fun cdv A outer s H vs Q E hr h => ⟨S3.t_law K, ?_, S3.rd_law h⟩)
  · obtain ⟨_, _, rfl, _⟩ := h
    rfl
  have nd := sc_law.nd
  have hu := hu_of hr
  have hu0 := hr.units0
  have p0 : ∀ {pos : Pos}, PE ((cxOf CX0 P w K mg base ["_law_script", "_law_one", "_law_other", "_law_due", "_law_pair", "_law_told", "_law_same"] "law" (defScope (top 19)) f cdv A outer s H E).nox) (.Name "_law_script" pos) (tVar 0) := fun {pos} => pv 0
  have p1 : ∀ {pos : Pos}, PE ((cxOf CX0 P w K mg base ["_law_script", "_law_one", "_law_other", "_law_due", "_law_pair", "_law_told", "_law_same"] "law" (defScope (top 19)) f cdv A outer s H E).nox) (.Name "_law_one" pos) (tVar 1) := fun {pos} => pv 1
  have p2 : ∀ {pos : Pos}, PE ((cxOf CX0 P w K mg base ["_law_script", "_law_one", "_law_other", "_law_due", "_law_pair", "_law_told", "_law_same"] "law" (defScope (top 19)) f cdv A outer s H E).nox) (.Name "_law_other" pos) (tVar 2) := fun {pos} => pv 2
  have p3 : ∀ {pos : Pos}, PE ((cxOf CX0 P w K mg base ["_law_script", "_law_one", "_law_other", "_law_due", "_law_pair", "_law_told", "_law_same"] "law" (defScope (top 19)) f cdv A outer s H E).nox) (.Name "_law_due" pos) (tVar 3) := fun {pos} => pv 3
  have p4 : ∀ {pos : Pos}, PE ((cxOf CX0 P w K mg base ["_law_script", "_law_one", "_law_other", "_law_due", "_law_pair", "_law_told", "_law_same"] "law" (defScope (top 19)) f cdv A outer s H E).nox) (.Name "_law_pair" pos) (tVar 4) := fun {pos} => pv 4
  have p5 : ∀ {pos : Pos}, PE ((cxOf CX0 P w K mg base ["_law_script", "_law_one", "_law_other", "_law_due", "_law_pair", "_law_told", "_law_same"] "law" (defScope (top 19)) f cdv A outer s H E).nox) (.Name "_law_told" pos) (tVar 5) := fun {pos} => pv 5
  have p6 : ∀ {pos : Pos}, PE ((cxOf CX0 P w K mg base ["_law_script", "_law_one", "_law_other", "_law_due", "_law_pair", "_law_told", "_law_same"] "law" (defScope (top 19)) f cdv A outer s H E).nox) (.Name "_law_same" pos) (tVar 6) := fun {pos} => pv 6
  have l1 : Loc (((cxOf CX0 P w K mg base ["_law_script", "_law_one", "_law_other", "_law_due", "_law_pair", "_law_told", "_law_same"] "law" (defScope (top 19)) f cdv A outer s H E).nox)).env.scope "_law_one" := by first | exact Or.inl rfl | exact Or.inr rfl
  have g1 : ∀ {pos : Pos}, PG ((cxOf CX0 P w K mg base ["_law_script", "_law_one", "_law_other", "_law_due", "_law_pair", "_law_told", "_law_same"] "law" (defScope (top 19)) f cdv A outer s H E).nox) (.Name "_law_one" pos) (gName 1) := fun {pos} => pg_name (i := 1) nd rfl l1
  have l2 : Loc (((cxOf CX0 P w K mg base ["_law_script", "_law_one", "_law_other", "_law_due", "_law_pair", "_law_told", "_law_same"] "law" (defScope (top 19)) f cdv A outer s H E).nox)).env.scope "_law_other" := by first | exact Or.inl rfl | exact Or.inr rfl
  have g2 : ∀ {pos : Pos}, PG ((cxOf CX0 P w K mg base ["_law_script", "_law_one", "_law_other", "_law_due", "_law_pair", "_law_told", "_law_same"] "law" (defScope (top 19)) f cdv A outer s H E).nox) (.Name "_law_other" pos) (gName 2) := fun {pos} => pg_name (i := 2) nd rfl l2
  have l3 : Loc (((cxOf CX0 P w K mg base ["_law_script", "_law_one", "_law_other", "_law_due", "_law_pair", "_law_told", "_law_same"] "law" (defScope (top 19)) f cdv A outer s H E).nox)).env.scope "_law_due" := by first | exact Or.inl rfl | exact Or.inr rfl
  have g3 : ∀ {pos : Pos}, PG ((cxOf CX0 P w K mg base ["_law_script", "_law_one", "_law_other", "_law_due", "_law_pair", "_law_told", "_law_same"] "law" (defScope (top 19)) f cdv A outer s H E).nox) (.Name "_law_due" pos) (gName 3) := fun {pos} => pg_name (i := 3) nd rfl l3
  have l4 : Loc (((cxOf CX0 P w K mg base ["_law_script", "_law_one", "_law_other", "_law_due", "_law_pair", "_law_told", "_law_same"] "law" (defScope (top 19)) f cdv A outer s H E).nox)).env.scope "_law_pair" := by first | exact Or.inl rfl | exact Or.inr rfl
  have g4 : ∀ {pos : Pos}, PG ((cxOf CX0 P w K mg base ["_law_script", "_law_one", "_law_other", "_law_due", "_law_pair", "_law_told", "_law_same"] "law" (defScope (top 19)) f cdv A outer s H E).nox) (.Name "_law_pair" pos) (gName 4) := fun {pos} => pg_name (i := 4) nd rfl l4
  have l5 : Loc (((cxOf CX0 P w K mg base ["_law_script", "_law_one", "_law_other", "_law_due", "_law_pair", "_law_told", "_law_same"] "law" (defScope (top 19)) f cdv A outer s H E).nox)).env.scope "_law_told" := by first | exact Or.inl rfl | exact Or.inr rfl
  have g5 : ∀ {pos : Pos}, PG ((cxOf CX0 P w K mg base ["_law_script", "_law_one", "_law_other", "_law_due", "_law_pair", "_law_told", "_law_same"] "law" (defScope (top 19)) f cdv A outer s H E).nox) (.Name "_law_told" pos) (gName 5) := fun {pos} => pg_name (i := 5) nd rfl l5
  have l6 : Loc (((cxOf CX0 P w K mg base ["_law_script", "_law_one", "_law_other", "_law_due", "_law_pair", "_law_told", "_law_same"] "law" (defScope (top 19)) f cdv A outer s H E).nox)).env.scope "_law_same" := by first | exact Or.inl rfl | exact Or.inr rfl
  have g6 : ∀ {pos : Pos}, PG ((cxOf CX0 P w K mg base ["_law_script", "_law_one", "_law_other", "_law_due", "_law_pair", "_law_told", "_law_same"] "law" (defScope (top 19)) f cdv A outer s H E).nox) (.Name "_law_same" pos) (gName 6) := fun {pos} => pg_name (i := 6) nd rfl l6
  have k_bool : Gl ((cxOf CX0 P w K mg base ["_law_script", "_law_one", "_law_other", "_law_due", "_law_pair", "_law_told", "_law_same"] "law" (defScope (top 19)) f cdv A outer s H E).nox) "bool" := by rfl
  have k_isinstance : Gl ((cxOf CX0 P w K mg base ["_law_script", "_law_one", "_law_other", "_law_due", "_law_pair", "_law_told", "_law_same"] "law" (defScope (top 19)) f cdv A outer s H E).nox) "isinstance" := by rfl
  have k__law_room : Gl ((cxOf CX0 P w K mg base ["_law_script", "_law_one", "_law_other", "_law_due", "_law_pair", "_law_told", "_law_same"] "law" (defScope (top 19)) f cdv A outer s H E).nox) "_law_room" := by rfl
  have k__law_drawn_piece : Gl ((cxOf CX0 P w K mg base ["_law_script", "_law_one", "_law_other", "_law_due", "_law_pair", "_law_told", "_law_same"] "law" (defScope (top 19)) f cdv A outer s H E).nox) "_law_drawn_piece" := by rfl
  have k__law_reworded : Gl ((cxOf CX0 P w K mg base ["_law_script", "_law_one", "_law_other", "_law_due", "_law_pair", "_law_told", "_law_same"] "law" (defScope (top 19)) f cdv A outer s H E).nox) "_law_reworded" := by rfl
  have k__law_at : Gl ((cxOf CX0 P w K mg base ["_law_script", "_law_one", "_law_other", "_law_due", "_law_pair", "_law_told", "_law_same"] "law" (defScope (top 19)) f cdv A outer s H E).nox) "_law_at" := by rfl
  have k__law_noted : Gl ((cxOf CX0 P w K mg base ["_law_script", "_law_one", "_law_other", "_law_due", "_law_pair", "_law_told", "_law_same"] "law" (defScope (top 19)) f cdv A outer s H E).nox) "_law_noted" := by rfl
  have k__law_spelt_out : Gl ((cxOf CX0 P w K mg base ["_law_script", "_law_one", "_law_other", "_law_due", "_law_pair", "_law_told", "_law_same"] "law" (defScope (top 19)) f cdv A outer s H E).nox) "_law_spelt_out" := by rfl
  have k__law_bent : Gl ((cxOf CX0 P w K mg base ["_law_script", "_law_one", "_law_other", "_law_due", "_law_pair", "_law_told", "_law_same"] "law" (defScope (top 19)) f cdv A outer s H E).nox) "_law_bent" := by rfl
  have k__law_goes_with : Gl ((cxOf CX0 P w K mg base ["_law_script", "_law_one", "_law_other", "_law_due", "_law_pair", "_law_told", "_law_same"] "law" (defScope (top 19)) f cdv A outer s H E).nox) "_law_goes_with" := by rfl
  have k_same_but_words : Gl ((cxOf CX0 P w K mg base ["_law_script", "_law_one", "_law_other", "_law_due", "_law_pair", "_law_told", "_law_same"] "law" (defScope (top 19)) f cdv A outer s H E).nox) "same_but_words" := by rfl
  exact (pss_cons (ps_set (i := 1) nd rfl l1 (pe_call G__law_drawn_piece (hr.mono (by decide)) k__law_drawn_piece T.g__law_drawn_piece F__law_drawn_piece.kp b__law_drawn_piece .nil pass0 (pa_cons (pe_slice sl_list p0 (po_some pe_int) (po_some (pe_op op_add pe_int (pe_call G__law_room (hr.mono (by decide)) k__law_room T.g__law_room F__law_room.kp b__law_room .nil pass0 (pa_cons p0 (pa_cons pe_int (pa_cons pe_int pa_nil))))))) (pa_cons (pe_lst pa_nil) pa_nil)))) (pss_cons (ps_set (i := 2) nd rfl l2 (pe_call G__law_reworded (hr.mono (by decide)) k__law_reworded T.g__law_reworded F__law_reworded.kp b__law_reworded .nil pass0 (pa_cons p1 (pa_cons (pe_lst pa_nil) (pa_cons pe_str pa_nil))))) (pss_cons (ps_if (pt_cmpR op_eq (pe_op op_mod (pe_op op_fdiv (pe_call G__law_at (hr.mono (by decide)) k__law_at T.g__law_at F__law_at.kp b__law_at .nil pass0 (pa_cons p0 (pa_cons pe_int pa_nil))) pe_int) pe_int) pe_int (nomark _)) (pss_one (ps_set (i := 2) nd rfl l2 (pe_call G__law_spelt_out (hr.mono (by decide)) k__law_spelt_out T.g__law_spelt_out F__law_spelt_out.kp b__law_spelt_out .nil pass0 (pa_cons (pe_ix ix_tup (pe_call G__law_noted (hr.mono (by decide)) k__law_noted T.g__law_noted F__law_noted.kp b__law_noted .nil pass0 (pa_cons p1 (pa_cons pe_str (pa_cons pe_dnewK (pa_cons pe_int pa_nil))))) pe_int (fun _ _ => rfl)) pa_nil)))) pss_nil) (pss_cons (ps_set (i := 2) nd rfl l2 (pe_call G__law_bent (hr.mono (by decide)) k__law_bent T.g__law_bent F__law_bent.kp b__law_bent .nil pass0 (pa_cons p2 (pa_cons (pe_op op_mod (pe_call G__law_at (hr.mono (by decide)) k__law_at T.g__law_at F__law_at.kp b__law_at .nil pass0 (pa_cons p0 (pa_cons pe_int pa_nil))) pe_int) (pa_cons (pe_call G__law_at (hr.mono (by decide)) k__law_at T.g__law_at F__law_at.kp b__law_at .nil pass0 (pa_cons p0 (pa_cons pe_int pa_nil))) pa_nil))))) (pss_cons (ps_set (i := 3) nd rfl l3 (pe_call G__law_goes_with (hr.mono (by decide)) k__law_goes_with T.g__law_goes_with F__law_goes_with.kp b__law_goes_with .nil pass0 (pa_cons p2 (pa_cons (pe_ix ix_tup (pe_call G__law_noted (hr.mono (by decide)) k__law_noted T.g__law_noted F__law_noted.kp b__law_noted .nil pass0 (pa_cons p1 (pa_cons pe_str (pa_cons pe_dnewK (pa_cons pe_int pa_nil))))) pe_int (fun _ _ => rfl)) pa_nil)))) (pss_cons (ps_for PassesOwn.never rfl (pi_list (pe_lst (pa_cons (pe_tup (pa_cons p1 (pa_cons p2 pa_nil))) (pa_cons (pe_tup (pa_cons p2 (pa_cons p1 pa_nil))) pa_nil)))) g4 (pss_cons (ps_set (i := 5) nd rfl l5 (pe_call G_same_but_words (hr.mono (by decide)) k_same_but_words T.g_same_but_words F_same_but_words.kp b_same_but_words .nil pass0 (pa_cons (pe_ix ix_tup p4 pe_int (fun _ _ => rfl)) (pa_cons (pe_ix ix_tup p4 pe_int (fun _ _ => rfl)) pa_nil)))) (pss_one (ps_if (pw_or (pt_not (pt_val (pe_callB call_isi k_isinstance T.n_isinstance bo_isinstance (pa_cons p5 (pa_cons (pe_bltn (v := .ty "bool") k_bool T.n_bool bo_bool rfl) pa_nil))))) (pw_or1 (pt_cmpR op_ne p5 p3 (nomark _)))).pt (pss_one (ps_ret pe_bl)) pss_nil)))) (pss_cons (ps_set (i := 6) nd rfl l6 (pe_call G_same_but_words (hr.mono (by decide)) k_same_but_words T.g_same_but_words F_same_but_words.kp b_same_but_words .nil pass0 (pa_cons p1 (pa_cons p1 pa_nil)))) (pss_one (ps_ret (pe_and (pe_callB call_isi k_isinstance T.n_isinstance bo_isinstance (pa_cons p6 (pa_cons (pe_bltn (v := .ty "bool") k_bool T.n_bool bo_bool rfl) pa_nil))) (pe_one p6)))))))))))
end
end K3

set_option Elab.async false
set_option linter.all false
set_option maxRecDepth 100000
set_option maxHeartbeats 4000000
namespace K3
open PySem L2 SW
theorem all_mk {l : PySem.W.OpenLaw} {w : World} {K : PySem.W.Frag} {h : Heap} {mg : Str → Option Value} {fa : Addr} (X : K.In h) (G : h.Ns mainGlobals mg) (hfa : mg "law" = some (.ref fa))
    {f0 : Addr} {od0 an0 : Option Addr} {sl0 : Array (Option Value)} {oc0 kV0 dc0 pm0 cd0 ct0 : Value}
    {f1 : Addr} {od1 an1 : Option Addr} {sl1 : Array (Option Value)} {oc1 kV1 dc1 pm1 cd1 ct1 : Value}
    {f2 : Addr} {od2 an2 : Option Addr} {sl2 : Array (Option Value)} {oc2 kV2 dc2 pm2 cd2 ct2 : Value}
    {f3 : Addr} {od3 an3 : Option Addr} {sl3 : Array (Option Value)} {oc3 kV3 dc3 pm3 cd3 ct3 : Value}
    {f4 : Addr} {od4 an4 : Option Addr} {sl4 : Array (Option Value)} {oc4 kV4 dc4 pm4 cd4 ct4 : Value}
    {f5 : Addr} {od5 an5 : Option Addr} {sl5 : Array (Option Value)} {oc5 kV5 dc5 pm5 cd5 ct5 : Value}
    {f6 : Addr} {od6 an6 : Option Addr} {sl6 : Array (Option Value)} {oc6 kV6 dc6 pm6 cd6 ct6 : Value}
    {f7 : Addr} {od7 an7 : Option Addr} {sl7 : Array (Option Value)} {oc7 kV7 dc7 pm7 cd7 ct7 : Value}
    {f8 : Addr} {od8 an8 : Option Addr} {sl8 : Array (Option Value)} {oc8 kV8 dc8 pm8 cd8 ct8 : Value}
    {f9 : Addr} {od9 an9 : Option Addr} {sl9 : Array (Option Value)} {oc9 kV9 dc9 pm9 cd9 ct9 : Value}
    {f10 : Addr} {od10 an10 : Option Addr} {sl10 : Array (Option Value)} {oc10 kV10 dc10 pm10 cd10 ct10 : Value}
    {f11 : Addr} {od11 an11 : Option Addr} {sl11 : Array (Option Value)} {oc11 kV11 dc11 pm11 cd11 ct11 : Value}
    {f12 : Addr} {od12 an12 : Option Addr} {sl12 : Array (Option Value)} {oc12 kV12 dc12 pm12 cd12 ct12 : Value}
    {f13 : Addr} {od13 an13 : Option Addr} {sl13 : Array (Option Value)} {oc13 kV13 dc13 pm13 cd13 ct13 : Value}
    {f14 : Addr} {od14 an14 : Option Addr} {sl14 : Array (Option Value)} {oc14 kV14 dc14 pm14 cd14 ct14 : Value}
    {f15 : Addr} {od15 an15 : Option Addr} {sl15 : Array (Option Value)} {oc15 kV15 dc15 pm15 cd15 ct15 : Value}
    {f16 : Addr} {od16 an16 : Option Addr} {sl16 : Array (Option Value)} {oc16 kV16 dc16 pm16 cd16 ct16 : Value}
    (a0 : PySem.W.nsIn K mainGlobals "_law_any" = some (some (.ref f0)))
    (l0 : K.lookup f0 = some ⟨oc0, od0, .func (PySem.W.fnOf "_law_any" "_law_any" (defArgs (top 17)) (defBody (top 17)) (defScope (top 17)) .none kV0 dc0 pm0 an0 cd0 ct0), sl0⟩)
    (c0 : PySem.W.codeIn K cd0 "_law_any" = true)
    (k0 : PySem.W.keepIn K (.ref f0) = true)
    (a1 : PySem.W.nsIn K mainGlobals "_law_any_word" = some (some (.ref f1)))
    (l1 : K.lookup f1 = some ⟨oc1, od1, .func (PySem.W.fnOf "_law_any_word" "_law_any_word" (defArgs (top 16)) (defBody (top 16)) (defScope (top 16)) .none kV1 dc1 pm1 an1 cd1 ct1), sl1⟩)
    (c1 : PySem.W.codeIn K cd1 "_law_any_word" = true)
    (k1 : PySem.W.keepIn K (.ref f1) = true)
    (a2 : PySem.W.nsIn K mainGlobals "_law_room" = some (some (.ref f2)))
    (l2 : K.lookup f2 = some ⟨oc2, od2, .func (PySem.W.fnOf "_law_room" "_law_room" (defArgs (top 18)) (defBody (top 18)) (defScope (top 18)) .none kV2 dc2 pm2 an2 cd2 ct2), sl2⟩)
    (c2 : PySem.W.codeIn K cd2 "_law_room" = true)
    (k2 : PySem.W.keepIn K (.ref f2) = true)
    (a3 : PySem.W.nsIn K mainGlobals "_law_inside" = some (some (.ref f3)))
    (l3 : K.lookup f3 = some ⟨oc3, od3, .func (PySem.W.fnOf "_law_inside" "_law_inside" (defArgs (top 10)) (defBody (top 10)) (defScope (top 10)) .none kV3 dc3 pm3 an3 cd3 ct3), sl3⟩)
    (c3 : PySem.W.codeIn K cd3 "_law_inside" = true)
    (k3 : PySem.W.keepIn K (.ref f3) = true)
    (a4 : PySem.W.nsIn K mainGlobals "_law_at" = some (some (.ref f4)))
    (l4 : K.lookup f4 = some ⟨oc4, od4, .func (PySem.W.fnOf "_law_at" "_law_at" (defArgs (top 8)) (defBody (top 8)) (defScope (top 8)) .none kV4 dc4 pm4 an4 cd4 ct4), sl4⟩)
    (c4 : PySem.W.codeIn K cd4 "_law_at" = true)
    (k4 : PySem.W.keepIn K (.ref f4) = true)
    (a5 : PySem.W.nsIn K mainGlobals "_law_drawn_piece" = some (some (.ref f5)))
    (l5 : K.lookup f5 = some ⟨oc5, od5, .func (PySem.W.fnOf "_law_drawn_piece" "_law_drawn_piece" (defArgs (top 9)) (defBody (top 9)) (defScope (top 9)) .none kV5 dc5 pm5 an5 cd5 ct5), sl5⟩)
    (c5 : PySem.W.codeIn K cd5 "_law_drawn_piece" = true)
    (k5 : PySem.W.keepIn K (.ref f5) = true)
    (a6 : PySem.W.nsIn K mainGlobals "_law_noted" = some (some (.ref f6)))
    (l6 : K.lookup f6 = some ⟨oc6, od6, .func (PySem.W.fnOf "_law_noted" "_law_noted" (defArgs (top 11)) (defBody (top 11)) (defScope (top 11)) .none kV6 dc6 pm6 an6 cd6 ct6), sl6⟩)
    (c6 : PySem.W.codeIn K cd6 "_law_noted" = true)
    (k6 : PySem.W.keepIn K (.ref f6) = true)
    (a7 : PySem.W.nsIn K mainGlobals "_law_goes_with" = some (some (.ref f7)))
    (l7 : K.lookup f7 = some ⟨oc7, od7, .func (PySem.W.fnOf "_law_goes_with" "_law_goes_with" (defArgs (top 12)) (defBody (top 12)) (defScope (top 12)) .none kV7 dc7 pm7 an7 cd7 ct7), sl7⟩)
    (c7 : PySem.W.codeIn K cd7 "_law_goes_with" = true)
    (k7 : PySem.W.keepIn K (.ref f7) = true)
    (a8 : PySem.W.nsIn K mainGlobals "parts" = some (some (.ref f8)))
    (l8 : K.lookup f8 = some ⟨oc8, od8, .func (PySem.W.fnOf "parts" "parts" (defArgs (top 1)) (defBody (top 1)) (defScope (top 1)) .none kV8 dc8 pm8 an8 cd8 ct8), sl8⟩)
    (c8 : PySem.W.codeIn K cd8 "parts" = true)
    (k8 : PySem.W.keepIn K (.ref f8) = true)
    (a9 : PySem.W.nsIn K mainGlobals "with_word" = some (some (.ref f9)))
    (l9 : K.lookup f9 = some ⟨oc9, od9, .func (PySem.W.fnOf "with_word" "with_word" (defArgs (top 2)) (defBody (top 2)) (defScope (top 2)) .none kV9 dc9 pm9 an9 cd9 ct9), sl9⟩)
    (c9 : PySem.W.codeIn K cd9 "with_word" = true)
    (k9 : PySem.W.keepIn K (.ref f9) = true)
    (a10 : PySem.W.nsIn K mainGlobals "same_by_itself" = some (some (.ref f10)))
    (l10 : K.lookup f10 = some ⟨oc10, od10, .func (PySem.W.fnOf "same_by_itself" "same_by_itself" (defArgs (top 4)) (defBody (top 4)) (defScope (top 4)) .none kV10 dc10 pm10 an10 cd10 ct10), sl10⟩)
    (c10 : PySem.W.codeIn K cd10 "same_by_itself" = true)
    (k10 : PySem.W.keepIn K (.ref f10) = true)
    (a11 : PySem.W.nsIn K mainGlobals "pairs_within" = some (some (.ref f11)))
    (l11 : K.lookup f11 = some ⟨oc11, od11, .func (PySem.W.fnOf "pairs_within" "pairs_within" (defArgs (top 5)) (defBody (top 5)) (defScope (top 5)) .none kV11 dc11 pm11 an11 cd11 ct11), sl11⟩)
    (c11 : PySem.W.codeIn K cd11 "pairs_within" = true)
    (k11 : PySem.W.keepIn K (.ref f11) = true)
    (a12 : PySem.W.nsIn K mainGlobals "same_but_words" = some (some (.ref f12)))
    (l12 : K.lookup f12 = some ⟨oc12, od12, .func (PySem.W.fnOf "same_but_words" "same_but_words" (defArgs (top 6)) (defBody (top 6)) (defScope (top 6)) .none kV12 dc12 pm12 an12 cd12 ct12), sl12⟩)
    (c12 : PySem.W.codeIn K cd12 "same_but_words" = true)
    (k12 : PySem.W.keepIn K (.ref f12) = true)
    (a13 : PySem.W.nsIn K mainGlobals "_law_reworded" = some (some (.ref f13)))
    (l13 : K.lookup f13 = some ⟨oc13, od13, .func (PySem.W.fnOf "_law_reworded" "_law_reworded" (defArgs (top 13)) (defBody (top 13)) (defScope (top 13)) .none kV13 dc13 pm13 an13 cd13 ct13), sl13⟩)
    (c13 : PySem.W.codeIn K cd13 "_law_reworded" = true)
    (k13 : PySem.W.keepIn K (.ref f13) = true)
    (a14 : PySem.W.nsIn K mainGlobals "_law_bent" = some (some (.ref f14)))
    (l14 : K.lookup f14 = some ⟨oc14, od14, .func (PySem.W.fnOf "_law_bent" "_law_bent" (defArgs (top 14)) (defBody (top 14)) (defScope (top 14)) .none kV14 dc14 pm14 an14 cd14 ct14), sl14⟩)
    (c14 : PySem.W.codeIn K cd14 "_law_bent" = true)
    (k14 : PySem.W.keepIn K (.ref f14) = true)
    (a15 : PySem.W.nsIn K mainGlobals "_law_spelt_out" = some (some (.ref f15)))
    (l15 : K.lookup f15 = some ⟨oc15, od15, .func (PySem.W.fnOf "_law_spelt_out" "_law_spelt_out" (defArgs (top 15)) (defBody (top 15)) (defScope (top 15)) .none kV15 dc15 pm15 an15 cd15 ct15), sl15⟩)
    (c15 : PySem.W.codeIn K cd15 "_law_spelt_out" = true)
    (k15 : PySem.W.keepIn K (.ref f15) = true)
    (a16 : PySem.W.nsIn K mainGlobals "law" = some (some (.ref f16)))
    (l16 : K.lookup f16 = some ⟨oc16, od16, .func (PySem.W.fnOf "law" "law" (defArgs (top 19)) (defBody (top 19)) (defScope (top 19)) .none kV16 dc16 pm16 an16 cd16 ct16), sl16⟩)
    (c16 : PySem.W.codeIn K cd16 "law" = true)
    (k16 : PySem.W.keepIn K (.ref f16) = true)
    (z0 : PySem.W.nsIn K mainGlobals "abs" = some none)
    (z1 : PySem.W.nsIn K mainGlobals "len" = some none)
    (z2 : PySem.W.nsIn K mainGlobals "int" = some none)
    (z3 : PySem.W.nsIn K mainGlobals "list" = some none)
    (z4 : PySem.W.nsIn K mainGlobals "min" = some none)
    (z5 : PySem.W.nsIn K mainGlobals "tuple" = some none)
    (z6 : PySem.W.nsIn K mainGlobals "range" = some none)
    (z7 : PySem.W.nsIn K mainGlobals "dict" = some none)
    (z8 : PySem.W.nsIn K mainGlobals "reversed" = some none)
    (z9 : PySem.W.nsIn K mainGlobals "zip" = some none)
    (z10 : PySem.W.nsIn K mainGlobals "str" = some none)
    (z11 : PySem.W.nsIn K mainGlobals "isinstance" = some none)
    (z12 : PySem.W.nsIn K mainGlobals "bool" = some none) :
    ∃ fd : FuncData, (∀ (s : Shared) (v : Value), BindsTo s fd ⟨[v], []⟩ [("_law_script", v)]) ∧ ∀ base : Heap, K.In base → base.Ns mainGlobals mg → FnOk l.prog w K mg base CX0 4 fa fd ["_law_script"] (spLaw3 K) := by
  have e := hfa.symm.trans (PySem.W.mg_of X G a16)
  cases e
  have T : Txt mg ⟨f0, f1, f2, f3, f4, f5, f6, f7, f8, f9, f10, f11, f12, f13, f14, f15⟩ := ⟨PySem.W.mg_none_of X G z0, PySem.W.mg_none_of X G z1, PySem.W.mg_none_of X G z2, PySem.W.mg_none_of X G z3, PySem.W.mg_none_of X G z4, PySem.W.mg_none_of X G z5, PySem.W.mg_none_of X G z6, PySem.W.mg_none_of X G z7, PySem.W.mg_none_of X G z8, PySem.W.mg_none_of X G z9, PySem.W.mg_none_of X G z10, PySem.W.mg_none_of X G z11, PySem.W.mg_none_of X G z12, PySem.W.mg_of X G a0, PySem.W.mg_of X G a1, PySem.W.mg_of X G a2, PySem.W.mg_of X G a3, PySem.W.mg_of X G a4, PySem.W.mg_of X G a5, PySem.W.mg_of X G a6, PySem.W.mg_of X G a7, PySem.W.mg_of X G a8, PySem.W.mg_of X G a9, PySem.W.mg_of X G a10, PySem.W.mg_of X G a11, PySem.W.mg_of X G a12, PySem.W.mg_of X G a13, PySem.W.mg_of X G a14, PySem.W.mg_of X G a15⟩
  have F0 := fun_mk (st := top 17) l0 c0 k0
  have b0 := F0.binds (ps := ["_law_cell"]) fun _ _ _ _ _ _ us hl => match us, hl with | [_], _ => rfl
  have F1 := fun_mk (st := top 16) l1 c1 k1
  have b1 := F1.binds (ps := ["_law_cell"]) fun _ _ _ _ _ _ us hl => match us, hl with | [_], _ => rfl
  have F2 := fun_mk (st := top 18) l2 c2 k2
  have b2 := F2.binds (ps := ["_law_script", "_law_most", "_law_bound"]) fun _ _ _ _ _ _ us hl => match us, hl with | [_, _, _], _ => rfl
  have F3 := fun_mk (st := top 10) l3 c3 k3
  have b3 := F3.binds (ps := ["_law_piece"]) fun _ _ _ _ _ _ us hl => match us, hl with | [_], _ => rfl
  have F4 := fun_mk (st := top 8) l4 c4 k4
  have b4 := F4.binds (ps := ["_law_script", "_law_k"]) fun _ _ _ _ _ _ us hl => match us, hl with | [_, _], _ => rfl
  have F5 := fun_mk (st := top 9) l5 c5 k5
  have b5 := F5.binds (ps := ["_law_cells", "_law_stamps"]) fun _ _ _ _ _ _ us hl => match us, hl with | [_, _], _ => rfl
  have F6 := fun_mk (st := top 11) l6 c6 k6
  have b6 := F6.binds (ps := ["_law_piece", "_law_source", "_law_given", "_law_count"]) fun _ _ _ _ _ _ us hl => match us, hl with | [_, _, _, _], _ => rfl
  have F7 := fun_mk (st := top 12) l7 c7 k7
  have b7 := F7.binds (ps := ["_law_found", "_law_tree"]) fun _ _ _ _ _ _ us hl => match us, hl with | [_, _], _ => rfl
  have F8 := fun_mk (st := top 1) l8 c8 k8
  have b8 := F8.binds (ps := ["piece"]) fun _ _ _ _ _ _ us hl => match us, hl with | [_], _ => rfl
  have F9 := fun_mk (st := top 2) l9 c9 k9
  have b9 := F9.binds (ps := ["words", "word", "value"]) fun _ _ _ _ _ _ us hl => match us, hl with | [_, _, _], _ => rfl
  have F10 := fun_mk (st := top 4) l10 c10 k10
  have b10 := F10.binds (ps := ["pair"]) fun _ _ _ _ _ _ us hl => match us, hl with | [_], _ => rfl
  have F11 := fun_mk (st := top 5) l11 c11 k11
  have b11 := F11.binds (ps := ["pair", "number"]) fun _ _ _ _ _ _ us hl => match us, hl with | [_, _], _ => rfl
  have F12 := fun_mk (st := top 6) l12 c12 k12
  have b12 := F12.binds (ps := ["one", "other"]) fun _ _ _ _ _ _ us hl => match us, hl with | [_, _], _ => rfl
  have F13 := fun_mk (st := top 13) l13 c13 k13
  have b13 := F13.binds (ps := ["_law_piece", "_law_places", "_law_tail"]) fun _ _ _ _ _ _ us hl => match us, hl with | [_, _, _], _ => rfl
  have F14 := fun_mk (st := top 14) l14 c14 k14
  have b14 := F14.binds (ps := ["_law_piece", "_law_way", "_law_spot"]) fun _ _ _ _ _ _ us hl => match us, hl with | [_, _, _], _ => rfl
  have F15 := fun_mk (st := top 15) l15 c15 k15
  have b15 := F15.binds (ps := ["_law_tree"]) fun _ _ _ _ _ _ us hl => match us, hl with | [_], _ => rfl
  have F16 := fun_mk (st := top 19) l16 c16 k16
  have g0 : ∀ base : Heap, FnOk l.prog w K mg base CX0 1 f0 _ ["_law_cell"] spAny := fun base => ok_any F0 T 
  have g1 : ∀ base : Heap, FnOk l.prog w K mg base CX0 1 f1 _ ["_law_cell"] spWord := fun base => ok_aw F1 T 
  have g2 : ∀ base : Heap, FnOk l.prog w K mg base CX0 1 f2 _ ["_law_script", "_law_most", "_law_bound"] (spRoom K) := fun base => ok_room F2 T 
  have g3 : ∀ base : Heap, FnOk l.prog w K mg base CX0 1 f3 _ ["_law_piece"] spInside := fun base => ok_ins F3 T 
  have g4 : ∀ base : Heap, FnOk l.prog w K mg base CX0 1 f4 _ ["_law_script", "_law_k"] (spAt3 K) := fun base => ok_at3 F4 T 
  have g5 : ∀ base : Heap, FnOk l.prog w K mg base CX0 2 f5 _ ["_law_cells", "_law_stamps"] (spDrawn K S0) := fun base => ok_dp F5 T (g1 base) F1 b1 (g0 base) F0 b0
  have g6 : ∀ base : Heap, FnOk l.prog w K mg base CX0 2 f6 _ ["_law_piece", "_law_source", "_law_given", "_law_count"] spNoted := fun base => ok_no F6 T (g3 base) F3 b3
  have g7 : ∀ base : Heap, FnOk l.prog w K mg base CX0 2 f7 _ ["_law_found", "_law_tree"] spGoes := fun base => ok_gw F7 T (g3 base) F3 b3
  have g8 : ∀ base : Heap, FnOk l.prog w K mg base CX0 1 f8 _ ["piece"] spParts := fun base => ok_parts F8 T 
  have g9 : ∀ base : Heap, FnOk l.prog w K mg base CX0 1 f9 _ ["words", "word", "value"] spWithWord := fun base => ok_ww F9 T 
  have g10 : ∀ base : Heap, FnOk l.prog w K mg base CX0 1 f10 _ ["pair"] spSelf := fun base => ok_sb F10 T 
  have g11 : ∀ base : Heap, FnOk l.prog w K mg base CX0 2 f11 _ ["pair", "number"] spPairs := fun base => ok_pw F11 T (g9 base) F9 b9 (g8 base) F8 b8
  have g12 : ∀ base : Heap, FnOk l.prog w K mg base CX0 3 f12 _ ["one", "other"] spSbw := fun base => ok_sw F12 T (g10 base) F10 b10 (g11 base) F11 b11
  have g13 : ∀ base : Heap, FnOk l.prog w K mg base CX0 2 f13 _ ["_law_piece", "_law_places", "_law_tail"] spRew := fun base => ok_re F13 T (g3 base) F3 b3
  have g14 : ∀ base : Heap, FnOk l.prog w K mg base CX0 2 f14 _ ["_law_piece", "_law_way", "_law_spot"] spBent := fun base => ok_bn F14 T (g3 base) F3 b3
  have g15 : ∀ base : Heap, FnOk l.prog w K mg base CX0 1 f15 _ ["_law_tree"] spSpelt := fun base => ok_sp F15 T 
  exact ⟨PySem.W.fnOf "law" "law" (defArgs (top 19)) (defBody (top 19)) (defScope (top 19)) .none kV16 dc16 pm16 an16 cd16 ct16, fun s v => .of_eq rfl, fun base _ _ => ok_law F16 T (g2 base) F2 b2 (g5 base) F5 b5 (g13 base) F13 b13 (g4 base) F4 b4 (g6 base) F6 b6 (g15 base) F15 b15 (g14 base) F14 b14 (g7 base) F7 b7 (g12 base) F12 b12⟩
theorem walk {l : PySem.W.OpenLaw} {q : Program} {loose : List Str} {XP : (Str → Option Value) → Heap → Prop} {YP : World → Heap → Prop} {d : DefRec} {K : Params → PySem.W.Frag} (hn : l.most = some 63) (hdf : d.params.defaults = [])
    (hY : ∀ (w : World) (h : Heap), YP w h → (K w.params).In h)
    (F : ∀ (w : World) (mg : Str → Option Value) (fa : Addr) (h : Heap), (K w.params).In h → h.Ns mainGlobals mg → mg d.name = some (.ref fa) →
      ∃ fd : FuncData, (∀ (s : Shared) (u : Value), BindsTo s fd ⟨[u], []⟩ [("_law_script", u)]) ∧ ∀ base : Heap, (K w.params).In base → base.Ns mainGlobals mg → FnOk l.prog w (K w.params) mg base CX0 4 fa fd ["_law_script"] (spLaw3 (K w.params))) :
    PySem.W.WalkO q loose XP YP l.row.toRowW d [] (fun f vs => PySem.call f vs) :=
  L2.walk_of (n := 63) (k := 4) (x := "_law_script") (CX := fun _ => CX0) (sp := fun w => spLaw3 (K w.params)) hn (by decide) hdf ⟨rfl, by decide, by decide⟩ hY F (fun _ _ a ns hl _ hS => ⟨a, ns, rfl, hS, hl, fun _ => rfl⟩) fun _ _ _ _ _ z => z
end K3
open PySem PySem.W PyProof.Rows
set_option maxRecDepth 100000 in
set_option maxHeartbeats 0 in
theorem PySem.Challenge.cw_stampword_k03_same_but_words_holds : PySem.Challenge.rw_stampword_k03_same_but_words.Holds := by
  w_on; o_law; k_head; (case hw => w_witness2)
  k_fill
  refine K3.walk (l := PySem.Challenge.rw_stampword_k03_same_but_words) rfl rfl (fun w h Y => PySem.W.kIn_of Y) ?F
  case F =>
    intro w mg fa h KX G hmg
    refine' K3.all_mk KX G hmg ?a0 ?l0 ?c0 ?k0 ?a1 ?l1 ?c1 ?k1 ?a2 ?l2 ?c2 ?k2 ?a3 ?l3 ?c3 ?k3 ?a4 ?l4 ?c4 ?k4 ?a5 ?l5 ?c5 ?k5 ?a6 ?l6 ?c6 ?k6 ?a7 ?l7 ?c7 ?k7 ?a8 ?l8 ?c8 ?k8 ?a9 ?l9 ?c9 ?k9 ?a10 ?l10 ?c10 ?k10 ?a11 ?l11 ?c11 ?k11 ?a12 ?l12 ?c12 ?k12 ?a13 ?l13 ?c13 ?k13 ?a14 ?l14 ?c14 ?k14 ?a15 ?l15 ?c15 ?k15 ?a16 ?l16 ?c16 ?k16 ?z0 ?z1 ?z2 ?z3 ?z4 ?z5 ?z6 ?z7 ?z8 ?z9 ?z10 ?z11 ?z12
    (case a0 => k_is)
    (case l0 => k_is)
    (case c0 => k_is)
    (case k0 => k_is)
    (case a1 => k_is)
    (case l1 => k_is)
    (case c1 => k_is)
    (case k1 => k_is)
    (case a2 => k_is)
    (case l2 => k_is)
    (case c2 => k_is)
    (case k2 => k_is)
    (case a3 => k_is)
    (case l3 => k_is)
    (case c3 => k_is)
    (case k3 => k_is)
    (case a4 => k_is)
    (case l4 => k_is)
    (case c4 => k_is)
    (case k4 => k_is)
    (case a5 => k_is)
    (case l5 => k_is)
    (case c5 => k_is)
    (case k5 => k_is)
    (case a6 => k_is)
    (case l6 => k_is)
    (case c6 => k_is)
    (case k6 => k_is)
    (case a7 => k_is)
    (case l7 => k_is)
    (case c7 => k_is)
    (case k7 => k_is)
    (case a8 => k_is)
    (case l8 => k_is)
    (case c8 => k_is)
    (case k8 => k_is)
    (case a9 => k_is)
    (case l9 => k_is)
    (case c9 => k_is)
    (case k9 => k_is)
    (case a10 => k_is)
    (case l10 => k_is)
    (case c10 => k_is)
    (case k10 => k_is)
    (case a11 => k_is)
    (case l11 => k_is)
    (case c11 => k_is)
    (case k11 => k_is)
    (case a12 => k_is)
    (case l12 => k_is)
    (case c12 => k_is)
    (case k12 => k_is)
    (case a13 => k_is)
    (case l13 => k_is)
    (case c13 => k_is)
    (case k13 => k_is)
    (case a14 => k_is)
    (case l14 => k_is)
    (case c14 => k_is)
    (case k14 => k_is)
    (case a15 => k_is)
    (case l15 => k_is)
    (case c15 => k_is)
    (case k15 => k_is)
    (case a16 => k_is)
    (case l16 => k_is)
    (case c16 => k_is)
    (case k16 => k_is)
    (case z0 => k_is)
    (case z1 => k_is)
    (case z2 => k_is)
    (case z3 => k_is)
    (case z4 => k_is)
    (case z5 => k_is)
    (case z6 => k_is)
    (case z7 => k_is)
    (case z8 => k_is)
    (case z9 => k_is)
    (case z10 => k_is)
    (case z11 => k_is)
    (case z12 => k_is)
#print axioms PySem.Challenge.cw_stampword_k03_same_but_words_holds

