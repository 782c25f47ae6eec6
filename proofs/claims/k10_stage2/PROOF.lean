import PyProof.Rows.All
import Wide.All
import OpenK.AllK
import Wide.FinOn
import Lean
import PyProof.EqAt
import PyProof.EqKinds
import PyProof.TupleCall
import PySem.Challenge.RW_stampword_k10_whole_written_and_read
set_option Elab.async false
set_option linter.all false
set_option maxRecDepth 100000
/-! THE HAND LAYER, for ints, bools, texts, own classes, LISTS and tuples (index, slices, in, append, pop ..), calls, loops. Paste it whole ahead of your own text; what your proof does not reach may be deleted. -/
namespace L2
open PySem PySem.Spec PyProof.Rows

/-- a key: an int or a str -/
abbrev Key := Sum Int Str
def keyIs : Key → Value → Bool
  | .inl k, v => Value.isInt k v
  | .inr x, v => Value.isStrOf x v
def keyH (w : World) : Key → Int
  | .inl k => hashInt k
  | .inr x => hashStr w x
theorem keyIs_shape : ∀ {k : Key} {v : Value}, keyIs k v = true → (∃ i t, k = Sum.inl i ∧ v = Value.int i t) ∨ (∃ x t, k = Sum.inr x ∧ v = Value.str x t)
  | .inl i, v, h => by
    obtain ⟨t, e⟩ := Value.isInt_shape (k := i) (v := v) h
    exact .inl ⟨i, t, rfl, e⟩
  | .inr x, v, h => by
    obtain ⟨t, e⟩ := Value.isStrOf_shape (x := x) (v := v) h
    exact .inr ⟨x, t, rfl, e⟩
theorem keyIs_int (i : Int) (t : Tok) : keyIs (.inl i) (.int i t) = true := by simp [keyIs, Value.isInt]
theorem keyIs_str (x : Str) (t : Tok) : keyIs (.inr x) (.str x t) = true := by simp [keyIs, Value.isStrOf]
theorem key_ll (a b : Int) : decide ((Sum.inl a : Key) = Sum.inl b) = (a == b) := by
  by_cases e : a = b
  · subst e; simp
  · have h : ¬ (Sum.inl a : Key) = Sum.inl b := fun q => e (Sum.inl.inj q)
    rw [decide_eq_false h]
    exact (beq_eq_false_iff_ne.mpr e).symm
theorem key_rr (a b : Str) : decide ((Sum.inr a : Key) = Sum.inr b) = decide (a = b) := by
  by_cases e : a = b
  · subst e; simp
  · have h : ¬ (Sum.inr a : Key) = Sum.inr b := fun q => e (Sum.inr.inj q)
    rw [decide_eq_false h, decide_eq_false e]
theorem key_lr (a : Int) (b : Str) : decide ((Sum.inl a : Key) = Sum.inr b) = false := decide_eq_false (fun q => nomatch q)
theorem key_rl (a : Str) (b : Int) : decide ((Sum.inr a : Key) = Sum.inl b) = false := decide_eq_false (fun q => nomatch q)

def mixKind (prog : Program) (w : World) : PySem.KeyKind prog w Key where
  is := keyIs
  hash := keyH w
  inj := fun v a b ha hb => by
    rcases keyIs_shape ha with ⟨i, t, rfl, rfl⟩ | ⟨x, t, rfl, rfl⟩
    · rcases keyIs_shape hb with ⟨j, u, rfl, e⟩ | ⟨y, u, rfl, e⟩
      · injection e with e1 _; rw [e1]
      · exact nomatch e
    · rcases keyIs_shape hb with ⟨j, u, rfl, e⟩ | ⟨y, u, rfl, e⟩
      · exact nomatch e
      · injection e with e1 _; rw [e1]
  byValue := fun k v h => by
    rcases keyIs_shape h with ⟨i, t, rfl, rfl⟩ | ⟨x, t, rfl, rfl⟩ <;> rfl
  pyHash := fun hv h => by
    rcases keyIs_shape hv with ⟨i, t, rfl, rfl⟩ | ⟨x, t, rfl, rfl⟩
    · exact wpAny_pyHash_int h
    · exact wpAny_pyHash_str h
  eqBool := fun hu hv h => by
    rcases keyIs_shape hu with ⟨i, t, rfl, rfl⟩ | ⟨x, t, rfl, rfl⟩
    · rcases keyIs_shape hv with ⟨j, u, rfl, rfl⟩ | ⟨y, u, rfl, rfl⟩
      · rw [key_ll] at h; exact wpAny_eqBool_int h
      · rw [key_lr] at h; exact SeqAt.EqAt.int_str i t y u _ _ _ _ h
    · rcases keyIs_shape hv with ⟨j, u, rfl, rfl⟩ | ⟨y, u, rfl, rfl⟩
      · rw [key_rl] at h; exact SeqAt.EqAt.str_int x t j u _ _ _ _ h
      · rw [key_rr] at h; exact wpAny_eqBool_str h
  «strs» := fun k x t v h => by
    rcases keyIs_shape h with ⟨i, u, rfl, e⟩ | ⟨y, u, rfl, e⟩
    · exact nomatch e
    · injection e with e1 _
      subst e1
      cases v <;> rfl

theorem mixKind_int (prog : Program) (w : World) (i : Int) (t : Tok) : (mixKind prog w).is (.inl i) (.int i t) = true := keyIs_int i t
theorem mixKind_str (prog : Program) (w : World) (x : Str) (t : Tok) : (mixKind prog w).is (.inr x) (.str x t) = true := keyIs_str x t
end L2

namespace L2
open PySem PySem.Spec PyProof.Rows

/-- a value, without the heap -/
inductive V where
  | non | bl (b : Bool) | int (i : Int) | str (x : Str) | byt (b : Array UInt8) | flt (b : UInt64) | ref (a : Addr) | ty (n : String)
  deriving DecidableEq

def RelV : V → Value → Prop
  | .non, u => u = Value.none
  | .bl b, u => u = Value.bool b
  | .int i, u => ∃ t, u = Value.int i t
  | .str x, u => ∃ t, u = Value.str x t
  | .byt b, u => ∃ t, u = Value.bytes b t
  | .flt b, u => ∃ t, u = Value.float b t
  | .ref a, u => u = Value.ref a
  | .ty n, u => u = Value.type n

abbrev Vals : List V → List Value → Prop := Paired RelV
theorem Vals.length {xs : List V} {us : List Value} (r : Vals xs us) : xs.length = us.length := Paired.length r
theorem Vals.get : ∀ {xs : List V} {us : List Value} {i : Nat} {x : V}, Vals xs us → xs[i]? = some x → ∃ u, us[i]? = some u ∧ RelV x u
  | _, _, _, _, .nil, e => by simp at e
  | _, _, 0, _, .cons r _, e => by simp at e; subst e; exact ⟨_, rfl, r⟩
  | _, _, i + 1, x, .cons _ t, e => by
    obtain ⟨u, h1, h2⟩ := Vals.get (i := i) (x := x) t (by simpa using e)
    exact ⟨u, by simpa using h1, h2⟩
theorem Vals.append : ∀ {xs ys : List V} {us ws : List Value}, Vals xs us → Vals ys ws → Vals (xs ++ ys) (us ++ ws)
  | _, _, _, _, .nil, s => s
  | _, _, _, _, .cons r t, s => .cons r (Vals.append t s)
theorem Vals.take : ∀ {xs : List V} {us : List Value} (n : Nat), Vals xs us → Vals (xs.take n) (us.take n)
  | _, _, 0, _ => .nil
  | _, _, _ + 1, .nil => .nil
  | _, _, n + 1, .cons r t => .cons r (Vals.take n t)
theorem Vals.drop : ∀ {xs : List V} {us : List Value} (n : Nat), Vals xs us → Vals (xs.drop n) (us.drop n)
  | _, _, 0, r => r
  | _, _, _ + 1, .nil => .nil
  | _, _, n + 1, .cons _ t => Vals.drop n t

def RelO : Option V → Option Value → Prop
  | some v, some u => RelV v u
  | none, none => True
  | _, _ => False
def KV {κ : Type} : List (κ × V) → List (κ × Value) → Prop := Paired fun (p : κ × V) (q : κ × Value) => p.1 = q.1 ∧ RelV p.2 q.2

/-- a key of a dict (00_mix): an int or a text -/
def kV : Key → V
  | .inl i => .int i
  | .inr x => .str x

/-- what stands at a tracked address -/
inductive HO where
  /-- a list -/
  | lst (xs : List V)
  /-- a tuple (never changes) -/
  | tup (xs : List V)
  /-- a dict whose keys are ints and texts; one whose keys are tuples of ints and texts (the empty one is both) -/
  | dK (kvs : List (Key × V)) | dT (kvs : List (List Key × V))
  /-- a set of ints: its members, its size -/
  | set (S : Int → Bool) (n : Nat)
  /-- an instance of the class at C, its dict at dx, its attributes -/
  | ins (C dx : Addr) (fs : List (Str × V))
  /-- the dict of the instance at x -/
  | own (x : Addr)
  /-- the dict of an exception -/
  | xd (fs : List (Str × V))
  /-- a bound method, f of x -/
  | met (f x : Addr)
  /-- a range object lo, lo + 1, .. below hi -/
  | rng (lo hi : Int)
  /-- a thing that is known to the object (the script; a dict while a loop walks it): read, never written while it is so -/
  | frz (o : Obj) (u : HO)
  /-- a code object's table -/
  | tbl (ps : Array Value)
  /-- any other thing, by what is true of its one object (a def of one's own: SetO a S n := HO.ext fun h => ..) -/
  | ext (φ : Heap → Prop)

abbrev Hp := Addr → Option HO
def upd (H : Hp) (a : Addr) (o : HO) : Hp := fun b => if b = a then some o else H b
theorem upd_same {H : Hp} {a : Addr} {o : HO} : upd H a o a = some o := by unfold upd; rw [if_pos rfl]
theorem upd_ne {H : Hp} {a b : Addr} {o : HO} (h : b ≠ a) : upd H a o b = H b := by unfold upd; rw [if_neg h]
/-- two objects of different content stand apart -/
theorem ne_of {H : Hp} {a b : Addr} {o u : HO} (h : H a = some o) (h' : H b = some u) (d : o ≠ u) : a ≠ b := by
  intro e; subst e; rw [h] at h'; exact d (Option.some.inj h')
theorem ne_of_none {H : Hp} {a b : Addr} {o : HO} (h : H a = some o) (h' : H b = none) : a ≠ b := by
  intro e; subst e; rw [h] at h'; cases h'

section
variable (P : Program) (w : World)
def ObjOk (H : Hp) (h : Heap) (a : Addr) : HO → Prop
  | .lst xs => xs.length ≤ sizeLine ∧ ∃ (its : List Value) (n : Nat), Vals xs its ∧ h.get? a = some { cls := .type "list", data := .seq its.toArray n }
  | .tup xs => xs.length ≤ sizeLine ∧ ∃ its : List Value, Vals xs its ∧ IsTup h a its.toArray
  | .dK kvs => kvs.length ≤ sizeLine ∧ (a == sysModules) = false ∧ ∃ vs, KV kvs vs ∧ h.DictOf (mixKind P w) a vs
  | .dT kvs => kvs.length ≤ sizeLine ∧ (a == sysModules) = false ∧ ∃ xs : List (List Key × Addr × Value),
      Paired (fun (p : List Key × V) (q : List Key × Addr × Value) => p.1 = q.1 ∧ H q.2.1 = some (.tup (p.1.map kV)) ∧ RelV p.2 q.2.2) kvs xs ∧
      ∃ o es ep, h.get? a = some o ∧ o.ExactDict ∧ o.data = .dict es ep ∧ es.toList = xs.map (entryOfKey (tupleKind (mixKind P w))) ∧ (xs.map (·.1)).Nodup
  | .set S n => h.SetOf (intKind P w) a S n
  | .ins C dx fs => H dx = some (.own a) ∧ fs.length ≤ 1000 ∧ dx ≠ a ∧ h.get? a = some (PySem.W.instObj C dx) ∧
      ∃ mA, h.Ns1 dx mA ∧ (∀ f, RelO (fs.lookup f) (mA f)) ∧ PySem.Within mA (fs.map (·.1))
  | .own _ => ∃ o, h.get? a = some o
  | .xd fs => ∃ mA, h.Ns1 a mA ∧ ∀ f, RelO (fs.lookup f) (mA f)
  | .rng lo hi => ∃ t u v, h.get? a = some { cls := .type "range", data := .fields #[.int lo t, .int hi u, .int 1 v] }
  | .frz o u => h.get? a = some o ∧ ObjOk H h a u
  | .tbl ps => h.get? a = some { cls := .none, data := .fields ps }
  | .met f x => h.get? a = some (PySem.W.methodObj (.ref f) (.ref x))
  | .ext φ => φ h ∧ (∃ o, h.get? a = some o) ∧ ∀ h1 h2 : Heap, φ h1 → (∀ o, h1.get? a = some o → h2.get? a = some o) → φ h2
/-- the abstract heap is held -/
def HOk (H : Hp) (h : Heap) : Prop := ∀ a o, H a = some o → ObjOk P w H h a o
end

section
variable {P : Program} {w : World} {H H' : Hp} {h h' : Heap} {a : Addr} {o : HO}
theorem ObjOk.lt (x : ObjOk P w H h a o) : a < h.objs.size := by
  cases o with
  | lst xs => obtain ⟨_, _, _, _, e⟩ := x; exact Heap.lt_size e
  | tup xs => obtain ⟨_, _, _, p⟩ := x; exact p.lt
  | dK kvs => obtain ⟨_, _, _, _, o, _, _, e, _⟩ := x; exact Heap.lt_size e
  | dT kvs => obtain ⟨_, _, _, _, o, _, _, e, _⟩ := x; exact Heap.lt_size e
  | set S n => obtain ⟨o, _, _, _, e, _⟩ := x; exact Heap.lt_size e
  | ins C dx fs => obtain ⟨_, _, _, e, _⟩ := x; exact Heap.lt_size e
  | own y => obtain ⟨_, e⟩ := x; exact Heap.lt_size e
  | xd fs => obtain ⟨_, ⟨_, _, _, e, _⟩, _⟩ := x; exact Heap.lt_size e
  | rng lo hi => obtain ⟨_, _, _, e⟩ := x; exact Heap.lt_size e
  | frz ob u => obtain ⟨e, _⟩ := x; exact Heap.lt_size e
  | tbl ps => exact Heap.lt_size (show h.get? a = some _ from x)
  | met f y => exact Heap.lt_size (show h.get? a = some _ from x)
  | ext φ => obtain ⟨_, ⟨_, e⟩, _⟩ := x; exact Heap.lt_size e
theorem Paired.mapP {α β : Type} {F G : α → β → Prop} : ∀ {l₁ : List α} {l₂ : List β}, Paired F l₁ l₂ → (∀ a b, F a b → G a b) → Paired G l₁ l₂
  | _, _, .nil, _ => .nil
  | _, _, .cons r t, f => .cons (f _ _ r) (Paired.mapP t f)
/-- what an object's description leans on: its own object, its own dict, the tuples -/
theorem ObjOk.stay (x : ObjOk P w H h a o) (k : ∀ b u, (b = a ∨ H b = some (.own a)) → h.get? b = some u → h'.get? b = some u)
    (ho : ∀ b, H b = some (.own a) → H' b = some (.own a)) (ht : ∀ b xs, H b = some (.tup xs) → H' b = some (.tup xs)) : ObjOk P w H' h' a o := by
  induction o with
  | lst xs => obtain ⟨z, its, n, r, e⟩ := x; exact ⟨z, its, n, r, k _ _ (.inl rfl) e⟩
  | tup xs => obtain ⟨z, its, r, ob, e, c⟩ := x; exact ⟨z, its, r, ob, k _ _ (.inl rfl) e, c⟩
  | dK kvs => obtain ⟨z, y, vs, r, ob, es, ep, e, c⟩ := x; exact ⟨z, y, vs, r, ob, es, ep, k _ _ (.inl rfl) e, c⟩
  | dT kvs =>
    obtain ⟨z, y, xs, r, ob, es, ep, e, c⟩ := x
    exact ⟨z, y, xs, Paired.mapP r fun p q z => ⟨z.1, ht _ _ z.2.1, z.2.2⟩, ob, es, ep, k _ _ (.inl rfl) e, c⟩
  | set S n => obtain ⟨ob, es, ep, t, e, c⟩ := x; exact ⟨ob, es, ep, t, k _ _ (.inl rfl) e, c⟩
  | ins C dx fs =>
    obtain ⟨d, z, ne, e, mA, ⟨od, es, ep, e2, c⟩, r⟩ := x
    exact ⟨ho _ d, z, ne, k _ _ (.inl rfl) e, mA, ⟨od, es, ep, k _ _ (.inr d) e2, c⟩, r⟩
  | own y => obtain ⟨ob, e⟩ := x; exact ⟨ob, k _ _ (.inl rfl) e⟩
  | xd fs => obtain ⟨mA, ⟨od, es, ep, e, c⟩, r⟩ := x; exact ⟨mA, ⟨od, es, ep, k _ _ (.inl rfl) e, c⟩, r⟩
  | rng lo hi => obtain ⟨t, u, v, e⟩ := x; exact ⟨t, u, v, k _ _ (.inl rfl) e⟩
  | frz ob u ih => obtain ⟨e, q⟩ := x; exact ⟨k _ _ (.inl rfl) e, ih q⟩
  | tbl ps =>
    have e : h.get? a = some { cls := .none, data := .fields ps } := x
    show h'.get? a = some { cls := .none, data := .fields ps }
    exact k a _ (.inl rfl) e
  | met f y =>
    have e : h.get? a = some (PySem.W.methodObj (.ref f) (.ref y)) := x
    show h'.get? a = some (PySem.W.methodObj (.ref f) (.ref y))
    exact k a _ (.inl rfl) e
  | ext φ => obtain ⟨p, ⟨o, e⟩, st⟩ := x; exact ⟨st _ _ p fun o q => k _ _ (.inl rfl) q, ⟨o, k _ _ (.inl rfl) e⟩, st⟩
theorem HOk.lt (x : HOk P w H h) (e : H a = some o) : a < h.objs.size := (x a o e).lt
theorem HOk.fresh (x : HOk P w H h) (e : h.objs.size ≤ a) : H a = none := by
  cases q : H a with
  | none => rfl
  | some u => exact absurd (Nat.lt_of_lt_of_le (x.lt q) e) (Nat.lt_irrefl _)
/-- every object of the heap is kept -/
theorem HOk.kept (x : HOk P w H h) (k : ∀ b u, h.get? b = some u → h'.get? b = some u) : HOk P w H h' := fun a o e =>
  (x a o e).stay (fun b u _ q => k b u q) (fun _ q => q) fun _ _ q => q
/-- a new object is laid and tracked -/
theorem HOk.laid (x : HOk P w H h) (k : ∀ b u, h.get? b = some u → h'.get? b = some u) (hp : h.objs.size ≤ a) (new : ObjOk P w (upd H a o) h' a o) : HOk P w (upd H a o) h' := fun b u e => by
  have hn := x.fresh hp
  by_cases hb : b = a
  · subst hb; rw [upd_same] at e; cases e; exact new
  · rw [upd_ne hb] at e
    exact (x b u e).stay (fun c v _ q => k c v q) (fun c q => by rw [upd_ne (ne_of_none q hn)]; exact q) fun c xs q => by rw [upd_ne (ne_of_none q hn)]; exact q
end

/-- what may be read as u: it is u, or a known u -/
def Rd (H : Hp) (a : Addr) (u : HO) : Prop := H a = some u ∨ ∃ o, H a = some (.frz o u)
theorem Rd.ok {P : Program} {w : World} {H : Hp} {h : Heap} {a : Addr} {u : HO} (r : Rd H a u) (x : HOk P w H h) : ObjOk P w H h a u := by
  rcases r with r | ⟨o, r⟩
  · exact x a u r
  · obtain ⟨_, q⟩ := x a _ r
    exact q
/-- what may be written -/
def Mut : Option HO → Prop
  | some (.lst _) => True
  | some (.dK _) => True
  | some (.dT _) => True
  | some (.set _ _) => True
  | some (.ins _ _ _) => True
  | some (.ext _) => True
  | _ => False
section
variable {P : Program} {w : World} {H : Hp} {h h' : Heap} {x e : Addr} {o' : HO}
/-- the object at e is changed: x itself, or the dict of the instance x -/
theorem HOk.write (ok : HOk P w H h) (mu : Mut (H x)) (he : e = x ∨ H e = some (.own x)) (k : ∀ b u, b ≠ e → h.get? b = some u → h'.get? b = some u) (heo : ∃ u, h'.get? e = some u)
    (new : ObjOk P w (upd H x o') h' x o') : HOk P w (upd H x o') h' := fun b u q => by
  have nown : ∀ c y, H c = some (.own y) → c ≠ x := fun c y r z => by subst z; rw [r] at mu; exact mu
  have ntup : ∀ c xs, H c = some (.tup xs) → c ≠ x := fun c xs r z => by subst z; rw [r] at mu; exact mu
  by_cases hb : b = x
  · subst hb; rw [upd_same] at q; cases q; exact new
  · rw [upd_ne hb] at q
    by_cases hbe : b = e
    · have q' : H b = some (.own x) := by
        rcases he with z | z
        · exact absurd (hbe.trans z) hb
        · rw [hbe]; exact z
      rw [q] at q'; cases q'
      obtain ⟨v, hv⟩ := heo
      exact ⟨v, by rw [hbe]; exact hv⟩
    · refine (ok b u q).stay (fun c v hc r => k c v ?_ r) (fun c r => by rw [upd_ne (nown c b r)]; exact r) fun c xs r => by rw [upd_ne (ntup c xs r)]; exact r
      rcases hc with rfl | hc
      · exact hbe
      · rintro rfl
        rcases he with z | z
        · exact nown c b hc z
        · rw [hc] at z; cases z; exact hb rfl
end

/-! ### kept unless tracked; of the frames at fs (the callers') the slots may change (an exception that passes writes there); of the records at ex (iterators) nothing is said -/
structure Un (fs ex : List Addr) (H H' : Hp) (h h' : Heap) : Prop where
  keep : ∀ b o, h.get? b = some o → H b = none → b ∉ fs → b ∉ ex → h'.get? b = some o
  slot : ∀ b o, h.get? b = some o → H b = none → b ∈ fs → b ∉ ex → ∃ sl, h'.get? b = some { o with slots := sl }
  free : ∀ b o, h.get? b = some o → H b = none → b ∉ ex → H' b = none
  there : ∀ b o, h.get? b = some o → b ∉ ex → ∃ o', h'.get? b = some o'
  tups : ∀ b xs, H b = some (.tup xs) → H' b = some (.tup xs)
  frzs : ∀ b o u, H b = some (.frz o u) → H' b = some (.frz o u)
  tbls : ∀ b ps, H b = some (.tbl ps) → ∃ more, H' b = some (.tbl (ps ++ more))
section
variable {fs fs' ex ex' : List Addr} {H H1 H2 : Hp} {h h1 h2 h' : Heap} {a x e : Addr} {o : HO}
theorem Un.any (u : Un fs ex H H1 h h1) {b : Addr} {ob : Obj} (q : h.get? b = some ob) (n : H b = none) (hx : b ∉ ex) : ∃ sl, h1.get? b = some { ob with slots := sl } := by
  by_cases hb : b ∈ fs
  · exact u.slot b ob q n hb hx
  · exact ⟨ob.slots, u.keep b ob q n hb hx⟩
theorem Un.kept (k : ∀ b u, h.get? b = some u → h'.get? b = some u) : Un fs ex H H h h' :=
  ⟨fun b ob q _ _ _ => k b ob q, fun b ob q _ _ _ => ⟨ob.slots, k b ob q⟩, fun _ _ _ n _ => n, fun b ob q _ => ⟨ob, k b ob q⟩, fun _ _ q => q, fun _ _ _ q => q, fun _ ps q => ⟨#[], by rw [q]; simp⟩⟩
theorem Un.refl : Un fs ex H H h h := Un.kept fun _ _ q => q
theorem Un.laid (k : ∀ b u, h.get? b = some u → h'.get? b = some u) (hp : h.objs.size ≤ a) (hn : H a = none) : Un fs ex H (upd H a o) h h' where
  keep := fun b u q _ _ _ => k b u q
  slot := fun b u q _ _ _ => ⟨u.slots, k b u q⟩
  free := fun b u q n _ => by rw [upd_ne (Nat.ne_of_lt (Nat.lt_of_lt_of_le (Heap.lt_size q) hp))]; exact n
  there := fun b u q _ => ⟨u, k b u q⟩
  tups := fun b xs q => by rw [upd_ne (ne_of_none q hn)]; exact q
  frzs := fun b u xs q => by rw [upd_ne (ne_of_none q hn)]; exact q
  tbls := fun b ps q => ⟨#[], by rw [upd_ne (ne_of_none q hn), q]; simp⟩
theorem Un.write (mu : Mut (H x)) (he : e = x ∨ H e = some (.own x)) (k : ∀ b u, b ≠ e → h.get? b = some u → h'.get? b = some u) (heo : ∃ u, h'.get? e = some u) : Un fs ex H (upd H x o) h h' := by
  have hx : ∀ b, H b = none → b ≠ x := fun b n z => by subst z; rw [n] at mu; exact mu
  have hb : ∀ b, H b = none → b ≠ e := fun b n z => by
    subst z
    rcases he with r | r
    · exact hx b n r
    · rw [n] at r; cases r
  have hm : ∀ b u, H b = some u → ¬ Mut (some u) → b ≠ x := fun b u q nm z => by subst z; rw [q] at mu; exact nm mu
  refine ⟨fun b u q n _ _ => k b u (hb b n) q, fun b u q n _ _ => ⟨u.slots, k b u (hb b n) q⟩, fun b u q n _ => by rw [upd_ne (hx b n)]; exact n, fun b u q _ => ?_,
    fun b xs q => by rw [upd_ne (hm b _ q fun z => z)]; exact q, fun b u xs q => by rw [upd_ne (hm b _ q fun z => z)]; exact q, fun b ps q => ⟨#[], by rw [upd_ne (hm b _ q fun z => z), q]; simp⟩⟩
  by_cases hbe : b = e
  · subst hbe; exact heo
  · exact ⟨u, k b u hbe q⟩
end

/-! ### the heap without what is tracked -/
def trk (h : Heap) (H : Hp) : List Addr := (List.range h.objs.size).filter fun a => (H a).isSome
def hidT (h : Heap) (H : Hp) : Heap := PySem.W.hideAll h (trk h H)
theorem hidT_size (h : Heap) (H : Hp) : (hidT h H).objs.size = h.objs.size := PySem.W.hideAll_size _ _
theorem hidT_get {h : Heap} {H : Hp} {b : Addr} {o : Obj} (e : h.get? b = some o) (n : H b = none) : (hidT h H).get? b = some o :=
  PySem.W.hideAll_get _ e fun hm => by
    have q : (H b).isSome = true := (List.mem_filter.mp hm).2
    rw [n] at q; simp at q
theorem of_hidT {h : Heap} {H : Hp} {b : Addr} {o : Obj} (e : (hidT h H).get? b = some o) : h.get? b = some o ∧ H b = none := by
  have e' : h.get? b = some o := PySem.W.of_hideAll (trk h H) e
  refine ⟨e', ?_⟩
  cases q : H b with
  | none => rfl
  | some x =>
    have hm : b ∈ trk h H := List.mem_filter.mpr ⟨List.mem_range.mpr (Heap.lt_size e'), by simp [q]⟩
    have z : (hidT h H).get? b = none := PySem.W.hideAll_none (trk h H) hm
    rw [z] at e; cases e

/-! ### OpenK's ledger, filled with every new object but one -/
end L2

namespace L2
open PySem PySem.Spec PyProof.Rows

/-- the module's facts, over the base: the heap at the law's entry without what is tracked there -/
structure Mod (K : PySem.W.Frag) (mg : Str → Option Value) (base : Heap) : Prop where
  kin : K.In base
  glob : base.Ns mainGlobals mg
  blt : ∃ mb, base.Ns builtinsNs mb ∧ ∀ x : Str, x ≠ "__name__" → mb x = bootBuiltins x
  nolimit : base.NoLimit

/-- the context: a def's body (or a comprehension's block) running. base: fixed through the whole law; s₀, H₀: the entry; outer: the frames whose slots others may change (a def's callers); stack: all frames that run;
   ex: iterators that were made ahead of the entry and are walked here (a comprehension's); fn: the names whose cells were made at the entry (a def: all; a comprehension's block: its own); calm: not within an except suite; pn: pins that every state bears; xe: what is wanted of an exception that leaves the code -/
structure Cx where
  prog : Program
  w : World
  K : PySem.W.Frag
  mg : Str → Option Value
  base : Heap
  A : Around
  N : List Str
  s₀ : Shared
  H₀ : Hp
  env : Env
  outer : List Env
  stack : List Env
  ex : List Addr
  fn : Str → Bool
  calm : Bool
  pn : List (Addr × Obj)
  xe : Value → Shared → Prop
/-- the callers' frames -/
def frs (l : List Env) : List Addr := l.filterMap (·.frame)
abbrev Cx.fs (X : Cx) : List Addr := frs X.outer

def Vis (sc : Scope) (x : Str) : Prop := sc.names.lookup x = some .local ∨ sc.names.lookup x = some .cell ∨ sc.names.lookup x = some .free
def Loc (sc : Scope) (x : Str) : Prop := sc.names.lookup x = some .local ∨ sc.names.lookup x = some .cell
def Look (env : Env) (h : Heap) (m : Str → Option Value) (x : Str) (u : Value) : Prop :=
  (env.kindOf x = some .local ∧ m x = some u) ∨ ((env.kindOf x = some .cell ∨ env.kindOf x = some .free) ∧ ∃ c, env.cells.lookup x = some c ∧ h.IsCell c (some u))

structure Cx.Ok (X : Cx) : Prop where
  mod : Mod X.K X.mg X.base
  kind : X.env.scope.kind = .function
  glob : X.env.globals = mainGlobals
  blt : X.env.builtins = builtinsNs
  above : X.s₀.heap.objs.size ≤ X.env.locals
  inj : ∀ x y c, X.env.cells.lookup x = some c → X.env.cells.lookup y = some c → x = y
  has : ∀ x, (X.env.kindOf x = some .cell ∨ X.env.kindOf x = some .free) → ∃ c, X.env.cells.lookup x = some c
  cab : ∀ x c, X.fn x = true → X.env.cells.lookup x = some c → X.s₀.heap.objs.size ≤ c
  hd : X.calm = true → X.A.handled = none
  frames : X.A.frames = some X.stack
  stk : X.stack = X.outer ∨ (X.stack = X.env :: X.outer ∧ X.env.frame = some X.env.locals)
  exf : ∀ b ∈ X.ex, b ≠ X.env.locals ∧ ∀ x c, X.env.cells.lookup x = some c → c ≠ b
  bs : ∀ b o, X.base.get? b = some o → X.s₀.heap.get? b = some o ∧ X.H₀ b = none
  bsz : X.base.objs.size ≤ X.s₀.heap.objs.size
  noex : ∀ b o, X.base.get? b = some o → b ∉ X.ex
  exfs : ∀ b ∈ X.ex, b ∉ X.fs
  funs : X.s₀.heap.FunFrames X.base X.outer
  frf : ∀ b ∈ X.fs, X.H₀ b = none

structure Inv (X : Cx) (pins : List (Addr × Obj)) (σ : List (Option V)) (H : Hp) (s : Shared) : Prop where
  ok : X.Ok
  os : s.os = X.s₀.os
  bare : AllBare s.gens
  base : Un X.fs X.ex X.H₀ H X.s₀.heap s.heap
  loc : ∃ m, s.heap.Ns X.env.locals m ∧ ∀ (i : Nat) (x : Str) (v : V), X.N[i]? = some x → σ[i]? = some (some v) → Vis X.env.scope x → ∃ u, RelV v u ∧ Look X.env s.heap m x u
  cell : ∀ x c, X.env.cells.lookup x = some c → ∃ v, s.heap.IsCell c v
  free : H X.env.locals = none
  freeC : ∀ x c, X.env.cells.lookup x = some c → H c = none
  pin : ∀ p ∈ X.pn ++ pins, s.heap.get? p.1 = some p.2 ∧ H p.1 = none ∧ p.1 ≠ X.env.locals ∧ p.1 ∉ X.fs ∧ ∀ v, p.2.data ≠ .cell v
  hok : HOk X.prog X.w H s.heap
  len : σ.length = X.N.length

section
variable {X : Cx} {pins : List (Addr × Obj)} {σ : List (Option V)} {H H' : Hp} {s : Shared} {h' : Heap}

theorem Cx.Ok.nofr (ok : X.Ok) {b : Addr} {o : Obj} (e : X.base.get? b = some o) : b ∉ X.fs := fun hb => by
  have := (ok.funs.mem hb).1
  rw [e] at this; cases this
theorem Inv.bs (I : Inv X pins σ H s) : ∀ b o, X.base.get? b = some o → s.heap.get? b = some o ∧ H b = none := fun b o e =>
  ⟨I.base.keep b o (I.ok.bs b o e).1 (I.ok.bs b o e).2 (I.ok.nofr e) (I.ok.noex b o e), I.base.free b o (I.ok.bs b o e).1 (I.ok.bs b o e).2 (I.ok.noex b o e)⟩
theorem Inv.bk (I : Inv X pins σ H s) : ∀ b o, X.base.get? b = some o → s.heap.get? b = some o := fun b o e => (I.bs b o e).1
theorem Inv.mod (I : Inv X pins σ H s) : Mod X.K X.mg X.base := I.ok.mod
theorem Inv.kIn (I : Inv X pins σ H s) : X.K.In s.heap := I.ok.mod.kin.keeps I.bk
theorem Inv.lt (I : Inv X pins σ H s) : X.env.locals < s.heap.objs.size := let ⟨_, hn, _⟩ := I.loc; hn.lt
theorem Inv.sz (I : Inv X pins σ H s) : X.s₀.heap.objs.size ≤ s.heap.objs.size := Nat.le_trans I.ok.above (Nat.le_of_lt I.lt)
theorem Inv.nofs (I : Inv X pins σ H s) {a : Addr} (h : s.heap.objs.size ≤ a) : a ∉ X.fs := fun hb => by
  obtain ⟨_, o, ho, _⟩ := I.ok.funs.mem hb
  exact absurd (Nat.lt_of_lt_of_le (Heap.lt_size ho) (Nat.le_trans I.sz h)) (Nat.lt_irrefl _)
theorem Inv.cne (I : Inv X pins σ H s) : ∀ x c, X.env.cells.lookup x = some c → c ≠ X.env.locals := fun x c e z => by
  obtain ⟨v, o, ho, hd⟩ := I.cell x c e
  obtain ⟨m, ⟨o', es, ep, ho', hd', _⟩, _⟩ := I.loc
  rw [z, ho'] at ho; cases ho; rw [hd'] at hd; cases hd
theorem Inv.funs (I : Inv X pins σ H s) : s.heap.FunFrames X.base X.outer := by
  have all : ∀ (l : List Env), (∀ b ∈ frs l, b ∈ X.fs) → X.s₀.heap.FunFrames X.base l → s.heap.FunFrames X.base l := by
    intro l
    induction l with
    | nil => intro _ _; trivial
    | cons env r ih =>
      intro hs hl
      obtain ⟨hk, ⟨L, o, hf, hn, ho, hd⟩, hr⟩ := hl
      have hL : L ∈ X.fs := hs L (by unfold frs; rw [List.filterMap_cons, hf]; exact List.mem_cons_self)
      obtain ⟨sl, e⟩ := I.base.slot L o ho (I.ok.frf L hL) hL fun z => I.ok.exfs L z hL
      exact ⟨hk, ⟨L, _, hf, hn, e, hd⟩, ih (fun b hb => hs b (by unfold frs; rw [List.filterMap_cons, hf]; exact List.mem_cons_of_mem _ hb)) hr⟩
  exact all X.outer (fun _ hb => hb) I.ok.funs

/-- the frames that run, for a call -/
theorem Inv.stack (I : Inv X pins σ H s) : s.heap.FunFrames X.base X.stack := by
  rcases I.ok.stk with e | ⟨e, hf⟩
  · rw [e]; exact I.funs
  · rw [e]
    obtain ⟨m, hn, _⟩ := I.loc
    refine .cons (by rw [I.ok.kind]; decide) hf hn ?_ I.funs
    exact Heap.get?_none_of_le (Nat.le_trans I.ok.bsz I.ok.above)
theorem Inv.stkSub (I : Inv X pins σ H s) : ∀ b ∈ frs X.stack, b ∈ X.env.locals :: X.fs := fun b hb => by
  rcases I.ok.stk with e | ⟨e, hf⟩
  · rw [e] at hb; exact List.mem_cons_of_mem _ hb
  · rw [e] at hb
    unfold frs at hb
    rw [List.filterMap_cons, hf] at hb
    exact hb
theorem Inv.stkFree (I : Inv X pins σ H s) : ∀ b ∈ frs X.stack, H b = none := fun b hb => by
  rcases List.mem_cons.mp (I.stkSub b hb) with e | hb
  · rw [e]; exact I.free
  · obtain ⟨_, o, ho, _⟩ := I.ok.funs.mem hb
    exact I.base.free b o ho (I.ok.frf b hb) fun z => I.ok.exfs b z hb

/-- THE STEP: the untracked objects but the frame and the records at ch are kept (the callers' frames up to slots), the frame's map is kept, the new abstract heap is held -/
theorem Inv.step {g' : Array GenState} {t' : Nat} {d' : Drawn} {ch : List Addr} (I : Inv X pins σ H s)
    (hch : ∀ b ∈ ch, (b ∈ X.ex ∨ X.s₀.heap.objs.size ≤ b) ∧ b ≠ X.env.locals ∧ (∀ x c, X.env.cells.lookup x = some c → c ≠ b) ∧ ∀ p ∈ X.pn ++ pins, p.1 ≠ b)
    (keep : ∀ b o, b ≠ X.env.locals → b ∉ X.fs → b ∉ ch → s.heap.get? b = some o → H b = none → h'.get? b = some o)
    (slot : ∀ b o, b ≠ X.env.locals → b ∈ X.fs → b ∉ ch → s.heap.get? b = some o → H b = none → ∃ sl, h'.get? b = some { o with slots := sl }) (free : ∀ b o, b ∉ ch → s.heap.get? b = some o → H b = none → H' b = none)
    (there : ∀ b o, b ∉ ch → s.heap.get? b = some o → ∃ o', h'.get? b = some o')
    (tups : ∀ b xs, H b = some (.tup xs) → H' b = some (.tup xs)) (frzs : ∀ b o u, H b = some (.frz o u) → H' b = some (.frz o u)) (tbls : ∀ b ps, H b = some (.tbl ps) → ∃ more, H' b = some (.tbl (ps ++ more)))
    (ns : ∀ m, s.heap.Ns X.env.locals m → h'.Ns X.env.locals m) (hok : HOk X.prog X.w H' h') (hg : AllBare g') :
    Inv X pins σ H' { s with heap := h', gens := g', drawn := d', toks := t' } := by
  have neL : ∀ b o, X.s₀.heap.get? b = some o → b ≠ X.env.locals := fun b o e => Nat.ne_of_lt (Nat.lt_of_lt_of_le (Heap.lt_size e) I.ok.above)
  have neC : ∀ b o, X.s₀.heap.get? b = some o → b ∉ X.ex → b ∉ ch := fun b o e hx hb => by
    rcases (hch b hb).1 with z | z
    · exact hx z
    · exact absurd (Nat.lt_of_lt_of_le (Heap.lt_size e) z) (Nat.lt_irrefl _)
  have cellK : ∀ x c, X.env.cells.lookup x = some c → ∀ v, s.heap.IsCell c v → h'.IsCell c v := fun x c e v ⟨o, ho, hd⟩ => by
    have nch : c ∉ ch := fun z => (hch c z).2.2.1 x c e rfl
    by_cases hc : c ∈ X.fs
    · obtain ⟨sl, q⟩ := slot c o (I.cne x c e) hc nch ho (I.freeC x c e)
      exact ⟨_, q, hd⟩
    · exact ⟨o, keep c o (I.cne x c e) hc nch ho (I.freeC x c e), hd⟩
  refine ⟨I.ok, I.os, hg, ⟨fun b o e n hb hx => ?_, fun b o e n hb hx => ?_, fun b o e n hx => ?_, fun b o e hx => ?_, fun b xs e => tups b xs (I.base.tups b xs e), fun b o xs e => frzs b o xs (I.base.frzs b o xs e), fun b ps e => ?_⟩, ?_, fun x c e => ?_, ?_, fun x c e => ?_, fun p hp => ?_, hok, I.len⟩
  · exact keep b o (neL b o e) hb (neC b o e hx) (I.base.keep b o e n hb hx) (I.base.free b o e n hx)
  · obtain ⟨sl, e1⟩ := I.base.slot b o e n hb hx
    obtain ⟨sl', e2⟩ := slot b _ (neL b o e) hb (neC b o e hx) e1 (I.base.free b o e n hx)
    exact ⟨sl', e2⟩
  · obtain ⟨o', e1⟩ := I.base.there b o e hx
    exact free b o' (neC b o e hx) e1 (I.base.free b o e n hx)
  · obtain ⟨o', e1⟩ := I.base.there b o e hx
    exact there b o' (neC b o e hx) e1
  · obtain ⟨m1, e1⟩ := I.base.tbls b ps e
    obtain ⟨m2, e2⟩ := tbls b _ e1
    exact ⟨m1 ++ m2, by rw [e2, Array.append_assoc]⟩
  · obtain ⟨m, hn, hl⟩ := I.loc
    refine ⟨m, ns m hn, fun i x v e1 e2 e3 => ?_⟩
    obtain ⟨u, r, l⟩ := hl i x v e1 e2 e3
    refine ⟨u, r, ?_⟩
    rcases l with l | ⟨k, c, e, z⟩
    · exact .inl l
    · exact .inr ⟨k, c, e, cellK x c e _ z⟩
  · obtain ⟨v, z⟩ := I.cell x c e
    exact ⟨v, cellK x c e v z⟩
  · obtain ⟨m, ⟨o, _, _, ho, _⟩, _⟩ := I.loc
    exact free _ o (fun z => (hch _ z).2.1 rfl) ho I.free
  · obtain ⟨v, o, ho, hd⟩ := I.cell x c e
    exact free c o (fun z => (hch c z).2.2.1 x c e rfl) ho (I.freeC x c e)
  · obtain ⟨e, n, ne, nf, d⟩ := I.pin p hp
    have nch : p.1 ∉ ch := fun z => (hch p.1 z).2.2.2 p hp rfl
    exact ⟨keep p.1 p.2 ne nf nch e n, free p.1 p.2 nch e n, ne, nf, d⟩
/-- .. where the frame's own object is kept too -/
theorem Inv.un {t' : Nat} (I : Inv X pins σ H s) (u : Un X.fs [] H H' s.heap h') (hok : HOk X.prog X.w H' h') : Inv X pins σ H' { s with heap := h', toks := t' } := by
  obtain ⟨m, ⟨o, es, ep, ho, r⟩, _⟩ := id I.loc
  obtain ⟨sl, hL⟩ := u.any ho I.free (by simp)
  exact I.step (g' := s.gens) (d' := s.drawn) (ch := []) (fun _ z => nomatch z) (fun b o _ hb _ e n => u.keep b o e n hb (by simp)) (fun b o _ hb _ e n => u.slot b o e n hb (by simp)) (fun b o _ e n => u.free b o e n (by simp)) (fun b o _ e => u.there b o e (by simp)) u.tups u.frzs u.tbls (fun m' hm => by
    obtain ⟨o', es', ep', ho', r'⟩ := hm
    rw [ho] at ho'; cases ho'
    exact ⟨_, es', ep', hL, r'⟩) hok I.bare
/-- behind a call (or a comprehension's block): the slots of this frame may have changed too, the records at ch may have turned -/
theorem Inv.call {g' : Array GenState} {t' : Nat} {d' : Drawn} {ch : List Addr} (I : Inv X pins σ H s) (u : Un (frs X.stack) ch H H' s.heap h') (hok : HOk X.prog X.w H' h') (hg : AllBare g')
    (hch : ∀ b ∈ ch, (b ∈ X.ex ∨ X.s₀.heap.objs.size ≤ b) ∧ b ≠ X.env.locals ∧ (∀ x c, X.env.cells.lookup x = some c → c ≠ b) ∧ ∀ p ∈ X.pn ++ pins, p.1 ≠ b) :
    Inv X pins σ H' { s with heap := h', gens := g', drawn := d', toks := t' } := by
  obtain ⟨m, ⟨o, es, ep, ho, r⟩, _⟩ := id I.loc
  obtain ⟨sl, hL⟩ := u.any ho I.free fun z => (hch _ z).2.1 rfl
  exact I.step (ch := ch) hch (fun b o hL hb hc e n => u.keep b o e n (fun z => (List.mem_cons.mp (I.stkSub b z)).elim hL hb) hc) (fun b o _ _ hc e n => u.any e n hc) (fun b o hc e n => u.free b o e n hc) (fun b o hc e => u.there b o e hc) u.tups u.frzs u.tbls (fun m' hm => by
    obtain ⟨o', es', ep', ho', r'⟩ := hm
    rw [ho] at ho'; cases ho'
    exact ⟨_, es', ep', hL, r'⟩) hok hg
/-- an untracked record of ours (an iterator) has turned -/
theorem Inv.turned {t' : Nat} {it : Addr} (I : Inv X pins σ H s) (k : ∀ b o, b ≠ it → s.heap.get? b = some o → h'.get? b = some o) (hn : H it = none) (hL : it ≠ X.env.locals)
    (h1 : it ∈ X.ex ∨ X.s₀.heap.objs.size ≤ it) (h2 : ∀ x c, X.env.cells.lookup x = some c → c ≠ it) (h3 : ∀ p ∈ X.pn ++ pins, p.1 ≠ it) : Inv X pins σ H { s with heap := h', toks := t' } := by
  have nit : ∀ b u, H b = some u → b ≠ it := fun b u e z => by rw [z, hn] at e; cases e
  refine I.step (g' := s.gens) (d' := s.drawn) (ch := [it]) (fun b hb => ?_) (fun b o _ _ hc e _ => k b o (fun z => hc (by simp [z])) e) (fun b o _ _ hc e _ => ⟨o.slots, k b o (fun z => hc (by simp [z])) e⟩) (fun _ _ _ _ n => n)
    (fun b o hc e => ⟨o, k b o (fun z => hc (by simp [z])) e⟩) (fun _ _ e => e) (fun _ _ _ e => e) (fun b ps e => ⟨#[], by rw [e]; simp⟩) (fun m hm => ?_) (fun b u e => ?_) I.bare
  · have e : b = it := by simpa using hb
    subst e
    exact ⟨h1, hL, h2, h3⟩
  · obtain ⟨o, es, ep, ho, r⟩ := hm
    exact ⟨o, es, ep, k _ o (Ne.symm hL) ho, r⟩
  · refine (I.hok b u e).stay (fun c v hc q => k c v ?_ q) (fun _ q => q) fun _ _ q => q
    rcases hc with z | z
    · rw [z]; exact nit b u e
    · exact nit c _ z
theorem Inv.tok (I : Inv X pins σ H s) (t : Nat) : Inv X pins σ H { s with toks := t } := I.un (h' := s.heap) (t' := t) Un.refl I.hok
/-- all objects kept -/
theorem Inv.kept {t' : Nat} (I : Inv X pins σ H s) (k : ∀ b u, s.heap.get? b = some u → h'.get? b = some u) : Inv X pins σ H { s with heap := h', toks := t' } := I.un (Un.kept k) (I.hok.kept k)
/-- a new object laid and tracked -/
theorem Inv.laid {a : Addr} {o : HO} {t' : Nat} (I : Inv X pins σ H s) (k : ∀ b u, s.heap.get? b = some u → h'.get? b = some u) (hp : s.heap.objs.size ≤ a) (new : ObjOk X.prog X.w (upd H a o) h' a o) :
    Inv X pins σ (upd H a o) { s with heap := h', toks := t' } := I.un (Un.laid k hp (I.hok.fresh hp)) (I.hok.laid k hp new)
/-- an object written -/
theorem Inv.write {x e : Addr} {o : HO} {t' : Nat} (I : Inv X pins σ H s) (mu : Mut (H x)) (he : e = x ∨ H e = some (.own x)) (k : ∀ b u, b ≠ e → s.heap.get? b = some u → h'.get? b = some u) (heo : ∃ u, h'.get? e = some u)
    (new : ObjOk X.prog X.w (upd H x o) h' x o) : Inv X pins σ (upd H x o) { s with heap := h', toks := t' } := I.un (Un.write mu he k heo) (I.hok.write mu he k heo new)
theorem Inv.pins_of {pins' : List (Addr × Obj)} (I : Inv X pins σ H s) (h : ∀ p ∈ pins', s.heap.get? p.1 = some p.2 ∧ H p.1 = none ∧ p.1 ≠ X.env.locals ∧ p.1 ∉ X.fs ∧ ∀ v, p.2.data ≠ .cell v) : Inv X pins' σ H s :=
  ⟨I.ok, I.os, I.bare, I.base, I.loc, I.cell, I.free, I.freeC, fun p hp => (List.mem_append.mp hp).elim (fun z => I.pin p (List.mem_append_left _ z)) (h p), I.hok, I.len⟩

theorem nodup_ix {N : List Str} (hN : N.Nodup) {i j : Nat} {x : Str} (a : N[i]? = some x) (b : N[j]? = some x) : i = j := by
  obtain ⟨h1, e1⟩ := List.getElem?_eq_some_iff.mp a
  obtain ⟨h2, e2⟩ := List.getElem?_eq_some_iff.mp b
  exact (List.getElem_inj hN).mp (e1.trans e2.symm)

/-- a name is stored; what changed -/
theorem store_ok2 {M : Model} {A : Around} {E : Value → Shared → Prop} {i : Nat} {x : Str} {v : V} {u : Value} {Q : Unit → Shared → Prop} (I : Inv X pins σ H s) (hN : X.N.Nodup) (hi : X.N[i]? = some x) (hx : Loc X.env.scope x) (r : RelV v u)
    (h : ∀ s', Inv X pins (σ.set i (some v)) H s' → (∃ a, Heap.SameBut a s.heap s'.heap ∧ (a = X.env.locals ∨ X.env.cells.lookup x = some a)) → Q () s') (hf : X.fn x = true ∨ X.env.scope.names.lookup x = some .local := by first | exact .inl rfl | exact .inr rfl | assumption) : wpAny M A (storeName X.env x u) Q E s := by
  obtain ⟨m, hn, hl⟩ := id I.loc
  have hcls : (X.env.scope.kind == .class || (X.env.scope.kind == .module && X.env.locals != X.env.globals)) = false := by rw [I.ok.kind]; rfl
  have hiσ : i < σ.length := by rw [I.len]; exact (List.getElem?_eq_some_iff.mp hi).1
  have cne := I.cne
  have tracked : ∀ {a : Addr} {h' : Heap}, (∃ o, s.heap.get? a = some o ∧ H a = none) → Heap.SameBut a s.heap h' → HOk X.prog X.w H h' := fun {a h'} ha hs b ob e => by
    obtain ⟨_, _, hfree⟩ := ha
    refine (I.hok b ob e).stay (fun c w' hc q => (hs.2 c ?_).trans q) (fun _ q => q) fun _ _ q => q
    rintro rfl
    rcases hc with rfl | hc
    · rw [hfree] at e; cases e
    · rw [hfree] at hc; cases hc
  rcases hx with hk | hk
  · refine wpAny_storeName_local hk hn (fun h' hn' hs => ?_) hcls
    obtain ⟨oL, _, _, hoL, _⟩ := id hn
    refine h _ ⟨I.ok, I.os, I.bare, ⟨fun b o e n hb hx => ?_, fun b o e n hb hx => ?_, I.base.free, fun b o e hx => ?_, I.base.tups, I.base.frzs, I.base.tbls⟩, ⟨_, hn', fun j y v' e1 e2 e3 => ?_⟩, fun y c e => ?_, I.free, I.freeC, fun p hp => ?_, tracked ⟨oL, hoL, I.free⟩ hs, by simpa using I.len⟩ ⟨_, hs, .inl rfl⟩
    · exact (hs.2 b (Nat.ne_of_lt (Nat.lt_of_lt_of_le (Heap.lt_size e) I.ok.above))).trans (I.base.keep b o e n hb hx)
    · obtain ⟨sl, e1⟩ := I.base.slot b o e n hb hx
      exact ⟨sl, (hs.2 b (Nat.ne_of_lt (Nat.lt_of_lt_of_le (Heap.lt_size e) I.ok.above))).trans e1⟩
    · obtain ⟨o', e1⟩ := I.base.there b o e hx
      exact ⟨o', (hs.2 b (Nat.ne_of_lt (Nat.lt_of_lt_of_le (Heap.lt_size e) I.ok.above))).trans e1⟩
    · by_cases hj : j = i
      · subst hj
        rw [hi] at e1; cases e1
        rw [List.getElem?_set_self hiσ] at e2
        cases e2
        exact ⟨u, r, .inl ⟨hk, by simp⟩⟩
      · rw [List.getElem?_set_ne (Ne.symm hj)] at e2
        obtain ⟨u', r', q⟩ := hl j y v' e1 e2 e3
        refine ⟨u', r', ?_⟩
        rcases q with ⟨k, e⟩ | ⟨k, c, e, z⟩
        · refine .inl ⟨k, ?_⟩
          have : y ≠ x := fun e => hj (nodup_ix hN e1 (e ▸ hi))
          simp [this, e]
        · exact .inr ⟨k, c, e, z.sameBut hs (cne y c e)⟩
    · obtain ⟨w', z⟩ := I.cell y c e
      exact ⟨w', z.sameBut hs (cne y c e)⟩
    · obtain ⟨e, n, ne, nf, d⟩ := I.pin p hp
      exact ⟨(hs.2 p.1 ne).trans e, n, ne, nf, d⟩
  · have hfn : X.fn x = true := by
      rcases hf with z | z
      · exact z
      · rw [z] at hk; cases hk
    obtain ⟨c, hc⟩ := I.ok.has x (.inl hk)
    obtain ⟨w', z⟩ := I.cell x c hc
    refine wpAny_storeName_cell I.ok.kind hk hc z (fun h' hc' hs => ?_)
    obtain ⟨oc, hoc, hocd⟩ := id z
    refine h { s with heap := h' } ⟨I.ok, I.os, I.bare, ⟨fun b o e n hb hx => ?_, fun b o e n hb hx => ?_, I.base.free, fun b o e hx => ?_, I.base.tups, I.base.frzs, I.base.tbls⟩, ⟨m, hn.sameBut hs (Ne.symm (cne x c hc)), fun j y v' e1 e2 e3 => ?_⟩, fun y c' e => ?_, I.free, I.freeC, fun p hp => ?_, tracked ⟨oc, hoc, I.freeC x c hc⟩ hs, by simpa using I.len⟩ ⟨c, hs, .inr hc⟩
    · exact (hs.2 b (Nat.ne_of_lt (Nat.lt_of_lt_of_le (Heap.lt_size e) (I.ok.cab x c hfn hc)))).trans (I.base.keep b o e n hb hx)
    · obtain ⟨sl, e1⟩ := I.base.slot b o e n hb hx
      exact ⟨sl, (hs.2 b (Nat.ne_of_lt (Nat.lt_of_lt_of_le (Heap.lt_size e) (I.ok.cab x c hfn hc)))).trans e1⟩
    · obtain ⟨o', e1⟩ := I.base.there b o e hx
      exact ⟨o', (hs.2 b (Nat.ne_of_lt (Nat.lt_of_lt_of_le (Heap.lt_size e) (I.ok.cab x c hfn hc)))).trans e1⟩
    · by_cases hj : j = i
      · subst hj
        rw [hi] at e1; cases e1
        rw [List.getElem?_set_self hiσ] at e2
        cases e2
        exact ⟨u, r, .inr ⟨.inl hk, c, hc, hc'⟩⟩
      · rw [List.getElem?_set_ne (Ne.symm hj)] at e2
        obtain ⟨u', r', q⟩ := hl j y v' e1 e2 e3
        refine ⟨u', r', ?_⟩
        rcases q with q | ⟨k, c', e, z'⟩
        · exact .inl q
        · refine .inr ⟨k, c', e, z'.sameBut hs ?_⟩
          rintro rfl
          exact hj (nodup_ix hN e1 (I.ok.inj _ _ _ e hc ▸ hi))
    · by_cases hcc : c' = c
      · subst hcc; exact ⟨_, hc'⟩
      · obtain ⟨w2, z2⟩ := I.cell y c' e
        exact ⟨w2, z2.sameBut hs hcc⟩
    · obtain ⟨e, n, ne, nf, d⟩ := I.pin p hp
      refine ⟨(hs.2 p.1 ?_).trans e, n, ne, nf, d⟩
      intro q
      rw [q, hoc] at e
      have q' : oc = p.2 := Option.some.inj e
      exact d w' (by rw [← q']; exact hocd)
theorem store_ok {M : Model} {A : Around} {E : Value → Shared → Prop} {i : Nat} {x : Str} {v : V} {u : Value} {Q : Unit → Shared → Prop} (I : Inv X pins σ H s) (hN : X.N.Nodup) (hi : X.N[i]? = some x) (hx : Loc X.env.scope x) (r : RelV v u)
    (h : ∀ s', Inv X pins (σ.set i (some v)) H s' → Q () s') (hf : X.fn x = true ∨ X.env.scope.names.lookup x = some .local := by first | exact .inl rfl | exact .inr rfl | assumption) : wpAny M A (storeName X.env x u) Q E s :=
  store_ok2 I hN hi hx r (fun s' I' _ => h s' I') hf
end

/-! ### the judgements -/
/-- an exception: its class, its own dict's address (where it has one), the abstract heap behind it -/
abbrev XK := Value → Option Addr → Hp → Prop
abbrev St := List (Option V)
abbrev VK := V → Hp → Prop
/-- an expression's reading; a test's; an argument list's -/
abbrev TE := St → Hp → VK → Prop
abbrev TT := St → Hp → (Bool → Hp → Prop) → Prop
abbrev TA := St → Hp → (List V → Hp → Prop) → Prop
/-- what is wanted behind a statement -/
structure Ends where
  nx : St → Hp → Prop
  rt : VK
  bk : St → Hp → Prop := fun _ _ => False
  ct : St → Hp → Prop := fun _ _ => False
abbrev TS := Ends → St → Hp → Prop

def EP (X : Cx) (pins : List (Addr × Obj)) (σ : St) (Q : VK) (u : Value) (s' : Shared) : Prop := ∃ v H', Inv X pins σ H' s' ∧ RelV v u ∧ Q v H'
def TP (X : Cx) (pins : List (Addr × Obj)) (σ : St) (Q : Bool → Hp → Prop) (b : Bool) (s' : Shared) : Prop := ∃ H', Inv X pins σ H' s' ∧ Q b H'
def AP (X : Cx) (pins : List (Addr × Obj)) (σ : St) (Q : List V → Hp → Prop) (us : List Value) (s' : Shared) : Prop := ∃ vs H', Inv X pins σ H' s' ∧ Vals vs us ∧ Q vs H'
def SP (X : Cx) (pins : List (Addr × Obj)) (D : Ends) (f : Flow) (s' : Shared) : Prop :=
  match f with
  | .next => ∃ σ' H', Inv X pins σ' H' s' ∧ D.nx σ' H'
  | .brk => ∃ σ' H', Inv X pins σ' H' s' ∧ D.bk σ' H'
  | .cont => ∃ σ' H', Inv X pins σ' H' s' ∧ D.ct σ' H'
  | .ret u => ∃ v σ' H', Inv X pins σ' H' s' ∧ RelV v u ∧ D.rt v H'

def PE (X : Cx) (e : Expr) (t : TE) : Prop :=
  ∀ (pins : List (Addr × Obj)) (s : Shared) (σ : St) (H : Hp) (Q : VK), Inv X pins σ H s → t σ H Q → wpAny (model X.prog X.w) X.A (eval e X.env) (EP X pins σ Q) X.xe s
def PT (X : Cx) (e : Expr) (t : TT) : Prop :=
  ∀ (pins : List (Addr × Obj)) (s : Shared) (σ : St) (H : Hp) (Q : Bool → Hp → Prop), Inv X pins σ H s → t σ H Q → wpAny (model X.prog X.w) X.A (isTrue e X.env (eval e X.env)) (TP X pins σ Q) X.xe s
/-- a test whatever its 'whole' is (and, or) -/
def PW (X : Cx) (e : Expr) (t : TT) : Prop :=
  ∀ (whole : Sem Value) (pins : List (Addr × Obj)) (s : Shared) (σ : St) (H : Hp) (Q : Bool → Hp → Prop), Inv X pins σ H s → t σ H Q → wpAny (model X.prog X.w) X.A (isTrue e X.env whole) (TP X pins σ Q) X.xe s
theorem PW.pt {X : Cx} {e : Expr} {t : TT} (h : PW X e t) : PT X e t := h _
/-- an argument list (no star), from the left -/
def PA (X : Cx) (es : List Expr) (t : TA) : Prop :=
  ∀ (pos : Pos) (pins : List (Addr × Obj)) (s : Shared) (σ : St) (H : Hp) (Q : List V → Hp → Prop), Inv X pins σ H s → t σ H Q → wpAny (model X.prog X.w) X.A (spliced (backTo pos (starEach es X.env))) (AP X pins σ Q) X.xe s
def PS (X : Cx) (st : Stmt) (t : TS) : Prop :=
  ∀ (pins : List (Addr × Obj)) (s : Shared) (σ : St) (H : Hp) (D : Ends), Inv X pins σ H s → t D σ H → wpAny (model X.prog X.w) X.A (exec st X.env) (SP X pins D) X.xe s
def PSs (X : Cx) (st : List Stmt) (t : TS) : Prop :=
  ∀ (pins : List (Addr × Obj)) (s : Shared) (σ : St) (H : Hp) (D : Ends), Inv X pins σ H s → t D σ H → wpAny (model X.prog X.w) X.A (execs st X.env) (SP X pins D) X.xe s
/-- weaken the end -/
theorem thn {α : Type} {t : Sem α} {Q Q' : α → Shared → Prop} {M : Model} {A : Around} {E : Value → Shared → Prop} {s : Shared} (h : wpAny M A t Q E s) (hQ : ∀ a s, Q a s → Q' a s) : wpAny M A t Q' E s := wpAny_mono h hQ fun _ _ x => x
end L2

namespace L2
open PySem PySem.Spec PyProof.Rows
section
variable {X : Cx}

/-! ### names and constants -/
def tVar (i : Nat) : TE := fun σ H Q => ∃ v, σ[i]? = some (some v) ∧ Q v H
def tC (v : V) : TE := fun _ H Q => Q v H
theorem pe_var {i : Nat} {x : Str} {pos : Pos} (hN : X.N[i]? = some x) (hv : Vis X.env.scope x) (hd : (x == ("__debug__" : Str)) = false := by decide) (hcd : (x == ("__classdict__" : Str)) = false := by decide) : PE X (.Name x pos) (tVar i) := by
  intro pins s σ H Q I h
  obtain ⟨v, e, h⟩ := h
  obtain ⟨m, hn, hl⟩ := I.loc
  obtain ⟨u, r, l⟩ := hl i x v hN e hv
  have fin : EP X pins σ Q u s := ⟨v, H, I, r, h⟩
  rcases l with ⟨hk, hm⟩ | ⟨hk, c, hc, hcell⟩
  · exact wpAny_Name (wpAny_loadName_local I.ok.kind hk hn hm fin) hd
  · rcases hk with hk | hk
    · exact wpAny_Name (wpAny_loadName_cell I.ok.kind hk hc hcell fin) hd
    · exact wpAny_Name (wpAny_loadName_free I.ok.kind hk hc hcell fin hcd) hd
theorem pe_int {i j pos} : PE X (.Constant (.int i) j pos) (tC (.int i)) := fun _ _ _ H _ I h => wpAny_Constant_int ⟨.int i, H, I.tok _, ⟨_, rfl⟩, h⟩
theorem pe_bl {b j pos} : PE X (.Constant (.bool b) j pos) (tC (.bl b)) := fun _ _ _ H _ I h => Constant_bool ⟨.bl b, H, I, rfl, h⟩
theorem pe_str {x j pos} : PE X (.Constant (.str x) j pos) (tC (.str x)) := fun _ _ _ H _ I h => Calls.Constant_str ⟨.str x, H, I.tok _, ⟨_, rfl⟩, h⟩

/-- a global name of the def -/
def Gl (X : Cx) (x : Str) : Prop := X.env.kindOf x = some .globalImplicit
theorem ld_glob {E : Value → Shared → Prop} {pins : List (Addr × Obj)} {s : Shared} {σ : St} {H : Hp} {x : Str} {u : Value} {pos : Pos} {Q : Value → Shared → Prop} (I : Inv X pins σ H s) (hg : Gl X x) (hm : X.mg x = some u) (h : Q u s)
    (hd : (x == ("__debug__" : Str)) = false := by decide) : wpAny (model X.prog X.w) X.A (eval (.Name x pos) X.env) Q E s :=
  Calls.Name_function_global I.ok.kind hg (Calls.loadGlobal_global (by rw [I.ok.glob]; exact I.mod.glob.keeps I.bk) hm h) hd
theorem ld_blt {E : Value → Shared → Prop} {pins : List (Addr × Obj)} {s : Shared} {σ : St} {H : Hp} {x : Str} {u : Value} {pos : Pos} {Q : Value → Shared → Prop} (I : Inv X pins σ H s) (hg : Gl X x) (hm : X.mg x = none) (hv : bootBuiltins x = some u) (h : Q u s)
    (hn : x ≠ "__name__" := by decide) (hd : (x == ("__debug__" : Str)) = false := by decide) : wpAny (model X.prog X.w) X.A (eval (.Name x pos) X.env) Q E s := by
  obtain ⟨mb, h1, h2⟩ := I.mod.blt
  exact Calls.Name_function_global I.ok.kind hg (Calls.loadGlobal_builtin (by rw [I.ok.glob]; exact I.mod.glob.keeps I.bk) hm (by rw [I.ok.blt]; exact h1.keeps I.bk) ((h2 x hn).trans hv) h) hd
/-- a module's constant, a class, a function, as a value -/
theorem pe_glob {x : Str} {v : V} {u : Value} {pos : Pos} (hg : Gl X x) (hm : X.mg x = some u) (r : RelV v u) (hd : (x == ("__debug__" : Str)) = false := by decide) : PE X (.Name x pos) (tC v) :=
  fun _ _ _ H _ I h => ld_glob I hg hm ⟨v, H, I, r, h⟩ hd
theorem pe_bltn {x : Str} {v : V} {u : Value} {pos : Pos} (hg : Gl X x) (hm : X.mg x = none) (hv : bootBuiltins x = some u) (r : RelV v u) (hn : x ≠ "__name__" := by decide) (hd : (x == ("__debug__" : Str)) = false := by decide) : PE X (.Name x pos) (tC v) :=
  fun _ _ _ H _ I h => ld_blt I hg hm hv ⟨v, H, I, r, h⟩ hn hd

/-! ### arithmetic -/
variable {a b : Expr} {ta tb : TE} {pos : Pos}

/-! ### comparisons -/
def PC (X : Cx) (op : CmpOp) (a b : Expr) (t : TE) : Prop :=
  ∀ (pins : List (Addr × Obj)) (s : Shared) (σ : St) (H : Hp) (Q : VK), Inv X pins σ H s → t σ H Q →
    wpAny (model X.prog X.w) X.A (eval a X.env) (fun v s₁ => wpAny (model X.prog X.w) X.A (eval b X.env) (fun u s₂ => wpAny (model X.prog X.w) X.A (compareOp op v u) (EP X pins σ Q) X.xe s₂) X.xe s₁) X.xe s
/-- a comparison as a value, as a test -/
def tB (t : TE) : TT := fun σ H Q => t σ H fun x H1 => ∃ c, x = .bl c ∧ Q c H1
/-- an expression whose value is a bool, as a test -/
theorem pt_val {e : Expr} {t : TE} (h : PE X e t) (he : ∀ whole, isTrue e X.env whole = (do let v ← whole; standAt e.pos; holding [v] (truthy v)) := by intro _; rfl) : PT X e (tB t) := by
  intro pins s σ H Q I hw
  refine isTrue_plain (thn (h pins s σ H _ I hw) fun v s1 ⟨x, H1, I1, r1, q1⟩ => ?_) (he _)
  obtain ⟨d, rfl, q⟩ := q1
  cases r1
  exact wpAny_truthy_bool ⟨H1, I1, q⟩

/-! ### and, or, not -/
variable {tA tB' : TT} {rest : List Expr}
def tAnd (t u : TT) : TT := fun σ H Q => t σ H fun c H1 => if c = true then u σ H1 Q else Q false H1
def tOr (t u : TT) : TT := fun σ H Q => t σ H fun c H1 => if c = true then Q true H1 else u σ H1 Q
def tNot (t : TT) : TT := fun σ H Q => t σ H fun c H1 => Q (!c) H1
theorem pw_and1 (ha : PT X a tA) : PW X (.BoolOp .And [a] pos) tA := by
  intro wh pins s σ H Q I h
  refine isTrue_and (thn (ha pins s σ H Q I h) fun c s1 e => ?_)
  cases c with
  | true => exact isTrue_and_nil e
  | false => exact e
theorem pw_or1 (ha : PT X a tA) : PW X (.BoolOp .Or [a] pos) tA := by
  intro wh pins s σ H Q I h
  refine isTrue_or (thn (ha pins s σ H Q I h) fun c s1 e => ?_)
  cases c with
  | false => exact isTrue_or_nil e
  | true => exact e
theorem pw_and (ha : PT X a tA) (hb : PW X (.BoolOp .And (b :: rest) pos) tB') : PW X (.BoolOp .And (a :: b :: rest) pos) (tAnd tA tB') := by
  intro wh pins s σ H Q I h
  refine isTrue_and (thn (ha pins s σ H _ I h) fun c s1 ⟨H1, I1, q1⟩ => ?_)
  cases c with
  | true => exact hb wh pins s1 σ H1 Q I1 q1
  | false => exact ⟨H1, I1, q1⟩
theorem pw_or (ha : PT X a tA) (hb : PW X (.BoolOp .Or (b :: rest) pos) tB') : PW X (.BoolOp .Or (a :: b :: rest) pos) (tOr tA tB') := by
  intro wh pins s σ H Q I h
  refine isTrue_or (thn (ha pins s σ H _ I h) fun c s1 ⟨H1, I1, q1⟩ => ?_)
  cases c with
  | true => exact ⟨H1, I1, q1⟩
  | false => exact hb wh pins s1 σ H1 Q I1 q1
theorem pt_not (ha : PT X a tA) : PT X (.UnaryOp .Not a pos) (tNot tA) := by
  intro pins s σ H Q I h
  exact isTrue_not (ha pins s σ H (fun c H1 => Q (!c) H1) I h)
/-- .. as values (bools) -/
def tAndV (ta tb : TE) : TE := fun σ H Q => ta σ H fun x H1 => ∃ c, x = .bl c ∧ if c = true then tb σ H1 Q else Q (.bl false) H1
def tNotV (ta : TE) : TE := fun σ H Q => ta σ H fun x H1 => ∃ c, x = .bl c ∧ Q (.bl (!c)) H1
theorem pe_one {op} {t : TE} (h : PE X a t) : PE X (.BoolOp op [a] pos) t := fun pins s σ H Q I hw => BoolOp_one (h pins s σ H Q I hw)
theorem pe_and (ha : PE X a ta) (hb : PE X (.BoolOp .And (b :: rest) pos) tb) : PE X (.BoolOp .And (a :: b :: rest) pos) (tAndV ta tb) := by
  intro pins s σ H Q I h
  refine BoolOp_and (thn (ha pins s σ H _ I h) fun v s1 ⟨x, H1, I1, r1, q1⟩ => ?_)
  obtain ⟨c, rfl, q1⟩ := q1
  cases r1
  refine wpAny_truthy_bool ?_
  cases c with
  | true => exact hb pins s1 σ H1 Q I1 q1
  | false => exact ⟨.bl false, H1, I1, rfl, q1⟩
theorem pe_not (ha : PE X a ta) : PE X (.UnaryOp .Not a pos) (tNotV ta) := by
  intro pins s σ H Q I h
  refine UnaryOp_ (thn (ha pins s σ H _ I h) fun v s1 ⟨x, H1, I1, r1, q1⟩ => ?_)
  obtain ⟨c, rfl, q1⟩ := q1
  cases r1
  exact not_of (wpAny_truthy_bool ⟨.bl (!c), H1, I1, rfl, q1⟩)
/-- a if t else b -/
def tIf (t : TT) (ta tb : TE) : TE := fun σ H Q => t σ H fun c H1 => if c = true then ta σ H1 Q else tb σ H1 Q
theorem pe_ifExp {c : Expr} (hc : PT X c tA) (ha : PE X a ta) (hb : PE X b tb) : PE X (.IfExp c a b pos) (tIf tA ta tb) := by
  intro pins s σ H Q I h
  refine wpAny_IfExp (thn (hc pins s σ H _ I h) fun d s1 ⟨H1, I1, q1⟩ => ?_)
  cases d with
  | true => exact ha pins s1 σ H1 Q I1 q1
  | false => exact hb pins s1 σ H1 Q I1 q1
end
end L2

namespace L2
open PySem PySem.Spec PyProof.Rows

/-! ### a list, a tuple that is read: tracked, frozen, or an object of the module -/
def SqL (K : PySem.W.Frag) (H : Hp) (a : Addr) (xs : List V) : Prop :=
  Rd H a (.lst xs) ∨
    ∃ (o : Obj) (its : Array Value) (n : Nat), K.lookup a = some o ∧ o.cls = .type "list" ∧ o.dict = none ∧ o.data = .seq its n ∧ its.size ≤ sizeLine ∧ Vals xs its.toList
def SqT (K : PySem.W.Frag) (H : Hp) (a : Addr) (xs : List V) : Prop :=
  Rd H a (.tup xs) ∨
    ∃ (o : Obj) (its : Array Value) (n : Nat), K.lookup a = some o ∧ o.cls = .type "tuple" ∧ o.data = .seq its n ∧ its.size ≤ sizeLine ∧ Vals xs its.toList
def absV : Value → Option V
  | .none => some .non
  | .bool b => some (.bl b)
  | .int i _ => some (.int i)
  | .str x _ => some (.str x)
  | .bytes b _ => some (.byt b)
  | .float b _ => some (.flt b)
  | .ref a => some (.ref a)
  | .type n => some (.ty n)
  | _ => none
theorem RelV.abs {x : V} {u : Value} (r : RelV x u) : absV u = some x := by
  cases x with
  | non => cases r; rfl
  | bl _ => cases r; rfl
  | int _ => obtain ⟨t, rfl⟩ := r; rfl
  | str _ => obtain ⟨t, rfl⟩ := r; rfl
  | byt _ => obtain ⟨t, rfl⟩ := r; rfl
  | flt _ => obtain ⟨t, rfl⟩ := r; rfl
  | ref _ => cases r; rfl
  | ty _ => cases r; rfl
theorem RelV.inj {x y : V} {u : Value} (r : RelV x u) (q : RelV y u) : x = y := Option.some.inj (r.abs.symm.trans q.abs)
theorem Vals.inj : ∀ {xs ys : List V} {us : List Value}, Vals xs us → Vals ys us → xs = ys
  | _, _, _, .nil, .nil => rfl
  | _, _, _, .cons r t, .cons r' t' => by rw [r.inj r', Vals.inj t t']
section
variable {X : Cx} {pins : List (Addr × Obj)} {σ : St} {H : Hp} {s : Shared} {a : Addr} {xs ys : List V}
theorem SqL.of {K : PySem.W.Frag} (h : H a = some (.lst xs)) : SqL K H a xs := .inl (.inl h)
theorem SqT.of {K : PySem.W.Frag} (h : H a = some (.tup xs)) : SqT K H a xs := .inl (.inl h)
theorem Inv.list (I : Inv X pins σ H s) (h : SqL X.K H a xs) : ∃ its : List Value, Vals xs its ∧ PlainL s.heap a its.toArray ∧ xs.length ≤ sizeLine := by
  rcases h with h | ⟨o, its, n, hk, hc, hd, hs, hz, r⟩
  · obtain ⟨z, its, n, r, e⟩ := h.ok I.hok
    exact ⟨its, r, ⟨_, n, e, rfl, rfl, rfl⟩, z⟩
  · refine ⟨its.toList, r, ⟨o, n, I.kIn a o hk, hc, hd, by simpa using hs⟩, ?_⟩
    have e := r.length
    simp only [Array.length_toList] at e
    omega
theorem Inv.tuple (I : Inv X pins σ H s) (h : SqT X.K H a xs) : ∃ its : List Value, Vals xs its ∧ IsTup s.heap a its.toArray ∧ xs.length ≤ sizeLine := by
  rcases h with h | ⟨o, its, n, hk, hc, hs, hz, r⟩
  · obtain ⟨z, its, r, p⟩ := h.ok I.hok
    exact ⟨its, r, p, z⟩
  · refine ⟨its.toList, r, ⟨o, I.kIn a o hk, hc, n, by simpa using hs⟩, ?_⟩
    have e := r.length
    simp only [Array.length_toList] at e
    omega
theorem Inv.list_inj (I : Inv X pins σ H s) (h : SqL X.K H a xs) (h' : SqL X.K H a ys) : xs = ys := by
  obtain ⟨its, r, ⟨o, n, e, _, _, d⟩, _⟩ := I.list h
  obtain ⟨its', r', ⟨o', n', e', _, _, d'⟩, _⟩ := I.list h'
  rw [e] at e'; cases e'
  rw [d] at d'
  injection d' with d1 _
  have : its = its' := by simpa using congrArg Array.toList d1
  subst this
  exact r.inj r'
theorem Inv.tuple_inj (I : Inv X pins σ H s) (h : SqT X.K H a xs) (h' : SqT X.K H a ys) : xs = ys := by
  obtain ⟨its, r, ⟨o, e, _, n, d⟩, _⟩ := I.tuple h
  obtain ⟨its', r', ⟨o', e', _, n', d'⟩, _⟩ := I.tuple h'
  rw [e] at e'; cases e'
  rw [d] at d'
  injection d' with d1 _
  have : its = its' := by simpa using congrArg Array.toList d1
  subst this
  exact r.inj r'
end

/-! ### another wish about exceptions -/
abbrev Cx.wish (X : Cx) (E : Value → Shared → Prop) : Cx := { X with xe := E }
/-- no exception leaves -/
abbrev Cx.nox (X : Cx) : Cx := X.wish fun _ _ => False
theorem Cx.Ok.wish {X : Cx} (ok : X.Ok) (E : Value → Shared → Prop) : (X.wish E).Ok :=
  ⟨ok.mod, ok.kind, ok.glob, ok.blt, ok.above, ok.inj, ok.has, ok.cab, ok.hd, ok.frames, ok.stk, ok.exf, ok.bs, ok.bsz, ok.noex, ok.exfs, ok.funs, ok.frf⟩
theorem Cx.Ok.unwish {X : Cx} {E : Value → Shared → Prop} (ok : (X.wish E).Ok) : X.Ok :=
  ⟨ok.mod, ok.kind, ok.glob, ok.blt, ok.above, ok.inj, ok.has, ok.cab, ok.hd, ok.frames, ok.stk, ok.exf, ok.bs, ok.bsz, ok.noex, ok.exfs, ok.funs, ok.frf⟩
section
variable {X : Cx} {pins : List (Addr × Obj)} {σ : St} {H : Hp} {s : Shared} {E : Value → Shared → Prop}
theorem Inv.wish (I : Inv X pins σ H s) (E : Value → Shared → Prop) : Inv (X.wish E) pins σ H s := ⟨I.ok.wish E, I.os, I.bare, I.base, I.loc, I.cell, I.free, I.freeC, I.pin, I.hok, I.len⟩
theorem Inv.unwish (I : Inv (X.wish E) pins σ H s) : Inv X pins σ H s := ⟨I.ok.unwish, I.os, I.bare, I.base, I.loc, I.cell, I.free, I.freeC, I.pin, I.hok, I.len⟩
theorem SP.unwish {D : Ends} {f : Flow} {s' : Shared} (h : SP (X.wish E) pins D f s') : SP X pins D f s' := by
  cases f with
  | next => obtain ⟨σ', H', I, q⟩ := h; exact ⟨σ', H', I.unwish, q⟩
  | brk => obtain ⟨σ', H', I, q⟩ := h; exact ⟨σ', H', I.unwish, q⟩
  | cont => obtain ⟨σ', H', I, q⟩ := h; exact ⟨σ', H', I.unwish, q⟩
  | ret u => obtain ⟨v, σ', H', I, r, q⟩ := h; exact ⟨v, σ', H', I.unwish, r, q⟩
theorem PSs.nox {st : List Stmt} {t : TS} (h : PSs X.nox st t) : PSs X st t := fun pins s σ H D I hw =>
  wpAny_mono (h pins s σ H D (I.wish _) hw) (fun _ _ q => q.unwish) fun _ _ z => False.elim z
end

/-! ### blocks and small statements -/
section
variable {X : Cx} {st : Stmt} {rest : List Stmt} {t u : TS} {e : Expr} {te : TE} {pos : Pos}
def tNext : TS := fun D σ H => D.nx σ H
def tSeq (t u : TS) : TS := fun D σ H => t { D with nx := u D } σ H
theorem pss_nil : PSs X [] tNext := fun _ _ σ H _ I h => wpAny_execs_nil ⟨σ, H, I, h⟩
theorem pss_cons (h1 : PS X st t) (h2 : PSs X rest u) : PSs X (st :: rest) (tSeq t u) := by
  intro pins s σ H D I h
  refine wpAny_execs_cons (thn (h1 pins s σ H { D with nx := u D } I h) fun f s1 q => ?_)
  cases f with
  | next =>
    obtain ⟨σ', H', I', q⟩ := q
    exact h2 pins s1 σ' H' D I' q
  | ret v => exact q
  | brk => exact q
  | cont => exact q
theorem pss_one (h1 : PS X st t) : PSs X [st] t := by
  intro pins s σ H D I h
  refine wpAny_execs_cons (thn (h1 pins s σ H D I h) fun f s1 q => ?_)
  cases f with
  | next => exact wpAny_execs_nil q
  | ret v => exact q
  | brk => exact q
  | cont => exact q
/-- in a def's body nothing is shown -/
theorem Inv.quiet {pins : List (Addr × Obj)} {σ : St} {H : Hp} {s : Shared} (I : Inv X pins σ H s) : interactive X.env = false := by simp [interactive, I.ok.kind]
/-- an expression whose value is dropped -/
def tDrop (te : TE) : TS := fun D σ H => te σ H fun _ H1 => D.nx σ H1
theorem ps_expr (he : PE X e te) (hs : swapsWith e none pos.line X.env = pure false := by rfl) : PS X (.Expr e pos) (tDrop te) := by
  intro pins s σ H D I h
  exact wpAny_Expr_any (thn (he pins s σ H _ I h) fun v s1 ⟨x, H1, I1, r1, q1⟩ => ⟨σ, H1, I1, q1⟩) I.quiet hs
def tRet (te : TE) : TS := fun D σ H => te σ H D.rt
theorem ps_ret (he : PE X e te) : PS X (.Return (some e) pos) (tRet te) := by
  intro pins s σ H D I h
  exact wpAny_Return_some (thn (he pins s σ H _ I h) fun v s1 ⟨x, H1, I1, r1, q1⟩ => ⟨x, σ, H1, I1, r1, q1⟩)
def tIfS (c : TT) (t u : TS) : TS := fun D σ H => c σ H fun b H1 => if b = true then t D σ H1 else u D σ H1
theorem ps_if {c : Expr} {a b : List Stmt} {tc : TT} (hc : PT X c tc) (ha : PSs X a t) (hb : PSs X b u) : PS X (.If c a b pos) (tIfS tc t u) := by
  intro pins s σ H D I h
  refine wpAny_If (thn (hc pins s σ H _ I h) fun d s1 ⟨H1, I1, q1⟩ => ?_)
  cases d with
  | true => exact ha pins s1 σ H1 D I1 q1
  | false => exact hb pins s1 σ H1 D I1 q1
end

/-! ### targets -/
abbrev TG := V → St → Hp → (St → Hp → Prop) → Prop
abbrev TGs := List V → St → Hp → (St → Hp → Prop) → Prop
def PG (X : Cx) (target : Expr) (t : TG) : Prop :=
  ∀ (pins : List (Addr × Obj)) (s : Shared) (σ : St) (H : Hp) (v : V) (u : Value) (Q : St → Hp → Prop), Inv X pins σ H s → RelV v u → t v σ H Q →
    wpAny (model X.prog X.w) X.A (assign target X.env u) (fun _ s' => ∃ σ' H', Inv X pins σ' H' s' ∧ Q σ' H') X.xe s
/-- several targets, one after another -/
def PGs (X : Cx) (ts : List Expr) (t : TGs) : Prop :=
  ∀ (pins : List (Addr × Obj)) (s : Shared) (σ : St) (H : Hp) (vs : List V) (us : List Value) (Q : St → Hp → Prop), Inv X pins σ H s → Vals vs us → t vs σ H Q →
    wpAny (model X.prog X.w) X.A (assignInOrder ((assignEach ts X.env).map (·.2)) us) (fun _ s' => ∃ σ' H', Inv X pins σ' H' s' ∧ Q σ' H') X.xe s
section
variable {X : Cx} {pos : Pos}
def gName (i : Nat) : TG := fun v σ H Q => Q (σ.set i (some v)) H
theorem pg_name {i : Nat} {x : Str} (hN : X.N.Nodup) (hi : X.N[i]? = some x) (hx : Loc X.env.scope x) (hf : X.fn x = true ∨ X.env.scope.names.lookup x = some .local := by first | exact .inl rfl | exact .inr rfl | assumption) : PG X (.Name x pos) (gName i) := by
  intro pins s σ H v u Q I r h
  exact wpAny_assign_Name (store_ok I hN hi hx r (fun s' I' => ⟨_, H, I', h⟩) hf)
def gNil : TGs := fun vs σ H Q => vs = [] ∧ Q σ H
def gCons (t : TG) (u : TGs) : TGs := fun vs σ H Q => ∃ v r, vs = v :: r ∧ t v σ H fun σ' H' => u r σ' H' Q
theorem pgs_nil : PGs X [] gNil := by
  intro pins s σ H vs us Q I r h
  obtain ⟨e, h⟩ := h
  subst e
  cases r
  exact assignInOrder_nil ⟨σ, H, I, h⟩
theorem pgs_cons {e : Expr} {es : List Expr} {t : TG} {u : TGs} (h1 : PG X e t) (h2 : PGs X es u)
    (hs : (assignEach (e :: es) X.env).map (·.2) = assign e X.env :: (assignEach es X.env).map (·.2) := by rfl) : PGs X (e :: es) (gCons t u) := by
  intro pins s σ H vs us Q I r h
  obtain ⟨v, vr, e1, h⟩ := h
  subst e1
  cases r with
  | cons r rr =>
    rw [hs]
    refine assignInOrder_cons (thn (h1 pins s σ H _ _ _ I r h) fun _ s1 ⟨σ1, H1, I1, q1⟩ => ?_)
    exact h2 pins s1 σ1 H1 _ _ Q I1 rr q1
/-- (a, b, ..) = a tuple of that length -/
def gTup (K : PySem.W.Frag) (n : Nat) (t : TGs) : TG := fun v σ H Q => ∃ a xs, v = .ref a ∧ SqT K H a xs ∧ xs.length = n ∧ t xs σ H Q
theorem pg_tup {es : List Expr} {k : Nat} {t : TGs} {n : Nat} (hc : X.calm = true) (h : PGs X es t)
    (hn : (assignEach es X.env).length = n := by rfl) (hst : (assignEach es X.env).findIdx? (·.1) = none := by rfl) : PG X (.Tuple es k pos) (gTup X.K n t) := by
  intro pins s σ H v u Q I r hw
  obtain ⟨a, xs, e1, hq, hl, hw⟩ := hw
  subst e1
  cases r
  obtain ⟨its, rv, ht, hz⟩ := I.tuple hq
  refine assign_Tuple_tuple (I.ok.hd hc) ht (by simp [hn, ← hl, rv.length]) hst fun h' hx => ?_
  have I1 : Inv X pins σ H { s with heap := h' } := I.kept (t' := s.toks) fun b o e => hx b o (Nat.ne_of_lt (Heap.lt_size e)) e
  exact h pins _ σ H xs _ Q I1 (by simpa using rv) hw
/-- target = value -/
def tAsg (te : TE) (g : TG) : TS := fun D σ H => te σ H fun x H1 => g x σ H1 D.nx
theorem ps_asg {tg e : Expr} {te : TE} {g : TG} (he : PE X e te) (hg : PG X tg g) (hs : swapsWithSole [tg] e pos.line X.env = pure false := by rfl) (hw : swappedStores [tg] e X.env = pure none := by rfl)
    (h1 : (assignEach [tg] X.env).map (·.2) = [assign tg X.env] := by rfl) : PS X (.Assign [tg] e pos) (tAsg te g) := by
  intro pins s σ H D I h
  refine wpAny_Assign_stores (thn (he pins s σ H _ I h) fun v s1 ⟨x, H1, I1, r1, q1⟩ => ?_) hs hw
  rw [h1]
  exact thn (hg pins s1 σ H1 x v _ I1 r1 q1) fun _ s2 q => q
/-- name = value -/
theorem ps_set {i : Nat} {x : Str} {e : Expr} {te : TE} {pos' : Pos} (hN : X.N.Nodup) (hi : X.N[i]? = some x) (hx : Loc X.env.scope x) (he : PE X e te) (hs : swapsWith e (some (.Name x pos')) pos.line X.env = pure false := by rfl) (hf : X.fn x = true ∨ X.env.scope.names.lookup x = some .local := by first | exact .inl rfl | exact .inr rfl | assumption) :
    PS X (.Assign [.Name x pos'] e pos) (tAsg te (gName i)) := by
  intro pins s σ H D I h
  refine wpAny_Assign_Name (thn (he pins s σ H _ I h) fun v s1 ⟨y, H1, I1, r1, q1⟩ => ?_) hs
  exact store_ok I1 hN hi hx r1 (fun s2 I2 => ⟨_, H1, I2, q1⟩) hf
end

/-! ### while -/
section
variable {X : Cx} {pos : Pos}
/-- the invariant W with its measure -/
def tWhile (c : TT) (tb : TS) : TS := fun D σ H => ∃ W : Nat → St → Hp → Prop, (∃ m, W m σ H) ∧ ∀ m σ H, W m σ H →
  c σ H fun b H1 => if b = true then ∃ N : St → Hp → Prop, (∀ σ' H', N σ' H' → ∃ m', m' < m ∧ W m' σ' H') ∧ tb { D with nx := N, ct := N, bk := D.nx } σ H1 else D.nx σ H1
theorem ps_while {c : Expr} {body : List Stmt} {tc : TT} {tb : TS} (hp : PassesOwn (model X.prog X.w) X.A X.env X.xe) (hc : PT X c tc) (hb : PSs X body tb) : PS X (.While c body [] pos) (tWhile tc tb) := by
  intro pins s σ H D I h
  obtain ⟨W, ⟨m0, w0⟩, turn⟩ := h
  refine wpAny_While (codeAny_whileLoop (fun n s' => ∃ σ' H', Inv X pins σ' H' s' ∧ W n σ' H') ?_ m0 ⟨σ, H, I, w0⟩)
  rintro n s1 ⟨σ1, H1, I1, w1⟩
  refine wpAny_passesOwn hp (thn (hc pins s1 σ1 H1 _ I1 (turn n σ1 H1 w1)) fun b s2 ⟨H2, I2, q2⟩ => ?_)
  cases b with
  | true =>
    obtain ⟨N, hN, q2⟩ := q2
    rw [if_pos rfl]
    refine wpAny_passesOwn hp (thn (hb pins s2 σ1 H2 _ I2 q2) fun f s3 q3 => ?_)
    cases f with
    | next =>
      obtain ⟨σ3, H3, I3, n3⟩ := q3
      obtain ⟨m', hm, w3⟩ := hN σ3 H3 n3
      exact ⟨m', hm, σ3, H3, I3, w3⟩
    | cont =>
      obtain ⟨σ3, H3, I3, n3⟩ := q3
      obtain ⟨m', hm, w3⟩ := hN σ3 H3 n3
      exact ⟨m', hm, σ3, H3, I3, w3⟩
    | brk => exact q3
    | ret v => exact q3
  | false =>
    rw [if_neg Bool.false_ne_true]
    exact wpAny_execs_nil ⟨σ1, H2, I2, q2⟩
end

/-! ### what a loop or a comprehension walks -/
/-- at turn i: it yields x (the heap may grow), or it stops -/
structure It where
  go : Nat → Hp → Prop
  yld : Nat → Hp → V → Hp → Prop
  stop : Nat → Hp → Prop
/-- the iterator's own objects may turn: they are not the frame's, not pinned, younger than the entry (or a comprehension's own) -/
def FpOk (X : Cx) (pins : List (Addr × Obj)) (H : Hp) (b : Addr) : Prop :=
  H b = none ∧ b ≠ X.env.locals ∧ b ∉ X.fs ∧ (b ∈ X.ex ∨ X.s₀.heap.objs.size ≤ b) ∧ (∀ x c, X.env.cells.lookup x = some c → c ≠ b) ∧ ∀ p ∈ X.pn ++ pins, p.1 ≠ b
theorem Inv.fpOk {X : Cx} {pins : List (Addr × Obj)} {σ : St} {H H' : Hp} {s : Shared} {b : Addr} (I : Inv X pins σ H s) (hb : s.heap.objs.size ≤ b) (hn : H' b = none) : FpOk X pins H' b := by
  refine ⟨hn, Nat.ne_of_gt (Nat.lt_of_lt_of_le I.lt hb), I.nofs hb, .inr (Nat.le_trans I.sz hb), fun x c e z => ?_, fun p hp z => ?_⟩
  · obtain ⟨v, q⟩ := I.cell x c e
    exact absurd (Nat.lt_of_lt_of_le q.lt (by rw [z]; exact hb)) (Nat.lt_irrefl _)
  · exact absurd (Nat.lt_of_lt_of_le (Heap.lt_size (I.pin p hp).1) (by rw [z]; exact hb)) (Nat.lt_irrefl _)
structure Turn (P : Program) (w : World) (K : PySem.W.Frag) (tg : Expr) (J : It) (fp : List Addr) (it : Addr) (tn : Nat → Heap → Prop) : Prop where
  mem : it ∈ fp
  obj : ∀ i h, tn i h → ∀ b ∈ fp, ∃ o, h.get? b = some o ∧ ∀ v, o.data ≠ .cell v
  keep : ∀ i h h', tn i h → (∀ b ∈ fp, ∀ o, h.get? b = some o → h'.get? b = some o) → tn i h'
  item : ∀ (X : Cx), X.prog = P → X.w = w → X.K = K → X.calm = true → ∀ (i : Nat) (pins : List (Addr × Obj)) (s : Shared) (σ : St) (H : Hp) (E : Value → Shared → Prop), Inv X pins σ H s → (∀ b ∈ fp, FpOk X pins H b) → tn i s.heap → J.go i H →
    wpAny (model P w) X.A (pyNext (.ref it)) (fun r s1 => ∃ u, r = some u ∧
      wpAny (model P w) X.A (letOwnedTupleGo tg (.ref it) u) (fun _ s2 => ∃ x H', Inv X pins σ H' s2 ∧ RelV x u ∧ J.yld i H x H' ∧ tn (i + 1) s2.heap ∧ ∀ b ∈ fp, H' b = none) E s1) E s
  done : ∀ (X : Cx), X.prog = P → X.w = w → X.K = K → X.calm = true → ∀ (i : Nat) (pins : List (Addr × Obj)) (s : Shared) (σ : St) (H : Hp) (E : Value → Shared → Prop), Inv X pins σ H s → (∀ b ∈ fp, FpOk X pins H b) → tn i s.heap → J.stop i H →
    wpAny (model P w) X.A (pyNext (.ref it)) (fun r s1 => r = none ∧ Inv X pins σ H s1) E s
  self : ∀ (A : Around) (i : Nat) (s : Shared) (Q : Value → Shared → Prop) (E : Value → Shared → Prop), tn i s.heap → Q (.ref it) s → wpAny (model P w) A (pyIter (.ref it)) Q E s
abbrev TI := St → Hp → (It → Hp → Prop) → Prop
/-- an iterator has come -/
def PIE (X : Cx) (pins : List (Addr × Obj)) (σ : St) (tg : Expr) (R : It → Hp → Prop) (itv : Value) (s2 : Shared) : Prop :=
  ∃ (it : Addr) (fp : List Addr) (tn : Nat → Heap → Prop) (J : It) (H' : Hp), itv = .ref it ∧ Inv X pins σ H' s2 ∧ Turn X.prog X.w X.K tg J fp it tn ∧ tn 0 s2.heap ∧ (∀ b ∈ fp, FpOk X pins H' b) ∧ R J H'
def PI (X : Cx) (tg iter : Expr) (wi : TI) : Prop :=
  ∀ (pins : List (Addr × Obj)) (s : Shared) (σ : St) (H : Hp) (R : It → Hp → Prop), Inv X pins σ H s → wi σ H R →
    wpAny (model X.prog X.w) X.A (eval iter X.env) (fun v s1 => wpAny (model X.prog X.w) X.A (pyIter v) (PIE X pins σ tg R) X.xe s1) X.xe s

/-- the step ahead of the store is nothing for an iterator that keeps no tuple -/
theorem go_of {M : Model} {A : Around} {E : Value → Shared → Prop} {s : Shared} {tg : Expr} {it : Addr} {u : Value} {o : Obj} {n : String} {vs : Array Value} {Q : Unit → Shared → Prop} (ho : s.heap.get? it = some o) (hc : o.cls = .type n) (hd : o.data = .fields vs)
    (hn : ["enumerate", "zip", "dict_itemiterator", "dict_reverseitemiterator", "odict_iterator", "itertools.zip_longest", "itertools.pairwise"].contains n = false) (hQ : Q () s) : wpAny M A (letOwnedTupleGo tg (.ref it) u) Q E s := by
  unfold letOwnedTupleGo
  cases tg <;> first
    | exact wpAny_pure hQ
    | (cases u <;> first
        | exact wpAny_pure hQ
        | (refine wpAny_bind (wpAny_load ho ?_)
           rw [hc, hd]
           show wpAny M A (if (["enumerate", "zip", "dict_itemiterator", "dict_reverseitemiterator", "odict_iterator", "itertools.zip_longest", "itertools.pairwise"].contains n && vs[0]? == some (rawInt _)) = true then _ else _) Q E s
           rw [if_neg (by intro h; rw [hn, Bool.false_and] at h; cases h)]
           exact wpAny_pure hQ))

/-- the list at a, as it stands at each turn (a loop may append to it) -/
def Itl (K : PySem.W.Frag) (a : Addr) : It :=
  ⟨fun i H => ∃ xs x, SqL K H a xs ∧ xs[i]? = some x, fun i H x H' => H' = H ∧ ∀ xs, SqL K H a xs → xs[i]? = some x, fun i H => ∃ xs, SqL K H a xs ∧ xs.length ≤ i⟩
def Itt (K : PySem.W.Frag) (a : Addr) : It :=
  ⟨fun i H => ∃ xs x, SqT K H a xs ∧ xs[i]? = some x, fun i H x H' => H' = H ∧ ∀ xs, SqT K H a xs → xs[i]? = some x, fun i H => ∃ xs, SqT K H a xs ∧ xs.length ≤ i⟩
theorem turn_list {P : Program} {w : World} {K : PySem.W.Frag} {tg : Expr} (a it : Addr) : Turn P w K tg (Itl K a) [it] it (fun i h => h.IsListIter it a i) where
  mem := by simp
  obj := fun i h st b hb => by
    have e : b = it := by simpa using hb
    subst e
    obtain ⟨o, e, c, d⟩ := st
    exact ⟨o, e, fun v z => by rw [d] at z; cases z⟩
  keep := fun i h h' st k => st.at fun o e => k it (by simp) o e
  item := by
    intro X hP hw hK hc i pins s σ H E I hf st hg
    subst hP hw hK
    obtain ⟨xs, x, hq, hx⟩ := hg
    obtain ⟨its, rv, p, hz⟩ := I.list hq
    obtain ⟨u, hu, ru⟩ := rv.get hx
    obtain ⟨f0, f1, f2, f3, f4, f5⟩ := hf it (by simp)
    refine wpAny_pyNext_list_item st p.isList (x := u) (by simpa using hu) fun h' st' sb => ?_
    have I1 : Inv X pins σ H { s with heap := h' } := I.turned (t' := s.toks) (fun b o hb e => (sb.2 b hb).trans e) f0 f1 f3 f4 f5
    obtain ⟨o, e, c, d⟩ := id st'
    exact ⟨u, rfl, go_of (s := { s with heap := h' }) e c d (by decide) ⟨x, H, I1, ru, ⟨rfl, fun ys hy => by rw [I.list_inj hy hq]; exact hx⟩, st', fun b hb => (hf b hb).1⟩⟩
  done := by
    intro X hP hw hK hc i pins s σ H E I hf st hg
    subst hP hw hK
    obtain ⟨xs, hq, hx⟩ := hg
    obtain ⟨its, rv, p, hz⟩ := I.list hq
    obtain ⟨f0, f1, f2, f3, f4, f5⟩ := hf it (by simp)
    have hl := rv.length
    exact wpAny_pyNext_list_end (I.ok.hd hc) st p.isList (by simp; omega) fun h' eb => ⟨rfl, I.turned (t' := s.toks) (fun b o hb e => eb b o hb e) f0 f1 f3 f4 f5⟩
  self := fun _ _ _ _ _ st h => wpAny_pyIter_listiter st h
theorem turn_tuple {P : Program} {w : World} {K : PySem.W.Frag} {tg : Expr} (a it : Addr) : Turn P w K tg (Itt K a) [it] it (fun i h => h.IsTupleIter it a i) where
  mem := by simp
  obj := fun i h st b hb => by
    have e : b = it := by simpa using hb
    subst e
    obtain ⟨o, e, c, d⟩ := st
    exact ⟨o, e, fun v z => by rw [d] at z; cases z⟩
  keep := fun i h h' st k => st.at fun o e => k it (by simp) o e
  item := by
    intro X hP hw hK hc i pins s σ H E I hf st hg
    subst hP hw hK
    obtain ⟨xs, x, hq, hx⟩ := hg
    obtain ⟨its, rv, p, hz⟩ := I.tuple hq
    obtain ⟨u, hu, ru⟩ := rv.get hx
    obtain ⟨f0, f1, f2, f3, f4, f5⟩ := hf it (by simp)
    refine wpAny_pyNext_tuple_item st (show s.heap.IsTuple a its.toArray from p) (x := u) (by simpa using hu) fun h' st' sb => ?_
    have I1 : Inv X pins σ H { s with heap := h' } := I.turned (t' := s.toks) (fun b o hb e => (sb.2 b hb).trans e) f0 f1 f3 f4 f5
    obtain ⟨o, e, c, d⟩ := id st'
    exact ⟨u, rfl, go_of (s := { s with heap := h' }) e c d (by decide) ⟨x, H, I1, ru, ⟨rfl, fun ys hy => by rw [I.tuple_inj hy hq]; exact hx⟩, st', fun b hb => (hf b hb).1⟩⟩
  done := by
    intro X hP hw hK hc i pins s σ H E I hf st hg
    subst hP hw hK
    obtain ⟨xs, hq, hx⟩ := hg
    obtain ⟨its, rv, p, hz⟩ := I.tuple hq
    obtain ⟨f0, f1, f2, f3, f4, f5⟩ := hf it (by simp)
    have hl := rv.length
    exact wpAny_pyNext_tuple_end (I.ok.hd hc) st (show s.heap.IsTuple a its.toArray from p) (by simp; omega) fun h' eb => ⟨rfl, I.turned (t' := s.toks) (fun b o hb e => eb b o hb e) f0 f1 f3 f4 f5⟩
  self := fun _ _ _ _ _ st h => wpAny_pyIter_tupleiter st h
end L2

namespace L2
open PySem PySem.Spec PyProof.Rows
section
variable {X : Cx} {tg : Expr}
def iList (K : PySem.W.Frag) (tl : TE) : TI := fun σ H R => tl σ H fun x H1 => ∃ a, x = .ref a ∧ (∃ xs, SqL K H1 a xs) ∧ R (Itl K a) H1
def iTup (K : PySem.W.Frag) (tl : TE) : TI := fun σ H R => tl σ H fun x H1 => ∃ a, x = .ref a ∧ (∃ xs, SqT K H1 a xs) ∧ R (Itt K a) H1
theorem pi_list {l : Expr} {tl : TE} (hl : PE X l tl) : PI X tg l (iList X.K tl) := by
  intro pins s σ H R I h
  refine thn (hl pins s σ H _ I h) fun v s1 ⟨x, H1, I1, r1, q1⟩ => ?_
  obtain ⟨a, e, ⟨xs, hq⟩, q⟩ := q1
  subst e
  cases r1
  obtain ⟨its, rv, p, hz⟩ := I1.list hq
  refine wpAny_pyIter_list p.isList ?_
  refine ⟨s1.heap.objs.size, [s1.heap.objs.size], _, _, H1, rfl, I1.kept (t' := s1.toks) fun b o e => Heap.get?_push_of_some _ e, turn_list a _, ⟨_, Heap.get?_push_size _ rfl, rfl, rfl⟩, fun b hb => ?_, q⟩
  have e : b = s1.heap.objs.size := by simpa using hb
  subst e
  exact I1.fpOk (Nat.le_refl _) (I1.hok.fresh (Nat.le_refl _))
theorem pi_tup {l : Expr} {tl : TE} (hl : PE X l tl) : PI X tg l (iTup X.K tl) := by
  intro pins s σ H R I h
  refine thn (hl pins s σ H _ I h) fun v s1 ⟨x, H1, I1, r1, q1⟩ => ?_
  obtain ⟨a, e, ⟨xs, hq⟩, q⟩ := q1
  subst e
  cases r1
  obtain ⟨its, rv, p, hz⟩ := I1.tuple hq
  refine wpAny_pyIter_tuple (show s1.heap.IsTuple a its.toArray from p) ?_
  refine ⟨s1.heap.objs.size, [s1.heap.objs.size], _, _, H1, rfl, I1.kept (t' := s1.toks) fun b o e => Heap.get?_push_of_some _ e, turn_tuple a _, ⟨_, Heap.get?_push_size _ rfl, rfl, rfl⟩, fun b hb => ?_, q⟩
  have e : b = s1.heap.objs.size := by simpa using hb
  subst e
  exact I1.fpOk (Nat.le_refl _) (I1.hok.fresh (Nat.le_refl _))

/-! ### for -/
/-- W: the invariant by the turn and a measure; N: what the body is to reach -/
def tFor (wi : TI) (g : TG) (tb : TS) : TS := fun D σ H => wi σ H fun J H1 => ∃ W : Nat → Nat → St → Hp → Prop, (∃ m, W 0 m σ H1) ∧ ∀ i m σ H, W i m σ H →
  (J.stop i H ∧ D.nx σ H) ∨ (J.go i H ∧ ∃ N : St → Hp → Prop, (∀ σ' H', N σ' H' → ∃ m', m' < m ∧ W (i + 1) m' σ' H') ∧ ∀ x H', J.yld i H x H' → g x σ H' fun σ2 H2 => tb { D with nx := N, ct := N, bk := D.nx } σ2 H2)
/-- the records at fp as they stand -/
def pinsAt (fp : List Addr) (h : Heap) : List (Addr × Obj) := fp.filterMap fun b => (h.get? b).map fun o => (b, o)
theorem mem_pinsAt {fp : List Addr} {h : Heap} {b : Addr} {o : Obj} (hb : b ∈ fp) (e : h.get? b = some o) : (b, o) ∈ pinsAt fp h := List.mem_filterMap.mpr ⟨b, hb, by rw [e]; rfl⟩
theorem of_pinsAt {fp : List Addr} {h : Heap} {p : Addr × Obj} (hp : p ∈ pinsAt fp h) : p.1 ∈ fp ∧ h.get? p.1 = some p.2 := by
  obtain ⟨b, hb, e⟩ := List.mem_filterMap.mp hp
  cases q : h.get? b with
  | none => rw [q] at e; cases e
  | some o =>
    rw [q] at e
    have e' : (b, o) = p := Option.some.inj e
    subst e'
    exact ⟨hb, q⟩
theorem Inv.pinned {pins : List (Addr × Obj)} {σ : St} {H : Hp} {s : Shared} {fp : List Addr} (I : Inv X pins σ H s) (hf : ∀ b ∈ fp, FpOk X pins H b) (ho : ∀ b ∈ fp, ∃ o, s.heap.get? b = some o ∧ ∀ v, o.data ≠ .cell v) : Inv X (pins ++ pinsAt fp s.heap) σ H s :=
  I.pins_of fun p hp => (List.mem_append.mp hp).elim (fun z => I.pin p (List.mem_append_right _ z)) fun z => by
    obtain ⟨hb, e⟩ := of_pinsAt z
    obtain ⟨f0, f1, f2, _⟩ := hf p.1 hb
    obtain ⟨o, e', d⟩ := ho p.1 hb
    rw [e] at e'; cases e'
    exact ⟨e, f0, f1, f2, d⟩
theorem Inv.unpinned {pins pl : List (Addr × Obj)} {σ : St} {H : Hp} {s : Shared} (I : Inv X (pins ++ pl) σ H s) : Inv X pins σ H s := I.pins_of fun p hp => I.pin p (List.mem_append_right _ (List.mem_append_left _ hp))
theorem ps_for {iter : Expr} {body : List Stmt} {wi : TI} {g : TG} {tb : TS} {pos : Pos} (hp : PassesOwn (model X.prog X.w) X.A X.env X.xe) (hc : X.calm = true) (hi : PI X tg iter wi) (hg : PG X tg g) (hb : PSs X body tb)
    (hs : ∀ x, foldedSetIterable iter X.env x = pure x := by intro _; rfl) : PS X (.For tg iter body [] pos) (tFor wi g tb) := by
  intro pins s σ H D I h
  refine wpAny_For (thn (hi pins s σ H _ I h) fun v s1 h1 => thn h1 fun itv s2 h2 => ?_) hs
  obtain ⟨it, fp, tn, J, H2, e, I2, T, st2, f2, W, ⟨m0, w0⟩, turn⟩ := h2
  subst e
  -- what stays true of the iterator's objects through the loop
  have stat : ∀ {H' : Hp}, (∀ b ∈ fp, H' b = none) → ∀ b ∈ fp, FpOk X pins H' b := fun hn b hb => ⟨hn b hb, (f2 b hb).2⟩
  refine codeAny_forLoop_any (fun n s' => ∃ i σ' H', Inv X pins σ' H' s' ∧ tn i s'.heap ∧ (∀ b ∈ fp, H' b = none) ∧ W i n σ' H') ?_ m0 ⟨0, σ, H2, I2, st2, fun b hb => (f2 b hb).1, w0⟩
  rintro n s3 ⟨i, σ3, H3, I3, st3, fr3, w3⟩
  rcases turn i n σ3 H3 w3 with ⟨stop, qn⟩ | ⟨go, N, hN, step⟩
  · refine wpAny_passesOwn hp (thn (T.done X rfl rfl rfl hc i pins s3 σ3 H3 X.xe I3 (stat fr3) st3 stop) fun r s4 ⟨hr, I4⟩ => ?_)
    subst hr
    exact wpAny_execs_nil ⟨σ3, H3, I4, qn⟩
  · refine wpAny_passesOwn hp (thn (T.item X rfl rfl rfl hc i pins s3 σ3 H3 X.xe I3 (stat fr3) st3 go) fun r s4 ⟨u, hr, h4⟩ => ?_)
    subst hr
    refine wpAny_passesOwn hp (thn h4 fun _ s5 ⟨x, H5, I5, r5, y5, st5, fr5⟩ => ?_)
    have I5' := I5.pinned (stat fr5) (T.obj _ _ st5)
    refine wpAny_passesOwn hp (thn (hg _ s5 σ3 H5 x u _ I5' r5 (step x H5 y5)) fun _ s6 ⟨σ6, H6, I6, q6⟩ => ?_)
    refine wpAny_passesOwn hp (thn (hb _ s6 σ6 H6 _ I6 q6) fun f s7 q7 => ?_)
    have again : ∀ {σ7 : St} {H7 : Hp}, Inv X (pins ++ pinsAt fp s5.heap) σ7 H7 s7 → N σ7 H7 → ∃ m, m < n ∧ ∃ i σ' H', Inv X pins σ' H' s7 ∧ tn i s7.heap ∧ (∀ b ∈ fp, H' b = none) ∧ W i m σ' H' := fun {σ7 H7} I7 n7 => by
      obtain ⟨m', hm, w7⟩ := hN σ7 H7 n7
      refine ⟨m', hm, i + 1, σ7, H7, I7.unpinned, T.keep _ _ _ st5 fun b hb o e => (I7.pin (b, o) (List.mem_append_right _ (List.mem_append_right _ (mem_pinsAt hb e)))).1, fun b hb => ?_, w7⟩
      obtain ⟨o, e, d⟩ := T.obj _ _ st5 b hb
      exact (I7.pin (b, o) (List.mem_append_right _ (List.mem_append_right _ (mem_pinsAt hb e)))).2.1
    cases f with
    | next => obtain ⟨σ7, H7, I7, n7⟩ := q7; exact again I7 n7
    | cont => obtain ⟨σ7, H7, I7, n7⟩ := q7; exact again I7 n7
    | brk => obtain ⟨σ7, H7, I7, q7⟩ := q7; exact ⟨σ7, H7, I7.unpinned, q7⟩
    | ret v => obtain ⟨x7, σ7, H7, I7, r7, q7⟩ := q7; exact ⟨x7, σ7, H7, I7.unpinned, r7, q7⟩
end

/-! ### the forms one uses -/
/-- over a list that the body leaves as it is -/
theorem for_list {K : PySem.W.Frag} {a : Addr} {xs : List V} {g : TG} {tb : TS} {D : Ends} {σ : St} {H : Hp} (Pv : Nat → St → Hp → Prop) (h0 : Pv 0 σ H) (hl : ∀ i σ H, i ≤ xs.length → Pv i σ H → SqL K H a xs)
    (hs : ∀ i x σ H, xs[i]? = some x → Pv i σ H → g x σ H fun σ2 H2 => tb { D with nx := Pv (i + 1), ct := Pv (i + 1), bk := D.nx } σ2 H2) (hd : ∀ σ H, Pv xs.length σ H → D.nx σ H) :
    ∃ W : Nat → Nat → St → Hp → Prop, (∃ m, W 0 m σ H) ∧ ∀ i m σ H, W i m σ H →
      ((Itl K a).stop i H ∧ D.nx σ H) ∨ ((Itl K a).go i H ∧ ∃ N : St → Hp → Prop, (∀ σ' H', N σ' H' → ∃ m', m' < m ∧ W (i + 1) m' σ' H') ∧ ∀ x H', (Itl K a).yld i H x H' → g x σ H' fun σ2 H2 => tb { D with nx := N, ct := N, bk := D.nx } σ2 H2) := by
  refine ⟨fun i m σ H => m = xs.length - i ∧ i ≤ xs.length ∧ Pv i σ H, ⟨xs.length, by simp, Nat.zero_le _, h0⟩, ?_⟩
  rintro i m σ H ⟨rfl, hi, p⟩
  have q := hl i σ H hi p
  by_cases hlt : i < xs.length
  · refine .inr ⟨⟨xs, xs[i], q, by simp [hlt]⟩, Pv (i + 1), fun σ' H' p' => ⟨xs.length - (i + 1), by omega, rfl, hlt, p'⟩, fun x H' y => ?_⟩
    obtain ⟨e, y⟩ := y
    subst e
    exact hs i x σ _ (y xs q) p
  · have e : i = xs.length := by omega
    subst e
    exact .inl ⟨⟨xs, q, Nat.le_refl _⟩, hd σ H p⟩
theorem for_tup {K : PySem.W.Frag} {a : Addr} {xs : List V} {g : TG} {tb : TS} {D : Ends} {σ : St} {H : Hp} (Pv : Nat → St → Hp → Prop) (h0 : Pv 0 σ H) (hl : ∀ i σ H, i ≤ xs.length → Pv i σ H → SqT K H a xs)
    (hs : ∀ i x σ H, xs[i]? = some x → Pv i σ H → g x σ H fun σ2 H2 => tb { D with nx := Pv (i + 1), ct := Pv (i + 1), bk := D.nx } σ2 H2) (hd : ∀ σ H, Pv xs.length σ H → D.nx σ H) :
    ∃ W : Nat → Nat → St → Hp → Prop, (∃ m, W 0 m σ H) ∧ ∀ i m σ H, W i m σ H →
      ((Itt K a).stop i H ∧ D.nx σ H) ∨ ((Itt K a).go i H ∧ ∃ N : St → Hp → Prop, (∀ σ' H', N σ' H' → ∃ m', m' < m ∧ W (i + 1) m' σ' H') ∧ ∀ x H', (Itt K a).yld i H x H' → g x σ H' fun σ2 H2 => tb { D with nx := N, ct := N, bk := D.nx } σ2 H2) := by
  refine ⟨fun i m σ H => m = xs.length - i ∧ i ≤ xs.length ∧ Pv i σ H, ⟨xs.length, by simp, Nat.zero_le _, h0⟩, ?_⟩
  rintro i m σ H ⟨rfl, hi, p⟩
  have q := hl i σ H hi p
  by_cases hlt : i < xs.length
  · refine .inr ⟨⟨xs, xs[i], q, by simp [hlt]⟩, Pv (i + 1), fun σ' H' p' => ⟨xs.length - (i + 1), by omega, rfl, hlt, p'⟩, fun x H' y => ?_⟩
    obtain ⟨e, y⟩ := y
    subst e
    exact hs i x σ _ (y xs q) p
  · have e : i = xs.length := by omega
    subst e
    exact .inl ⟨⟨xs, q, Nat.le_refl _⟩, hd σ H p⟩
end L2

namespace L2
open PySem PySem.Spec PyProof.Rows

abbrev R2 := V → V → Hp → VK → Prop
/-- a two-place operation on values: f is binaryOp op, inplaceOp op or compareOp op -/
def OpR (X : Cx) (f : Value → Value → Sem Value) (r : R2) : Prop :=
  ∀ (pins : List (Addr × Obj)) (s : Shared) (σ : St) (H : Hp) (x y : V) (v u : Value) (Q : VK), Inv X pins σ H s → RelV x v → RelV y u → r x y H Q →
    wpAny (model X.prog X.w) X.A (f v u) (EP X pins σ Q) X.xe s
/-- a one-place operation -/
def UnR (X : Cx) (f : Value → Sem Value) (r : V → Hp → VK → Prop) : Prop :=
  ∀ (pins : List (Addr × Obj)) (s : Shared) (σ : St) (H : Hp) (x : V) (v : Value) (Q : VK), Inv X pins σ H s → RelV x v → r x H Q →
    wpAny (model X.prog X.w) X.A (f v) (EP X pins σ Q) X.xe s
/-- a call of a value that is known (a builtin, a type) with values -/
def CallR (X : Cx) (f : Value) (r : List V → Hp → VK → Prop) : Prop :=
  ∀ (pins : List (Addr × Obj)) (s : Shared) (σ : St) (H : Hp) (xs : List V) (us : List Value) (Q : VK), Inv X pins σ H s → Vals xs us → r xs H Q →
    wpAny (model X.prog X.w) X.A (call f us) (EP X pins σ Q) X.xe s

def tOp (r : R2) (ta tb : TE) : TE := fun σ H Q => ta σ H fun x H1 => tb σ H1 fun y H2 => r x y H2 Q
def tUn (r : V → Hp → VK → Prop) (ta : TE) : TE := fun σ H Q => ta σ H fun x H1 => r x H1 Q
/-- ints in, under C, and a value out -/
def rI (C : Int → Int → Prop) (g : Int → Int → V) : R2 := fun x y H Q => ∃ i j, x = .int i ∧ y = .int j ∧ C i j ∧ Q (g i j) H
def rI0 (g : Int → Int → V) : R2 := fun x y H Q => ∃ i j, x = .int i ∧ y = .int j ∧ Q (g i j) H
def rU (g : Int → V) : V → Hp → VK → Prop := fun x H Q => ∃ i, x = .int i ∧ Q (g i) H

section
variable {X : Cx} {a b c : Expr} {ta tb tc : TE} {pos : Pos}

theorem binT (ha : PE X a ta) (hb : PE X b tb) {pins : List (Addr × Obj)} {s : Shared} {σ : St} {H : Hp} {R : V → V → Hp → Prop} (I : Inv X pins σ H s)
    (h : ta σ H fun x H1 => tb σ H1 fun y H2 => R x y H2) {Q : Value → Shared → Prop} {f : Value → Value → Sem Value}
    (hf : ∀ v u s2 x y H2, Inv X pins σ H2 s2 → RelV x v → RelV y u → R x y H2 → wpAny (model X.prog X.w) X.A (f v u) Q X.xe s2) :
    wpAny (model X.prog X.w) X.A (eval a X.env) (fun v s₁ => wpAny (model X.prog X.w) X.A (eval b X.env) (fun u s₂ => wpAny (model X.prog X.w) X.A (f v u) Q X.xe s₂) X.xe s₁) X.xe s := by
  refine thn (ha pins s σ H _ I h) fun v s1 ⟨x, H1, I1, r1, q1⟩ => ?_
  refine thn (hb pins s1 σ H1 _ I1 q1) fun u s2 ⟨y, H2, I2, r2, q2⟩ => ?_
  exact hf v u s2 x y H2 I2 r1 r2 q2

theorem pe_op {op : Operator} {r : R2} (ho : OpR X (binaryOp op) r) (ha : PE X a ta) (hb : PE X b tb) : PE X (.BinOp a op b pos) (tOp r ta tb) := by
  intro pins s σ H Q I h
  exact wpAny_BinOp (binT ha hb I h fun v u s2 x y H2 I2 rx ry q => ho pins s2 σ H2 x y v u Q I2 rx ry q)
theorem pe_un {op : UnaryOp} {r : V → Hp → VK → Prop} (ho : UnR X (unaryOp op) r) (ha : PE X a ta) : PE X (.UnaryOp op a pos) (tUn r ta) := by
  intro pins s σ H Q I h
  exact UnaryOp_ (thn (ha pins s σ H _ I h) fun v s1 ⟨x, H1, I1, r1, q1⟩ => ho pins s1 σ H1 x v Q I1 r1 q1)

/-! ### ints -/
theorem opI {f : Value → Value → Sem Value} {C : Int → Int → Prop} {g : Int → Int → Int}
    (rule : ∀ (i j : Int) (t u : Tok) (s : Shared) (Q : Value → Shared → Prop) (E : Value → Shared → Prop), C i j → Q (.int (g i j) s.toks) { s with toks := s.toks + 1 } → wpAny (model X.prog X.w) X.A (f (.int i t) (.int j u)) Q E s) :
    OpR X f (rI C fun i j => .int (g i j)) := by
  intro pins s σ H x y v u Q I rx ry h
  obtain ⟨i, j, rfl, rfl, hc, q⟩ := h
  obtain ⟨t, rfl⟩ := rx
  obtain ⟨t', rfl⟩ := ry
  exact rule i j t t' s _ _ hc ⟨.int (g i j), H, I.tok _, ⟨_, rfl⟩, q⟩
theorem opI0 {f : Value → Value → Sem Value} {g : Int → Int → Int}
    (rule : ∀ (i j : Int) (t u : Tok) (s : Shared) (Q : Value → Shared → Prop) (E : Value → Shared → Prop), Q (.int (g i j) s.toks) { s with toks := s.toks + 1 } → wpAny (model X.prog X.w) X.A (f (.int i t) (.int j u)) Q E s) :
    OpR X f (rI0 fun i j => .int (g i j)) := by
  intro pins s σ H x y v u Q I rx ry h
  obtain ⟨i, j, rfl, rfl, q⟩ := h
  obtain ⟨t, rfl⟩ := rx
  obtain ⟨t', rfl⟩ := ry
  exact rule i j t t' s _ _ ⟨.int (g i j), H, I.tok _, ⟨_, rfl⟩, q⟩
theorem opB0 {f : Value → Value → Sem Value} {g : Int → Int → Bool}
    (rule : ∀ (i j : Int) (t u : Tok) (s : Shared) (Q : Value → Shared → Prop) (E : Value → Shared → Prop), Q (.bool (g i j)) s → wpAny (model X.prog X.w) X.A (f (.int i t) (.int j u)) Q E s) :
    OpR X f (rI0 fun i j => .bl (g i j)) := by
  intro pins s σ H x y v u Q I rx ry h
  obtain ⟨i, j, rfl, rfl, q⟩ := h
  obtain ⟨t, rfl⟩ := rx
  obtain ⟨t', rfl⟩ := ry
  exact rule i j t t' s _ _ ⟨.bl (g i j), H, I, rfl, q⟩

def CDiv (i j : Int) : Prop := 0 < j ∧ j < 1073741824
def CPow (i j : Int) : Prop := 0 ≤ j ∧ j ≤ 1000000 ∧ i.natAbs < 2 ^ 64
def CMul (i j : Int) : Prop := (-(2 ^ 64) < i ∧ i < 2 ^ 64) ∨ (-(2 ^ 64) < j ∧ j < 2 ^ 64)
theorem CMul.ok {i j : Int} (h : CMul i j) : IntMulOk i j := by
  rcases h with ⟨h1, h2⟩ | ⟨h1, h2⟩
  · exact .of_left (intBits_le_64 h1 h2)
  · exact .of_right (intBits_le_64 h1 h2)

theorem op_add : OpR X (binaryOp .Add) (rI0 fun i j => .int (i + j)) := opI0 fun _ _ _ _ _ _ _ q => add_int q
theorem op_sub : OpR X (binaryOp .Sub) (rI0 fun i j => .int (i - j)) := opI0 fun _ _ _ _ _ _ _ q => sub_int q
theorem op_mul : OpR X (binaryOp .Mult) (rI CMul fun i j => .int (i * j)) := opI fun _ _ _ _ _ _ _ hc q => mul_int q hc.ok
/-- // by a positive divisor -/
theorem op_fdiv : OpR X (binaryOp .FloorDiv) (rI CDiv fun i j => .int (i / j)) := opI fun i j _ _ _ _ _ hc q => by
  have h1 : (0 : Int) < j := hc.1
  have h2 : j < 1073741824 := hc.2
  exact floordiv_int (by omega) (by rw [Int.fdiv_eq_ediv_of_nonneg i (by omega)]; exact q) (.inl (PyProof.noPylong_small (by omega)))
/-- % by a positive divisor of any size -/
theorem op_mod : OpR X (binaryOp .Mod) (rI (fun _ j => 0 < j) fun i j => .int (i % j)) := opI fun i j _ _ _ _ _ hc q => by
  have h1 : (0 : Int) < j := hc
  exact mod_int' (by omega) (by rw [Int.fmod_eq_emod_of_nonneg i (by omega)]; exact q)
theorem op_pow : OpR X (binaryOp .Pow) (rI CPow fun i j => .int (i ^ j.toNat)) := opI fun _ _ _ _ _ _ _ hc q => pow_int_small hc.1 hc.2.1 hc.2.2 q

theorem unI {f : Value → Sem Value} {g : Int → Int}
    (rule : ∀ (i : Int) (t : Tok) (s : Shared) (Q : Value → Shared → Prop) (E : Value → Shared → Prop), Q (.int (g i) s.toks) { s with toks := s.toks + 1 } → wpAny (model X.prog X.w) X.A (f (.int i t)) Q E s) :
    UnR X f (rU fun i => .int (g i)) := by
  intro pins s σ H x v Q I rx h
  obtain ⟨i, rfl, q⟩ := h
  obtain ⟨t, rfl⟩ := rx
  exact rule i t s _ _ ⟨.int (g i), H, I.tok _, ⟨_, rfl⟩, q⟩
theorem un_neg : UnR X (unaryOp .USub) (rU fun i => .int (-i)) := unI fun _ _ _ _ _ q => neg_int q

/-! ### bools among ints: n += (a < b) -/
end

/-! ### comparisons -/
/-- the scalars that == tells apart as data does -/
def scal : V → V → Bool
  | .non, .non => true | .non, .int _ => true | .int _, .non => true | .non, .bl _ => true | .bl _, .non => true | .non, .str _ => true | .str _, .non => true
  | .int _, .int _ => true | .bl _, .bl _ => true | .str _, .str _ => true | .byt _, .byt _ => true
  | .int _, .str _ => true | .str _, .int _ => true | .bl _, .str _ => true | .str _, .bl _ => true
  | _, _ => false
def rEq : R2 := fun x y H Q => scal x y = true ∧ Q (.bl (decide (x = y))) H
def rNe : R2 := fun x y H Q => scal x y = true ∧ Q (.bl (!decide (x = y))) H

theorem dec_int {i j : Int} : decide (V.int i = V.int j) = (i == j) := by
  rw [Bool.eq_iff_iff]
  simp
theorem dec_bl {i j : Bool} : decide (V.bl i = V.bl j) = (i == j) := by
  rw [Bool.eq_iff_iff]
  simp
theorem dec_str {i j : Str} : decide (V.str i = V.str j) = (i == j) := by
  rw [Bool.eq_iff_iff]
  simp
theorem dec_byt {i j : Array UInt8} : decide (V.byt i = V.byt j) = (i.toList == j.toList) := by
  rw [Bool.eq_iff_iff]
  cases i
  cases j
  simp

section
variable {X : Cx} {a b c : Expr} {ta tb tc : TE} {pos : Pos}
theorem fin_bl {pins : List (Addr × Obj)} {σ : St} {H : Hp} {s : Shared} {Q : VK} {k k' : Bool} (I : Inv X pins σ H s) (q : Q (.bl k) H) (e : k = k') : EP X pins σ Q (.bool k') s := by
  subst e
  exact ⟨.bl k, H, I, rfl, q⟩
theorem op_eq : OpR X (compareOp .Eq) rEq := by
  intro pins s σ H x y v u Q I rx ry h
  obtain ⟨hs, q⟩ := h
  cases x with
  | non =>
    cases rx
    cases y with
    | non => cases ry; exact PySem.EqNone.eq_none_none (fin_bl I q (by simp))
    | bl j => cases ry; exact PySem.EqNone.eq_none_bool (fin_bl I q (by simp))
    | int j => obtain ⟨t', rfl⟩ := ry; exact PySem.EqNone.eq_none_int (fin_bl I q (by simp))
    | str j => obtain ⟨t', rfl⟩ := ry; exact PySem.EqNone.eq_none_str (fin_bl I q (by simp))
    | _ => exact absurd (show false = true from hs) Bool.false_ne_true
  | bl i =>
    cases rx
    cases y with
    | non => cases ry; exact PySem.EqNone.eq_bool_none (fin_bl I q (by simp))
    | bl j => cases ry; exact eq_bool (fin_bl I q dec_bl)
    | str j => obtain ⟨t', rfl⟩ := ry; exact PySem.EqMixed.eq_bool_str (fin_bl I q (by simp))
    | _ => exact absurd (show false = true from hs) Bool.false_ne_true
  | int i =>
    obtain ⟨t, rfl⟩ := rx
    cases y with
    | non => cases ry; exact PySem.EqNone.eq_int_none (fin_bl I q (by simp))
    | int j => obtain ⟨t', rfl⟩ := ry; exact eq_int (fin_bl I q dec_int)
    | str j => obtain ⟨t', rfl⟩ := ry; exact PySem.EqMixed.eq_int_str (fin_bl I q (by simp))
    | _ => exact absurd (show false = true from hs) Bool.false_ne_true
  | str i =>
    obtain ⟨t, rfl⟩ := rx
    cases y with
    | non => cases ry; exact PySem.EqNone.eq_str_none (fin_bl I q (by simp))
    | bl j => cases ry; exact PySem.EqMixed.eq_str_bool (fin_bl I q (by simp))
    | int j => obtain ⟨t', rfl⟩ := ry; exact PySem.EqMixed.eq_str_int (fin_bl I q (by simp))
    | str j => obtain ⟨t', rfl⟩ := ry; exact eq_str (fin_bl I q dec_str)
    | _ => exact absurd (show false = true from hs) Bool.false_ne_true
  | byt i =>
    obtain ⟨t, rfl⟩ := rx
    cases y with
    | byt j => obtain ⟨t', rfl⟩ := ry; exact PySem.W.eq_bytes (fin_bl I q dec_byt)
    | _ => exact absurd (show false = true from hs) Bool.false_ne_true
  | _ => cases y <;> exact absurd (show false = true from hs) Bool.false_ne_true
theorem op_ne : OpR X (compareOp .NotEq) rNe := by
  intro pins s σ H x y v u Q I rx ry h
  obtain ⟨hs, q⟩ := h
  cases x with
  | non =>
    cases rx
    cases y with
    | non => cases ry; exact PySem.EqNone.ne_none_none (fin_bl I q (by simp))
    | bl j => cases ry; exact PySem.EqNone.ne_none_bool (fin_bl I q (by simp))
    | int j => obtain ⟨t', rfl⟩ := ry; exact PySem.EqNone.ne_none_int (fin_bl I q (by simp))
    | str j => obtain ⟨t', rfl⟩ := ry; exact PySem.EqNone.ne_none_str (fin_bl I q (by simp))
    | _ => exact absurd (show false = true from hs) Bool.false_ne_true
  | bl i =>
    cases rx
    cases y with
    | non => cases ry; exact PySem.EqNone.ne_bool_none (fin_bl I q (by simp))
    | bl j => cases ry; exact ne_bool (fin_bl I q (congrArg not dec_bl))
    | str j => obtain ⟨t', rfl⟩ := ry; exact PySem.EqMixed.ne_bool_str (fin_bl I q (by simp))
    | _ => exact absurd (show false = true from hs) Bool.false_ne_true
  | int i =>
    obtain ⟨t, rfl⟩ := rx
    cases y with
    | non => cases ry; exact PySem.EqNone.ne_int_none (fin_bl I q (by simp))
    | int j => obtain ⟨t', rfl⟩ := ry; exact ne_int (fin_bl I q (congrArg not dec_int))
    | str j => obtain ⟨t', rfl⟩ := ry; exact PySem.EqMixed.ne_int_str (fin_bl I q (by simp))
    | _ => exact absurd (show false = true from hs) Bool.false_ne_true
  | str i =>
    obtain ⟨t, rfl⟩ := rx
    cases y with
    | non => cases ry; exact PySem.EqNone.ne_str_none (fin_bl I q (by simp))
    | bl j => cases ry; exact PySem.EqMixed.ne_str_bool (fin_bl I q (by simp))
    | int j => obtain ⟨t', rfl⟩ := ry; exact PySem.EqMixed.ne_str_int (fin_bl I q (by simp))
    | str j => obtain ⟨t', rfl⟩ := ry; exact ne_str (fin_bl I q (congrArg not dec_str))
    | _ => exact absurd (show false = true from hs) Bool.false_ne_true
  | byt i =>
    obtain ⟨t, rfl⟩ := rx
    cases y with
    | byt j => obtain ⟨t', rfl⟩ := ry; exact PySem.W.ne_bytes (fin_bl I q (congrArg not dec_byt))
    | _ => exact absurd (show false = true from hs) Bool.false_ne_true
  | _ => cases y <;> exact absurd (show false = true from hs) Bool.false_ne_true

theorem op_lt : OpR X (compareOp .Lt) (rI0 fun i j => .bl (decide (i < j))) := opB0 fun _ _ _ _ _ _ _ q => lt_int q
theorem op_gt : OpR X (compareOp .Gt) (rI0 fun i j => .bl (decide (j < i))) := opB0 fun _ _ _ _ _ _ _ q => gt_int q
theorem op_ge : OpR X (compareOp .GtE) (rI0 fun i j => .bl (decide (j ≤ i))) := opB0 fun _ _ _ _ _ _ _ q => ge_int q
/-- the one string within the other -/
theorem op_in_str : OpR X (compareOp .In) (fun x y H Q => ∃ i j, x = .str i ∧ y = .str j ∧ Q (.bl (!(Builtin.Str.occurrences j i 0 j.length 1).isEmpty)) H) := by
  intro pins s σ H x y v u Q I rx ry h
  obtain ⟨i, j, rfl, rfl, q⟩ := h
  obtain ⟨t, rfl⟩ := rx
  obtain ⟨t', rfl⟩ := ry
  exact in_str (fin_bl I q rfl)

theorem nomark (b : Expr) {op : CmpOp} (h : op ≠ .In := by decide) (h2 : op ≠ .NotIn := by decide) : behindInMarks op b = false := by
  have e1 : (op == CmpOp.In) = false := by cases op <;> first | rfl | exact absurd rfl h
  have e2 : (op == CmpOp.NotIn) = false := by cases op <;> first | rfl | exact absurd rfl h2
  cases b <;> simp [behindInMarks, e1, e2]
/-- a comparison as a value; hm: nomark b, or (for in, not in) by with_unfolding_all rfl -/
theorem pe_cmpR {op : CmpOp} {r : R2} (ho : OpR X (compareOp op) r) (ha : PE X a ta) (hb : PE X b tb) (hm : behindInMarks op b = false) : PE X (.Compare a [op] [b] pos) (tOp r ta tb) := by
  intro pins s σ H Q I h
  exact wpAny_Compare1 (binT ha hb I h fun v u s2 x y H2 I2 rx ry q => ho pins s2 σ H2 x y v u Q I2 rx ry q) hm
/-- a reading of a value as a test -/
def tTest (t : TE) : TT := fun σ H Q => t σ H fun x H' => ∃ k, x = .bl k ∧ Q k H'
theorem pt_cmpR {op : CmpOp} {r : R2} (ho : OpR X (compareOp op) r) (ha : PE X a ta) (hb : PE X b tb) (hm : behindInMarks op b = false) : PT X (.Compare a [op] [b] pos) (tTest (tOp r ta tb)) := by
  intro pins s σ H Q I h
  refine wpAny_isTrue_Compare1 (thn (ha pins s σ H _ I h) fun v s1 ⟨x, H1, I1, r1, q1⟩ => thn (hb pins s1 σ H1 _ I1 q1) fun u s2 ⟨y, H2, I2, r2, q2⟩ =>
    thn (ho pins s2 σ H2 x y v u _ I2 r1 r2 q2) fun c s3 ⟨z, H3, I3, r3, k, e, q3⟩ => ?_) hm
  subst e
  cases r3
  exact wpAny_truthy_bool ⟨H3, I3, q3⟩
/-- a op1 b op2 c -/
def tChain (r r' : R2) (ta tb tc : TE) : TE := fun σ H Q => ta σ H fun x H1 => tb σ H1 fun y H2 => r x y H2 fun z H3 => ∃ k, z = .bl k ∧
  (if k = true then tc σ H3 fun w' H4 => r' y w' H4 Q else Q (.bl false) H3)
theorem pt_chain {op op' : CmpOp} {r r' : R2} (ho : OpR X (compareOp op) r) (ho' : OpR X (compareOp op') r') (ha : PE X a ta) (hb : PE X b tb) (hc : PE X c tc)
    (hm : lastMarks [op, op'] [b, c] = false := by with_unfolding_all rfl) : PT X (.Compare a [op, op'] [b, c] pos) (tTest (tChain r r' ta tb tc)) := by
  intro pins s σ H Q I h
  refine isTrue_chain (thn (ha pins s σ H _ I h) fun v s1 ⟨x, H1, I1, r1, q1⟩ => test_link (thn (hb pins s1 σ H1 _ I1 q1) fun u s2 ⟨y, H2, I2, r2, q2⟩ =>
    thn (ho pins s2 σ H2 x y v u _ I2 r1 r2 q2) fun d s3 ⟨z, H3, I3, r3, k, e, q3⟩ => ?_)) hm
  subst e
  cases r3
  refine wpAny_truthy_bool ?_
  cases k with
  | false =>
    obtain ⟨k', e', q'⟩ := q3
    cases e'
    exact ite_ff ⟨H3, I3, q'⟩
  | true =>
    refine ite_tt (test_last (thn (hc pins s3 σ H3 _ I3 q3) fun w' s4 ⟨z', H4, I4, r4, q4⟩ => thn (ho' pins s4 σ H4 y z' u w' _ I4 r2 r4 q4) fun d' s5 ⟨z2, H5, I5, r5, k2, e2, q5⟩ => ?_))
    subst e2
    cases r5
    exact wpAny_truthy_bool ⟨H5, I5, q5⟩

/-! ### truth -/
theorem line63 : (sizeLine : Nat) < 2 ^ 63 := by rw [sizeLine_eq]; decide

/-! ### strs and bytes -/
theorem op_add_str : OpR X (binaryOp .Add) (fun x y H Q => ∃ i j, x = .str i ∧ y = .str j ∧ i.length + j.length ≤ sizeLine ∧ Q (.str (i ++ j)) H) := by
  intro pins s σ H x y v u Q I rx ry h
  obtain ⟨i, j, rfl, rfl, hz, q⟩ := h
  obtain ⟨t, rfl⟩ := rx
  obtain ⟨t', rfl⟩ := ry
  exact add_str (fun t' tk => ⟨.str (i ++ j), H, I.tok _, ⟨_, rfl⟩, q⟩) hz

/-! ### scalar builtins, by CallR -/
theorem vals1 {x : V} {us : List Value} (r : Vals [x] us) : ∃ u, us = [u] ∧ RelV x u := by
  cases r with
  | cons r1 r2 => cases r2; exact ⟨_, rfl, r1⟩
theorem vals2 {x y : V} {us : List Value} (r : Vals [x, y] us) : ∃ u w', us = [u, w'] ∧ RelV x u ∧ RelV y w' := by
  cases r with
  | cons r1 r2 =>
    cases r2 with
    | cons r3 r4 => cases r4; exact ⟨_, _, rfl, r1, r3⟩
theorem call_abs : CallR X (.builtin "abs") (fun xs H Q => ∃ i, xs = [.int i] ∧ Q (.int (if i < 0 then -i else i)) H) := by
  intro pins s σ H xs us Q I r h
  obtain ⟨i, rfl, q⟩ := h
  obtain ⟨u, rfl, t, rfl⟩ := vals1 r
  exact call_abs_int fun u tk => ⟨.int (if i < 0 then -i else i), H, I.tok _, ⟨_, rfl⟩, q⟩
theorem call_min2 (hc : X.calm = true) : CallR X (.builtin "min") (fun xs H Q => ∃ i j, xs = [.int i, .int j] ∧ Q (.int (if j < i then j else i)) H) := by
  intro pins s σ H xs us Q I r h
  obtain ⟨i, j, rfl, q⟩ := h
  obtain ⟨u, w', rfl, ⟨t, rfl⟩, ⟨t', rfl⟩⟩ := vals2 r
  refine min_two_ints (I.ok.hd hc) fun h' tk k => ⟨_, H, I.kept k, ?_, q⟩
  by_cases hj : j < i
  · rw [if_pos hj, if_pos hj]; exact ⟨_, rfl⟩
  · rw [if_neg hj, if_neg hj]; exact ⟨_, rfl⟩
theorem call_int1 : CallR X (.type "int") (fun xs H Q => (∃ i, xs = [.int i] ∧ Q (.int i) H) ∨ ∃ k, xs = [.bl k] ∧ Q (.int (if k then 1 else 0)) H) := by
  intro pins s σ H xs us Q I r h
  rcases h with ⟨i, rfl, q⟩ | ⟨k, rfl, q⟩
  · obtain ⟨u, rfl, t, rfl⟩ := vals1 r
    exact call_int_int ⟨.int i, H, I, ⟨_, rfl⟩, q⟩
  · obtain ⟨u, rfl, r1⟩ := vals1 r
    cases r1
    exact call_int_bool ⟨.int (if k then 1 else 0), H, I.tok _, ⟨_, rfl⟩, q⟩
theorem call_str_int : CallR X (.type "str") (fun xs H Q => ∃ i, xs = [.int i] ∧ i.natAbs.log2 < 1920 ∧ Q (.str (toString i)) H) := by
  intro pins s σ H xs us Q I r h
  obtain ⟨i, rfl, hz, q⟩ := h
  obtain ⟨u, rfl, t, rfl⟩ := vals1 r
  exact PySem.P.str_of_int hz ⟨.str _, H, I.tok _, ⟨_, rfl⟩, q⟩
end
end L2

namespace L2
open PySem PySem.Spec PyProof.Rows

/-! ### an instance, its attributes a map -/
structure ObjM (h : Heap) (x dx C : Addr) (mA : Str → Option Value) : Prop where
  obj : h.get? x = some (PySem.W.instObj C dx)
  ns : h.Ns1 dx mA
  ne : dx ≠ x

theorem lookIn_ns {h : Heap} {dx : Addr} {mA : Str → Option Value} (n : h.Ns1 dx mA) : ∃ od, h.get? dx = some od ∧ ∀ name, PySem.W.lookIn name od = some (mA name) := by
  obtain ⟨o, es, ep, ho, hd, hk, _, hm⟩ := n
  refine ⟨o, ho, fun name => ?_⟩
  have e := hm name
  unfold nsFind findBy at e
  rw [← Array.find?_toList] at e
  unfold PySem.W.lookIn
  rw [hd]
  dsimp only
  split
  · rename_i y q
    rw [q] at e
    exact congrArg some e
  · rename_i q
    rw [q] at e
    have a : es.toList.any (·.refKey) = false := by
      rw [List.any_eq_false]
      intro y hy
      obtain ⟨z, t, hkey⟩ := hk y (Array.mem_toList_iff.mp hy)
      simp [DictEntry.refKey, hkey]
    have a' : ¬ es.toList.any (·.refKey) = true := by rw [a]; exact Bool.false_ne_true
    rw [if_neg a']
    exact congrArg some e

theorem ObjM.look {h : Heap} {x dx C : Addr} {mA : Str → Option Value} (I : ObjM h x dx C mA) : ∃ od, PySem.W.InstAt h x (PySem.W.instObj C dx) C (some od) ∧ ∀ name, PySem.W.lookIn name od = some (mA name) :=
  let ⟨od, ho, hl⟩ := lookIn_ns I.ns
  ⟨od, ⟨I.obj, rfl, rfl, ho⟩, hl⟩

section
variable {prog : Program} {w : World} {A : Around} {E : Value → Shared → Prop} {s : Shared} {K : PySem.W.Frag} {x dx C f : Addr} {mA : Str → Option Value} {name : Str} {v : Value}

theorem get_map {expr : Bool} {Q : Value → Shared → Prop} (X : K.In s.heap) (I : ObjM s.heap x dx C mA) (hg : PySem.W.plainGet K C name = true) (hh : PySem.W.hasDictIn K C = true)
    (ha : PySem.W.findIn K (.ref C) name = some none) (hv : mA name = some v) (hv' : PySem.W.handedIn v = true) (h : Q v { s with toks := s.toks + 1 }) :
    wpAny (model prog w) A (getAttr (.ref x) name expr) Q E s := by
  obtain ⟨od, J, hl⟩ := I.look
  exact PySem.W.get_value X J (PySem.W.plainGet_of hg).1 (PySem.W.findObj_own hh ha rfl (by rw [hl, hv])) hv' h

theorem get_meth {pl : Sem Bool} {Q : Value × List Value → Shared → Prop} (X : K.In s.heap) (I : ObjM s.heap x dx C mA) (hg : PySem.W.plainGet K C name = true)
    (hf : PySem.W.findIn K (.ref C) name = some (some (.ref f))) (ht : PySem.W.isFn K (.ref f) = true) (hv : mA name = none) (h : Q (.ref f, [.ref x]) s) :
    wpAny (model prog w) A (getMethod (.ref x) name pl) Q E s := by
  obtain ⟨od, J, hl⟩ := I.look
  exact PySem.W.method_fn X J (PySem.W.plainGet_of hg).1 (PySem.W.plainGet_of hg).2 hf (beq_iff_eq.mp ht) (by show (PySem.W.lookIn name od).map (·.isSome) = some false; rw [hl, hv]; rfl) h

theorem set_map {ns : List Str} {Q : Unit → Shared → Prop} (X : K.In s.heap) (I : ObjM s.heap x dx C mA)
    (hs : PySem.W.findIn K (.ref C) "__setattr__" = some (some (.builtin "object.__setattr__"))) (hp : PySem.W.plainOver K C = true) (ht : PySem.W.takerIn K C name = some none) (hh : PySem.W.hasDictIn K C = true)
    (hw : PySem.Within mA ns) (hsz : ns.length ≤ sizeLine)
    (h : ∀ h', ObjM h' x dx C (fun y => if y = name then some v else mA y) → Heap.SameBut dx s.heap h' → Q () { s with heap := h', toks := s.toks + 2 }) :
    wpAny (model prog w) A (setAttr (.ref x) name v) Q E s := by
  obtain ⟨od, J, hl⟩ := I.look
  refine PySem.W.set_plain X J hs (PySem.W.osa_open (s := { s with toks := s.toks + 1 }) (r := none) X J hp ht fun b => ?_)
  obtain ⟨cd, hc, hd'⟩ := PySem.W.any_some hh
  have hx : s.heap.get? x = some ⟨.ref C, some dx, .plain, #[]⟩ := I.obj
  refine wpAny_bind (wpAny_pure (wpAny_bind (wpAny_bind (wpAny_loadPart hx (wpAny_bind (PySem.W.Looks.here (s := { s with toks := s.toks + 1 }) (PySem.W.looks_clsIn X hc) ?_))))))
  rw [hd']
  refine wpAny_pure (a := some dx) (wpAny_bind (wpAny_pure (wpAny_bind ?_)))
  refine wpAny_nsSet1 (s := { s with toks := s.toks + 1 }) I.ns fun h' hn2 hs2 => ?_
  obtain ⟨oD, esD, epD, hoD, hdD, hcD⟩ := hn2.count (PySem.Within.cons name v hw)
  refine wpAny_bind (wpAny_lookBehind hoD (by rw [hdD]; exact pastItsLine_dict (Nat.le_trans hcD (by rw [List.length_cons]; omega))) ?_)
  exact wpAny_pure (h _ ⟨(hs2.2 _ (Ne.symm I.ne)).trans I.obj, hn2, I.ne⟩ hs2)

/-- C(..): the dict at the heap's end, the instance behind it; then its __init__ -/
theorem make_map {R : Result → Shared → Prop} {vs : List Value} {kw : List (Str × Value)} (X : K.In s.heap) (hm : PySem.W.makesIn K C = true)
    (hi : PySem.W.findIn K (.ref C) "__init__" = some (some (.ref f))) (hf : PySem.W.typeIn K (.ref f) = some (.type "function"))
    (h : codeAny (model prog w) (A.under (.builtin "type.__call__" ⟨.ref C :: vs, kw⟩)) (.call (.ref f) ⟨.ref (s.heap.objs.size + 1) :: vs, kw⟩) (PySem.W.InitBack (s.heap.objs.size + 1) R)
      { s with heap := (s.heap.push PySem.W.emptyDict).push (PySem.W.instObj C s.heap.objs.size) }) :
    codeAny (model prog w) A (.call (.ref C) ⟨vs, kw⟩) R s := by
  obtain ⟨hh, g, d, t, os⟩ := s
  exact PySem.W.make_core (PySem.W.makes_of X hm) (PySem.W.looks_findIn X hi) (fun self => PySem.W.bind_fn X self hf) (.inl rfl) h
end

/-! ### the attributes as a list of pairs -/
def putF (f : Str) (v : V) : List (Str × V) → List (Str × V)
  | [] => [(f, v)]
  | (g, x) :: r => if g = f then (g, v) :: r else (g, x) :: putF f v r
theorem lookup_putF (f g : Str) (v : V) : ∀ fs : List (Str × V), (putF f v fs).lookup g = if g = f then some v else fs.lookup g
  | [] => by
    show List.lookup g [(f, v)] = _
    by_cases h : g = f
    · have hb : (g == f) = true := beq_iff_eq.mpr h
      simp only [List.lookup, hb, if_pos h]
    · have hb : (g == f) = false := beq_eq_false_iff_ne.mpr h
      simp only [List.lookup, hb, if_neg h]
  | (k, x) :: r => by
    have ih := lookup_putF f g v r
    rw [show putF f v ((k, x) :: r) = (if k = f then (k, v) :: r else (k, x) :: putF f v r) from rfl]
    by_cases hk : k = f
    · rw [if_pos hk]
      by_cases h : g = k
      · have hb : (g == k) = true := beq_iff_eq.mpr h
        simp only [List.lookup, hb, if_pos (h.trans hk)]
      · have hb : (g == k) = false := beq_eq_false_iff_ne.mpr h
        simp only [List.lookup, hb, if_neg (fun e : g = f => h (e.trans hk.symm))]
    · rw [if_neg hk]
      by_cases h : g = k
      · have hb : (g == k) = true := beq_iff_eq.mpr h
        simp only [List.lookup, hb, if_neg (fun e : g = f => hk (h.symm.trans e))]
      · have hb : (g == k) = false := beq_eq_false_iff_ne.mpr h
        simp only [List.lookup, hb]
        exact ih
theorem keys_putF (f : Str) (v : V) : ∀ fs : List (Str × V), f ∈ (putF f v fs).map (·.1) ∧ ∀ g, g ∈ fs.map (·.1) → g ∈ (putF f v fs).map (·.1)
  | [] => ⟨by simp [putF], fun g h => by simp at h⟩
  | (k, x) :: r => by
    obtain ⟨i1, i2⟩ := keys_putF f v r
    rw [show putF f v ((k, x) :: r) = (if k = f then (k, v) :: r else (k, x) :: putF f v r) from rfl]
    by_cases hk : k = f
    · rw [if_pos hk]
      subst hk
      exact ⟨by simp, fun g h => by simpa using h⟩
    · rw [if_neg hk]
      refine ⟨?_, fun g h => ?_⟩
      · rw [List.map_cons]
        exact List.mem_cons_of_mem _ i1
      · rw [List.map_cons] at h ⊢
        rcases List.mem_cons.mp h with e | e
        · exact List.mem_cons.mpr (.inl e)
        · exact List.mem_cons_of_mem _ (i2 g e)
theorem length_putF (f : Str) (v : V) : ∀ fs : List (Str × V), (putF f v fs).length ≤ fs.length + 1
  | [] => by simp [putF]
  | (k, x) :: r => by
    have ih := length_putF f v r
    rw [show putF f v ((k, x) :: r) = (if k = f then (k, v) :: r else (k, x) :: putF f v r) from rfl]
    by_cases hk : k = f
    · rw [if_pos hk, List.length_cons, List.length_cons]; omega
    · rw [if_neg hk, List.length_cons, List.length_cons]; omega

theorem RelO.some_of {v : V} {o : Option Value} (r : RelO (some v) o) : ∃ u, o = some u ∧ RelV v u := by
  cases o with
  | none => exact (show False from r).elim
  | some u => exact ⟨u, rfl, r⟩
theorem RelO.none_of {o : Option Value} (r : RelO none o) : o = none := by
  cases o with
  | none => rfl
  | some u => exact (show False from r).elim
theorem handed_of {v : V} {u : Value} (r : RelV v u) : PySem.W.handedIn u = true := by
  cases v with
  | non => cases (show u = Value.none from r); rfl
  | bl b => cases (show u = Value.bool b from r); rfl
  | int i => obtain ⟨t, e⟩ := (show ∃ t, u = Value.int i t from r); cases e; rfl
  | str x => obtain ⟨t, e⟩ := (show ∃ t, u = Value.str x t from r); cases e; rfl
  | byt b => obtain ⟨t, e⟩ := (show ∃ t, u = Value.bytes b t from r); cases e; rfl
  | flt b => obtain ⟨t, e⟩ := (show ∃ t, u = Value.float b t from r); cases e; rfl
  | ref a => cases (show u = Value.ref a from r); rfl
  | ty n => cases (show u = Value.type n from r); rfl

section
variable {P : Program} {w : World} {H H' : Hp} {h h' : Heap} {a C dx : Addr} {fs fs' : List (Str × V)}
theorem ins_get (hok : HOk P w H h) (e : H a = some (.ins C dx fs)) : ∃ mA, ObjM h a dx C mA ∧ (∀ f, RelO (fs.lookup f) (mA f)) ∧ PySem.Within mA (fs.map (·.1)) ∧ fs.length ≤ 1000 ∧ H dx = some (.own a) := by
  obtain ⟨d, z, ne, ob, mA, n, r, q⟩ := (show ObjOk P w H h a (.ins C dx fs) from hok a _ e)
  exact ⟨mA, ⟨ob, n, ne⟩, r, q, z, d⟩
end

/-! ### what of the text a class must have -/
structure Cls (K : PySem.W.Frag) (C : Addr) : Prop where
  pg : PySem.W.plainGet K C Str.empty = true
  hd : PySem.W.hasDictIn K C = true
  po : PySem.W.plainOver K C = true
  sa : PySem.W.findIn K (.ref C) "__setattr__" = some (some (.builtin "object.__setattr__"))
theorem Cls.get {K : PySem.W.Frag} {C : Addr} (c : Cls K C) (f : Str) : PySem.W.plainGet K C f = true := c.pg
/-- no class of it has the name -/
def NoAttr (K : PySem.W.Frag) (C : Addr) (f : Str) : Prop := PySem.W.findIn K (.ref C) f = some none
theorem NoAttr.taker {K : PySem.W.Frag} {C : Addr} {f : Str} (n : NoAttr K C f) : PySem.W.takerIn K C f = some none := by
  unfold PySem.W.takerIn
  rw [show PySem.W.findIn K (.ref C) f = some none from n]
  rfl
/-- a method: a plain def of the class or of one above it -/
structure Meth (K : PySem.W.Frag) (C : Addr) (m : Str) (f : Addr) : Prop where
  at_ : PySem.W.findIn K (.ref C) m = some (some (.ref f))
  fn : PySem.W.isFn K (.ref f) = true
  kp : PySem.W.keepIn K (.ref f) = true

section
variable {X : Cx} {pins : List (Addr × Obj)} {σ : St} {H : Hp} {s : Shared} {a C dx : Addr} {fs : List (Str × V)} {f : Str} {v : V} {A : Around} {E : Value → Shared → Prop}

theorem getattr_ok {b : Bool} {Q : Value → Shared → Prop} (I : Inv X pins σ H s) (e : H a = some (.ins C dx fs)) (c : Cls X.K C) (n : NoAttr X.K C f) (l : fs.lookup f = some v)
    (h : ∀ u s', Inv X pins σ H s' → RelV v u → Q u s') : wpAny (model X.prog X.w) A (getAttr (.ref a) f b) Q E s := by
  obtain ⟨mA, O, r, _, _, _⟩ := ins_get I.hok e
  obtain ⟨u, hu, ru⟩ := RelO.some_of (v := v) (o := mA f) (by rw [← l]; exact r f)
  exact get_map I.kIn O (c.get f) c.hd n hu (handed_of ru) (h u _ (I.tok _) ru)

theorem getmeth_ok {m : Str} {g : Addr} {pl : Sem Bool} {Q : Value × List Value → Shared → Prop} (I : Inv X pins σ H s) (e : H a = some (.ins C dx fs)) (c : Cls X.K C) (k : Meth X.K C m g) (l : fs.lookup m = none)
    (h : Q (.ref g, [.ref a]) s) : wpAny (model X.prog X.w) A (getMethod (.ref a) m pl) Q E s := by
  obtain ⟨mA, O, r, _, _, _⟩ := ins_get I.hok e
  have hn : mA m = none := RelO.none_of (by rw [← l]; exact r m)
  exact get_meth I.kIn O (c.get m) k.at_ k.fn hn h

theorem setattr_ok {y : V} {u : Value} {Q : Unit → Shared → Prop} (I : Inv X pins σ H s) (e : H a = some (.ins C dx fs)) (c : Cls X.K C) (n : NoAttr X.K C f) (hl : fs.length < 1000) (ry : RelV y u)
    (h : ∀ s', Inv X pins σ (upd H a (.ins C dx (putF f y fs))) s' → Q () s') : wpAny (model X.prog X.w) A (setAttr (.ref a) f u) Q E s := by
  obtain ⟨mA, O, r, wi, _, ho⟩ := ins_get I.hok e
  have hz : (fs.map (·.1)).length ≤ sizeLine := by rw [List.length_map, sizeLine_eq]; omega
  refine set_map I.kIn O c.sa c.po n.taker c.hd wi hz fun h' O' sb => h _ ?_
  have hd : ∃ o, h'.get? dx = some o := let ⟨o, _, _, e', _⟩ := O'.ns; ⟨o, e'⟩
  refine I.write (x := a) (e := dx) (by rw [e]; exact True.intro) (.inr ho) (fun b q hb z => (sb.2 b hb).trans z) hd ?_
  refine ⟨by rw [upd_ne O.ne]; exact ho, ?_, O.ne, O'.obj, _, O'.ns, fun g => ?_, fun g hg => ?_⟩
  · have := length_putF f y fs; omega
  · show RelO ((putF f y fs).lookup g) (if g = f then some u else mA g)
    rw [lookup_putF]
    by_cases q : g = f
    · rw [if_pos q, if_pos q]; exact ry
    · rw [if_neg q, if_neg q]; exact r g
  · by_cases q : g = f
    · rw [q]; exact (keys_putF f y fs).1
    · refine (keys_putF f y fs).2 g (wi g fun z => hg ?_)
      show (if g = f then some u else mA g) = none
      rw [if_neg q]; exact z

/-- a new instance, tracked, without attributes -/
theorem Inv.made (I : Inv X pins σ H s) : Inv X pins σ (upd (upd H s.heap.objs.size (.own (s.heap.objs.size + 1))) (s.heap.objs.size + 1) (.ins C s.heap.objs.size []))
    { s with heap := (s.heap.push PySem.W.emptyDict).push (PySem.W.instObj C s.heap.objs.size) } := by
  have e1 : (s.heap.push PySem.W.emptyDict).get? s.heap.objs.size = some PySem.W.emptyDict := Heap.get?_push_size s.heap rfl
  have e2 : ((s.heap.push PySem.W.emptyDict).push (PySem.W.instObj C s.heap.objs.size)).get? (s.heap.objs.size + 1) = some (PySem.W.instObj C s.heap.objs.size) := by
    have := Heap.get?_push_size (s.heap.push PySem.W.emptyDict) (o := PySem.W.instObj C s.heap.objs.size) rfl
    rwa [Heap.size_push] at this
  have e3 : (s.heap.push PySem.W.emptyDict).Ns s.heap.objs.size (fun _ => none) := ⟨PySem.W.emptyDict, #[], _, e1, rfl, (fun e he => absurd he (by simp)), fun _ => rfl⟩
  have I1 := I.laid (a := s.heap.objs.size) (o := .own (s.heap.objs.size + 1)) (h' := s.heap.push PySem.W.emptyDict) (t' := s.toks) (fun b u q => Heap.get?_push_of_some _ q) (Nat.le_refl _) ⟨_, e1⟩
  refine I1.laid (a := s.heap.objs.size + 1) (o := .ins C s.heap.objs.size []) (t' := s.toks) (fun b u q => Heap.get?_push_of_some _ q) (Nat.le_of_eq (Heap.size_push _ _)) ?_
  have ne : s.heap.objs.size ≠ s.heap.objs.size + 1 := Nat.ne_of_lt (Nat.lt_succ_self _)
  refine ⟨by rw [upd_ne ne, upd_same], Nat.zero_le _, ne, e2, fun _ => none, (Heap.Ns1.of_empty e3).at fun o q => Heap.get?_push_of_some _ q, fun _ => True.intro, fun y hy => absurd rfl hy⟩

/-- e.f where nothing but the object is asked: through attributeBase (super) and the last hold -/
theorem attr_of {prog : Program} {w : World} {env : Env} {e : Expr} {f : Str} {pos : Pos} {s : Shared} {Q : Value → Shared → Prop} (hb : attributeBase e f env (eval e env) = eval e env)
    (h : wpAny (model prog w) A (eval e env) (fun o s₁ => wpAny (model prog w) A (getAttr o f true) Q E s₁) E s) : wpAny (model prog w) A (eval (.Attribute e f pos) env) Q E s :=
  Attribute_any_ h (by rw [arm_eval_Attribute, hb])
end

/-! ### readings and rules -/
/-- e.f, an attribute of the instance -/
def tFld (K : PySem.W.Frag) (ta : TE) (f : Str) : TE := fun σ H Q => ta σ H fun x H1 => ∃ a C dx fs v, x = .ref a ∧ H1 a = some (.ins C dx fs) ∧ Cls K C ∧ NoAttr K C f ∧ fs.lookup f = some v ∧ Q v H1
/-- e.f = value -/
def sFld (K : PySem.W.Frag) (ta tv : TE) (f : Str) : TS := fun D σ H => tv σ H fun y H1 => ta σ H1 fun x H2 => ∃ a C dx fs, x = .ref a ∧ H2 a = some (.ins C dx fs) ∧ Cls K C ∧ NoAttr K C f ∧ fs.length < 1000 ∧
  D.nx σ (upd H2 a (.ins C dx (putF f y fs)))
/-- an augmented operator on two values -/
def InOp (X : Cx) (op : Operator) (rd : V → V → Hp → VK → Prop) : Prop :=
  ∀ (pins : List (Addr × Obj)) (s : Shared) (σ : St) (H : Hp) (x y : V) (u v : Value) (Q : VK), Inv X pins σ H s → RelV x u → RelV y v → rd x y H Q → wpAny (model X.prog X.w) X.A (inplaceOp op u v) (EP X pins σ Q) X.xe s
/-- e.f op= value -/
def sFldAug (K : PySem.W.Frag) (ta tv : TE) (rd : V → V → Hp → VK → Prop) (f : Str) : TS := fun D σ H => ta σ H fun x H1 => ∃ a C dx fs v, x = .ref a ∧ H1 a = some (.ins C dx fs) ∧ Cls K C ∧ NoAttr K C f ∧ fs.lookup f = some v ∧
  tv σ H1 fun y H2 => rd v y H2 fun z H3 => ∃ dx' fs', H3 a = some (.ins C dx' fs') ∧ fs'.length < 1000 ∧ D.nx σ (upd H3 a (.ins C dx' (putF f z fs')))

section
variable {X : Cx} {o e value : Expr} {f : Str} {pos pos' tpos : Pos} {ta tv : TE}
theorem pe_fld (he : PE X e ta) (hb : attributeBase e f X.env (eval e X.env) = eval e X.env) : PE X (.Attribute e f pos) (tFld X.K ta f) := by
  intro pins s σ H Q I h
  refine attr_of hb (thn (he pins s σ H _ I h) fun u s1 ⟨x, H1, I1, rx, a, C, dx, fs, v, ex, ea, c, n, l, q⟩ => ?_)
  subst ex
  obtain rfl : u = Value.ref a := rx
  exact getattr_ok I1 ea c n l fun u' s2 I2 ru => ⟨v, H1, I2, ru, q⟩
theorem ps_fld (ha : PE X o ta) (hv : PE X value tv) (hs : swapsWith value (some (.Attribute o f pos')) pos.line X.env = pure false) : PS X (.Assign [.Attribute o f pos'] value pos) (sFld X.K ta tv f) := by
  intro pins s σ H D I h
  refine plainObj_wpAny_Assign_Attribute (thn (hv pins s σ H _ I h) fun u s1 ⟨y, H1, I1, ry, q⟩ => thn (ha pins s1 σ H1 _ I1 q) fun ov s2 ⟨x, H2, I2, rx, a, C, dx, fs, ex, ea, c, n, l, q2⟩ => ?_) hs
  subst ex
  obtain rfl : ov = Value.ref a := rx
  exact setattr_ok I2 ea c n l ry fun s3 I3 => ⟨σ, _, I3, q2⟩
theorem ps_fldaug {op : Operator} {rd : V → V → Hp → VK → Prop} (ha : PE X o ta) (hv : PE X value tv) (hop : InOp X op rd) : PS X (.AugAssign (.Attribute o f tpos) op value pos) (sFldAug X.K ta tv rd f) := by
  intro pins s σ H D I h
  refine wpAny_AugAssign_AttributeAny (thn (ha pins s σ H _ I h) fun ov s1 ⟨x, H1, I1, rx, a, C, dx, fs, v, ex, ea, c, n, l, q⟩ => ?_)
  subst ex
  obtain rfl : ov = Value.ref a := rx
  refine getattr_ok I1 ea c n l fun u s2 I2 ru => thn (hv pins s2 σ H1 _ I2 q) fun w3 s3 ⟨y, H2, I3, ry, q3⟩ => thn (hop pins s3 σ H2 v y u w3 _ I3 ru ry q3) fun w4 s4 ⟨z, H3, I4, rz, dx', fs', ea', l', q4⟩ => ?_
  exact setattr_ok I4 ea' c n l' rz fun s5 I5 => ⟨σ, _, I5, q4⟩
def rAdd : V → V → Hp → VK → Prop := fun x y H Q => ∃ i j, x = .int i ∧ y = .int j ∧ Q (.int (i + j)) H
theorem in_add : InOp X .Add rAdd := by
  rintro pins s σ H x y u v Q I rx ry ⟨i, j, rfl, rfl, q⟩
  obtain ⟨t, rfl⟩ := (show ∃ t, u = Value.int i t from rx)
  obtain ⟨t', rfl⟩ := (show ∃ t', v = Value.int j t' from ry)
  exact PyProof.Rows.iadd_int ⟨.int (i + j), H, I.tok _, ⟨_, rfl⟩, q⟩

end

/-! ### isinstance -/
section
variable {X : Cx} {pins : List (Addr × Obj)} {σ : St} {H : Hp} {s : Shared} {A : Around} {E : Value → Shared → Prop} {Q : Value → Shared → Prop} {c : Value} {b : Bool}
/-- the type of a value, as the fragment's deciders take it; for an instance its class -/
inductive TyOf (K : PySem.W.Frag) (H : Hp) : V → Value → Prop where
  | non : TyOf K H .non (.type "NoneType")
  | bl (x : Bool) : TyOf K H (.bl x) (.type "bool")
  | int (i : Int) : TyOf K H (.int i) (.type "int")
  | str (x : Str) : TyOf K H (.str x) (.type "str")
  | flt (x : UInt64) : TyOf K H (.flt x) (.type "float")
  | lst {a : Addr} {xs : List V} (e : H a = some (.lst xs)) : TyOf K H (.ref a) (.type "list")
  | frz {a : Addr} {o : Obj} {xs : List V} (e : H a = some (.frz o (.lst xs))) : TyOf K H (.ref a) (.type "list")
  | tup {a : Addr} {xs : List V} (e : H a = some (.tup xs)) : TyOf K H (.ref a) (.type "tuple")
  | dK {a : Addr} {kvs : List (Key × V)} (e : H a = some (.dK kvs)) : TyOf K H (.ref a) (.type "dict")
  | dT {a : Addr} {kvs : List (List Key × V)} (e : H a = some (.dT kvs)) : TyOf K H (.ref a) (.type "dict")
  | ins {a C dx : Addr} {fs : List (Str × V)} (e : H a = some (.ins C dx fs)) (cl : Cls K C) (ha : PySem.W.findIn K (.ref C) "__class__" = some (some (.builtin "object.__class__")))
      (hn : PySem.W.specialIn K (.builtin "object.__class__") "__get__" = some (some (.builtin "getset_descriptor.__get__"))) (htk : PySem.W.takesIn K (.builtin "object.__class__") = some true)
      (hm : PySem.W.mroIn K C (.type "object") = some true) : TyOf K H (.ref a) (.ref C)
/-- isinstance(x, c) for one class c, a built-in or an own one: kitOne's answer -/
theorem isinst_ok {x : V} {u t : Value} (I : Inv X pins σ H s) (rx : RelV x u) (ty : TyOf X.K H x t) (e : PySem.W.kitOne X.K t c = some b) (h : ∀ tk, Q (.bool b) { s with toks := tk }) :
    wpAny (model X.prog X.w) A (call (.builtin "isinstance") [u, c]) Q E s := by
  cases ty with
  | non => cases (show u = Value.none from rx); exact PySem.W.kia_one PySem.W.kitx_none I.kIn True.intro e (fun z => nomatch z) h
  | bl y => cases (show u = Value.bool y from rx); exact PySem.W.kia_one PySem.W.kitx_bool I.kIn True.intro e (fun z => nomatch z) h
  | int i => obtain ⟨t, q⟩ := (show ∃ t, u = Value.int i t from rx); cases q; exact PySem.W.kia_one PySem.W.kitx_int I.kIn True.intro e (fun z => nomatch z) h
  | str y => obtain ⟨t, q⟩ := (show ∃ t, u = Value.str y t from rx); cases q; exact PySem.W.kia_one PySem.W.kitx_str I.kIn True.intro e (fun z => nomatch z) h
  | flt y => obtain ⟨t, q⟩ := (show ∃ t, u = Value.float y t from rx); cases q; exact PySem.W.kia_one PySem.W.kitx_float I.kIn True.intro e (fun z => nomatch z) h
  | @lst a xs ea =>
    cases (show u = Value.ref a from rx)
    obtain ⟨_, _, n, _, h1⟩ := (show ObjOk X.prog X.w H s.heap a (.lst xs) from I.hok a _ ea)
    exact PySem.W.kia_one PySem.W.kitx_list I.kIn ⟨_, h1, rfl⟩ e (fun z => nomatch z) h
  | @frz a ob xs ea =>
    cases (show u = Value.ref a from rx)
    obtain ⟨_, _, _, n, _, h1⟩ := (show ObjOk X.prog X.w H s.heap a (.frz ob (.lst xs)) from I.hok a _ ea)
    exact PySem.W.kia_one PySem.W.kitx_list I.kIn ⟨_, h1, rfl⟩ e (fun z => nomatch z) h
  | @tup a xs ea =>
    cases (show u = Value.ref a from rx)
    obtain ⟨_, _, _, p⟩ := (show ObjOk X.prog X.w H s.heap a (.tup xs) from I.hok a _ ea)
    obtain ⟨o, h1, h2, _⟩ := p
    exact PySem.W.kia_one PySem.W.kitx_tuple I.kIn ⟨o, h1, h2⟩ e (fun z => nomatch z) h
  | @dK a kvs ea =>
    cases (show u = Value.ref a from rx)
    obtain ⟨_, _, vs, _, p⟩ := (show ObjOk X.prog X.w H s.heap a (.dK kvs) from I.hok a _ ea)
    obtain ⟨o, es, ep, h1, h2, _⟩ := p
    exact PySem.W.kia_one PySem.W.kitx_dict I.kIn ⟨o, h1, h2.1⟩ e (fun z => nomatch z) h
  | @dT a kvs ea =>
    cases (show u = Value.ref a from rx)
    obtain ⟨_, _, xs, _, o, es, ep, h1, h2, _⟩ := (show ObjOk X.prog X.w H s.heap a (.dT kvs) from I.hok a _ ea)
    exact PySem.W.kia_one PySem.W.kitx_dict I.kIn ⟨o, h1, h2.1⟩ e (fun z => nomatch z) h
  | @ins a C dx fs ea cl ha hn htk hm =>
    cases (show u = Value.ref a from rx)
    obtain ⟨mA, O, _⟩ := ins_get I.hok ea
    obtain ⟨od, J, _⟩ := O.look
    exact PySem.W.kia_one (PySem.W.kitx_own (cl.get _) cl.hd ha hn htk hm) I.kIn J e (fun z => nomatch z) h
end
end L2

namespace L2
open PySem PySem.Spec PyProof.Rows

/-! ### room -/
structure Room (k : Nat) (A : Around) : Prop where
  hd : A.handled = none
  dp : A.depth + 3 * k + 5 < recursionLimit
  un : A.units + 16 * k + 200 < cLine
theorem Room.mono {j k : Nat} {A : Around} (r : Room k A) (h : j ≤ k) : Room j A := ⟨r.hd, by have := r.dp; omega, by have := r.un; omega⟩
theorem Room.deeper {k : Nat} {A : Around} (r : Room (k + 1) A) (env : Env) : Room k (A.deeper env) :=
  ⟨r.hd, by have := r.dp; show A.depth + 1 + 3 * k + 5 < _; omega, by have := r.un; show A.units + 3 + 16 * k + 200 < _; omega⟩
theorem make_depth {A : Around} {C : Addr} {us : List Value} {kw : List (Str × Value)} : (A.under (.builtin "type.__call__" ⟨.ref C :: us, kw⟩)).depth = A.depth + 1 := by
  first | rfl | simp [Around.under, Code.weight, Code.isCreation, Code.isGuard, Code.isCaller, Code.frames, Code.isFrame, guardIds]
theorem make_units {A : Around} {C : Addr} {us : List Value} {kw : List (Str × Value)} : (A.under (.builtin "type.__call__" ⟨.ref C :: us, kw⟩)).units = A.units + 1 := by
  first | rfl | simp [Around.under, Code.cUnits, Code.frames, Code.isFrame]
theorem Room.make {k : Nat} {A : Around} (r : Room (k + 1) A) (C : Addr) (us : List Value) (kw : List (Str × Value)) : Room k (A.under (.builtin "type.__call__" ⟨.ref C :: us, kw⟩)) :=
  ⟨r.hd, by have := r.dp; rw [make_depth]; omega, by have := r.un; rw [make_units]; omega⟩
theorem Room.depth {k : Nat} {A : Around} (r : Room k A) : A.depth < recursionLimit := by have := r.dp; omega
theorem Room.units {k : Nat} {A : Around} (r : Room k A) : A.units + 64 < cLine := by have := r.un; omega
theorem Room.units0 {k : Nat} {A : Around} (r : Room k A) : A.units < cLine := by have := r.un; omega

/-! ### argument lists and displays -/
def tNil : TA := fun _ H Q => Q [] H
def tCons (ta : TE) (tr : TA) : TA := fun σ H Q => ta σ H fun x H1 => tr σ H1 fun xs H2 => Q (x :: xs) H2
section
variable {X : Cx} {e : Expr} {es : List Expr} {te : TE} {t : TA} {pos : Pos}
theorem pa_nil : PA X [] tNil := fun _ _ _ _ H Q I h => Calls.spliced_nil ⟨[], H, I, .nil, h⟩
theorem pa_cons (ha : PE X e te) (hr : PA X es t) (hs : starEach (e :: es) X.env = (false, eval e X.env) :: starEach es X.env := by rfl) : PA X (e :: es) (tCons te t) := by
  intro pos pins s σ H Q I h
  rw [hs]
  show wpAny _ _ (spliced ((false, eval e X.env) :: backTo pos (starEach es X.env))) _ _ s
  refine Calls.spliced_cons (thn (ha pins s σ H _ I h) fun u s1 ⟨x, H1, I1, r1, q1⟩ => ?_)
  exact thn (hr pos pins s1 σ H1 _ I1 q1) fun us s2 ⟨xs, H2, I2, r2, q2⟩ => ⟨x :: xs, H2, I2, .cons r1 r2, q2⟩

/-- a tuple, a list of written items -/
def tTup (t : TA) : TE := fun σ H Q => t σ H fun xs H1 => xs.length ≤ sizeLine ∧ ∀ p, H1 p = none → Q (.ref p) (upd H1 p (.tup xs))
def tLst (t : TA) : TE := fun σ H Q => t σ H fun xs H1 => xs.length ≤ sizeLine ∧ ∀ p, H1 p = none → Q (.ref p) (upd H1 p (.lst xs))
theorem pe_tup {x1} (h : PA X es t) : PE X (.Tuple es x1 pos) (tTup t) := by
  intro pins s σ H Q I hq
  refine wpAny_Tuple_spliced (thn (h pos pins s σ H _ I hq) fun us s1 ⟨xs, H1, I1, r, z, q⟩ => ⟨by rw [← r.length]; exact z, ?_⟩)
  have hf : H1 s1.heap.objs.size = none := I1.hok.fresh (Nat.le_refl _)
  refine ⟨.ref s1.heap.objs.size, upd H1 s1.heap.objs.size (.tup xs), I1.laid (t' := s1.toks) (fun b u e => Heap.get?_push_of_some _ e) (Nat.le_refl _) ?_, rfl, q _ hf⟩
  exact ⟨z, us, r, ⟨_, Heap.get?_push_size _ rfl, rfl, _, rfl⟩⟩
theorem pe_lst (h : PA X es t) : PE X (.List es pos) (tLst t) := by
  intro pins s σ H Q I hq
  refine wpAny_List_spliced (thn (h pos pins s σ H _ I hq) fun us s1 ⟨xs, H1, I1, r, z, q⟩ => ⟨by rw [← r.length]; exact z, ?_⟩)
  have hf : H1 s1.heap.objs.size = none := I1.hok.fresh (Nat.le_refl _)
  refine ⟨.ref s1.heap.objs.size, upd H1 s1.heap.objs.size (.lst xs), I1.laid (t' := s1.toks) (fun b u e => Heap.get?_push_of_some _ e) (Nat.le_refl _) ?_, rfl, q _ hf⟩
  exact ⟨z, us, 0, r, Heap.get?_push_size _ rfl⟩
end

/-! ### what a def promises -/
/-- a def's promise: the bound arguments in the parameters' order, the heap, the wanted end, the wanted exception -/
abbrev Sp := List V → Hp → VK → XK → Prop
/-- how an exception lies behind a call (file 08 gives it): the callers' frames, abstract heap and state ahead of the call, the wish, the exception, the state -/
abbrev CXT := List Env → Hp → Shared → XK → Value → Shared → Prop

/-- the state at a call -/
structure Env0 (P : Program) (w : World) (K : PySem.W.Frag) (mg : Str → Option Value) (base : Heap) (A : Around) (outer : List Env) (s : Shared) (H : Hp) : Prop where
  frames : A.frames = some outer
  mod : Mod K mg base
  bs : ∀ b o, base.get? b = some o → s.heap.get? b = some o ∧ H b = none
  bsz : base.objs.size ≤ s.heap.objs.size
  funs : s.heap.FunFrames base outer
  frf : ∀ b ∈ frs outer, H b = none
  hok : HOk P w H s.heap
  bare : AllBare s.gens
/-- a call's end -/
def CE (outer : List Env) (P : Program) (w : World) (H : Hp) (s : Shared) (Q : VK) (u : Value) (s' : Shared) : Prop :=
  ∃ v H', s'.os = s.os ∧ AllBare s'.gens ∧ Un (frs outer) [] H H' s.heap s'.heap ∧ HOk P w H' s'.heap ∧ RelV v u ∧ Q v H'
def CR (CX : CXT) (outer : List Env) (P : Program) (w : World) (H : Hp) (s : Shared) (Q : VK) (E : XK) (r : Result) (s' : Shared) : Prop :=
  match r with
  | .ok (.ret u) => CE outer P w H s Q u s'
  | .ok _ => False
  | .error e => CX outer H s E e s'
structure FnOk (P : Program) (w : World) (K : PySem.W.Frag) (mg : Str → Option Value) (base : Heap) (CX : CXT) (k : Nat) (f : Addr) (fd : FuncData) (ps : List Str) (sp : Sp) : Prop where
  len : ∀ vs H Q E, sp vs H Q E → vs.length = ps.length
  run : ∀ (A : Around) (outer : List Env) (s : Shared) (H : Hp) (args : Args) (us : List Value) (vs : List V) (Q : VK) (E : XK), Room k A → Env0 P w K mg base A outer s H → BindsTo s fd args (ps.zip us) → Vals vs us → sp vs H Q E →
    codeAny (model P w) A (.call (.ref f) args) (CR CX outer P w H s Q E) s

theorem Env0.make {P : Program} {w : World} {K : PySem.W.Frag} {mg : Str → Option Value} {base : Heap} {A : Around} {outer : List Env} {s : Shared} {H : Hp} (e : Env0 P w K mg base A outer s H) (C : Addr) (us : List Value) (kw : List (Str × Value)) :
    Env0 P w K mg base (A.under (.builtin "type.__call__" ⟨.ref C :: us, kw⟩)) outer s H := ⟨by first | exact e.frames | (simpa [Around.under, Code.envs, Code.isFrame, pushEnvs] using e.frames), e.mod, e.bs, e.bsz, e.funs, e.frf, e.hok, e.bare⟩

section
variable {X : Cx} {pins : List (Addr × Obj)} {σ : St} {H : Hp} {s s' : Shared}
/-- from a body: what a callee wants -/
theorem Inv.env0 (I : Inv X pins σ H s) : Env0 X.prog X.w X.K X.mg X.base X.A X.stack s H :=
  ⟨I.ok.frames, I.ok.mod, I.bs, Nat.le_trans I.ok.bsz I.sz, I.stack, I.stkFree, I.hok, I.bare⟩
/-- behind a call -/
theorem Inv.after {Q : VK} {u : Value} (I : Inv X pins σ H s) (h : CE X.stack X.prog X.w H s Q u s') : EP X pins σ Q u s' := by
  obtain ⟨v, H', os, bare, un, hok, r, q⟩ := h
  obtain ⟨hh, g, d, t, os'⟩ := s'
  obtain rfl : os' = s.os := os
  exact ⟨v, H', I.call (h' := hh) (g' := g) (d' := d) (t' := t) (ch := []) un hok bare (fun b z => absurd z (by simp)), r, q⟩
end

/-! ### calls -/
/-- f(..): the written arguments, then the defaults dvs; E: what is wanted of an exception -/
def tCall (sp : Sp) (dvs : List V) (E : XK) (t : TA) : TE := fun σ H Q => t σ H fun vs H1 => sp (vs ++ dvs) H1 Q E
/-- o.m(..) of an instance of the class at C -/
def tMeth (C : Addr) (m : Str) (sp : Sp) (dvs : List V) (E : XK) (ta : TE) (t : TA) : TE := fun σ H Q => ta σ H fun x H1 => ∃ a dx fs, x = .ref a ∧ H1 a = some (.ins C dx fs) ∧ fs.lookup m = none ∧
  t σ H1 fun vs H2 => sp (x :: (vs ++ dvs)) H2 Q E
/-- C(..): a new instance and its dict, then __init__ -/
def tMake (C : Addr) (sp : Sp) (dvs : List V) (E : XK) (t : TA) : TE := fun σ H Q => t σ H fun vs H1 => ∀ x dx, H1 x = none → H1 dx = none → dx ≠ x →
  sp (.ref x :: (vs ++ dvs)) (upd (upd H1 dx (.own x)) x (.ins C dx [])) (fun v H2 => v = .non ∧ Q (.ref x) H2) E

/-- how the parameters are bound: us the positional arguments, kw the keywords' values by name, ds the defaults that fill up -/
def Binds (K : PySem.W.Frag) (fd : FuncData) (ps : List Str) (ds : List Value) : Prop :=
  ∀ (s : Shared) (us : List Value), K.In s.heap → (us ++ ds).length = ps.length → BindsTo s fd ⟨us, []⟩ (ps.zip (us ++ ds))
/-- every parameter is given -/
theorem Binds.all {K : PySem.W.Frag} {fd : FuncData} {ps : List Str} (h : ∀ us : List Value, us.length = ps.length → bindArgs fd ⟨us, []⟩ = pure (ps.zip us)) : Binds K fd ps [] := fun s us _ hl => by
  rw [List.append_nil] at hl ⊢
  exact .of_eq (h us hl)

/-- an exception of a callee reaches what this body wants of exceptions -/
def Passes (CX : CXT) (X : Cx) (E : XK) : Prop := ∀ (pins : List (Addr × Obj)) (σ : St) (H : Hp) (s : Shared) (e : Value) (s' : Shared), Inv X pins σ H s → CX X.stack H s E e s' → X.xe e s'

section
variable {X : Cx} {CX : CXT} {k : Nat} {f C : Addr} {fd : FuncData} {ps : List Str} {sp : Sp} {dvs : List V} {ds : List Value} {E : XK} {x m : Str} {p pos apos : Pos} {e o : Expr} {es : List Expr} {ta : TE} {t : TA}

/-- the callee runs -/
theorem run_fn {pins : List (Addr × Obj)} {σ : St} {H : Hp} {s : Shared} {Q : VK} {us : List Value} {vs : List V} (F : FnOk X.prog X.w X.K X.mg X.base CX k f fd ps sp) (hr : Room k X.A) (hb : Binds X.K fd ps ds) (hd : Vals dvs ds) (hx : Passes CX X E)
    (I : Inv X pins σ H s) (r : Vals vs us) (h : sp (vs ++ dvs) H Q E) : wpAny (model X.prog X.w) X.A (call (.ref f) us) (EP X pins σ Q) X.xe s := by
  have r2 : Vals (vs ++ dvs) (us ++ ds) := r.append hd
  have hl : (us ++ ds).length = ps.length := by rw [← r2.length]; exact F.len _ _ _ _ h
  refine wpAny_call (codeAny_mono (F.run X.A X.stack s H ⟨us, []⟩ (us ++ ds) (vs ++ dvs) Q E hr I.env0 (hb s us I.kIn hl) r2 h) fun r s' hq => ?_)
  cases r with
  | error e => exact hx pins σ H s e s' I hq
  | ok fl =>
    cases fl with
    | ret u => exact I.after hq
    | next => exact False.elim hq
    | brk => exact False.elim hq
    | cont => exact False.elim hq

theorem pe_call (F : FnOk X.prog X.w X.K X.mg X.base CX k f fd ps sp) (hr : Room k X.A) (hg : Gl X x) (hm : X.mg x = some (.ref f)) (hk : PySem.W.keepIn X.K (.ref f) = true) (hb : Binds X.K fd ps ds) (hd : Vals dvs ds) (hx : Passes CX X E)
    (ha : PA X (e :: es) t) (hdb : (x == ("__debug__" : Str)) = false := by decide) (he : starEach (e :: es) X.env = (false, eval e X.env) :: starEach es X.env := by rfl) (hpl : (backTo pos (starEach es X.env)).any (·.1) = false := by rfl) :
    PE X (.Call (.Name x p) (e :: es) [] pos) (tCall sp dvs E t) := by
  intro pins s σ H Q I h
  refine wpAny_Call_Name_kw (ld_glob I hg hm ?_ hdb)
  refine PySem.W.callWith_K (h₀ := X.base) I.ok.mod.kin hk (thn (ha pos pins s σ H _ I h) fun us s1 ⟨vs, H1, I1, r, q⟩ => ⟨I1.kIn, ?_⟩) he hpl
  exact run_fn F hr hb hd hx I1 r q

/-- o.m(e, ..) -/
theorem pe_meth {pl : Sem Bool} (he : PE X o ta) (c : Cls X.K C) (hm : Meth X.K C m f) (F : FnOk X.prog X.w X.K X.mg X.base CX k f fd ps sp) (hr : Room k X.A) (hb : Binds X.K fd ps ds) (hd : Vals dvs ds) (hx : Passes CX X E) (ha : PA X (e :: es) t)
    (hst : starEach (e :: es) X.env = (false, eval e X.env) :: starEach es X.env := by rfl) (hpl : (backTo pos (starEach es X.env)).any (·.1) = false := by rfl)
    (ht : eval (.Call (.Attribute o m apos) (e :: es) [] pos) X.env = (do
      let ov ← eval o X.env
      standAt apos.atName
      let (f, first) ← holding [ov] (getMethod ov m pl)
      callWith pos f first (backTo pos (starEach (e :: es) X.env)) (backToKw pos (keywordEach [] X.env))) := by rfl) :
    PE X (.Call (.Attribute o m apos) (e :: es) [] pos) (tMeth C m sp dvs E ta t) := by
  intro pins s σ H Q I h
  refine PySem.W.methodCall_KW (pl := pl) (thn (he pins s σ H _ I h) fun u s1 ⟨x, H1, I1, rx, a, dx, fs, ex, ea, l, q⟩ => ?_) ht
  subst ex
  obtain rfl : u = Value.ref a := rx
  refine getmeth_ok I1 ea c hm l ?_
  refine PySem.W.callWith_K (first := [.ref a]) (h₀ := X.base) I.ok.mod.kin hm.kp (thn (ha pos pins s1 σ H1 _ I1 q) fun us s2 ⟨vs, H2, I2, r, q2⟩ => ⟨I2.kIn, ?_⟩) hst hpl
  exact run_fn (us := .ref a :: us) (vs := .ref a :: vs) F hr hb hd hx I2 (.cons rfl r) q2
/-- o.m() -/
theorem pe_meth0 {pl : Sem Bool} (he : PE X o ta) (c : Cls X.K C) (hm : Meth X.K C m f) (F : FnOk X.prog X.w X.K X.mg X.base CX k f fd ps sp) (hr : Room k X.A) (hb : Binds X.K fd ps ds) (hd : Vals dvs ds) (hx : Passes CX X E)
    (ht : eval (.Call (.Attribute o m apos) [] [] pos) X.env = (do
      let ov ← eval o X.env
      standAt apos.atName
      let (f, first) ← holding [ov] (getMethod ov m pl)
      callWith pos f first (backTo pos (starEach [] X.env)) (backToKw pos (keywordEach [] X.env))) := by rfl) :
    PE X (.Call (.Attribute o m apos) [] [] pos) (tMeth C m sp dvs E ta tNil) := by
  intro pins s σ H Q I h
  refine PySem.W.methodCall_KW (pl := pl) (thn (he pins s σ H _ I h) fun u s1 ⟨x, H1, I1, rx, a, dx, fs, ex, ea, l, q⟩ => ?_) ht
  subst ex
  obtain rfl : u = Value.ref a := rx
  refine getmeth_ok I1 ea c hm l ?_
  exact PySem.W.callWith_K0 (first := [.ref a]) I1.kIn hm.kp (run_fn (us := [.ref a]) (vs := [.ref a]) F hr hb hd hx I1 (.cons rfl .nil) q)

/-- what a class must have to be made -/
structure Mk (K : PySem.W.Frag) (C f : Addr) : Prop where
  makes : PySem.W.makesIn K C = true
  init : PySem.W.findIn K (.ref C) "__init__" = some (some (.ref f))
  fn : PySem.W.isFn K (.ref f) = true
  kp : PySem.W.keepIn K (.ref C) = true

theorem run_make {pins : List (Addr × Obj)} {σ : St} {H : Hp} {s : Shared} {Q : VK} {us : List Value} {vs : List V} (M : Mk X.K C f) (F : FnOk X.prog X.w X.K X.mg X.base CX k f fd ps sp) (hr : Room (k + 1) X.A) (hb : Binds X.K fd ps ds) (hd : Vals dvs ds)
    (hx : Passes CX X E) (I : Inv X pins σ H s) (r : Vals vs us)
    (h : ∀ x dx, H x = none → H dx = none → dx ≠ x → sp (.ref x :: (vs ++ dvs)) (upd (upd H dx (.own x)) x (.ins C dx [])) (fun v H2 => v = .non ∧ Q (.ref x) H2) E) :
    wpAny (model X.prog X.w) X.A (call (.ref C) us) (EP X pins σ Q) X.xe s := by
  have hq := h (s.heap.objs.size + 1) s.heap.objs.size (I.hok.fresh (Nat.le_succ _)) (I.hok.fresh (Nat.le_refl _)) (Nat.ne_of_lt (Nat.lt_succ_self _))
  have I2 := Inv.made (C := C) I
  have r2 : Vals (V.ref (s.heap.objs.size + 1) :: (vs ++ dvs)) (Value.ref (s.heap.objs.size + 1) :: (us ++ ds)) := .cons rfl (r.append hd)
  have hl : (Value.ref (s.heap.objs.size + 1) :: us ++ ds).length = ps.length := by
    have e := r2.length
    rw [F.len _ _ _ _ hq] at e
    exact e.symm
  refine wpAny_call (make_map (f := f) I.kIn M.makes M.init (beq_iff_eq.mp M.fn) (codeAny_mono (F.run _ X.stack _ _ ⟨Value.ref (s.heap.objs.size + 1) :: us, []⟩ (Value.ref (s.heap.objs.size + 1) :: (us ++ ds)) _ _ E (hr.make C us [])
    (I2.env0.make C us []) (hb _ (Value.ref (s.heap.objs.size + 1) :: us) I2.kIn hl) r2 hq) fun r s' hq' => ?_))
  cases r with
  | error e => exact hx pins σ _ _ e s' I2 hq'
  | ok fl =>
    cases fl with
    | ret u =>
      obtain ⟨v, H', I3, rv, ev, q3⟩ := I2.after hq'
      subst ev
      exact ⟨rv, ⟨V.ref (s.heap.objs.size + 1), H', I3, rfl, q3⟩⟩
    | next => exact False.elim hq'
    | brk => exact False.elim hq'
    | cont => exact False.elim hq'
theorem pe_make (M : Mk X.K C f) (F : FnOk X.prog X.w X.K X.mg X.base CX k f fd ps sp) (hr : Room (k + 1) X.A) (hg : Gl X x) (hm : X.mg x = some (.ref C)) (hb : Binds X.K fd ps ds) (hd : Vals dvs ds) (hx : Passes CX X E)
    (ha : PA X (e :: es) t) (hdb : (x == ("__debug__" : Str)) = false := by decide) (he : starEach (e :: es) X.env = (false, eval e X.env) :: starEach es X.env := by rfl) (hpl : (backTo pos (starEach es X.env)).any (·.1) = false := by rfl) :
    PE X (.Call (.Name x p) (e :: es) [] pos) (tMake C sp dvs E t) := by
  intro pins s σ H Q I h
  refine wpAny_Call_Name_kw (ld_glob I hg hm ?_ hdb)
  refine PySem.W.callWith_K (h₀ := X.base) I.ok.mod.kin M.kp (thn (ha pos pins s σ H _ I h) fun us s1 ⟨vs, H1, I1, r, q⟩ => ⟨I1.kIn, ?_⟩) he hpl
  exact run_make M F hr hb hd hx I1 r q
end

/-! ### keywords -/
section
variable {X : Cx} {CX : CXT} {k : Nat} {f C : Addr} {fd : FuncData} {ps ks : List Str} {sp : Sp} {E : XK} {x m : Str} {p pos apos kpos : Pos} {e o : Expr} {es : List Expr} {kws : List Keyword} {te ta : TE} {t tk : TA} {nm : Option Str}

variable {g : List Value → List Value → List Value} {gV : List V → List V → List V}
end

/-! ### a def's body keeps its promise -/
/-- names: the parameters first -/
structure FnScope (N P : List Str) (sc : Scope) : Prop where
  kind : sc.kind = .function
  co : sc.isCoroutine = false
  gen : sc.isGenerator = false
  nd : N.Nodup
  pre : N.take P.length = P
  par : ∀ x ∈ P, sc.names.lookup x = some .local ∨ sc.names.lookup x = some .cell
  nofree : ∀ y ∈ sc.names, y.2 ≠ .free

theorem bindL_out {kindOf : Str → Option NameKind} {x : Str} : ∀ {binds : List (Str × Value)} {m : Str → Option Value}, (∀ v, (x, v) ∉ binds) → bindL kindOf binds m x = m x
  | [], _, _ => rfl
  | (n, v) :: r, m, h => by
    unfold bindL
    rw [bindL_out fun w hw => h w (List.mem_cons_of_mem _ hw)]
    split
    · have : x ≠ n := by rintro rfl; exact h v List.mem_cons_self
      simp [this]
    · rfl
theorem bindC_out {kindOf : Str → Option NameKind} {x : Str} : ∀ {binds : List (Str × Value)} {m : Str → Option Value}, (∀ v, (x, v) ∉ binds) → bindC kindOf binds m x = m x
  | [], _, _ => rfl
  | (n, v) :: r, m, h => by
    unfold bindC
    rw [bindC_out fun w hw => h w (List.mem_cons_of_mem _ hw)]
    split
    · rfl
    · have : x ≠ n := by rintro rfl; exact h v List.mem_cons_self
      simp [this]
theorem bindL_get {kindOf : Str → Option NameKind} {x : Str} {v : Value} : ∀ {P : List Str} {vs : List Value} {i : Nat} {m : Str → Option Value}, P.Nodup → P[i]? = some x → vs[i]? = some v → kindOf x = some .local →
    bindL kindOf (P.zip vs) m x = some v
  | [], _, _, _, _, h, _, _ => by simp at h
  | _ :: _, [], _, _, _, _, h, _ => by simp at h
  | p :: P, w :: vs, 0, m, nd, h1, h2, hk => by
    simp at h1 h2; subst h1; subst h2
    show bindL kindOf ((p, w) :: P.zip vs) m p = _
    unfold bindL
    rw [bindL_out fun v hv => (List.nodup_cons.mp nd).1 (List.of_mem_zip hv).1, if_pos hk]
    simp
  | p :: P, w :: vs, i + 1, m, nd, h1, h2, hk => by
    show bindL kindOf ((p, w) :: P.zip vs) m x = _
    unfold bindL
    exact bindL_get (i := i) (List.nodup_cons.mp nd).2 (by simpa using h1) (by simpa using h2) hk
theorem bindC_get {kindOf : Str → Option NameKind} {x : Str} {v : Value} : ∀ {P : List Str} {vs : List Value} {i : Nat} {m : Str → Option Value}, P.Nodup → P[i]? = some x → vs[i]? = some v → kindOf x ≠ some .local →
    bindC kindOf (P.zip vs) m x = some v
  | [], _, _, _, _, h, _, _ => by simp at h
  | _ :: _, [], _, _, _, _, h, _ => by simp at h
  | p :: P, w :: vs, 0, m, nd, h1, h2, hk => by
    simp at h1 h2; subst h1; subst h2
    show bindC kindOf ((p, w) :: P.zip vs) m p = _
    unfold bindC
    rw [bindC_out fun v hv => (List.nodup_cons.mp nd).1 (List.of_mem_zip hv).1, if_neg hk]
    simp
  | p :: P, w :: vs, i + 1, m, nd, h1, h2, hk => by
    show bindC kindOf ((p, w) :: P.zip vs) m x = _
    unfold bindC
    exact bindC_get (i := i) (List.nodup_cons.mp nd).2 (by simpa using h1) (by simpa using h2) hk

/-- the names' values at the entry -/
def start (N : List Str) (vs : List V) : St := vs.map some ++ List.replicate (N.length - vs.length) none

/-- the context of a def's body, at its entry; an exception leaves the frame, then lies as CX says -/
def cxOf (CX : CXT) (P : Program) (w : World) (K : PySem.W.Frag) (mg : Str → Option Value) (base : Heap) (N : List Str) (qual : Str) (scope : Scope) (f : Addr) (cd : Value) (A : Around) (outer : List Env) (s : Shared) (H : Hp) (E : XK) : Cx where
  prog := P
  w := w
  K := K
  mg := mg
  base := base
  A := A.deeper (envOfC qual scope s.heap.objs.size f cd)
  N := N
  s₀ := s
  H₀ := H
  env := envOfC qual scope s.heap.objs.size f cd
  outer := outer
  stack := envOfC qual scope s.heap.objs.size f cd :: outer
  ex := []
  calm := true
  fn := fun _ => true
  pn := []
  xe := fun e s' => wpAny (model P w) (A.deeper (envOfC qual scope s.heap.objs.size f cd)) (leaving (envOfC qual scope s.heap.objs.size f cd) e) (fun _ s'' => CX outer H s E e s'') (fun e' s'' => CX outer H s E e' s'') s'

theorem cell_has {sc : Scope} {n : Nat} {x : Str} (h : sc.names.lookup x = some .cell) : ∃ c, (cellsFrom n sc.names []).lookup x = some c := by
  have q := PySem.W.cellsFrom_some sc.names n [] (.inl h)
  exact Option.isSome_iff_exists.mp q

theorem inv_start {CX : CXT} {P : Program} {w : World} {K : PySem.W.Frag} {mg : Str → Option Value} {base : Heap} {N ps : List Str} {qual : Str} {scope : Scope} {f : Addr} {cd : Value} {A : Around} {outer : List Env} {s s1 : Shared} {H : Hp} {E : XK} {us : List Value} {vs : List V}
    (S : FnScope N ps scope) (hd : A.handled = none) (e0 : Env0 P w K mg base A outer s H) (hl : vs.length = ps.length) (r : Vals vs us)
    (x : InCallC s s.heap.objs.size (bindL (envOfC qual scope s.heap.objs.size f cd).kindOf (ps.zip us) fun _ => none) (cellsFrom (s.heap.objs.size + 1) scope.names []) (bindC (envOfC qual scope s.heap.objs.size f cd).kindOf (ps.zip us) fun _ => none) s1) :
    Inv (cxOf CX P w K mg base N qual scope f cd A outer s H E) [] (start N vs) H s1 := by
  have hpl : ps.length ≤ N.length := by have := congrArg List.length S.pre; rw [List.length_take] at this; omega
  obtain ⟨h1, tk, rfl, hk⟩ := x.done
  have noA : ∀ b : Addr, b ∉ (cxOf CX P w K mg base N qual scope f cd A outer s H E).ex := fun b z => absurd (show b ∈ ([] : List Addr) from z) (by simp)
  refine ⟨⟨e0.mod, S.kind, rfl, rfl, Nat.le_refl _, fun y z c h1 h2 => ?_, fun y hy => ?_, fun y c _ h => ?_, fun _ => hd, Around.frames_deeper e0.frames, .inr ⟨rfl, rfl⟩, fun b z => absurd z (noA b), e0.bs, e0.bsz, fun b _ _ => noA b, fun b z => absurd z (noA b), e0.funs, e0.frf⟩,
    rfl, e0.bare, Un.kept hk, ⟨_, x.toInCall.ns, fun i y v h1 h2 h3 => ?_⟩, fun y c h => ⟨_, x.cell y c h⟩, e0.hok.fresh (Nat.le_refl _), fun y c h => ?_, fun p hp => absurd (show p ∈ ([] : List (Addr × Obj)) from hp) (by simp), e0.hok.kept hk, ?_⟩
  · exact name_of_addr x.apart (PySem.mem_of_lookup h1) (PySem.mem_of_lookup h2)
  · have hy : scope.names.lookup y = some .cell ∨ scope.names.lookup y = some .free := hy
    rcases hy with hy | hy
    · exact cell_has hy
    · exact absurd rfl (S.nofree _ (PySem.mem_of_lookup hy))
  · exact Nat.le_of_lt (x.above y c (PySem.mem_of_lookup h))
  · have hi : i < vs.length := by
      unfold start at h2
      by_cases hi : i < vs.length
      · exact hi
      · rw [List.getElem?_append_right (by simpa using hi)] at h2
        rw [List.getElem?_replicate] at h2
        split at h2 <;> cases h2
    have ha : vs[i]? = some v := by
      unfold start at h2
      rw [List.getElem?_append_left (by simpa using hi), List.getElem?_map] at h2
      cases e : vs[i]? with
      | none => rw [e] at h2; cases h2
      | some a => rw [e] at h2; cases h2; rfl
    obtain ⟨u, hu, rv⟩ := r.get ha
    have hp : ps[i]? = some y := by
      rw [← S.pre, List.getElem?_take_of_lt (by omega)]; exact h1
    have ndP : ps.Nodup := by rw [← S.pre]; exact S.nd.sublist (List.take_sublist _ _)
    refine ⟨u, rv, ?_⟩
    rcases S.par y (List.mem_of_getElem? hp) with k | k
    · exact .inl ⟨k, bindL_get ndP hp hu k⟩
    · obtain ⟨c, e⟩ := cell_has (n := s.heap.objs.size + 1) k
      refine .inr ⟨.inl k, c, e, ?_⟩
      have q := x.cell y c e
      rw [bindC_get ndP hp hu (by show scope.names.lookup y ≠ _; rw [k]; decide)] at q
      exact q
  · exact e0.hok.fresh (Nat.le_of_lt (x.above y c (PySem.mem_of_lookup h)))
  · unfold start
    show _ = N.length
    rw [List.length_append, List.length_map, List.length_replicate]
    omega

/-- THE RULE: a def (or a method) of the text, by its body. The body's reading t is chosen for each entry; it is run at the parameters' values -/
theorem fn_of {CX : CXT} {P : Program} {w : World} {K : PySem.W.Frag} {mg : Str → Option Value} {base : Heap} {k : Nat} {f : Addr} {name qual : Str} {params : Arguments} {body : List Stmt} {scope : Scope} {dV kV doc pm cdv ct oc : Value} {an od : Option Addr}
    {osl : Array (Option Value)} {N ps : List Str} {sp : Sp} (lk : K.lookup f = some ⟨oc, od, .func (PySem.W.fnOf name qual params body scope dV kV doc pm an cdv ct), osl⟩) (hcd : PySem.W.codeIn K cdv qual = true) (S : FnScope N ps scope)
    (len : ∀ vs H Q E, sp vs H Q E → vs.length = ps.length)
    (hbody : ∀ (A : Around) (outer : List Env) (s : Shared) (H : Hp) (vs : List V) (Q : VK) (E : XK), Room k (A.deeper (envOfC qual scope s.heap.objs.size f cdv)) → sp vs H Q E →
      ∃ t, PSs (cxOf CX P w K mg base N qual scope f cdv A outer s H E) body t ∧ t { nx := fun _ H' => Q .non H', rt := Q } (start N vs) H) :
    FnOk P w K mg base CX (k + 1) f (PySem.W.fnOf name qual params body scope dV kV doc pm an cdv ct) ps sp := by
  refine ⟨len, fun A outer s H args us vs Q E hr e0 hb r hsp => ?_⟩
  have hl := len _ _ _ _ hsp
  have KX : K.In s.heap := e0.mod.kin.keeps fun b o e => (e0.bs b o e).1
  have lim : s.heap.NoLimit := e0.mod.nolimit.keeps fun b o e => (e0.bs b o e).1
  have hkind : ∀ y ∈ ps.zip us, scope.names.lookup y.1 = some .local ∨ (scope.names.lookup y.1 = some .cell ∧ ((cellsFrom (s.heap.objs.size + 1) scope.names []).lookup y.1).isSome = true) := fun ⟨n, v⟩ hy => by
    rcases S.par n (List.of_mem_zip hy).1 with q | q
    · exact .inl q
    · exact .inr ⟨q, PySem.W.cellsFrom_some _ _ _ (.inl q)⟩
  refine codeAny_call_function hr.depth (KX _ _ lk) rfl S.co S.gen rfl (PySem.W.codeRec_of KX hcd) (hb _ _ _ _ ?_)
  refine wpAny_newFunctionEnv_cells S.kind hkind fun env he s1 x => ?_
  subst he
  refine ⟨lim.keeps x.toInCall.keep, codeAny_func ?_⟩
  obtain ⟨t, ht, hq⟩ := hbody A outer s H vs Q E (hr.deeper _) hsp
  have I : Inv (cxOf CX P w K mg base N qual scope f cdv A outer s H E) [] (start N vs) H s1 := inv_start S hr.hd e0 hl r x
  refine wpAny_mono (ht [] s1 (start N vs) H _ I hq) (fun fl s' hs => ?_) fun e s' hs => hs
  have fin : ∀ {σ' : St} {H' : Hp} {v : V} {u : Value}, Inv (cxOf CX P w K mg base N qual scope f cdv A outer s H E) [] σ' H' s' → RelV v u → Q v H' → CE outer P w H s Q u s' :=
    fun {σ' H' v u} J rv q => ⟨v, H', J.os, J.bare, J.base, J.hok, rv, q⟩
  cases fl with
  | ret u =>
    obtain ⟨v, σ', H', J, rv, q⟩ := hs
    exact fin J rv q
  | next =>
    obtain ⟨σ', H', J, q⟩ := hs
    exact fin (v := V.non) (u := Value.none) J rfl q
  | brk =>
    obtain ⟨_, _, _, q⟩ := hs
    exact False.elim q
  | cont =>
    obtain ⟨_, _, _, q⟩ := hs
    exact False.elim q
end L2

namespace L2
open PySem PySem.Spec PyProof.Rows
section
variable {X : Cx} {x : Str} {p pos : Pos} {e : Expr} {es : List Expr} {t : TA} {id T : String} {r : List V → Hp → VK → Prop}

def tCB (r : List V → Hp → VK → Prop) (t : TA) : TE := fun σ H Q => t σ H fun vs H1 => r vs H1 Q
/-- f(e, ..), f a built-in function -/
theorem pe_callB (hc : CallR X (.builtin id) r) (hg : Gl X x) (hm : X.mg x = none) (hv : bootBuiltins x = some (.builtin id)) (ha : PA X (e :: es) t) (hn : x ≠ "__name__" := by decide) (hdb : (x == ("__debug__" : Str)) = false := by decide)
    (he : starEach (e :: es) X.env = (false, eval e X.env) :: starEach es X.env := by rfl) (hpl : (backTo pos (starEach es X.env)).any (·.1) = false := by rfl) : PE X (.Call (.Name x p) (e :: es) [] pos) (tCB r t) := by
  intro pins s σ H Q I h
  refine wpAny_Call_Name_kw (ld_blt I hg hm hv ?_ hn hdb)
  exact PyProof.Rows.callWith_builtin1 (thn (ha pos pins s σ H _ I h) fun us s1 ⟨vs, H1, I1, r1, q1⟩ => hc pins s1 σ H1 vs us Q I1 r1 q1) he hpl
/-- T(e, ..), T a built-in type -/
theorem pe_callTy (hc : CallR X (.type T) r) (hg : Gl X x) (hm : X.mg x = none) (hv : bootBuiltins x = some (.type T)) (ha : PA X (e :: es) t) (hn : x ≠ "__name__" := by decide) (hdb : (x == ("__debug__" : Str)) = false := by decide)
    (he : starEach (e :: es) X.env = (false, eval e X.env) :: starEach es X.env := by rfl) (hpl : (backTo pos (starEach es X.env)).any (·.1) = false := by rfl) : PE X (.Call (.Name x p) (e :: es) [] pos) (tCB r t) := by
  intro pins s σ H Q I h
  refine wpAny_Call_Name_kw (ld_blt I hg hm hv ?_ hn hdb)
  exact PyProof.Rows.callWith_type1 (thn (ha pos pins s σ H _ I h) fun us s1 ⟨vs, H1, I1, r1, q1⟩ => hc pins s1 σ H1 vs us Q I1 r1 q1) he hpl
end
end L2

namespace HT
open PySem PyProof.Rows

section
open PySem.SeqAt
open PySem.AutoSeq1 (wpAny_loadPart')
open PySem.MeetsSeq PySem.MeetsSeq2 PySem.MeetsSeq3

end

section
variable {prog : Program} {w : World} {A : Around} {E : Value → Shared → Prop} {s : Shared}

/-- t + u, t not empty -/
theorem cat_tup {t b : Addr} {vs ws : List Value} {Q : Value → Shared → Prop} (ht : IsTup s.heap t vs.toArray) (hb : IsTup s.heap b ws.toArray) (hv : vs ≠ [])
    (h1 : ws = [] → Q (.ref t) s) (h2 : ws ≠ [] → Q (.ref s.heap.objs.size) { s with heap := s.heap.push { cls := .type "tuple", data := .seq (vs ++ ws).toArray } })
    (hsz : vs.length + ws.length ≤ sizeLine) : wpAny (model prog w) A (binaryOp .Add (.ref t) (.ref b)) Q E s := by
  obtain ⟨⟨cls, dd, data, sl⟩, ho, hc, n, hd⟩ := id ht
  obtain ⟨⟨cls2, dd2, data2, sl2⟩, ho2, hc2, n2, hd2⟩ := id hb
  simp only at hc hd hc2 hd2
  subst hc hd hc2 hd2
  have e : vs.toArray ++ ws.toArray = (vs ++ ws).toArray := by simp
  by_cases hw : ws = []
  · exact concat_meets ⟨_, ho, rfl⟩ ⟨_, ho2, rfl⟩ noFill_tuple_add seq_tuple_add PySem.F.slot_tuple_add PySem.F.entry_tuple_add (PySem.F.args_tuple_add_2 _ _)
      (tuple_addW1 t b vs.toArray ws.toArray n n2 dd dd2 sl sl2 (by simpa using hv) (by simp [hw])) ⟨ho, ho2, h1 hw⟩
  · refine concat_meets ⟨_, ho, rfl⟩ ⟨_, ho2, rfl⟩ noFill_tuple_add seq_tuple_add PySem.F.slot_tuple_add PySem.F.entry_tuple_add (PySem.F.args_tuple_add_2 _ _)
      (tuple_addW2 t b vs.toArray ws.toArray n n2 dd dd2 sl sl2 (by simpa using hv) (by simpa using hw) (by rw [List.size_toArray, List.size_toArray]; exact hsz)) ⟨ho, ho2, ?_⟩
    rw [e]
    exact h2 hw

/-! ### t[a:b], not the whole -/
/-- a slice's bound as a place among n (d where it is left out) -/
def sIx (n d : Nat) : Option Int → Nat
  | none => d
  | some v => if v < 0 then (v + (n : Int)).toNat else min v.toNat n
theorem sIx_none (n d : Nat) : sIx n d none = d := rfl
theorem sIx_nat (n d k : Nat) : sIx n d (some (k : Int)) = min k n := by
  show (if (k : Int) < 0 then ((k : Int) + (n : Int)).toNat else min (k : Int).toNat n) = min k n
  rw [if_neg (by omega), Int.toNat_natCast]
theorem sIx_le (n d : Nat) (hd : d ≤ n) (o : Option Int) : sIx n d o ≤ n := by
  cases o with
  | none => exact hd
  | some v =>
    show (if v < 0 then (v + (n : Int)).toNat else min v.toNat n) ≤ n
    by_cases hv : v < 0
    · rw [if_pos hv]; omega
    · rw [if_neg hv]; exact Nat.min_le_right _ _
theorem clip_eq (v : Int) (n d : Nat) : (if v < 0 then max (v + (n : Int)) 0 else min v (n : Int)) = ((sIx n d (some v) : Nat) : Int) := by
  show (if v < 0 then max (v + (n : Int)) 0 else min v (n : Int)) = (((if v < 0 then (v + (n : Int)).toNat else min v.toNat n) : Nat) : Int)
  by_cases hv : v < 0
  · simp only [if_pos hv]; omega
  · simp only [if_neg hv]; omega
theorem adjust_gen (lo hi : Option Int) (n : Nat) : Builtin.Slice.sliceAdjust lo hi 1 (n : Int) = (((sIx n 0 lo : Nat) : Int), ((sIx n n hi : Nat) : Int)) := by
  have h1 : ¬ ((1 : Int) < 0) := by omega
  unfold Builtin.Slice.sliceAdjust
  simp only [h1, if_false]
  refine Prod.ext ?_ ?_
  · cases lo with
    | none => rfl
    | some v => exact clip_eq v n 0
  · cases hi with
    | none => rfl
    | some v => exact clip_eq v n n
theorem places_gen (i j : Nat) : Builtin.Slice.slicePlaces (i : Int) (j : Int) 1 = j - i := by
  unfold Builtin.Slice.slicePlaces
  have h1 : (1 : Int) > 0 := by omega
  simp only [h1, if_true, Int.ediv_one]
  split <;> omega
theorem slicePart_ {v : Value} {o : Option Int} {Q : Option Int → Shared → Prop} (p : IsPart v o) (h : Q o s) : wpAny (model prog w) A (Builtin.Slice.slicePartIndex v) Q E s := by
  cases p with
  | none => exact slicePart_none h
  | int i t => exact slicePart_int h
theorem sliceApplied_gen {sl : Addr} {vl vu : Value} {lo hi : Option Int} {n : Nat} {Q : Int × Int × Nat → Shared → Prop} (hs : s.heap.IsSliceOf sl vl vu .none) (pl : IsPart vl lo) (pu : IsPart vu hi)
    (h : Q (((sIx n 0 lo : Nat) : Int), 1, sIx n n hi - sIx n 0 lo) s) : wpAny (model prog w) A (Builtin.Slice.sliceApplied (.ref sl) (pure (n : Int))) Q E s := by
  obtain ⟨os, hos, hcs, hds⟩ := id hs
  unfold Builtin.Slice.sliceApplied Builtin.Slice.sliceFields
  refine wpAny_bind (wpAny_bind (wpAny_field hos hds (x := vl) rfl (wpAny_bind (wpAny_field hos hds (x := vu) rfl (wpAny_bind (wpAny_field hos hds (x := .none) rfl (wpAny_pure ?_)))))))
  refine wpAny_bind (slicePart_none ?_)
  show wpAny _ _ (if ((1 : Int) == 0) = true then _ else _) _ _ s
  rw [if_neg (by decide)]
  refine wpAny_bind (slicePart_ pl (wpAny_bind (slicePart_ pu (wpAny_bind (wpAny_pure ?_)))))
  show wpAny _ _ (match Builtin.Slice.sliceAdjust lo hi 1 (n : Int) with | (lo, hi) => pure (lo, (1 : Int), Builtin.Slice.slicePlaces lo hi 1)) _ _ s
  rw [adjust_gen lo hi n]
  show wpAny _ _ (pure (((sIx n 0 lo : Nat) : Int), (1 : Int), Builtin.Slice.slicePlaces ((sIx n 0 lo : Nat) : Int) ((sIx n n hi : Nat) : Int) 1)) _ _ s
  rw [places_gen]
  exact wpAny_pure h
theorem pick_gen (xs : Array Value) (i k : Nat) : ((List.range k).filterMap fun (m : Nat) => xs[((i : Int) + (m : Int) * 1).toNat]?).toArray = ((xs.toList.drop i).take k).toArray := by
  have e : (fun (m : Nat) => xs[((i : Int) + (m : Int) * 1).toNat]?) = fun m => xs[i + m]? := by
    funext m
    have : ((i : Int) + (m : Int) * 1).toNat = i + m := by omega
    rw [this]
  rw [e]
  have := pick_run xs i k
  rw [List.filterMap_map] at this
  have e2 : ((fun x => xs[x]?) ∘ fun x => i + x) = fun m => xs[i + m]? := rfl
  rw [e2] at this
  rw [this]

theorem getItem_tuple_cut {t sl : Addr} {items : Array Value} {vl vu : Value} {lo hi : Option Int} {Q : Value → Shared → Prop} (ht : IsTup s.heap t items) (hs : s.heap.IsSliceOf sl vl vu .none) (pl : IsPart vl lo) (pu : IsPart vu hi)
    (hw : ¬ (sIx items.size 0 lo = 0 ∧ sIx items.size items.size hi = items.size))
    (h : Q (.ref s.heap.objs.size) { s with heap := s.heap.push { cls := .type "tuple", data := .seq ((items.toList.drop (sIx items.size 0 lo)).take (sIx items.size items.size hi - sIx items.size 0 lo)).toArray } })
    (hsz : items.size ≤ sizeLine) : wpAny (model prog w) A (getItem (.ref t) (.ref sl)) Q E s := by
  have htake : sizeOk (.seq ((items.toList.drop (sIx items.size 0 lo)).take (sIx items.size items.size hi - sIx items.size 0 lo)).toArray) := by
    show ((items.toList.drop (sIx items.size 0 lo)).take (sIx items.size items.size hi - sIx items.size 0 lo)).toArray.size ≤ sizeLine
    rw [List.size_toArray, List.length_take, List.length_drop, Array.length_toList]
    omega
  have hj : sIx items.size items.size hi ≤ items.size := sIx_le _ _ (Nat.le_refl _) hi
  obtain ⟨os, hos, hcs, hds⟩ := id hs
  have hTs : s.TypeIs (.ref sl) "slice" := ⟨os, hos, hcs⟩
  unfold getItem
  try with_reducible refine wpAny_holding ?_
  first | refine wpAny_bind (wpAny_pure ?_) | skip
  refine wpAny_bind (wpAny_sequenceKey ht.typeIs (by decide) ?_)
  refine wpAny_bind (wpAny_callSpecial?_slot (name := Str.ofString "__getitem__") ht.typeIs PyProof.Rows.slot_tuple_getitem
    (wpAny_call_entry PyProof.Rows.slot_tuple_getitem ht.typeIs entry_tuple_getitem ?_ (args_tuple_getitem _ _)))
  show wpAny _ _ (Builtin.Tuple.tupleItemsOf (.ref t) >>= _) _ _ s
  refine wpAny_bind (tupleItemsOf_ ht ?_)
  refine wpAny_bind (wpAny_typeOf hTs ?_)
  rw [if_pos (by decide)]
  refine wpAny_bind (sliceApplied_gen hs pl pu ?_)
  have hno : ¬ ((((sIx items.size 0 lo : Nat) : Int) == 0 && (1 : Int) == 1 && (sIx items.size items.size hi - sIx items.size 0 lo) == items.size) = true) := by
    intro q
    rw [Bool.and_eq_true, Bool.and_eq_true] at q
    have q1 : ((sIx items.size 0 lo : Nat) : Int) = 0 := eq_of_beq q.1.1
    have q2 : sIx items.size items.size hi - sIx items.size 0 lo = items.size := eq_of_beq q.2
    exact hw ⟨by omega, by omega⟩
  show wpAny _ _ (if (((sIx items.size 0 lo : Nat) : Int) == 0 && (1 : Int) == 1 && (sIx items.size items.size hi - sIx items.size 0 lo) == items.size) = true then _ else _) _ _ s
  rw [if_neg hno, pick_gen]
  first
    | exact wpAny_bind (m := Builtin.Tuple.tupleExact _) (wpAny_newObj_type (wpAny_pure ⟨_, rfl, wpAny_pure h⟩) htake)
    | exact wpAny_bind (m := Builtin.Tuple.tupleExact _) (wpAny_newObj_type (wpAny_bind (wpAny_pure (wpAny_pure ⟨_, rfl, wpAny_pure h⟩))) htake)
    | exact wpAny_bind (wpAny_bind (m := Builtin.Tuple.tupleExact _) (wpAny_newObj_type (wpAny_pure (wpAny_pure ⟨_, rfl, wpAny_pure h⟩)) htake))
    | exact wpAny_bind (wpAny_bind (m := Builtin.Tuple.tupleExact _) (wpAny_newObj_type (wpAny_pure ⟨_, rfl, wpAny_pure h⟩) htake))
end
end HT

namespace L2
open PySem PySem.Spec PyProof.Rows

/-! ### the parts of a slice -/
abbrev TO := St → Hp → (Option Int → Hp → Prop) → Prop
/-- a slice's part (left out, or an int) -/
def PO (X : Cx) (e : Option Expr) (t : TO) : Prop :=
  ∀ (pins : List (Addr × Obj)) (s : Shared) (σ : St) (H : Hp) (Q : Option Int → Hp → Prop), Inv X pins σ H s → t σ H Q →
    wpAny (model X.prog X.w) X.A (evalPart e X.env) (fun u s' => ∃ o H', Inv X pins σ H' s' ∧ IsPart u o ∧ Q o H') X.xe s
def tNoPart : TO := fun _ H Q => Q none H
def tPart (t : TE) : TO := fun σ H Q => t σ H fun x H1 => ∃ i, x = .int i ∧ Q (some i) H1

section
variable {X : Cx} {e : Expr} {te : TE} {lo hi : Option Expr} {tl th : TO} {pos p2 : Pos}

theorem po_none : PO X none tNoPart := by
  intro pins s σ H Q I h
  rw [evalPart_none]
  exact wpAny_pure ⟨none, H, I, .none, h⟩
theorem po_some (h : PE X e te) : PO X (some e) (tPart te) := by
  intro pins s σ H Q I hw
  rw [evalPart_some]
  refine thn (h pins s σ H _ I hw) fun u s1 ⟨x, H1, I1, r1, q1⟩ => ?_
  obtain ⟨i, rfl, q⟩ := q1
  obtain ⟨t, rfl⟩ := r1
  exact ⟨some i, H1, I1, .int i t, q⟩

/-- what a slice of a value is, by values: the slice object stands at sl -/
def SlR (X : Cx) (r : V → Option Int → Option Int → Hp → VK → Prop) : Prop :=
  ∀ (pins : List (Addr × Obj)) (s : Shared) (σ : St) (H : Hp) (x : V) (v vl vu : Value) (lo hi : Option Int) (sl : Addr) (Q : VK), Inv X pins σ H s → RelV x v → s.heap.IsSliceOf sl vl vu .none → IsPart vl lo → IsPart vu hi → r x lo hi H Q →
    ∃ T id, typeLookup (.type T) "__getitem__" = pure (some (.builtin id)) ∧ s.TypeIs v T ∧ wpAny (model X.prog X.w) X.A (getItem v (.ref sl)) (EP X pins σ Q) X.xe s
def tSl (r : V → Option Int → Option Int → Hp → VK → Prop) (te : TE) (tl th : TO) : TE := fun σ H Q => te σ H fun x H1 => tl σ H1 fun l H2 => th σ H2 fun u H3 => r x l u H3 Q
/-- a[lo:hi], any a -/
theorem pe_slice {r : V → Option Int → Option Int → Hp → VK → Prop} (hr : SlR X r) (he : PE X e te) (hl : PO X lo tl) (hu : PO X hi th) : PE X (.Subscript e (.Slice lo hi none p2) pos) (tSl r te tl th) := by
  intro pins s σ H Q I h
  refine Subscript_ (thn (he pins s σ H _ I h) fun v s1 ⟨x, H1, I1, r1, q1⟩ => ?_)
  refine wpAny_Slice (thn (hl pins s1 σ H1 _ I1 q1) fun vl s2 ⟨l, H2, I2, pl, q2⟩ => thn (hu pins s2 σ H2 _ I2 q2) fun vu s3 ⟨u, H3, I3, pu, q3⟩ => ?_)
  rw [evalPart_none]
  refine wpAny_pure ?_
  have I4 : Inv X pins σ H3 { s3 with heap := s3.heap.push { cls := .type "slice", data := .fields #[vl, vu, .none] } } := I3.kept (t' := s3.toks) fun b ob q => Heap.get?_push_of_some _ q
  obtain ⟨T, id, hT, ht, hg⟩ := hr pins { s3 with heap := s3.heap.push { cls := .type "slice", data := .fields #[vl, vu, .none] } } σ H3 x v vl vu l u s3.heap.objs.size Q I4 r1 (Heap.IsSliceOf.new ..) pl pu q3
  show wpAny (model X.prog X.w) X.A (subscriptTail e (.Slice lo hi none p2) v (.ref s3.heap.objs.size)) (EP X pins σ Q) X.xe { s3 with heap := s3.heap.push { cls := .type "slice", data := .fields #[vl, vu, .none] } }
  exact tail_any (ops := [.ref s3.heap.objs.size, v]) ht hT hg (by with_unfolding_all rfl)

/-- the items of xs[lo:hi] -/
def cutV (xs : List V) (lo hi : Option Int) : List V := (xs.drop (HT.sIx xs.length 0 lo)).take (HT.sIx xs.length xs.length hi - HT.sIx xs.length 0 lo)
theorem cutV_length (xs : List V) (lo hi : Option Int) : (cutV xs lo hi).length ≤ xs.length := by
  unfold cutV
  rw [List.length_take, List.length_drop]
  omega
/-- t[lo:hi], not the whole of it (the whole would be t itself) -/
def rSlT (K : PySem.W.Frag) : V → Option Int → Option Int → Hp → VK → Prop := fun x lo hi H Q => ∃ a xs, x = .ref a ∧ SqT K H a xs ∧
  ¬ (HT.sIx xs.length 0 lo = 0 ∧ HT.sIx xs.length xs.length hi = xs.length) ∧ ∀ p, H p = none → Q (.ref p) (upd H p (.tup (cutV xs lo hi)))
theorem sl_tup : SlR X (rSlT X.K) := by
  intro pins s σ H x v vl vu lo hi sl Q I rx hs pl pu h
  obtain ⟨a, xs, rfl, hx, hw, q⟩ := h
  cases rx
  obtain ⟨its, r, ht, hz⟩ := I.tuple hx
  have hlen : its.toArray.size = xs.length := by rw [List.size_toArray]; exact r.length.symm
  refine ⟨"tuple", _, PyProof.Rows.slot_tuple_getitem.lookup, ht.typeIs, ?_⟩
  refine HT.getItem_tuple_cut ht hs pl pu (by rw [hlen]; exact hw) ?_ (by rw [hlen]; exact hz)
  rw [hlen]
  refine ⟨.ref s.heap.objs.size, _, I.laid (t' := s.toks) (o := .tup (cutV xs lo hi)) (fun b ob q => Heap.get?_push_of_some _ q) (Nat.le_refl _) ?_, rfl, q _ (I.hok.fresh (Nat.le_refl _))⟩
  exact ⟨Nat.le_trans (cutV_length xs lo hi) hz, _, (r.drop (HT.sIx xs.length 0 lo)).take (HT.sIx xs.length xs.length hi - HT.sIx xs.length 0 lo), IsTup.new _ _⟩

/-! ### t < u, t + u -/
/-- t + u, t not empty: u empty gives t itself -/
def rCatT (K : PySem.W.Frag) : R2 := fun x y H Q => ∃ a b xs ys, x = .ref a ∧ y = .ref b ∧ SqT K H a xs ∧ SqT K H b ys ∧ xs ≠ [] ∧ xs.length + ys.length ≤ sizeLine ∧
  (ys = [] → Q (.ref a) H) ∧ (ys ≠ [] → ∀ p, H p = none → Q (.ref p) (upd H p (.tup (xs ++ ys))))
theorem Vals.nil_iff {xs : List V} {us : List Value} (r : Vals xs us) : us = [] ↔ xs = [] := by
  cases r with
  | nil => simp
  | cons _ _ => simp
theorem op_catT : OpR X (binaryOp .Add) (rCatT X.K) := by
  intro pins s σ H x y v u Q I rx ry h
  obtain ⟨a, b, xs, ys, rfl, rfl, ha, hb, hx, hz, q1, q2⟩ := h
  cases rx
  cases ry
  obtain ⟨its, r1, p1, _⟩ := I.tuple ha
  obtain ⟨its2, r2, p2, _⟩ := I.tuple hb
  refine HT.cat_tup p1 p2 (fun z => hx (r1.nil_iff.mp z)) (fun z => ⟨.ref a, H, I, rfl, q1 (r2.nil_iff.mp z)⟩) (fun z => ?_) (by rw [← r1.length, ← r2.length]; exact hz)
  refine ⟨.ref s.heap.objs.size, _, I.laid (t' := s.toks) (o := .tup (xs ++ ys)) (fun b ob q => Heap.get?_push_of_some _ q) (Nat.le_refl _) ?_, rfl, q2 (fun w => z (r2.nil_iff.mpr w)) _ (I.hok.fresh (Nat.le_refl _))⟩
  exact ⟨by rw [List.length_append]; exact hz, _, r1.append r2, IsTup.new _ _⟩
end
end L2

namespace L2
open PySem PySem.Spec PyProof.Rows

/-! ### places -/
/-- the place that an index of any sign means -/
def ixN (n : Nat) (i : Int) : Option Nat := if 0 ≤ i then (if i < n then some i.toNat else none) else if -(n : Int) ≤ i then some (i + n).toNat else none
def atI {α : Type} (xs : List α) (i : Int) : Option α := (ixN xs.length i).bind fun j => xs[j]?
theorem ixN_seq {n : Nat} {i : Int} {j : Nat} (h : ixN n i = some j) : seqIndex? i n = some j ∧ j < n ∧ -(n : Int) ≤ i ∧ i < n := by
  unfold ixN at h
  by_cases h0 : 0 ≤ i
  · rw [if_pos h0] at h
    by_cases h1 : i < n
    · rw [if_pos h1] at h
      have e : i.toNat = j := Option.some.inj h
      exact ⟨by rw [seqIndex_of h0 h1, e], by omega, by omega, h1⟩
    · rw [if_neg h1] at h; cases h
  · rw [if_neg h0] at h
    by_cases h1 : -(n : Int) ≤ i
    · rw [if_pos h1] at h
      have e : (i + n).toNat = j := Option.some.inj h
      exact ⟨by rw [seqIndex_neg (by omega) h1, e], by omega, h1, by omega⟩
    · rw [if_neg h1] at h; cases h
theorem atI_get {α : Type} {xs : List α} {i : Int} {v : α} (h : atI xs i = some v) : ∃ j, seqIndex? i xs.length = some j ∧ xs[j]? = some v ∧ j < xs.length ∧ -(xs.length : Int) ≤ i ∧ i < xs.length := by
  unfold atI at h
  cases e : ixN xs.length i with
  | none => rw [e] at h; cases h
  | some j =>
    rw [e] at h
    obtain ⟨h1, h2, h3, h4⟩ := ixN_seq e
    exact ⟨j, h1, h, h2, h3, h4⟩
theorem atI_nat {α : Type} {xs : List α} {j : Nat} {v : α} (h : xs[j]? = some v) : atI xs (j : Int) = some v := by
  have hj : j < xs.length := (List.getElem?_eq_some_iff.mp h).1
  have e : ixN xs.length (j : Int) = some j := by
    unfold ixN
    rw [if_pos (by omega), if_pos (by omega)]; simp
  unfold atI; rw [e]; exact h
theorem atI_last {α : Type} (xs : List α) (v : α) : atI (xs ++ [v]) (-1) = some v := by
  have hl : (xs ++ [v]).length = xs.length + 1 := by simp
  have e : ixN (xs ++ [v]).length (-1) = some xs.length := by
    unfold ixN
    rw [hl, if_neg (by decide), if_pos (by omega)]
    congr 1
    omega
  unfold atI
  rw [e]
  show (xs ++ [v])[xs.length]? = some v
  simp

/-! ### what may be subscripted -/
/-- what stands as an index of a plain subscript -/
def PlainIx (b : Expr) : Prop := ∀ o i, subscripted b false o i = operate [o, i] (getItem o i)
/-- a subscript by values -/
def IxR (X : Cx) (r : R2) : Prop :=
  ∀ (value slice : Expr) (pins : List (Addr × Obj)) (s : Shared) (σ : St) (H : Hp) (x y : V) (v u : Value) (Q : VK), Inv X pins σ H s → RelV x v → RelV y u → r x y H Q →
    subscripted slice false v u = operate [v, u] (getItem v u) → wpAny (model X.prog X.w) X.A (subscriptTail value slice v u) (EP X pins σ Q) X.xe s
/-- a call of a builtin's method by values: the receiver, the arguments -/
def MtR (X : Cx) (id : String) (r : V → List V → Hp → VK → Prop) : Prop :=
  ∀ (pins : List (Addr × Obj)) (s : Shared) (σ : St) (H : Hp) (x : V) (xs : List V) (v : Value) (us : List Value) (Q : VK), Inv X pins σ H s → RelV x v → Vals xs us → r x xs H Q →
    wpAny (model X.prog X.w) X.A (call (.builtin id) (v :: us)) (EP X pins σ Q) X.xe s
section
variable {X : Cx} {a b : Expr} {ta tb : TE} {pos : Pos}
/-- a[b] -/
theorem pe_ix {r : R2} (hr : IxR X r) (ha : PE X a ta) (hb : PE X b tb) (hs : PlainIx b) : PE X (.Subscript a b pos) (tOp r ta tb) := by
  intro pins s σ H Q I h
  exact Subscript_ (binT ha hb I h fun v u s2 x y H2 I2 rx ry q => hr a b pins s2 σ H2 x y v u Q I2 rx ry q (hs _ _))

def rIxL (K : PySem.W.Frag) : R2 := fun x y H Q => ∃ p xs i v, x = .ref p ∧ y = .int i ∧ SqL K H p xs ∧ atI xs i = some v ∧ Q v H
def rIxT (K : PySem.W.Frag) : R2 := fun x y H Q => ∃ p xs i v, x = .ref p ∧ y = .int i ∧ SqT K H p xs ∧ atI xs i = some v ∧ Q v H
def rIxS : R2 := fun x y H Q => ∃ z i c, x = .str z ∧ y = .int i ∧ z.length ≤ sizeLine ∧ atI z.cps.toList i = some c ∧ Q (.str ⟨#[c]⟩) H
theorem ix_list : IxR X (rIxL X.K) := by
  intro value slice pins s σ H x y v u Q I rx ry h hs
  obtain ⟨p, xs, i, z, rfl, rfl, hq, he, q⟩ := h
  cases rx
  obtain ⟨t, rfl⟩ := ry
  obtain ⟨its, r, pl, hz⟩ := I.list hq
  obtain ⟨j, h1, h2, h3, h4, h5⟩ := atI_get he
  obtain ⟨w, ew, rw'⟩ := r.get h2
  have hl := r.length
  have hn := line63
  have fin : EP X pins σ Q w s := ⟨z, H, I, rw', q⟩
  by_cases h0 : 0 ≤ i
  · have hj : i.toNat = j := by
      rw [seqIndex_of h0 h5] at h1
      exact Option.some.inj h1
    exact item_listR pl.isList h0 (by omega) (by rw [hj]; simpa using ew) fin hs
  · have hj : (i + (its.toArray.size : Int)).toNat = j := by
      rw [seqIndex_neg (by omega) h4] at h1
      rw [List.size_toArray, ← hl]
      exact Option.some.inj h1
    exact subscriptTail_builtinR (x := w) pl.isList.typeIs slot_list_getitem.lookup
      (wpAny_getItem_list_neg (Q := fun r s' => r = w ∧ EP X pins σ Q r s') pl.isList (by omega) (by rw [List.size_toArray] <;> omega) (by omega) (by rw [hj]; simpa using ew) ⟨rfl, fin⟩) hs
theorem ix_tup : IxR X (rIxT X.K) := by
  intro value slice pins s σ H x y v u Q I rx ry h hs
  obtain ⟨p, xs, i, z, rfl, rfl, hq, he, q⟩ := h
  cases rx
  obtain ⟨t, rfl⟩ := ry
  obtain ⟨its, r, pl, hz⟩ := I.tuple hq
  obtain ⟨j, h1, h2, h3, h4, h5⟩ := atI_get he
  obtain ⟨w, ew, rw'⟩ := r.get h2
  have hl := r.length
  have hn := line63
  have fin : EP X pins σ Q w s := ⟨z, H, I, rw', q⟩
  exact subscriptTail_builtinR (x := w) pl.typeIs slot_tuple_getitem.lookup
    (getItem_tuple (j := j) (Q := fun r s' => r = w ∧ EP X pins σ Q r s') pl (by omega) (by omega) (by rw [List.size_toArray, ← hl]; exact h1) (by simpa using ew) ⟨rfl, fin⟩) hs
theorem ix_str : IxR X rIxS := by
  intro value slice pins s σ H x y v u Q I rx ry h hs
  obtain ⟨z, i, c, rfl, rfl, hz, he, q⟩ := h
  obtain ⟨t, rfl⟩ := rx
  obtain ⟨t', rfl⟩ := ry
  obtain ⟨j, h1, h2, h3, h4, h5⟩ := atI_get he
  have hl : z.cps.toList.length = z.length := by simp [Str.length]
  rw [hl] at h1 h4 h5
  have hn := line63
  exact tail_any (typeIs_str s z t) slot_str_getitem.lookup (getItem_str (c := c) (by
    have e1 : decide (i < -(2 ^ 63 : Int)) = false := decide_eq_false (by omega)
    have e2 : decide (i ≥ 2 ^ 63) = false := decide_eq_false (by omega)
    rw [e1, e2, Bool.or_false]) (by rw [h1]; simpa using h2) ⟨.str ⟨#[c]⟩, H, I.tok _, ⟨_, rfl⟩, q⟩) hs

/-! ### xs[i] = v, any sign -/

/-! ### slices -/
theorem slice_bounds (lo hi : Option Int) (n : Nat) : (sliceBounds lo hi none n).1 = ((HT.sIx n 0 lo : Nat) : Int) ∧ (sliceBounds lo hi none n).2.1 = ((HT.sIx n n hi : Nat) : Int) ∧ (sliceBounds lo hi none n).2.2 = 1 := by
  refine ⟨?_, ?_, rfl⟩
  · cases lo with
    | none => simp [sliceBounds, HT.sIx]
    | some i =>
      simp only [sliceBounds, HT.sIx, Option.getD_none, show (1 : Int) > 0 by decide, if_true]
      by_cases h : i < 0
      · simp only [h, if_true] <;> omega
      · simp only [h, if_false] <;> omega
  · cases hi with
    | none => simp [sliceBounds, HT.sIx]
    | some i =>
      simp only [sliceBounds, HT.sIx, Option.getD_none, show (1 : Int) > 0 by decide, if_true]
      by_cases h : i < 0
      · simp only [h, if_true] <;> omega
      · simp only [h, if_false] <;> omega
theorem slicePick_cut (its : List Value) (lo hi : Option Int) : slicePick its.toArray lo hi none = ((its.drop (HT.sIx its.length 0 lo)).take (HT.sIx its.length its.length hi - HT.sIx its.length 0 lo)).toArray := by
  obtain ⟨h1, h2, h3⟩ := slice_bounds lo hi its.toArray.size
  unfold slicePick
  rw [h1, h2, h3]
  simp only [sliceRange_one, pick_run, List.size_toArray] <;> rfl
/-- xs[lo:hi] of a list: a new list -/
def rSlL (K : PySem.W.Frag) : V → Option Int → Option Int → Hp → VK → Prop := fun x lo hi H Q => ∃ a xs, x = .ref a ∧ SqL K H a xs ∧ ∀ p, H p = none → Q (.ref p) (upd H p (.lst (cutV xs lo hi)))
theorem sl_list : SlR X (rSlL X.K) := by
  intro pins s σ H x v vl vu lo hi sl Q I rx hs pl pu h
  obtain ⟨a, xs, rfl, hx, q⟩ := h
  cases rx
  obtain ⟨its, r, ht, hz⟩ := I.list hx
  have hlen := r.length
  refine ⟨"list", _, slot_list_getitem.lookup, ht.isList.typeIs, ?_⟩
  refine wpAny_getItem_list_slice ht.isList hs pl pu .none (by simp) ?_ (by rw [List.size_toArray] <;> omega)
  rw [slicePick_cut, ← hlen]
  refine ⟨.ref s.heap.objs.size, _, I.laid (t' := s.toks) (o := .lst (cutV xs lo hi)) (fun b ob q => Heap.get?_push_of_some _ q) (Nat.le_refl _) ?_, rfl, q _ (I.hok.fresh (Nat.le_refl _))⟩
  exact ⟨Nat.le_trans (cutV_length xs lo hi) hz, _, 0, (r.drop (HT.sIx xs.length 0 lo)).take (HT.sIx xs.length xs.length hi - HT.sIx xs.length 0 lo), Heap.get?_push_size _ rfl⟩

/-! ### in, not in: flat items -/
def flatV : V → Bool
  | .non => true
  | .bl _ => true
  | .int _ => true
  | .str _ => true
  | _ => false
/-- == of flat values -/
def eqV : V → V → Bool
  | .non, .non => true
  | .bl a, .bl b => a == b
  | .bl a, .int b => (if a then 1 else 0) == b
  | .int a, .bl b => a == (if b then 1 else 0)
  | .int a, .int b => a == b
  | .str a, .str b => a == b
  | _, _ => false
theorem eqAt_V {A : Around} {s : Shared} {y x : V} {u v : Value} (ry : RelV y u) (rx : RelV x v) (fy : flatV y = true) (fx : flatV x = true) : SeqAt.EqAt A s u v (eqV y x) := by
  cases y with
  | non =>
    cases ry
    cases x with
    | non => cases rx; exact SeqAt.EqAt.same _
    | bl b => cases rx; exact SeqAt.EqAt.none_bool b
    | int b => obtain ⟨t, rfl⟩ := rx; exact SeqAt.EqAt.none_int b t
    | str b => obtain ⟨t, rfl⟩ := rx; exact SeqAt.EqAt.none_str b t
    | _ => exact absurd (show false = true from fx) Bool.false_ne_true
  | bl a =>
    cases ry
    cases x with
    | non => cases rx; exact SeqAt.EqAt.bool_none a
    | bl b => cases rx; exact SeqAt.EqAt.bool_bool a b
    | int b => obtain ⟨t, rfl⟩ := rx; exact SeqAt.EqAt.bool_int a b t
    | str b => obtain ⟨t, rfl⟩ := rx; exact SeqAt.EqAt.bool_str a b t
    | _ => exact absurd (show false = true from fx) Bool.false_ne_true
  | int a =>
    obtain ⟨t', rfl⟩ := ry
    cases x with
    | non => cases rx; exact SeqAt.EqAt.int_none a t'
    | bl b => cases rx; exact SeqAt.EqAt.int_bool a t' b
    | int b => obtain ⟨t, rfl⟩ := rx; exact SeqAt.EqAt.int_int a t' b t
    | str b => obtain ⟨t, rfl⟩ := rx; exact SeqAt.EqAt.int_str a t' b t
    | _ => exact absurd (show false = true from fx) Bool.false_ne_true
  | str a =>
    obtain ⟨t', rfl⟩ := ry
    cases x with
    | non => cases rx; exact SeqAt.EqAt.str_none a t'
    | bl b => cases rx; exact SeqAt.EqAt.str_bool a t' b
    | int b => obtain ⟨t, rfl⟩ := rx; exact SeqAt.EqAt.str_int a t' b t
    | str b => obtain ⟨t, rfl⟩ := rx; exact SeqAt.EqAt.str_str a t' b t
    | _ => exact absurd (show false = true from fx) Bool.false_ne_true
  | _ => exact absurd (show false = true from fy) Bool.false_ne_true
/-- the items' answers, read off the values (a value's own answer does not lean on its token) -/
def eqU (x : V) (u : Value) : Bool := match u with
  | .none => eqV .non x
  | .bool b => eqV (.bl b) x
  | .int i _ => eqV (.int i) x
  | .str z _ => eqV (.str z) x
  | _ => false
theorem eqU_of {x y : V} {u : Value} (r : RelV y u) (f : flatV y = true) : eqU x u = eqV y x := by
  cases y with
  | non => cases r; rfl
  | bl b => cases r; rfl
  | int i => obtain ⟨t, rfl⟩ := r; rfl
  | str z => obtain ⟨t, rfl⟩ := r; rfl
  | _ => exact absurd (show false = true from f) Bool.false_ne_true
theorem any_eqU {x : V} : ∀ {xs : List V} {us : List Value}, Vals xs us → xs.all flatV = true → us.any (eqU x) = xs.any fun y => eqV y x
  | _, _, .nil, _ => rfl
  | y :: xs, u :: us, .cons r t, f => by
    rw [List.all_cons, Bool.and_eq_true] at f
    rw [List.any_cons, List.any_cons, eqU_of r f.1, any_eqU t f.2]
theorem mem_eqAt {A : Around} {s : Shared} {x : V} {v : Value} (rx : RelV x v) (fx : flatV x = true) : ∀ {xs : List V} {us : List Value}, Vals xs us → xs.all flatV = true → ∀ u ∈ us, SeqAt.EqAt A s u v (eqU x u)
  | _, _, .nil, _ => fun u hu => by cases hu
  | y :: xs, u :: us, .cons r t, f => fun u' hu => by
    rw [List.all_cons, Bool.and_eq_true] at f
    rcases List.mem_cons.mp hu with rfl | hu
    · rw [eqU_of r f.1]; exact eqAt_V r rx f.1 fx
    · exact mem_eqAt rx fx t f.2 u' hu
def inV (x : V) (xs : List V) : Bool := xs.any fun y => eqV y x
/-- x in a list or tuple of flat items -/
def rIn (K : PySem.W.Frag) (neg : Bool) : R2 := fun x y H Q => ∃ p xs, y = .ref p ∧ (SqL K H p xs ∨ SqT K H p xs) ∧ flatV x = true ∧ xs.all flatV = true ∧ Q (.bl (if neg then !inV x xs else inV x xs)) H
theorem op_in_seq : OpR X (compareOp .In) (rIn X.K false) := by
  intro pins s σ H x y v u Q I rx ry h
  obtain ⟨p, xs, rfl, hq, fx, fs, q⟩ := h
  cases ry
  rcases hq with hq | hq
  · obtain ⟨its, r, pl, hz⟩ := I.list hq
    refine SeqAt.in_listAt (eqU x) pl.isList (fun w hw => mem_eqAt rx fx r fs w (by simpa using hw)) ⟨.bl _, H, I, rfl, ?_⟩
    rw [show its.toArray.any (eqU x) = its.any (eqU x) by simp, any_eqU r fs]
    exact q
  · obtain ⟨its, r, pl, hz⟩ := I.tuple hq
    refine SeqAt.in_tupleAt (eqU x) pl (fun w hw => mem_eqAt rx fx r fs w (by simpa using hw)) ⟨.bl _, H, I, rfl, ?_⟩
    rw [show its.toArray.any (eqU x) = its.any (eqU x) by simp, any_eqU r fs]
    exact q

/-! ### len, list(x), tuple(x) of any list or tuple that is read -/
theorem call_len_seq : CallR X (.builtin "len") (fun xs H Q => ∃ p ys, xs = [.ref p] ∧ (SqL X.K H p ys ∨ SqT X.K H p ys) ∧ Q (.int ys.length) H) := by
  intro pins s σ H xs us Q I r h
  obtain ⟨p, ys, rfl, hq, q⟩ := h
  obtain ⟨u, rfl, rx⟩ := vals1 r
  cases rx
  have hn := line63
  rcases hq with hq | hq
  · obtain ⟨its, r', pl, hz⟩ := I.list hq
    have hlen := r'.length
    exact Calls.call_len_list pl.isList (by simp only [List.size_toArray] <;> omega) ⟨.int ys.length, H, I.tok _, ⟨s.toks + 1, by rw [List.size_toArray, hlen]⟩, q⟩
  · obtain ⟨its, r', pl, hz⟩ := I.tuple hq
    have hlen := r'.length
    exact len_tuple pl (by simp only [List.size_toArray] <;> omega) ⟨.int ys.length, H, I.tok _, ⟨s.toks + 1, by rw [List.size_toArray, hlen]⟩, q⟩
theorem call_len_str : CallR X (.builtin "len") (fun xs H Q => ∃ z, xs = [.str z] ∧ z.length ≤ sizeLine ∧ Q (.int z.length) H) := by
  intro pins s σ H xs us Q I r h
  obtain ⟨z, rfl, hz, q⟩ := h
  obtain ⟨u, rfl, t, rfl⟩ := vals1 r
  have hn := line63
  exact len_str (by omega) ⟨.int z.length, H, I.tok _, ⟨_, rfl⟩, q⟩
theorem call_list_of : CallR X (.type "list") (fun xs H Q => ∃ p ys, xs = [.ref p] ∧ (SqL X.K H p ys ∨ SqT X.K H p ys) ∧ ∀ l, H l = none → Q (.ref l) (upd H l (.lst ys))) := by
  intro pins s σ H xs us Q I r h
  obtain ⟨p, ys, rfl, hq, q⟩ := h
  obtain ⟨u, rfl, rx⟩ := vals1 r
  cases rx
  have fin : ∀ (its : List Value), Vals ys its → ys.length ≤ sizeLine → ∀ (h' : Heap) (c' : Nat), (∀ b o', s.heap.get? b = some o' → h'.get? b = some o') →
      h'.get? s.heap.objs.size = some { cls := .type "list", dict := none, data := .seq its.toArray c', slots := #[] } → EP X pins σ Q (.ref s.heap.objs.size) { s with heap := h' } := fun its r' hz h' c' kp e =>
    ⟨.ref s.heap.objs.size, _, I.laid (t' := s.toks) kp (Nat.le_refl _) (show ObjOk X.prog X.w _ h' _ (.lst ys) from ⟨hz, its, c', r', e⟩), rfl, q _ (I.hok.fresh (Nat.le_refl _))⟩
  rcases hq with hq | hq
  · obtain ⟨its, r', pl, hz⟩ := I.list hq
    have hlen := r'.length
    obtain ⟨o, ho, hc, n, hd⟩ := pl.isList
    exact call_list_seq p (.inl rfl) ho hc hd (fun h' c' kp e => fin its r' hz h' c' kp e) (by simp only [List.size_toArray] <;> omega)
  · obtain ⟨its, r', pl, hz⟩ := I.tuple hq
    have hlen := r'.length
    obtain ⟨o, ho, hc, n, hd⟩ := pl
    exact call_list_seq p (.inr rfl) ho hc hd (fun h' c' kp e => fin its r' hz h' c' kp e) (by simp only [List.size_toArray] <;> omega)
theorem call_tuple_of : CallR X (.type "tuple") (fun xs H Q => ∃ p ys, xs = [.ref p] ∧ ((SqL X.K H p ys ∧ ∀ l, H l = none → Q (.ref l) (upd H l (.tup ys))) ∨ (SqT X.K H p ys ∧ Q (.ref p) H))) := by
  intro pins s σ H xs us Q I r h
  obtain ⟨p, ys, rfl, h⟩ := h
  obtain ⟨u, rfl, rx⟩ := vals1 r
  cases rx
  rcases h with ⟨hq, q⟩ | ⟨hq, q⟩
  · obtain ⟨its, r', pl, hz⟩ := I.list hq
    have hlen := r'.length
    refine call_tuple_list pl.isList (fun h' kp => ?_) (by simp only [List.size_toArray] <;> omega)
    have I1 : Inv X pins σ H { s with heap := h' } := I.kept (t' := s.toks) kp
    have I2 : Inv X pins σ (upd H h'.objs.size (.tup ys)) { s with heap := h'.push { cls := .type "tuple", data := .seq its.toArray } } :=
      I1.laid (t' := s.toks) (fun b o e => Heap.get?_push_of_some _ e) (Nat.le_refl _) (show ObjOk X.prog X.w _ _ _ (.tup ys) from ⟨hz, its, r', IsTup.new _ _⟩)
    exact ⟨.ref h'.objs.size, _, I2, rfl, q _ (I1.hok.fresh (Nat.le_refl _))⟩
  · obtain ⟨its, r', pl, hz⟩ := I.tuple hq
    exact call_tuple_same pl ⟨.ref p, H, I, rfl, q⟩

/-! ### the call of a builtin's method: o.m(..) -/
/-- the value is of that builtin type -/
def tyV (K : PySem.W.Frag) (T : String) (x : V) (H : Hp) : Prop := match x with
  | .str _ => T = "str"
  | .int _ => T = "int"
  | .ref p => (T = "list" ∧ ∃ xs, SqL K H p xs) ∨ (T = "tuple" ∧ ∃ o, K.lookup p = some o ∧ o.cls = .type "tuple" ∧ o.dict = none) ∨
      (T = "dict" ∧ ((∃ kvs, H p = some (.dK kvs)) ∨ ∃ kvs, H p = some (.dT kvs))) ∨ (T = "set" ∧ ∃ S n, H p = some (.set S n))
  | _ => False
theorem tyV_is {pins : List (Addr × Obj)} {σ : St} {H : Hp} {s : Shared} {T : String} {x : V} {v : Value} (I : Inv X pins σ H s) (r : RelV x v) (ty : tyV X.K T x H) :
    s.TypeIs v T ∧ ∀ a, v = .ref a → ∃ ob, s.heap.get? a = some ob ∧ ob.dict = none := by
  cases x with
  | str z =>
    obtain ⟨t, rfl⟩ := r
    cases (show T = "str" from ty)
    exact ⟨typeIs_str s z t, fun _ e => nomatch e⟩
  | int i =>
    obtain ⟨t, rfl⟩ := r
    cases (show T = "int" from ty)
    exact ⟨typeIs_int s i t, fun _ e => nomatch e⟩
  | ref p =>
    cases r
    rcases ty with ⟨rfl, xs, hq⟩ | ⟨rfl, o, hk, hc, hd⟩ | ⟨rfl, hk⟩ | ⟨rfl, S, n, hk⟩
    · obtain ⟨its, _, pl, _⟩ := I.list hq
      refine ⟨pl.isList.typeIs, fun a e => ?_⟩
      cases e
      obtain ⟨o, n, e, c, hd, _⟩ := pl
      exact ⟨o, e, hd⟩
    · refine ⟨⟨o, I.kIn p o hk, hc⟩, fun a e => ?_⟩
      cases e
      exact ⟨o, I.kIn _ o hk, hd⟩
    · have z : ∃ o, s.heap.get? p = some o ∧ o.ExactDict := by
        rcases hk with ⟨kvs, hk⟩ | ⟨kvs, hk⟩
        · obtain ⟨_, _, _, _, o, _, _, e, ex, _⟩ := I.hok p _ hk
          exact ⟨o, e, ex⟩
        · obtain ⟨_, _, _, _, o, _, _, e, ex, _⟩ := I.hok p _ hk
          exact ⟨o, e, ex⟩
      obtain ⟨o, e, ex⟩ := z
      refine ⟨⟨o, e, ex.1⟩, fun a e2 => ?_⟩
      cases e2
      exact ⟨o, e, ex.2.1⟩
    · obtain ⟨o, _, _, _, e, ex, _⟩ := I.hok p _ hk
      refine ⟨⟨o, e, ex.1⟩, fun a e2 => ?_⟩
      cases e2
      exact ⟨o, e, ex.2.1⟩
  | _ => exact False.elim ty
def tBM0 (K : PySem.W.Frag) (T : String) (r : V → List V → Hp → VK → Prop) (to : TE) : TE := fun σ H Q => to σ H fun x H1 => tyV K T x H1 ∧ r x [] H1 Q
def tBM (K : PySem.W.Frag) (T : String) (r : V → List V → Hp → VK → Prop) (to : TE) (t : TA) : TE := fun σ H Q => to σ H fun x H1 => tyV K T x H1 ∧ t σ H1 fun xs H2 => r x xs H2 Q
variable {o e : Expr} {es : List Expr} {to : TE} {t : TA} {name : Str} {apos cpos : Pos} {T id : String} {r : V → List V → Hp → VK → Prop}
theorem pe_bm0 (pa : PlainAttrs T) (slot : Slot T name id) (hty : typeOf (.builtin id) = pure (.type "method_descriptor")) (hm : MtR X id r) (ho : PE X o to)
    (hbase : attributeBase o name X.env (eval o X.env) = eval o X.env := by rfl) (hline : (apos.endLine == cpos.line) = true := by rfl) : PE X (.Call (.Attribute o name apos) [] [] cpos) (tBM0 X.K T r to) := by
  intro pins s σ H Q I h
  refine wpAny_Call_method0_late hbase hline (thn (ho pins s σ H _ I h) fun v s1 ⟨x, H1, I1, r1, ty, q1⟩ => ?_)
  obtain ⟨h1, h2⟩ := tyV_is I1 r1 ty
  exact ⟨T, id, pa, slot, hty, h1, h2, Calls.callWith_builtin rfl (PySem.evalArgs_none (hm pins s1 σ H1 x [] v [] Q I1 r1 .nil q1))⟩
theorem pe_bm (pa : PlainAttrs T) (slot : Slot T name id) (hty : typeOf (.builtin id) = pure (.type "method_descriptor")) (hm : MtR X id r) (ho : PE X o to) (ha : PA X (e :: es) t)
    (hbase : attributeBase o name X.env (eval o X.env) = eval o X.env := by rfl)
    (hfew : ((backTo cpos (starEach (e :: es) X.env)).all (fun x => !x.1) && (backToKw cpos (keywordEach [] X.env)).all (fun x => x.1.isSome)
      && decide ((e :: es).length + ([] : List Keyword).length + (if ([] : List Keyword).isEmpty then 0 else 1) < 30)) = true := by rfl)
    (hline : (apos.endLine == cpos.line) = true := by rfl) (hs : starEach (e :: es) X.env = (false, eval e X.env) :: starEach es X.env := by rfl) (hplain : (backTo cpos (starEach es X.env)).any (·.1) = false := by rfl) :
    PE X (.Call (.Attribute o name apos) (e :: es) [] cpos) (tBM X.K T r to t) := by
  intro pins s σ H Q I h
  refine wpAny_Call_method_late hbase hfew hline rfl (thn (ho pins s σ H _ I h) fun v s1 ⟨x, H1, I1, r1, ty, q1⟩ => ?_)
  obtain ⟨h1, h2⟩ := tyV_is I1 r1 ty
  refine ⟨T, id, pa, slot, hty, h1, h2, ?_⟩
  have hA := ha cpos pins s1 σ H1 _ I1 q1
  rw [hs] at hA ⊢
  refine Calls.callWith_builtin (by show (false || (backTo cpos (starEach es X.env)).any (·.1)) = false; rw [hplain] <;> rfl) (Calls.evalArgs_plain ?_)
  exact thn hA fun us s2 ⟨vs, H2, I2, r2, q2⟩ => hm pins s2 σ H2 x vs v us Q I2 r1 r2 q2
/- xs.append(e), list.index on a module's tuple .. are MtR facts of 06m -/
end
end L2

namespace L2
open PySem PySem.Spec PyProof.Rows

def MtM (X : Cx) (id : String) (r : V → List V → Hp → VK → Prop) : Prop :=
  ∀ (pins : List (Addr × Obj)) (s : Shared) (σ : St) (H : Hp) (x : V) (xs : List V) (v : Value) (us : List Value) (Q : VK), Inv X pins σ H s → RelV x v → Vals xs us → r x xs H Q →
    wpAny (model X.prog X.w) X.A (call (.builtin id) (v :: us)) (EP X pins σ Q) X.xe s

/-! ### lists of values -/
theorem Vals.one : ∀ {x : V} {us : List Value}, Vals [x] us → ∃ u, us = [u] ∧ RelV x u
  | _, _, .cons r .nil => ⟨_, rfl, r⟩
theorem Vals.two : ∀ {x y : V} {us : List Value}, Vals [x, y] us → ∃ u v, us = [u, v] ∧ RelV x u ∧ RelV y v
  | _, _, _, .cons r (.cons q .nil) => ⟨_, _, rfl, r, q⟩
theorem Vals.zero : ∀ {us : List Value}, Vals [] us → us = []
  | _, .nil => rfl
theorem Vals.dropLast {xs : List V} {us : List Value} (h : Vals xs us) : Vals xs.dropLast us.dropLast := by
  induction h with
  | nil => exact .nil
  | cons r t ih =>
    cases t with
    | nil => exact .nil
    | cons q t' => exact .cons r ih
theorem erase_last {α : Type} (l : List α) : l.eraseIdx (l.length - 1) = l.dropLast := by
  induction l with
  | nil => rfl
  | cons a r ih =>
    cases r with
    | nil => rfl
    | cons b r =>
      have e : (a :: b :: r).length - 1 = ((b :: r).length - 1) + 1 := by
        have h1 : (a :: b :: r).length = r.length + 2 := rfl
        have h2 : (b :: r).length = r.length + 1 := rfl
        omega
      rw [e, List.eraseIdx_cons_succ, ih]
      all_goals rfl

section
variable {X : Cx} {pins : List (Addr × Obj)} {σ : St} {H : Hp} {s : Shared} {l b : Addr} {xs ys zs : List V}

/-! ### the two steps: a tracked list is rewritten, a new list is laid -/
theorem Inv.lset {its its' : List Value} {n : Nat} {f : Array Value → Array Value} {t' : Nat} (I : Inv X pins σ H s) (hH : H l = some (.lst xs))
    (e : s.heap.get? l = some { cls := .type "list", data := .seq its.toArray n }) (hf : f its.toArray = its'.toArray) (hv : Vals ys its') (hz : ys.length ≤ sizeLine) :
    Inv X pins σ (upd H l (.lst ys)) { s with heap := s.heap.update l (Obj.mapSeq f), toks := t' } := by
  have q := PySem.IsL.update e f
  rw [hf] at q
  refine I.write (x := l) (e := l) (by rw [hH]; exact trivial) (.inl rfl) (fun b' u hb hu => (Heap.get?_update_other s.heap (Obj.mapSeq f) (Ne.symm hb)).trans hu) ⟨_, q⟩ ?_
  exact ⟨hz, its', _, hv, q⟩
theorem Inv.lnew {its : List Value} {t' : Nat} (I : Inv X pins σ H s) (hv : Vals ys its) (hz : ys.length ≤ sizeLine) :
    Inv X pins σ (upd H s.heap.objs.size (.lst ys)) { s with heap := s.heap.push { cls := .type "list", data := .seq its.toArray }, toks := t' } :=
  I.laid (fun _ _ q => Heap.get?_push_of_some _ q) (Nat.le_refl _) ⟨hz, its, 0, hv, Heap.get?_push_size _ rfl⟩
theorem Inv.fresh (I : Inv X pins σ H s) : H s.heap.objs.size = none := I.hok.fresh (Nat.le_refl _)
theorem Inv.lstM (I : Inv X pins σ H s) (hH : H l = some (.lst xs)) : xs.length ≤ sizeLine ∧ ∃ (its : List Value) (n : Nat), Vals xs its ∧ xs.length = its.length ∧ s.heap.get? l = some { cls := .type "list", data := .seq its.toArray n } := by
  obtain ⟨z, its, n, r, e⟩ := I.hok l _ hH
  exact ⟨z, its, n, r, r.length, e⟩

theorem notLongL {n : Nat} (h : n ≤ sizeLine) : Builtin.List.listTooLong n = false := by
  unfold Builtin.List.listTooLong
  exact decide_eq_false (by omega)
end

section
variable {X : Cx}

/-! ### methods -/
def rAppend : V → List V → Hp → VK → Prop := fun x vs H Q => ∃ l xs y, x = .ref l ∧ vs = [y] ∧ H l = some (.lst xs) ∧ xs.length < sizeLine ∧ Q .non (upd H l (.lst (xs ++ [y])))
theorem mt_append : MtM X "list.append" rAppend := by
  intro pins s σ H x vs v us Q I rx rv h
  obtain ⟨l, xs, y, rfl, rfl, hH, hz, q⟩ := h
  cases rx
  obtain ⟨u, rfl, ru⟩ := rv.one
  obtain ⟨z, its, n, r, hl, e⟩ := I.lstM hH
  refine call_meets F.slot_list_append ⟨_, e, rfl⟩ F.entry_list_append (F.args_list_append_2 _ _) (PySem.list_append l its.toArray n u (by rw [List.size_toArray]; omega)) ⟨e, ?_⟩
  refine ⟨.non, _, I.lset (its' := its ++ [u]) hH e (by simp) (r.append (.cons ru .nil)) ?_, rfl, q⟩
  rw [List.length_append, List.length_singleton]
  omega

def rExtend : V → List V → Hp → VK → Prop := fun x vs H Q => ∃ l b xs zs, x = .ref l ∧ vs = [.ref b] ∧ H l = some (.lst xs) ∧ H b = some (.lst zs) ∧ xs.length + zs.length ≤ sizeLine ∧ Q .non (upd H l (.lst (xs ++ zs)))
theorem mt_extend : MtM X "list.extend" rExtend := by
  intro pins s σ H x vs v us Q I rx rv h
  obtain ⟨l, b, xs, zs, rfl, rfl, hH, hB, hz, q⟩ := h
  cases rx
  obtain ⟨u, rfl, ru⟩ := rv.one
  cases ru
  obtain ⟨z, its, n, r, hl, e⟩ := I.lstM hH
  obtain ⟨z2, its2, n2, r2, hl2, e2⟩ := I.lstM hB
  have hsz : its.toArray.size + its2.toArray.size ≤ sizeLine := by rw [List.size_toArray, List.size_toArray]; omega
  have hlong : ¬ (!its.toArray.isEmpty && Builtin.List.listTooLong (its.toArray.size + its2.toArray.size)) = true := by
    rw [notLongL hsz, Bool.and_false]
    exact Bool.false_ne_true
  refine call_meets F.slot_list_extend ⟨_, e, rfl⟩ F.entry_list_extend (F.args_list_extend_2 _ _)
    (AutoSeq1.list_extend_list_list_0 l its.toArray n b its2.toArray n2 hlong (by rw [List.size_toArray]; omega) (by omega)) ⟨e, e2, ?_⟩
  refine ⟨.non, _, I.lset (its' := its ++ its2) hH e (by simp) (r.append r2) ?_, rfl, q⟩
  rw [List.length_append]
  omega

def rPop : V → List V → Hp → VK → Prop := fun x vs H Q => ∃ l xs y, x = .ref l ∧ vs = [] ∧ H l = some (.lst xs) ∧ xs[xs.length - 1]? = some y ∧ Q y (upd H l (.lst xs.dropLast))
theorem mt_pop : MtM X "list.pop" rPop := by
  intro pins s σ H x vs v us Q I rx rv h
  obtain ⟨l, xs, y, rfl, rfl, hH, hy, q⟩ := h
  cases rx
  have hus := rv.zero
  subst hus
  obtain ⟨z, its, n, r, hl, e⟩ := I.lstM hH
  obtain ⟨u, hu, ru⟩ := r.get hy
  have hy' : its.toArray[its.toArray.size - 1]? = some u := by
    show its.toArray[its.length - 1]? = some u
    rw [← Array.getElem?_toList, ← hl]
    exact hu
  refine call_meets F.slot_list_pop ⟨_, e, rfl⟩ F.entry_list_pop (F.args_list_pop_1 _) (MeetsSeq.list_pop_last l its.toArray n u hy' (by rw [List.size_toArray]; omega)) ⟨e, ?_⟩
  refine ⟨y, _, I.lset (its' := its.dropLast) hH e ?_ r.dropLast ?_, ru, q⟩
  · show its.toArray.eraseIdxIfInBounds (its.toArray.size - 1) = its.dropLast.toArray
    rw [List.size_toArray, List.eraseIdxIfInBounds_toArray, erase_last]
  · rw [List.length_dropLast]
    omega

/-! ### list + list, list += list, list * int -/
def rCat : R2 := fun x y H Q => ∃ l b xs zs, x = .ref l ∧ y = .ref b ∧ H l = some (.lst xs) ∧ H b = some (.lst zs) ∧ xs.length + zs.length ≤ sizeLine ∧ ∀ p, H p = none → Q (.ref p) (upd H p (.lst (xs ++ zs)))
theorem op_cat : OpR X (binaryOp .Add) rCat := by
  intro pins s σ H x y v u Q I rx ry h
  obtain ⟨l, b, xs, zs, rfl, rfl, hH, hB, hz, q⟩ := h
  cases rx
  cases ry
  obtain ⟨z, its, n, r, hl, e⟩ := I.lstM hH
  obtain ⟨z2, its2, n2, r2, hl2, e2⟩ := I.lstM hB
  refine PySem.P.add_list e e2 ?_ (by rw [List.size_toArray, List.size_toArray]; omega)
  have ea : its.toArray ++ its2.toArray = (its ++ its2).toArray := by simp
  rw [ea]
  exact ⟨.ref _, _, I.lnew (t' := s.toks) (r.append r2) (by rw [List.length_append]; omega), rfl, q _ I.fresh⟩

/-! ### del xs[i] -/
end

/-! ### xs[a:b] = ys -/
section
variable {prog : Program} {w : World} {A : Around} {E : Value → Shared → Prop} {s : Shared}
end

section
variable {X : Cx}
end
end L2

namespace L2
open PySem PySem.Spec PyProof.Rows

/-! ### lists of pairs as tables -/
section
variable {κ : Type} [DecidableEq κ]
def valV (kvs : List (κ × V)) (k : κ) : Option V := (kvs.find? fun kv => decide (kv.1 = k)).map (·.2)
/-- in its place, or at the end -/
def putK (kvs : List (κ × V)) (k : κ) (v : V) : List (κ × V) :=
  if (kvs.any fun kv => decide (kv.1 = k)) = true then kvs.map (fun kv => if kv.1 = k then (kv.1, v) else kv) else kvs ++ [(k, v)]

theorem valV_pos {p : κ × V} {r : List (κ × V)} {k : κ} (e : p.1 = k) : valV (p :: r) k = some p.2 := by simp [valV, List.find?_cons, e]
theorem valV_neg {p : κ × V} {r : List (κ × V)} {k : κ} (e : ¬ p.1 = k) : valV (p :: r) k = valV r k := by simp [valV, List.find?_cons, e]
theorem length_putK (kvs : List (κ × V)) (k : κ) (v : V) : (putK kvs k v).length ≤ kvs.length + 1 := by
  unfold putK
  split
  · rw [List.length_map]; omega
  · rw [List.length_append, List.length_cons, List.length_nil]; omega

theorem RelO.getD {o : Option V} {u : Option Value} {d : V} {d' : Value} (r : RelO o u) (rd : RelV d d') : RelV (o.getD d) (u.getD d') := by
  cases o with
  | none => cases u with
    | none => exact rd
    | some _ => exact (show False from r).elim
  | some _ => cases u with
    | none => exact (show False from r).elim
    | some _ => exact r

/-- raw tables of the same keys -/
theorem KV.val {kvs : List (κ × V)} {vs : List (κ × Value)} (r : KV kvs vs) (k : κ) : RelO (valV kvs k) (valueAt vs k) := by
  unfold KV at r
  induction r with
  | nil => exact True.intro
  | @cons p q ps qs h t ih =>
    obtain ⟨h1, h2⟩ := h
    by_cases e : p.1 = k
    · have e' : q.1 = k := h1.symm.trans e
      have b : valueAt (q :: qs) k = some q.2 := by simp [valueAt, List.find?_cons, e']
      rw [valV_pos e, b]; exact h2
    · have e' : ¬ q.1 = k := fun z => e (h1.trans z)
      have b : valueAt (q :: qs) k = valueAt qs k := by simp [valueAt, List.find?_cons, e']
      rw [valV_neg e, b]; exact ih
theorem KV.any {kvs : List (κ × V)} {vs : List (κ × Value)} (r : KV kvs vs) (k : κ) : (kvs.any fun kv => decide (kv.1 = k)) = vs.any fun kv => decide (kv.1 = k) := by
  unfold KV at r
  induction r with
  | nil => rfl
  | cons h t ih => rw [List.any_cons, List.any_cons, ih, h.1]
theorem KV.repl {kvs : List (κ × V)} {vs : List (κ × Value)} (r : KV kvs vs) (k : κ) {y : V} {u : Value} (ry : RelV y u) :
    KV (kvs.map fun kv => if kv.1 = k then (kv.1, y) else kv) (vs.map fun kv => if kv.1 = k then (kv.1, u) else kv) := by
  unfold KV at r ⊢
  induction r with
  | nil => exact .nil
  | @cons p q ps qs h t ih =>
    rw [List.map_cons, List.map_cons]
    refine .cons ?_ ih
    obtain ⟨h1, h2⟩ := h
    by_cases e : p.1 = k
    · rw [if_pos e, if_pos (h1.symm.trans e)]; exact ⟨h1, ry⟩
    · rw [if_neg e, if_neg (fun z => e (h1.trans z))]; exact ⟨h1, h2⟩
theorem KV.put {kvs : List (κ × V)} {vs : List (κ × Value)} (r : KV kvs vs) (k : κ) {y : V} {u : Value} (ry : RelV y u) : KV (putK kvs k y) (stored vs k u) := by
  unfold putK stored
  rw [r.any k]
  by_cases e : (vs.any fun kv => decide (kv.1 = k)) = true
  · rw [if_pos e, if_pos e]; exact r.repl k ry
  · rw [if_neg e, if_neg e]; exact Paired.snoc r ⟨rfl, ry⟩
end

/-! ### a tracked dict, its keys ints and texts or tuples of these -/
theorem kV_is {P : Program} {w : World} {k : Key} {u : Value} (r : RelV (kV k) u) : (mixKind P w).is k u = true := by
  cases k with
  | inl i => obtain ⟨t, e⟩ := (show ∃ t, u = Value.int i t from r); subst e; exact mixKind_int P w i t
  | inr x => obtain ⟨t, e⟩ := (show ∃ t, u = Value.str x t from r); subst e; exact mixKind_str P w x t
theorem items_are {P : Program} {w : World} : ∀ {ks : List Key} {us : List Value}, Vals (ks.map kV) us → ItemsAre (mixKind P w) ks us
  | [], _, r => by rw [List.map_nil] at r; cases r; exact .nil
  | k :: ks, _, r => by
    rw [List.map_cons] at r
    cases r with
    | cons h t => exact .cons (kV_is h) (items_are t)

/-- raw entries of a dict with tuple keys -/
abbrev KT (H : Hp) : List (List Key × V) → List (List Key × Addr × Value) → Prop := Paired fun p q => p.1 = q.1 ∧ H q.2.1 = some (.tup (p.1.map kV)) ∧ RelV p.2 q.2.2
theorem KT.val {H : Hp} {kvs : List (List Key × V)} {xs : List (List Key × Addr × Value)} (r : KT H kvs xs) (k : List Key) : RelO (valV kvs k) ((atKey xs k).map (·.2)) := by
  induction r with
  | nil => exact True.intro
  | @cons p q ps qs h t ih =>
    obtain ⟨h1, _, h2⟩ := h
    by_cases e : p.1 = k
    · have e' : q.1 = k := h1.symm.trans e
      have b : atKey (q :: qs) k = some q.2 := by simp [atKey, List.find?_cons, e']
      rw [valV_pos e, b]; exact h2
    · have e' : ¬ q.1 = k := fun z => e (h1.trans z)
      have b : atKey (q :: qs) k = atKey qs k := by simp [atKey, List.find?_cons, e']
      rw [valV_neg e, b]; exact ih

section
variable {P : Program} {w : World} {H : Hp} {h : Heap} {a : Addr}
theorem rd_of {u : HO} (ok : HOk P w H h) (e : Rd H a u) : ObjOk P w H h a u := e.ok ok
theorem dk_rd {kvs : List (Key × V)} (ok : HOk P w H h) (e : Rd H a (.dK kvs)) : kvs.length ≤ sizeLine ∧ (a == sysModules) = false ∧ ∃ vs, KV kvs vs ∧ h.DictOf (mixKind P w) a vs :=
  show ObjOk P w H h a (.dK kvs) from rd_of ok e
theorem dk_of {kvs : List (Key × V)} (ok : HOk P w H h) (e : H a = some (.dK kvs)) : kvs.length ≤ sizeLine ∧ (a == sysModules) = false ∧ ∃ vs, KV kvs vs ∧ h.DictOf (mixKind P w) a vs := dk_rd ok (.inl e)
/-- a tracked tuple of ints and texts is a key -/
theorem key_of {ks : List Key} (ok : HOk P w H h) (e : H a = some (.tup (ks.map kV))) : (tupleKind (mixKind P w)).is h ks a := by
  obtain ⟨_, its, r, o, h1, h2, n, h3⟩ := (show ObjOk P w H h a (.tup (ks.map kV)) from ok a _ e)
  exact ⟨o, its.toArray, n, h1, h2, h3, by simpa using items_are r⟩
theorem dt_rd {kvs : List (List Key × V)} (ok : HOk P w H h) (e : Rd H a (.dT kvs)) : kvs.length ≤ sizeLine ∧ (a == sysModules) = false ∧
    ∃ xs, KT H kvs xs ∧ h.DictOfH (tupleKind (mixKind P w)) a xs := by
  obtain ⟨z, y, xs, r, o, es, ep, h1, h2, h3, h4, h5⟩ := (show ObjOk P w H h a (.dT kvs) from rd_of ok e)
  refine ⟨z, y, xs, r, o, es, ep, h1, h2, h3, h4, fun x hx => ?_, h5⟩
  have all : ∀ {l : List (List Key × V)} {m : List (List Key × Addr × Value)}, KT H l m → ∀ x ∈ m, (tupleKind (mixKind P w)).is h x.1 x.2.1 := by
    intro l m q
    induction q with
    | nil => intro x hx; exact nomatch hx
    | @cons p q ps qs hq t ih =>
      intro x hx
      rcases List.mem_cons.mp hx with e | hx
      · subst e
        exact key_of ok (by rw [← hq.1]; exact hq.2.1)
      · exact ih x hx
  exact all r x hx
end

/-- what the dict at a holds at the key y -/
def DGet (H : Hp) (a : Addr) (y : V) (r : Option V) : Prop :=
  (∃ kvs k, Rd H a (.dK kvs) ∧ y = kV k ∧ r = valV kvs k) ∨ ∃ kvs k b, Rd H a (.dT kvs) ∧ y = .ref b ∧ H b = some (.tup (k.map kV)) ∧ r = valV kvs k
theorem DGet.k {H : Hp} {a : Addr} {kvs : List (Key × V)} {k : Key} (e : H a = some (.dK kvs)) : DGet H a (kV k) (valV kvs k) := .inl ⟨kvs, k, .inl e, rfl, rfl⟩

section
variable {X : Cx} {pins : List (Addr × Obj)} {σ : St} {H : Hp} {s : Shared} {a : Addr} {y v : V} {u r : Value} {o : Option V} {A : Around} {E : Value → Shared → Prop}

theorem Inv.big (I : Inv X pins σ H s) : sysModules < s.heap.objs.size := by
  have h : mainGlobals < s.heap.objs.size := (I.mod.glob.keeps I.bk).lt
  exact Nat.lt_trans (by decide) h

/-- d[y], there -/
theorem d_getItem {Q : Value → Shared → Prop} (hu : A.units + 1 < cLine) (I : Inv X pins σ H s) (g : DGet H a y (some v)) (ry : RelV y u) (h : ∀ w' s', Inv X pins σ H s' → RelV v w' → Q w' s') :
    wpAny (model X.prog X.w) A (getItem (.ref a) u) Q E s := by
  rcases g with ⟨kvs, k, e, ey, l⟩ | ⟨kvs, k, b, e, ey, eb, l⟩
  · subst ey
    obtain ⟨z, hd, vs, rel, dd⟩ := dk_rd I.hok e
    obtain ⟨w', hw, rw'⟩ := RelO.some_of (v := v) (o := valueAt vs k) (by rw [l]; exact rel.val k)
    exact wpAny_getItem_of (kV_is ry) dd.mapOf hw (h w' _ (I.tok _) rw')
  · subst ey
    cases (show u = Value.ref b from ry)
    obtain ⟨z, hd, xs, rel, dd⟩ := dt_rd I.hok e
    obtain ⟨w', hw, rw'⟩ := RelO.some_of (v := v) (o := (atKey xs k).map (·.2)) (by rw [l]; exact rel.val k)
    obtain ⟨p, hp, hp2⟩ := Option.map_eq_some_iff.mp hw
    refine wpAny_getItem_heap (tupleKind_room_in1 hu) (key_of I.hok eb) dd hp ?_
    rw [hp2]
    exact h w' _ (I.tok _) rw'
/-- a dict's object is replaced -/
theorem d_write {h' : Heap} {t' : Nat} {ob : HO} (I : Inv X pins σ H s) (mu : Mut (H a)) (hs : Heap.SameBut a s.heap h') (he : ∃ q, h'.get? a = some q) (new : ObjOk X.prog X.w (upd H a ob) h' a ob) :
    Inv X pins σ (upd H a ob) { s with heap := h', toks := t' } :=
  I.write (x := a) (e := a) mu (.inl rfl) (fun b q hb z => (hs.2 b hb).trans z) he new
theorem dk_new {P : Program} {w : World} {H' : Hp} {h' : Heap} {kvs : List (Key × V)} {vs : List (Key × Value)} (z : kvs.length ≤ sizeLine) (hd : (a == sysModules) = false) (rel : KV kvs vs) (dd : h'.DictOf (mixKind P w) a vs) :
    ObjOk P w H' h' a (.dK kvs) := ⟨z, hd, vs, rel, dd⟩
end

section
variable {X : Cx} {pins : List (Addr × Obj)} {σ : St} {H : Hp} {s : Shared} {a : Addr} {kvs : List (Key × V)} {k : Key} {u : Value} {A : Around} {E : Value → Shared → Prop}
end

/-! ### readings and rules -/
/-- the element of a subscription, not a slice -/
def NoSl (i : Expr) : Prop := ∀ ov iv, subscripted i false ov iv = operate [ov, iv] (getItem ov iv)
theorem subD_of {prog : Program} {w : World} {A : Around} {E : Value → Shared → Prop} {s : Shared} {env : Env} {value slice : Expr} {pos : Pos} {T id : String} {Q : Value → Shared → Prop}
    (hl : typeLookup (.type T) "__getitem__" = pure (some (.builtin id))) (hs : NoSl slice)
    (h : wpAny (model prog w) A (eval value env) (fun o s₁ => wpAny (model prog w) A (eval slice env) (fun i s₂ => s₂.TypeIs o T ∧ wpAny (model prog w) A (getItem o i) Q E s₂) E s₁) E s) :
    wpAny (model prog w) A (eval (.Subscript value slice pos) env) Q E s := by
  refine Subscript_ (wpAny_mono h (fun o s₁ h₁ => wpAny_mono h₁ (fun i s₂ h₂ => ?_) fun _ _ x => x) fun _ _ x => x)
  obtain ⟨hT, h₂⟩ := h₂
  unfold subscriptTail
  refine wpAny_bind ?_
  rw [getitemInPython_of_ne hT.not_modules]
  refine wpAny_bind (wpAny_specialOf hT hl ?_)
  have fin : wpAny (model prog w) A (subscripted slice false o i) (fun r s₃ => wpAny (model prog w) A (letTemporaryGo value o r >>= fun _ => pure r) Q E s₃) E s₂ := by
    rw [hs o i]
    exact wpAny_operating (wpAny_mono h₂ (fun r s₃ h₃ => wpAny_bind (wpAny_letTemporaryGo (wpAny_pure h₃))) fun _ _ x => x)
  first
    | exact wpAny_pure (wpAny_bind fin)
    | exact wpAny_bind (wpAny_pure (wpAny_bind fin))
    | exact wpAny_bind fin

theorem dict_typeIs {X : Cx} {pins : List (Addr × Obj)} {σ : St} {H : Hp} {s : Shared} {a : Addr} {y : V} {o : Option V} (I : Inv X pins σ H s) (g : DGet H a y o) : s.TypeIs (.ref a) "dict" := by
  rcases g with ⟨kvs, k, e, _, _⟩ | ⟨kvs, k, b, e, _, _, _⟩
  · obtain ⟨_, _, vs, _, dd⟩ := dk_rd I.hok e
    exact dd.typeIs
  · obtain ⟨_, _, xs, _, dd⟩ := dt_rd I.hok e
    exact dd.typeIs

/-- d[y] -/
def tDGet (td ty : TE) : TE := fun σ H Q => td σ H fun x H1 => ty σ H1 fun y H2 => ∃ a v, x = .ref a ∧ DGet H2 a y (some v) ∧ Q v H2

section
variable {X : Cx} {o i e value : Expr} {pos pos' tpos : Pos} {td ty tv : TE}
theorem pe_dget (hu : X.A.units + 1 < cLine) (ho : PE X o td) (hi : PE X i ty) (hs : NoSl i) : PE X (.Subscript o i pos) (tDGet td ty) := by
  intro pins s σ H Q I h
  refine subD_of PySem.F.slot_dict_getitem.lookup hs (thn (ho pins s σ H _ I h) fun u s1 ⟨x, H1, I1, rx, q1⟩ => thn (hi pins s1 σ H1 _ I1 q1) fun iv s2 ⟨y, H2, I2, ry, a, v, ex, g, q2⟩ => ?_)
  subst ex
  obtain rfl : u = Value.ref a := rx
  exact ⟨dict_typeIs I2 g, d_getItem hu I2 g ry fun w' s3 I3 rw' => ⟨v, H2, I3, rw', q2⟩⟩
end

/-! ### displays -/
theorem dk_empty {P : Program} {w : World} {H : Hp} (h : Heap) (hb : sysModules < h.objs.size) : ObjOk P w H (h.push { cls := .type "dict", data := .dict #[] }) h.objs.size (.dK []) :=
  ⟨Nat.zero_le _, beq_eq_false_iff_ne.mpr (Ne.symm (Nat.ne_of_lt hb)), [], .nil, Heap.DictOf.new h⟩
section
variable {X : Cx} {pos : Pos}
end

/-- the pairs of a display, from the left -/
def tPairs : List (TE × TE) → St → Hp → (List (V × V) → Hp → Prop) → Prop
  | [], _, H, Q => Q [] H
  | (tk, tv) :: r, σ, H, Q => tk σ H fun x H1 => tv σ H1 fun y H2 => tPairs r σ H2 fun ps H3 => Q ((x, y) :: ps) H3
abbrev VV : List (V × V) → List (Value × Value) → Prop := Paired fun p q => RelV p.1 q.1 ∧ RelV p.2 q.2
def PPs (X : Cx) (pos : Pos) (keys : List (Option Expr)) (values : List Expr) (trs : List (TE × TE)) : Prop :=
  ∀ (pins : List (Addr × Obj)) (s : Shared) (σ : St) (H : Hp) (Q : List (V × V) → Hp → Prop), Inv X pins σ H s → tPairs trs σ H Q →
    wpAny (model X.prog X.w) X.A (evalPairs (pairTrees keys values X.env pos)) (fun vs s' => ∃ ps H', Inv X pins σ H' s' ∧ VV ps vs ∧ Q ps H') X.xe s
theorem pps_nil {X : Cx} {pos : Pos} : PPs X pos [] [] [] := fun pins s σ H Q I h => pairTrees_nil_walk ⟨[], H, I, .nil, h⟩
theorem pps_cons {X : Cx} {pos : Pos} {k v : Expr} {ks : List (Option Expr)} {vs : List Expr} {tk tv : TE} {trs : List (TE × TE)} (hk : PE X k tk) (hv : PE X v tv) (hr : PPs X pos ks vs trs) :
    PPs X pos (some k :: ks) (v :: vs) ((tk, tv) :: trs) := fun pins s σ H Q I h =>
  pairTrees_cons_walk (thn (hk pins s σ H _ I h) fun u s1 ⟨x, H1, I1, rx, q1⟩ => thn (hv pins s1 σ H1 _ I1 q1) fun w2 s2 ⟨y, H2, I2, ry, q2⟩ =>
    thn (hr pins s2 σ H2 _ I2 q2) fun ws s3 ⟨ps, H3, I3, rel, q3⟩ => ⟨(x, y) :: ps, H3, I3, .cons ⟨rx, ry⟩ rel, q3⟩)

def mergeK (kvs more : List (Key × V)) : List (Key × V) := more.foldl (fun acc kv => putK acc kv.1 kv.2) kvs
theorem KV.merge : ∀ {more : List (Key × V)} {rs : List (Key × Value)} {kvs : List (Key × V)} {vs : List (Key × Value)}, KV more rs → KV kvs vs → KV (mergeK kvs more) (merged vs rs) := by
  intro more rs kvs vs r
  unfold KV at r
  induction r generalizing kvs vs with
  | nil => intro q; exact q
  | @cons p q ps qs h t ih =>
    intro r0
    have e : KV (putK kvs p.1 p.2) (stored vs q.1 q.2) := by
      have := r0.put p.1 h.2
      rw [← h.1]; exact this
    exact ih e
theorem length_mergeK : ∀ (more kvs : List (Key × V)), (mergeK kvs more).length ≤ kvs.length + more.length
  | [], kvs => by show kvs.length ≤ kvs.length + 0; omega
  | p :: r, kvs => by
    have h1 := length_mergeK r (putK kvs p.1 p.2)
    have h2 := length_putK kvs p.1 p.2
    show (mergeK (putK kvs p.1 p.2) r).length ≤ _
    rw [List.length_cons]; omega
theorem carries_of {P : Program} {w : World} : ∀ {kvs : List (Key × V)} {ws : List (Value × Value)}, VV (kvs.map fun kv => (kV kv.1, kv.2)) ws → ∃ rs, Carries (mixKind P w) ws rs ∧ KV kvs rs
  | [], _, r => by rw [List.map_nil] at r; cases r; exact ⟨[], True.intro, .nil⟩
  | p :: kvs, _, r => by
    rw [List.map_cons] at r
    cases r with
    | @cons a b as bs h t =>
      obtain ⟨rs, c, q⟩ := carries_of (P := P) (w := w) t
      obtain ⟨b1, b2⟩ := b
      exact ⟨(p.1, b2) :: rs, ⟨kV_is h.1, rfl, c⟩, .cons ⟨rfl, h.2⟩ q⟩
/-- {k: v, ..} with keys ints and texts; the new dict stands empty while the pairs are made -/
def tDisp (trs : List (TE × TE)) : TE := fun σ H Q => ∀ p, H p = none → tPairs trs σ (upd H p (.dK [])) fun ps H2 => H2 p = some (.dK []) ∧ ∃ kvs : List (Key × V), ps = kvs.map (fun kv => (kV kv.1, kv.2)) ∧ kvs.length ≤ 15 ∧ Q (.ref p) (upd H2 p (.dK (mergeK [] kvs)))
theorem pe_disp {X : Cx} {pos : Pos} {keys : List (Option Expr)} {values : List Expr} {trs : List (TE × TE)} (h : PPs X pos keys values trs) (hall : keys.all (·.isSome) = true) (hl : keys.length = values.length) (h0 : keys ≠ [])
    (h15 : keys.length ≤ 15) : PE X (.Dict keys values pos) (tDisp trs) := by
  intro pins s σ H Q I q
  have hn := I.hok.fresh (Nat.le_refl s.heap.objs.size)
  have I1 := I.laid (a := s.heap.objs.size) (o := .dK []) (h' := s.heap.push { cls := .type "dict", data := .dict #[] }) (t' := s.toks) (fun _ _ q => Heap.get?_push_of_some _ q) (Nat.le_refl _) (dk_empty s.heap I.big)
  refine wpAny_Dict_walk (knd := mixKind X.prog X.w) hall hl h0 h15 (thn (h pins _ σ _ _ I1 (q _ hn)) fun ws s2 ⟨ps, H2, I2, rel, e, kvs, ep, lk, q2⟩ => ?_)
  subst ep
  obtain ⟨rs, c, rk⟩ := carries_of (P := X.prog) (w := X.w) rel
  obtain ⟨z, hd, vs0, r0, dd⟩ := dk_of I2.hok e
  cases r0
  refine ⟨rs, c, dd, fun h' dd' hs => ⟨.ref s.heap.objs.size, _, ?_, rfl, q2⟩⟩
  have hz : (mergeK [] kvs).length ≤ sizeLine := by
    have h1 := length_mergeK kvs []
    rw [List.length_nil] at h1
    rw [sizeLine_eq]; omega
  have he : ∃ q, h'.get? s.heap.objs.size = some q := let ⟨q, _, _, hq, _⟩ := dd'; ⟨q, hq⟩
  exact d_write I2 (by rw [e]; exact True.intro) hs he (dk_new hz hd (rk.merge .nil) dd')

/-! ### methods -/
structure M2 (X : Cx) (o : Expr) (m : Str) (apos : Pos) (e f : Expr) (cpos : Pos) : Prop where
  base : attributeBase o m X.env (eval o X.env) = eval o X.env
  few : ((backTo cpos (starEach [e, f] X.env)).all (fun x => !x.1) && (backToKw cpos (keywordEach [] X.env)).all (fun x => x.1.isSome)
    && decide (([e, f] : List Expr).length + ([] : List Keyword).length + (if ([] : List Keyword).isEmpty then 0 else 1) < 30)) = true
  line : (apos.endLine == cpos.line) = true
  trees : backTo cpos (starEach [e, f] X.env) = [(false, eval e X.env), (false, eval f X.env)]

/-- a is a dict, whatever its keys -/
def IsD (H : Hp) (a : Addr) : Prop := (∃ kvs, Rd H a (.dK kvs)) ∨ ∃ kvs, Rd H a (.dT kvs)
theorem isD_at {X : Cx} {pins : List (Addr × Obj)} {σ : St} {H : Hp} {s : Shared} {a : Addr} (I : Inv X pins σ H s) (d : IsD H a) :
    s.TypeIs (.ref a) "dict" ∧ (∀ b, Value.ref a = .ref b → ∃ ob, s.heap.get? b = some ob ∧ ob.dict = none) ∧ (a == sysModules) = false := by
  rcases d with ⟨kvs, e⟩ | ⟨kvs, e⟩
  · obtain ⟨_, hd, vs, _, dd⟩ := dk_rd I.hok e
    refine ⟨dd.typeIs, fun b q => ?_, hd⟩
    cases q
    obtain ⟨ob, _, _, h1, h2, _⟩ := dd
    exact ⟨ob, h1, h2.2.1⟩
  · obtain ⟨_, hd, xs, _, dd⟩ := dt_rd I.hok e
    refine ⟨dd.typeIs, fun b q => ?_, hd⟩
    cases q
    obtain ⟨ob, _, _, h1, h2, _⟩ := dd
    exact ⟨ob, h1, h2.2.1⟩

section
variable {X : Cx} {pins : List (Addr × Obj)} {σ : St} {H : Hp} {s : Shared} {a : Addr} {y d : V} {u r : Value} {o : Option V} {A : Around} {E : Value → Shared → Prop}
/-- d.get(y, x) -/
theorem d_get2 {Q : Value → Shared → Prop} (hu : A.units + 1 < cLine) (I : Inv X pins σ H s) (g : DGet H a y o) (ry : RelV y u) (rd : RelV d r) (h : ∀ w' s', Inv X pins σ H s' → RelV (o.getD d) w' → Q w' s') :
    wpAny (model X.prog X.w) A (call (.builtin "dict.get") [.ref a, u, r]) Q E s := by
  rcases g with ⟨kvs, k, e, ey, l⟩ | ⟨kvs, k, b, e, ey, eb, l⟩
  · subst ey
    obtain ⟨z, hd, vs, rel, dd⟩ := dk_rd I.hok e
    refine call_meetsIn PySem.F.slot_dict_get dd.typeIs PySem.F.entry_dict_get (PySem.F.args_dict_get_3 _ _ _) (meets_dict_get_default (mixKind X.prog X.w) a (kV_is ry) hd r) ⟨_, dd.mapOf, h _ _ (I.tok _) ?_⟩
    rw [l]
    exact (rel.val k).getD rd
  · subst ey
    cases (show u = Value.ref b from ry)
    obtain ⟨z, hd, xs, rel, dd⟩ := dt_rd I.hok e
    refine call_meetsIn PySem.F.slot_dict_get dd.typeIs PySem.F.entry_dict_get (PySem.F.args_dict_get_3 _ _ _) (meetsH_dict_get_default (tupleKind (mixKind X.prog X.w)) a b hd r) ⟨tupleKind_room_in1 hu, k, xs, key_of I.hok eb, dd, h _ _ (I.tok _) ?_⟩
    rw [l]
    exact (rel.val k).getD rd
end

def tDGet2 (td ty tx : TE) : TE := fun σ H Q => td σ H fun x H1 => ∃ a, x = .ref a ∧ IsD H1 a ∧ ty σ H1 fun y H2 => tx σ H2 fun z H3 => ∃ o, DGet H3 a y o ∧ Q (o.getD z) H3
section
variable {X : Cx} {o e f : Expr} {apos cpos : Pos} {td ty tx : TE}
theorem pe_dget2 (hu : X.A.units + 1 < cLine) (ho : PE X o td) (he : PE X e ty) (hf : PE X f tx) (m : M2 X o "get" apos e f cpos) : PE X (.Call (.Attribute o "get" apos) [e, f] [] cpos) (tDGet2 td ty tx) := by
  intro pins s σ H Q I h
  refine wpAny_Call_method m.base m.few m.line PySem.F.plainAttrs_dict PySem.F.slot_dict_get PySem.F.type_dict_get (thn (ho pins s σ H _ I h) fun u s1 ⟨x, H1, I1, rx, a, ex, d, q1⟩ => ?_)
  subst ex
  obtain rfl : u = Value.ref a := rx
  obtain ⟨t1, t2, _⟩ := isD_at I1 d
  refine ⟨t1, t2, ?_⟩
  rw [m.trees]
  refine Calls.callWith_builtin rfl (Calls.evalArgs_plain (Calls.spliced_cons (thn (he pins s1 σ H1 _ I1 q1) fun iv s2 ⟨y, H2, I2, ry, q2⟩ =>
    Calls.spliced_cons (thn (hf pins s2 σ H2 _ I2 q2) fun fv s3 ⟨z, H3, I3, rz, ov, g, q3⟩ => Calls.spliced_nil ?_))))
  exact d_get2 hu I3 g ry rz fun w' s4 I4 rw' => ⟨_, H3, I4, rw', q3⟩
end

/-! ### dict(d): a copy -/
section
variable {X : Cx} {pins : List (Addr × Obj)} {σ : St} {H : Hp} {s : Shared} {a : Addr} {kvs : List (Key × V)} {A : Around} {E : Value → Shared → Prop}
end

section
variable {X : Cx} {pins : List (Addr × Obj)} {σ : St} {H : Hp} {s : Shared} {a : Addr} {y : V} {u : Value} {A : Around} {E : Value → Shared → Prop}
end
end L2

namespace Att
open PySem PySem.W PySem.Calls PyProof.Rows

/-! ### the script -/
theorem ints_of_wellAll {P : Params} {h : Heap} : ∀ (ns : List Int) (vs : List Value), WellAll P h vs (ns.map WData.int) → IntsAre vs ns := by
  intro ns
  induction ns with
  | nil =>
    intro vs w
    rw [List.map_nil] at w
    cases w
    exact .nil
  | cons n ns ih =>
    intro vs w
    rw [List.map_cons] at w
    cases w with
    | cons a b =>
      cases a
      exact .cons _ _ (ih _ b)

theorem script_of {l : OpenLaw} {n : Nat} (hn : l.most = some n) {P : Params} {h : Heap} {args : List WData} {vals : List Value}
    (hpre : l.row.toRowW.claim.pre args = true) (hwl : WellAll P h vals args) :
    ∃ a vs ns, vals = [Value.ref a] ∧ args = [WData.list (ns.map WData.int)] ∧ h.get? a = some { cls := .type "list", data := .seq vs.toArray } ∧ IntsAre vs ns ∧ ns.length ≤ n := by
  have hsh : WShape.hasAll [] args [.list .int] = true := (pre_splitW hpre).1
  have hc : l.pre.holds [] { args := args } = true := (pre_splitW hpre).2
  obtain ⟨d, r, rfl, h1, h2⟩ := hasAllW_cons hsh
  obtain rfl := hasAllW_nil h2
  obtain ⟨xs, rfl, h3⟩ := hasW_list h1
  obtain ⟨ns, rfl⟩ := items_int h3
  have hlen : ns.length ≤ n := by
    unfold OpenLaw.pre at hc
    have h4 : (WTm.not (.lt (.lit (.int (n : Int))) (.len (.arg 0)))).holds [] { args := [.list (ns.map .int)] } = true := by
      have h4 := (holds_andW hc).1
      rw [hn] at h4
      exact h4
    have h5 := condW_of h4 (w_not (w_lt w_lit (w_len_list (w_arg rfl))))
    rw [List.length_map] at h5
    refine Nat.le_of_not_lt fun q => ?_
    have q' : (n : Int) < ((ns.length : Nat) : Int) := by omega
    first
      | (rw [decide_eq_true q'] at h5; exact absurd h5 (by decide))
      | (simp at h5; omega)
  cases hwl with
  | cons w1 w2 =>
    cases w2
    cases w1 with
    | list ho hall => exact ⟨_, _, ns, rfl, rfl, ho, ints_of_wellAll ns _ hall, hlen⟩

theorem post_true (l : OpenLaw) (args : List WData) : l.row.toRowW.claim.post args (.bool true) args = true :=
  postW_of (r := l.row.toRowW) (X := (true == true))
    (show WShape.has [] (.bool true) .bool = true by first | rfl | decide | simp [WShape.has, WShape.arms, WShape.armsAll])
    (show (WTm.eq .res (.lit (.bool true))).value [] { args := args, res := some (.bool true), after := args } = some (.bool (true == true)) from w_eq_bool (w_res rfl) w_lit) rfl

/-! ### the attachment: holds_open's last premise (the goal 'hc' behind k_head) from a wpAny of the law's body -/

/-- the same from a codeAny of the CALL (for a layer whose function contracts speak of calls) -/
theorem attach_call {l : OpenLaw} {n : Nat} {q : Program} {loose : List Str} {XP : (Str → Option Value) → Heap → Prop} {YP : World → Heap → Prop} {d : DefRec}
    (hn : l.most = some n) (hdf : d.params.defaults = [])
    (call : ∀ (w : World) (s₀ s₁ : Shared) (mg mb : Str → Option Value) (fa : Addr) (o : Obj) (pm cd doc : Value) (a : Addr) (vs : List Value) (ns : List Int),
      Ground q loose [] XP w s₀ mg mb s₁.heap → YP w s₁.heap →
      s₁.heap.get? fa = some o → o.data = .func (docDef d.name d.params d.body d.scope pm cd doc) → s₁.heap.CodeRec cd d.name → mg d.name = some (.ref fa) →
      s₁.heap.get? a = some { cls := .type "list", data := .seq vs.toArray } → IntsAre vs ns → ns.length ≤ n → s₁.gens = #[] →
      codeAny (model l.prog w) callerA (.call (.ref fa) ⟨[.ref a], []⟩) (fun r s' => r = .ok (.ret (.bool true)) ∧ OldK s₁.heap s'.heap ∧ s'.os = s₁.os ∧ AllBare s'.gens) s₁) :
    WalkO q loose XP YP l.row.toRowW d [] (fun f vs => PySem.call f vs) := by
  intro w s₀ s₁ mg mb G Y fa o pm cd doc dV kV ho hd hcd hD hmg hg args vals as hpre hlay hrd hwl hlo
  obtain rfl : dV = .none := Dflts.none hD hdf
  obtain rfl : kV = .none := Dflts.noKw hD
  obtain ⟨a, vs, ns, rfl, rfl, hobj, hints, hlen⟩ := script_of hn hpre hwl
  refine enter_call (codeAny_mono (call w s₀ s₁ mg mb fa o pm cd doc a vs ns G Y ho (fd_plain hd) hcd hmg hobj hints hlen hg) fun r s' hq => ?_)
  obtain ⟨rfl, h2, h3, h4⟩ := hq
  exact ⟨.inl ⟨.bool true, .bool true, [], rfl, fun _ => rfl, .bool true, post_true l _, fun _ => ⟨List.Pairwise.nil, fun _ hm => (nomatch hm)⟩⟩, h2, h3, h4⟩

/-! ### rules over ANY heap (no ledger) from facts about the written part K: the library's own take a ledger (News) for what they write -/
section
variable {prog : Program} {w : World} {A : Around} {E : Value → Shared → Prop} {s : Shared} {K : Frag}

/-! the whole heap as the ledger: makes every rule that writes through a ledger a rule over any heap -/

end
end Att

namespace L2
open PySem PySem.Spec PyProof.Rows

theorem vals_ints : ∀ {vs : List Value} {ns : List Int}, IntsAre vs ns → Vals (ns.map V.int) vs
  | _, _, .nil => .nil
  | _, _, .cons n t h => .cons ⟨t, rfl⟩ (vals_ints h)

/-- nothing is tracked but the script, known to the object (or it is an object of the module) -/
def Only (H : Hp) : Prop := ∀ b, H b = none ∨ ∃ o xs, H b = some (.frz o (.lst xs))

/-- THE HEAD: the law's promise, at the heap behind the top. F, the promise of the law's def, may use that base is part of the heap (so K.In base, base.Ns mainGlobals mg stand in Mod) -/
theorem law_call {P : Program} {w : World} {K : PySem.W.Frag} {mg mb : Str → Option Value} {CX : CXT} {k : Nat} {fa a : Addr} {fd : FuncData} {x : Str} {sp : Sp} {s₁ : Shared} {vs : List Value} {ns : List Int}
    (KX : K.In s₁.heap) (hns : s₁.heap.Ns mainGlobals mg) (hb : s₁.heap.Ns builtinsNs mb) (hbb : ∀ x : Str, x ≠ "__name__" → mb x = bootBuiltins x) (hlim : s₁.heap.NoLimit) (hg : s₁.gens = #[])
    (ha : s₁.heap.get? a = some { cls := .type "list", data := .seq vs.toArray }) (hi : IntsAre vs ns) (hl : ns.length ≤ sizeLine) (hr : Room k callerA)
    (F : ∀ base : Heap, K.In base → base.Ns mainGlobals mg → FnOk P w K mg base CX k fa fd [x] sp) (hbind : ∀ (s : Shared) (u : Value), BindsTo s fd ⟨[u], []⟩ [(x, u)])
    (hsp : ∀ H : Hp, Only H → SqL K H a (ns.map V.int) → sp [.ref a] H (fun v _ => v = .bl true) fun _ _ _ => False)
    (hCX : ∀ H e s', CX [] H s₁ (fun _ _ _ => False) e s' → False) :
    codeAny (model P w) callerA (.call (.ref fa) ⟨[.ref a], []⟩) (fun r s' => r = .ok (.ret (.bool true)) ∧ OldK s₁.heap s'.heap ∧ s'.os = s₁.os ∧ AllBare s'.gens) s₁ := by
  have rv := vals_ints hi
  have lenV := hi.length
  -- from an abstract heap in which nothing but the script may be tracked
  have core : ∀ H : Hp, Only H → SqL K H a (ns.map V.int) → HOk P w H s₁.heap → (∀ b, H b ≠ none → b = a) → (H a ≠ none → K.lookup a = none) →
      codeAny (model P w) callerA (.call (.ref fa) ⟨[.ref a], []⟩) (fun r s' => r = .ok (.ret (.bool true)) ∧ OldK s₁.heap s'.heap ∧ s'.os = s₁.os ∧ AllBare s'.gens) s₁ := by
    intro H hO hS hok hA hK
    have base_of : ∀ {b : Addr} {o : Obj}, s₁.heap.get? b = some o → H b = none → (hidT s₁.heap H).get? b = some o := fun e n => hidT_get e n
    have noA : ∀ {b : Addr} {o : Obj} {es : Array DictEntry} {ep : Nat}, s₁.heap.get? b = some o → o.data = .dict es ep → H b = none := fun {b o es ep} e d => by
      cases q : H b with
      | none => rfl
      | some u =>
        have e' : b = a := hA b (by rw [q]; simp)
        subst e'
        rw [ha] at e; cases e
        have d' : Data.seq vs.toArray _ = Data.dict es ep := d
        cases d'
    have nsK : ∀ {b : Addr} {m : Str → Option Value}, s₁.heap.Ns b m → (hidT s₁.heap H).Ns b m := fun {b m} ⟨o, es, ep, e, d, r⟩ => ⟨o, es, ep, base_of e (noA e d), d, r⟩
    have hKb : K.In (hidT s₁.heap H) := fun b o e => base_of (KX b o e) (by
      cases q : H b with
      | none => rfl
      | some u =>
        have e' : b = a := hA b (by rw [q]; simp)
        subst e'
        rw [hK (by rw [q]; simp)] at e; cases e)
    have hM : Mod K mg (hidT s₁.heap H) := ⟨hKb, nsK hns, ⟨mb, nsK hb, hbb⟩, let ⟨mc, h1, h2⟩ := hlim; ⟨mc, nsK h1, h2⟩⟩
    have e0 : Env0 P w K mg (hidT s₁.heap H) callerA [] s₁ H := ⟨rfl, hM, fun b o e => of_hidT e, Nat.le_of_eq (hidT_size _ _), trivial, fun b hb => absurd (show b ∈ ([] : List Addr) from hb) (by simp), hok, .of_eq hg⟩
    refine codeAny_mono ((F _ hKb (nsK hns)).run callerA [] s₁ H ⟨[.ref a], []⟩ [.ref a] [.ref a] _ _ hr e0 (hbind s₁ (.ref a)) (.cons rfl .nil) (hsp H hO hS)) fun r s' h => ?_
    cases r with
    | error e => exact (hCX H e s' h).elim
    | ok fl =>
      cases fl with
      | next => exact False.elim h
      | brk => exact False.elim h
      | cont => exact False.elim h
      | ret u =>
        obtain ⟨v, H', os, bare, un, hok', r', q⟩ := h
        have q' : v = .bl true := q
        subst q'
        obtain rfl : u = Value.bool true := r'
        refine ⟨rfl, OldK.of_keep fun b o e => ?_, os, bare⟩
        cases q : H b with
        | none => exact un.keep b o e q (by intro z; exact absurd (show b ∈ ([] : List Addr) from z) (by simp)) (by simp)
        | some u =>
          rcases hO b with z | ⟨ob, xs, z⟩
          · rw [q] at z; cases z
          · have z2 := un.frzs b ob _ z
            obtain ⟨e1, _⟩ := hok b _ z
            obtain ⟨e2, _⟩ := hok' b _ z2
            rw [e] at e1; cases e1
            exact e2
  cases hk : K.lookup a with
  | some o =>
    -- the script is one of the module's own objects
    have e := KX a o hk
    rw [ha] at e
    cases e
    refine core (fun _ => none) (fun _ => .inl rfl) (.inr ⟨_, vs.toArray, _, hk, rfl, rfl, rfl, by rw [List.size_toArray, lenV]; exact hl, by simpa using rv⟩) (fun b u z => by have z' : (none : Option HO) = some u := z; cases z') (fun b z => absurd rfl z) fun z => absurd rfl z
  | none =>
    refine core (fun b => if b = a then some (.frz { cls := .type "list", data := .seq vs.toArray } (.lst (ns.map V.int))) else none) (fun b => ?_) (.inl (.inr ⟨{ cls := .type "list", data := .seq vs.toArray }, if_pos rfl⟩)) (fun b u z => ?_) (fun b z => ?_) fun _ => hk
    · by_cases hb : b = a
      · exact .inr ⟨_, _, if_pos hb⟩
      · exact .inl (if_neg hb)
    · by_cases hb : b = a
      · have z' := (if_pos hb).symm.trans z
        cases z'
        subst hb
        exact ⟨ha, by rw [List.length_map]; exact hl, vs, _, rv, ha⟩
      · have z' := (if_neg hb).symm.trans z
        cases z'
    · by_cases hb : b = a
      · exact hb
      · exact absurd (if_neg hb) z
end L2

namespace L2
open PySem PySem.Spec PyProof.Rows

/-- the goal that k_head leaves (case hc), from the law's promise. F gives the function object fd (K's own) once, then the promise over every base -/
theorem walk_of {l : PySem.W.OpenLaw} {n k : Nat} {q : Program} {loose : List Str} {XP : (Str → Option Value) → Heap → Prop} {YP : World → Heap → Prop} {d : DefRec} {K : Params → PySem.W.Frag} {CX : World → CXT} {sp : World → Sp} {x : Str}
    (hn : l.most = some n) (hn2 : n ≤ sizeLine) (hdf : d.params.defaults = []) (hr : Room k callerA)
    (hY : ∀ (w : World) (h : Heap), YP w h → (K w.params).In h)
    (F : ∀ (w : World) (mg : Str → Option Value) (fa : Addr) (h : Heap), (K w.params).In h → h.Ns mainGlobals mg → mg d.name = some (.ref fa) →
      ∃ fd : FuncData, (∀ (s : Shared) (u : Value), BindsTo s fd ⟨[u], []⟩ [(x, u)]) ∧
        ∀ base : Heap, (K w.params).In base → base.Ns mainGlobals mg → FnOk l.prog w (K w.params) mg base (CX w) k fa fd [x] (sp w))
    (hsp : ∀ (w : World) (H : Hp) (a : Addr) (ns : List Int), ns.length ≤ n → Only H → SqL (K w.params) H a (ns.map V.int) → sp w [.ref a] H (fun v _ => v = .bl true) fun _ _ _ => False)
    (hCX : ∀ (w : World) (H : Hp) (s : Shared) (e : Value) (s' : Shared), CX w [] H s (fun _ _ _ => False) e s' → False) :
    PySem.W.WalkO q loose XP YP l.row.toRowW d [] (fun f vs => PySem.call f vs) := by
  refine Att.attach_call hn hdf fun w s₀ s₁ mg mb fa o pm cd doc a vs ns G Y ho hd hcd hmg hobj hints hlen hg => ?_
  have KX := hY w _ Y
  obtain ⟨fd, hb, hF⟩ := F w mg fa _ KX G.T.g hmg
  exact law_call KX G.T.g G.T.b G.T.builtins G.T.nolimit hg hobj hints (Nat.le_trans hlen hn2) hr hF hb (fun H hO hS => hsp w H a ns hlen hO hS) fun H e s' => hCX w H s₁ e s'
end L2

/- THE LAST THEOREM (shape; LID, My.* are yours):
   My.Adr: a structure of the addresses that your layer names (classes, functions); My.Txt K t: a structure (Prop) of the equations over K;
   My.txt_mk : {K} {implicit addresses ..} (e1 : nsIn K mainGlobals "law" = some (some (.ref f))) (e2 : K.lookup f = some ⟨oc, od, .func (fnOf "law" "law" params body scope dV kV doc pm an cdv ct), sl⟩) (e3 : codeIn K cdv "law" = true) .. : ∃ t, My.Txt K t

set_option maxRecDepth 100000 in
set_option maxHeartbeats 0 in
theorem PySem.Challenge.cw_LID_holds : PySem.Challenge.rw_LID.Holds := by
  w_on; o_law; k_head; (case hw => w_witness2)
  k_fill
  refine L2.walk_of (l := PySem.Challenge.rw_LID) (n := 63) (k := 40) (x := "script") (CX := fun w => ..) (sp := fun _ => My.sp_law) rfl (by decide) rfl ⟨rfl, by decide, by decide⟩ (fun w h Y => PySem.W.kIn_of Y) ?F ?S ?C
  case F =>
    intro w mg fa h KX G hmg
    have T : ∃ t, My.Txt (L2.KOf KX) t := by
      dsimp only [L2.KOf]                          -- K must stand as «<heap const> w.params» for k_is
      refine' My.txt_mk ?e1 ?e2 ?e3 ..
      (case e1 => PySem.W.k_is)                    -- in the order: a name -> its address -> its object -> its parts
      (case e2 => PySem.W.k_is)
      ..
    obtain ⟨t, T⟩ := T
    have e0 := hmg.symm.trans (PySem.W.mg_of KX G T.law)
    cases e0                                       -- fa is the law's own address
    exact ⟨_, fun s u => .of_eq rfl, fun base kb nb => My.law_fn T kb nb⟩     -- if «.of_eq rfl» comes too early: refine' ⟨_, ?b, fun base kb nb => My.law_fn T kb nb⟩; exact fun s u => .of_eq rfl
  case S => exact fun w H a ns hl hO hS => ..
  case C => exact ..
(the tactic k_is has no namespace: write k_is) -/

/-! SHORT WORDS over the layer: a def of the text, its body, what a loop and a test want. -/
namespace L2
open PySem PySem.Spec PyProof.Rows

/-! ### the text by places -/
/-- the j-th statement of a class's body -/
def inClass (s : Stmt) (j : Nat) : Stmt := match s with
  | .ClassDef _ _ _ body _ _ _ _ _ _ _ => body.getD j (.Pass ⟨0, 0, 0, 0⟩)
  | _ => .Pass ⟨0, 0, 0, 0⟩
def defArgs (s : Stmt) : Arguments := match s with
  | .FunctionDef _ a _ _ _ _ _ _ _ _ => a
  | _ => { posonlyargs := [], args := [], vararg := none, kwonlyargs := [], kw_defaults := [], kwarg := none, defaults := [] }
def defBody (s : Stmt) : List Stmt := match s with
  | .FunctionDef _ _ b _ _ _ _ _ _ _ => b
  | _ => []
def defScope (s : Stmt) : Scope := match s with
  | .FunctionDef _ _ _ _ _ _ sc _ _ _ => sc
  | _ => { kind := .function, names := [], isGenerator := false, isCoroutine := false }

/-! ### no exception leaves a def -/
abbrev CX0 : CXT := fun _ _ _ _ _ _ => False
abbrev E0 : XK := fun _ _ _ => False
theorem pass0 {X : Cx} : Passes CX0 X E0 := fun _ _ _ _ _ _ _ h => h.elim

/-! ### a def (or method) of the text as it stands behind the top -/
structure Fun (K : PySem.W.Frag) (x qual : Str) (st : Stmt) (f : Addr) (fd : FuncData) : Prop where
  ex : ∃ (oc : Value) (od : Option Addr) (kV doc pm : Value) (an : Option Addr) (cdv ct : Value) (osl : Array (Option Value)),
    fd = PySem.W.fnOf x qual (defArgs st) (defBody st) (defScope st) .none kV doc pm an cdv ct ∧ K.lookup f = some ⟨oc, od, .func fd, osl⟩ ∧ PySem.W.codeIn K cdv qual = true
  kp : PySem.W.keepIn K (.ref f) = true
section
variable {P : Program} {w : World} {K : PySem.W.Frag} {mg : Str → Option Value} {base : Heap}
/-- THE RULE for a def: its body as a term of rules, and the reading of that term -/
theorem Fun.ok {x qual : Str} {st : Stmt} {f : Addr} {fd : FuncData} {N ps : List Str} {k : Nat} {sp : Sp} (F : Fun K x qual st f fd) (S : FnScope N ps (defScope st)) (len : ∀ vs H Q E, sp vs H Q E → vs.length = ps.length)
    (hbody : ∀ (cdv : Value) (A : Around) (outer : List Env) (s : Shared) (H : Hp) (vs : List V) (Q : VK) (E : XK), Room k (A.deeper (envOfC qual (defScope st) s.heap.objs.size f cdv)) → sp vs H Q E →
      ∃ t, PSs (cxOf CX0 P w K mg base N qual (defScope st) f cdv A outer s H E).nox (defBody st) t ∧ t { nx := fun _ H' => Q .non H', rt := Q } (start N vs) H) : FnOk P w K mg base CX0 (k + 1) f fd ps sp := by
  obtain ⟨oc, od, kV, doc, pm, an, cdv, ct, osl, rfl, lk, hcd⟩ := F.ex
  refine fn_of lk hcd S len fun A outer s H vs Q E hr hsp => ?_
  obtain ⟨t, h, q⟩ := hbody cdv A outer s H vs Q E hr hsp
  exact ⟨t, h.nox, q⟩
/-- how its arguments bind (no defaults): h is «fun _ _ _ _ _ _ us hl => match us, hl with | [_, _], _ => rfl», one _ a parameter -/
theorem Fun.binds {x qual : Str} {st : Stmt} {f : Addr} {fd : FuncData} {ps : List Str} (F : Fun K x qual st f fd)
    (h : ∀ (kV doc pm : Value) (an : Option Addr) (cdv ct : Value) (us : List Value), us.length = ps.length → bindArgs (PySem.W.fnOf x qual (defArgs st) (defBody st) (defScope st) .none kV doc pm an cdv ct) ⟨us, []⟩ = pure (ps.zip us)) : Binds K fd ps [] := by
  obtain ⟨oc, od, kV, doc, pm, an, cdv, ct, osl, rfl, lk, hcd⟩ := F.ex
  exact .all (h kV doc pm an cdv ct)
theorem fun_mk {x qual : Str} {st : Stmt} {f : Addr} {oc : Value} {od an : Option Addr} {osl : Array (Option Value)} {kV doc pm cdv ct : Value} (l : K.lookup f = some ⟨oc, od, .func (PySem.W.fnOf x qual (defArgs st) (defBody st) (defScope st) .none kV doc pm an cdv ct), osl⟩)
    (c : PySem.W.codeIn K cdv qual = true) (k : PySem.W.keepIn K (.ref f) = true) : Fun K x qual st f (PySem.W.fnOf x qual (defArgs st) (defBody st) (defScope st) .none kV doc pm an cdv ct) := ⟨⟨oc, od, kV, doc, pm, an, cdv, ct, osl, rfl, l, c⟩, k⟩
end
theorem hu_of {A : Around} {k : Nat} (hr : Room k A) : A.units + 1 < cLine := Nat.lt_of_le_of_lt (Nat.add_le_add_left (by decide : 1 ≤ 64) _) hr.units

/-! ### expressions in short: the name that stands in the i-th slot -/
section
variable {X : Cx}
theorem pv (i : Nat) {x : Str} {pos : Pos} (hN : X.N[i]? = some x := by rfl) (hv : Vis X.env.scope x := by first | exact Or.inl rfl | exact Or.inr (Or.inl rfl) | exact Or.inr (Or.inr rfl)) (hd : (x == ("__debug__" : Str)) = false := by decide)
    (hcd : (x == ("__classdict__" : Str)) = false := by decide) : PE X (.Name x pos) (tVar i) := pe_var hN hv hd hcd
end

/-! ### tests -/
theorem iteF {A B : Prop} (h : B) : if false = true then A else B := by
  rw [if_neg Bool.false_ne_true]
  exact h
theorem iteT {A B : Prop} (h : A) : if true = true then A else B := by
  rw [if_pos rfl]
  exact h
theorem ite2 {c A B : Prop} [Decidable c] (h1 : c → A) (h2 : ¬ c → B) : if c then A else B := by
  by_cases h : c
  · rw [if_pos h]
    exact h1 h
  · rw [if_neg h]
    exact h2 h
theorem iteNS {c A B : Prop} [Decidable c] (hc : c) (h : B) : if (!decide c) = true then A else B := by
  rw [decide_eq_true hc]
  exact iteF h

/-! ### heaps -/
/-- all that was tracked is as it was -/
def Same (H H' : Hp) : Prop := ∀ b o, H b = some o → H' b = some o
theorem Same.trans {H H1 H2 : Hp} (a : Same H H1) (b : Same H1 H2) : Same H H2 := fun c o h => b c o (a c o h)
theorem Same.free {H H' : Hp} (e : Same H H') {l : Addr} (h : H' l = Option.none) : H l = Option.none := by
  cases q : H l with
  | none => rfl
  | some o =>
    rw [e l o q] at h
    cases h
theorem Same.seq {K : PySem.W.Frag} {H H' : Hp} {a : Addr} {xs : List V} (e : Same H H') (h : SqL K H a xs) : SqL K H' a xs := by
  rcases h with (h | ⟨o, h⟩) | h
  · exact .inl (.inl (e _ _ h))
  · exact .inl (.inr ⟨o, e _ _ h⟩)
  · exact .inr h

/-! ### a dict's pairs: keys that differ -/
section
variable {κ : Type} [DecidableEq κ]
end
end L2

set_option Elab.async false
set_option maxRecDepth 100000
namespace SW
open PySem PySem.Spec PyProof.Rows

/-- a piece -/
inductive T where
  | num (n : Int) | name (w : Str)
  | sum (a b : T) | less (a b : T) | cho (a b c : T) | lt (w : Str) (a b : T)
  | st0 (w : Str) | st1 (w : Str) (a : T) | st2 (w : Str) (a b : T)

def T.size : T → Nat
  | .num _ => 1
  | .name _ => 1
  | .sum a b => a.size + b.size + 1
  | .less a b => a.size + b.size + 1
  | .cho a b c => a.size + b.size + c.size + 1
  | .lt _ a b => a.size + b.size + 1
  | .st0 _ => 1
  | .st1 _ a => a.size + 1
  | .st2 _ a b => a.size + b.size + 1
theorem T.size_pos (t : T) : 0 < t.size := by cases t <;> simp [T.size]

def T.kids : T → List T
  | .num _ => []
  | .name _ => []
  | .sum a b => [a, b]
  | .less a b => [a, b]
  | .cho a b c => [a, b, c]
  | .lt _ a b => [a, b]
  | .st0 _ => []
  | .st1 _ a => [a]
  | .st2 _ a b => [a, b]

def sizes (ts : List T) : Nat := (ts.map T.size).sum
theorem sizes_nil : sizes [] = 0 := rfl
theorem sizes_cons (t : T) (ts : List T) : sizes (t :: ts) = t.size + sizes ts := by simp [sizes]
theorem sizes_append (a b : List T) : sizes (a ++ b) = sizes a + sizes b := by simp [sizes]
theorem sizes_kids (t : T) : sizes t.kids + 1 = t.size := by cases t <;> simp [T.kids, T.size, sizes] <;> omega
theorem length_le_sizes : ∀ ts : List T, ts.length ≤ sizes ts
  | [] => Nat.le_refl _
  | t :: ts => by
    have h := length_le_sizes ts
    have h2 := t.size_pos
    rw [sizes_cons, List.length_cons]; omega

/-- the words of all names, as often as they are -/
def T.names : T → List Str
  | .num _ => []
  | .name v => [v]
  | .sum a b => a.names ++ b.names
  | .less a b => a.names ++ b.names
  | .cho a b c => a.names ++ b.names ++ c.names
  | .lt _ a b => a.names ++ b.names
  | .st0 _ => []
  | .st1 _ a => a.names
  | .st2 _ a b => a.names ++ b.names
theorem T.names_len : ∀ t : T, t.names.length ≤ t.size
  | .num _ => by simp [names]
  | .name _ => by simp [names, size]
  | .sum a b => by have := names_len a; have := names_len b; simp [names, size]; omega
  | .less a b => by have := names_len a; have := names_len b; simp [names, size]; omega
  | .cho a b c => by have := names_len a; have := names_len b; have := names_len c; simp [names, size]; omega
  | .lt _ a b => by have := names_len a; have := names_len b; simp [names, size]; omega
  | .st0 _ => by simp [names]
  | .st1 _ a => by have := names_len a; simp [names, size]; omega
  | .st2 _ a b => by have := names_len a; have := names_len b; simp [names, size]; omega
def namesAll (ts : List T) : Nat := (ts.map fun t => t.names.length).sum

/-! ### sorted lists of texts -/
end SW

set_option Elab.async false
set_option maxRecDepth 100000
set_option maxHeartbeats 4000000
namespace L2
open PySem PySem.Spec PyProof.Rows

theorem bo_len : bootBuiltins "len" = some (.builtin "len") := by decide +kernel
theorem bo_int : bootBuiltins "int" = some (.type "int") := by decide +kernel
theorem bo_str : bootBuiltins "str" = some (.type "str") := by decide +kernel
theorem bo_bool : bootBuiltins "bool" = some (.type "bool") := by decide +kernel
theorem bo_list : bootBuiltins "list" = some (.type "list") := by decide +kernel
theorem bo_tuple : bootBuiltins "tuple" = some (.type "tuple") := by decide +kernel
theorem bo_isinstance : bootBuiltins "isinstance" = some (.builtin "isinstance") := by decide +kernel
theorem bo_min : bootBuiltins "min" = some (.builtin "min") := by decide +kernel
theorem bo_abs : bootBuiltins "abs" = some (.builtin "abs") := by decide +kernel
theorem isL_of {h : Heap} {a : Addr} {its : Array Value} (p : PlainL h a its) : h.IsList a its := by
  obtain ⟨o, n, e, c, _, d⟩ := p
  exact ⟨o, e, c, n, d⟩
theorem isT_of {h : Heap} {a : Addr} {its : Array Value} (p : IsTup h a its) : h.IsTuple a its := p
section
variable {X : Cx}
/-- xs != [] -/
def rNeNil (K : PySem.W.Frag) : R2 := fun x y H Q => ∃ a b xs, x = .ref a ∧ y = .ref b ∧ SqL K H a xs ∧ SqL K H b [] ∧ Q (.bl (!xs.isEmpty)) H
theorem op_neNil (hu : X.A.units < cLine) : OpR X (compareOp .NotEq) (rNeNil X.K) := by
  intro pins s σ H x y v u Q I rx ry h
  obtain ⟨a, b, xs, rfl, rfl, ha, hb, q⟩ := h
  cases rx
  cases ry
  obtain ⟨its, r1, p1, _⟩ := I.list ha
  obtain ⟨its2, r2, p2, _⟩ := I.list hb
  cases r2
  cases r1 with
  | nil => exact SeqAt.RcNeAt.lists (e := fun _ => true) (isL_of p1) (isL_of p2) rfl hu (fun j h1 _ => absurd h1 (Nat.not_lt_zero _)) _ _ _ _ ⟨.bl false, H, I, rfl, q⟩
  | cons _ _ => exact SeqAt.RcNeAt.lists_lengths (isL_of p1) (isL_of p2) rfl hu _ _ _ _ ⟨.bl true, H, I, rfl, q⟩
/-- texts -/
theorem strs_of : ∀ {ws : List Str} {us : List Value}, Vals (ws.map V.str) us → StrsAre us ws
  | [], _, r => by rw [List.map_nil] at r; cases r; exact .nil
  | w :: ws, _, r => by
    rw [List.map_cons] at r
    cases r with
    | cons h t => obtain ⟨t', rfl⟩ := h; exact .cons w t' (strs_of t)

/-- isinstance(x, T), T a built-in type -/
theorem call_isi : CallR X (.builtin "isinstance") (fun xs H Q => ∃ x t c b, xs = [x, .ty c] ∧ TyOf X.K H x t ∧ PySem.W.kitOne X.K t (.type c) = some b ∧ Q (.bl b) H) := by
  intro pins s σ H xs us Q I r h
  obtain ⟨x, t, c, b, rfl, ty, e, q⟩ := h
  obtain ⟨u, w', rfl, ru, rw'⟩ := vals2 r
  cases rw'
  exact isinst_ok I ru ty e fun tk => ⟨.bl b, H, I.tok tk, rfl, q⟩
end
end L2

set_option Elab.async false
set_option maxRecDepth 100000
set_option maxHeartbeats 4000000
namespace L2
open PySem PySem.Spec PyProof.Rows
section
variable {X : Cx} {pins : List (Addr × Obj)} {σ : St} {H : Hp} {s : Shared} {scope : Scope} {cl : List (Str × Addr)} {x : Str} {ys : List Str} {js : List Nat} {fp : List Addr} {C D : Addr} {h' : Heap}
end
end L2

set_option Elab.async false
set_option maxRecDepth 100000
set_option maxHeartbeats 4000000
namespace L2
open PySem PySem.Spec PyProof.Rows
section
variable {X : Cx}

end
section
variable {prog : Program} {w : World} {A : Around} {E : Value → Shared → Prop} {s : Shared} {κ : Type} [DecidableEq κ] {knd : KeyKind prog w κ} {d : Addr} {kvs : List (κ × Value)} {ep : Nat}
end
section
variable {X : Cx}
end
end L2

set_option Elab.async false
set_option linter.all false
set_option maxRecDepth 100000
set_option maxHeartbeats 4000000
namespace SW
open PySem L2
/-! ### heaps -/
def TupLe (H H' : Hp) : Prop := ∀ b xs, H b = some (.tup xs) → H' b = some (.tup xs)
theorem TupLe.refl {H : Hp} : TupLe H H := fun _ _ h => h
theorem TupLe.trans {H H1 H2 : Hp} (a : TupLe H H1) (b : TupLe H1 H2) : TupLe H H2 := fun c xs h => b c xs (a c xs h)
theorem tl_same {H H' : Hp} (s : Same H H') : TupLe H H' := fun b _ h => s b _ h
theorem tl_new {H : Hp} {p : Addr} {o : HO} (h : H p = none) : TupLe H (upd H p o) := fun b xs e => by rw [upd_ne (ne_of_none e h)]; exact e
theorem tl_lst {H : Hp} {l : Addr} {ys : List V} {o : HO} (h : H l = some (.lst ys)) : TupLe H (upd H l o) := fun b xs e => by rw [upd_ne (ne_of e h (by intro z; cases z))]; exact e
theorem same_new {H : Hp} {p : Addr} {o : HO} (h : H p = none) : Same H (upd H p o) := fun b u e => by rw [upd_ne (ne_of_none e h)]; exact e
theorem same_old {H₀ H : Hp} {l : Addr} {o : HO} (s : Same H₀ H) (h : H₀ l = none) : Same H₀ (upd H l o) := fun b u e => by rw [upd_ne (ne_of_none e h)]; exact s b u e
/-! ### pieces in the heap -/
def kind : T → Str
  | .num _ => "number"
  | .name _ => "name"
  | .sum _ _ => "sum"
  | .less _ _ => "less"
  | .cho _ _ _ => "choose"
  | .lt _ _ _ => "let"
  | .st0 _ => "stamp"
  | .st1 _ _ => "stamp"
  | .st2 _ _ _ => "stamp"
def Den (H : Hp) : T → V → Prop
  | .num n, v => ∃ p, v = .ref p ∧ H p = some (.tup [.str "number", .int n])
  | .name w, v => ∃ p, v = .ref p ∧ H p = some (.tup [.str "name", .str w])
  | .sum a b, v => ∃ p x y, v = .ref p ∧ H p = some (.tup [.str "sum", x, y]) ∧ Den H a x ∧ Den H b y
  | .less a b, v => ∃ p x y, v = .ref p ∧ H p = some (.tup [.str "less", x, y]) ∧ Den H a x ∧ Den H b y
  | .cho a b c, v => ∃ p x y z, v = .ref p ∧ H p = some (.tup [.str "choose", x, y, z]) ∧ Den H a x ∧ Den H b y ∧ Den H c z
  | .lt w a b, v => ∃ p x y, v = .ref p ∧ H p = some (.tup [.str "let", .str w, x, y]) ∧ Den H a x ∧ Den H b y
  | .st0 w, v => ∃ p, v = .ref p ∧ H p = some (.tup [.str "stamp", .str w])
  | .st1 w a, v => ∃ p x, v = .ref p ∧ H p = some (.tup [.str "stamp", .str w, x]) ∧ Den H a x
  | .st2 w a b, v => ∃ p x y, v = .ref p ∧ H p = some (.tup [.str "stamp", .str w, x, y]) ∧ Den H a x ∧ Den H b y
theorem Den.mono {H H' : Hp} (k : TupLe H H') : ∀ {t : T} {v : V}, Den H t v → Den H' t v
  | .num _, _, ⟨p, e, h⟩ => ⟨p, e, k _ _ h⟩
  | .name _, _, ⟨p, e, h⟩ => ⟨p, e, k _ _ h⟩
  | .sum _ _, _, ⟨p, x, y, e, h, a, b⟩ => ⟨p, x, y, e, k _ _ h, Den.mono k a, Den.mono k b⟩
  | .less _ _, _, ⟨p, x, y, e, h, a, b⟩ => ⟨p, x, y, e, k _ _ h, Den.mono k a, Den.mono k b⟩
  | .cho _ _ _, _, ⟨p, x, y, z, e, h, a, b, c⟩ => ⟨p, x, y, z, e, k _ _ h, Den.mono k a, Den.mono k b, Den.mono k c⟩
  | .lt _ _ _, _, ⟨p, x, y, e, h, a, b⟩ => ⟨p, x, y, e, k _ _ h, Den.mono k a, Den.mono k b⟩
  | .st0 _, _, ⟨p, e, h⟩ => ⟨p, e, k _ _ h⟩
  | .st1 _ _, _, ⟨p, x, e, h, a⟩ => ⟨p, x, e, k _ _ h, Den.mono k a⟩
  | .st2 _ _ _, _, ⟨p, x, y, e, h, a, b⟩ => ⟨p, x, y, e, k _ _ h, Den.mono k a, Den.mono k b⟩
/-- several -/
inductive DenL (H : Hp) : List T → List V → Prop where
  | nil : DenL H [] []
  | cons {t : T} {v : V} {ts : List T} {vs : List V} : Den H t v → DenL H ts vs → DenL H (t :: ts) (v :: vs)
theorem DenL.mono {H H' : Hp} (k : TupLe H H') : ∀ {ts : List T} {vs : List V}, DenL H ts vs → DenL H' ts vs
  | _, _, .nil => .nil
  | _, _, .cons a r => .cons (a.mono k) (DenL.mono k r)
theorem DenL.length {H : Hp} : ∀ {ts : List T} {vs : List V}, DenL H ts vs → vs.length = ts.length
  | _, _, .nil => rfl
  | _, _, .cons _ r => by rw [List.length_cons, List.length_cons, DenL.length r]
theorem DenL.append {H : Hp} : ∀ {ts us : List T} {vs ws : List V}, DenL H ts vs → DenL H us ws → DenL H (ts ++ us) (vs ++ ws)
  | _, _, _, _, .nil, q => q
  | _, _, _, _, .cons a r, q => .cons a (DenL.append r q)
/-- the last ones -/
theorem DenL.snoc {H : Hp} : ∀ {ts : List T} {vs : List V} {v : V}, DenL H ts (vs ++ [v]) → ∃ us t, ts = us ++ [t] ∧ DenL H us vs ∧ Den H t v
  | _, [], v, .cons a .nil => ⟨[], _, rfl, .nil, a⟩
  | _, x :: vs, v, .cons a r => by
    obtain ⟨us, t, rfl, h1, h2⟩ := DenL.snoc (vs := vs) r
    exact ⟨_ :: us, t, rfl, .cons a h1, h2⟩
/-- what stands ahead of the pieces in it -/
def hd : T → List V
  | .num n => [.str "number", .int n]
  | .name w => [.str "name", .str w]
  | .sum _ _ => [.str "sum"]
  | .less _ _ => [.str "less"]
  | .cho _ _ _ => [.str "choose"]
  | .lt w _ _ => [.str "let", .str w]
  | .st0 w => [.str "stamp", .str w]
  | .st1 w _ => [.str "stamp", .str w]
  | .st2 w _ _ => [.str "stamp", .str w]
theorem Den.open {H : Hp} {t : T} {v : V} (h : Den H t v) : ∃ p us, v = .ref p ∧ H p = some (.tup (hd t ++ us)) ∧ DenL H t.kids us := by
  cases t with
  | num n => obtain ⟨p, e, h⟩ := h; exact ⟨p, [], e, h, .nil⟩
  | name n => obtain ⟨p, e, h⟩ := h; exact ⟨p, [], e, h, .nil⟩
  | sum a b => obtain ⟨p, x, y, e, h, d1, d2⟩ := h; exact ⟨p, [x, y], e, h, .cons d1 (.cons d2 .nil)⟩
  | less a b => obtain ⟨p, x, y, e, h, d1, d2⟩ := h; exact ⟨p, [x, y], e, h, .cons d1 (.cons d2 .nil)⟩
  | cho a b c => obtain ⟨p, x, y, z, e, h, d1, d2, d3⟩ := h; exact ⟨p, [x, y, z], e, h, .cons d1 (.cons d2 (.cons d3 .nil))⟩
  | lt w a b => obtain ⟨p, x, y, e, h, d1, d2⟩ := h; exact ⟨p, [x, y], e, h, .cons d1 (.cons d2 .nil)⟩
  | st0 w => obtain ⟨p, e, h⟩ := h; exact ⟨p, [], e, h, .nil⟩
  | st1 w a => obtain ⟨p, x, e, h, d1⟩ := h; exact ⟨p, [x], e, h, .cons d1 .nil⟩
  | st2 w a b => obtain ⟨p, x, y, e, h, d1, d2⟩ := h; exact ⟨p, [x, y], e, h, .cons d1 (.cons d2 .nil)⟩
/-! ### small words -/
theorem szl {n : Nat} (h : Nat.ble n 1000 = true := by rfl) : n ≤ sizeLine := Nat.le_trans (Nat.le_of_ble_eq_true h) (by decide)
theorem iteY {c : Bool} {A B : Prop} (h : c = true) (k : A) : if c = true then A else B := by rw [if_pos h]; exact k
theorem iteN {c : Bool} {A B : Prop} (h : c = false) (k : B) : if c = true then A else B := by rw [h]; exact iteF k
end SW
namespace SW
open PySem L2
theorem atI_mem {xs : List V} {i : Int} (h0 : 0 ≤ i) (h1 : i < xs.length) : ∃ v, v ∈ xs ∧ atI xs i = some v := by
  obtain ⟨n, rfl⟩ := Int.eq_ofNat_of_zero_le h0
  have hn : n < xs.length := by omega
  exact ⟨xs[n], List.getElem_mem hn, atI_nat (by simp [hn])⟩
/-- a number, any -/
def spAny : Sp := fun vs H Q _ => ∃ c : Int, vs = [.int c] ∧ ∀ (n : Int) (H' : Hp), -(10 ^ 59) < n ∧ n < 10 ^ 59 → Same H H' → Q (.int n) H'
/-- a word -/
structure Wd (x : Str) : Prop where
  one : 1 ≤ x.length
  few : x.length ≤ 200
  abc : ∀ c ∈ x.cps.toList, 97 ≤ c ∧ c ≤ 122
def spWord : Sp := fun vs H Q _ => ∃ c : Int, vs = [.int c] ∧ ∀ x : Str, Wd x ∧ x.length ≤ 132 → Q (.str x) H
/-- while the word is made -/
structure WordTo (l : Int) (x : Str) : Prop where
  one : l < 0 → 1 ≤ x.length
  few : x.length ≤ 132
  sm : 0 ≤ l → ∃ m : Nat, l < 2 ^ m ∧ x.length + m ≤ 131
  abc : ∀ c ∈ x.cps.toList, 97 ≤ c ∧ c ≤ 122
theorem len_empty : (("" : Str)).length = 0 := by decide +kernel
theorem wordTo_start (c : Int) : WordTo (c % 10 ^ (39 : Int).toNat) "" := by
  have e : (10 : Int) ^ (39 : Int).toNat = 1000000000000000000000000000000000000000 := by decide
  rw [e]
  refine ⟨fun h => ?_, by rw [len_empty]; omega, fun _ => ⟨130, ?_, by rw [len_empty]; omega⟩, ?_⟩
  · omega
  · have e2 : (2 : Int) ^ 130 = 1361129467683753853853498429727072845824 := by decide
    rw [e2]; omega
  · have e3 : (("" : Str)).cps.toList = [] := by decide +kernel
    rw [e3]; intro c hc; cases hc
theorem wordTo_small {l : Int} {x : Str} {c : Nat} (h : WordTo l x) : (⟨#[c]⟩ : Str).length + x.length ≤ sizeLine := by
  have e : (⟨#[c]⟩ : Str).length = 1 := rfl
  have := h.few
  rw [e, sizeLine_eq]; omega
theorem wordTo_step {l : Int} {x : Str} {c : Nat} (h : WordTo l x) (hl : 0 ≤ l) (hc : 97 ≤ c ∧ c ≤ 122) : WordTo (l / 26 - 1) (⟨#[c]⟩ ++ x) := by
  have el : ((⟨#[c]⟩ : Str) ++ x).length = x.length + 1 := by
    show (#[c] ++ x.cps).size = x.cps.size + 1
    simp [Nat.add_comm]
  obtain ⟨m, h1, h2⟩ := h.sm hl
  refine ⟨fun _ => by rw [el]; omega, by rw [el]; omega, fun h0 => ?_, ?_⟩
  · cases m with
    | zero => simp at h1; omega
    | succ m =>
      refine ⟨m, ?_, by rw [el]; omega⟩
      have e : (2 : Int) ^ (m + 1) = 2 ^ m * 2 := Int.pow_succ ..
      rw [e] at h1
      generalize (2 : Int) ^ m = z at *
      omega
  · intro d hd
    have hd : d ∈ (#[c] ++ x.cps).toList := hd
    rw [Array.toList_append] at hd
    rcases List.mem_append.mp hd with q | q
    · have : d = c := by simpa using q
      rw [this]; exact hc
    · exact h.abc d q
theorem wordTo_end {l : Int} {x : Str} (h : WordTo l x) (hl : ¬ 0 ≤ l) : Wd x ∧ x.length ≤ 132 := ⟨⟨h.one (by omega), by have := h.few; omega, h.abc⟩, h.few⟩
theorem letters : (("abcdefghijklmnopqrstuvwxyz" : Str)).cps.toList = (List.range 26).map (· + 97) := by decide +kernel
theorem letter_at (l : Int) : ∃ c : Nat, (97 ≤ c ∧ c ≤ 122) ∧ atI (("abcdefghijklmnopqrstuvwxyz" : Str)).cps.toList (l % 26) = some c := by
  have h : 0 ≤ l % 26 ∧ l % 26 < 26 := by omega
  obtain ⟨n, e⟩ := Int.eq_ofNat_of_zero_le h.1
  rw [e] at h ⊢
  have hn : n < 26 := by omega
  refine ⟨n + 97, by omega, atI_nat ?_⟩
  rw [letters, List.getElem?_map, List.getElem?_range hn]
  rfl
end SW
namespace SW
open PySem L2
theorem cut_not {n : Nat} (k : Nat) (h : 0 < k) (h2 : k ≤ n) : ¬ (HT.sIx n 0 (some (k : Int)) = 0 ∧ HT.sIx n n none = n) := by
  rintro ⟨z, _⟩
  rw [HT.sIx_nat, Nat.min_eq_left h2] at z
  omega
def spInside : Sp := fun vs H Q _ => ∃ t v, vs = [v] ∧ Den H t v ∧ ∀ l us H', Same H H' → H l = none → H' l = some (.lst us) → DenL H' t.kids us → Q (.ref l) H'
end SW

namespace SW
open PySem L2
/-- words, numbers and stamps as they are handed in; S: the stamps there are, with how many places -/
def WT (S : Str → Nat → Prop) : T → Prop
  | .num n => -(10 ^ 60) < n ∧ n < 10 ^ 60
  | .name w => Wd w
  | .sum a b => WT S a ∧ WT S b
  | .less a b => WT S a ∧ WT S b
  | .cho a b c => WT S a ∧ WT S b ∧ WT S c
  | .lt w a b => Wd w ∧ WT S a ∧ WT S b
  | .st0 w => S w 0
  | .st1 w a => S w 1 ∧ WT S a
  | .st2 w a b => S w 2 ∧ WT S a ∧ WT S b
/-- the pile while a piece is drawn: the list at l, new since H₀ -/
structure Pile (S : Str → Nat → Prop) (H₀ H : Hp) (n : Nat) (l : Addr) (vs : List V) (ts : List T) : Prop where
  same : Same H₀ H
  new : H₀ l = none
  at_ : H l = some (.lst vs)
  den : DenL H ts vs
  sz : sizes ts ≤ n
  one : ts ≠ []
  wt : ∀ t ∈ ts, WT S t
theorem wd_sab : Wd "sab" := ⟨by decide +kernel, by decide +kernel, by decide +kernel⟩
theorem wd_tab : Wd "tab" := ⟨by decide +kernel, by decide +kernel, by decide +kernel⟩
theorem wd_sob : Wd "sob" := ⟨by decide +kernel, by decide +kernel, by decide +kernel⟩
theorem wd_sat : Wd "sat" := ⟨by decide +kernel, by decide +kernel, by decide +kernel⟩
theorem wd_menu {v : V} (h : v ∈ [V.str "sab", V.str "tab", V.str "sob", V.str "sat"]) : ∃ x, v = .str x ∧ Wd x := by
  rcases List.mem_cons.mp h with rfl | h
  · exact ⟨_, rfl, wd_sab⟩
  rcases List.mem_cons.mp h with rfl | h
  · exact ⟨_, rfl, wd_tab⟩
  rcases List.mem_cons.mp h with rfl | h
  · exact ⟨_, rfl, wd_sob⟩
  rcases List.mem_cons.mp h with rfl | h
  · exact ⟨_, rfl, wd_sat⟩
  · cases h
theorem wd_k {x : Str} (h : Wd x) (hl : x.length ≤ 132) : Wd (x ++ ("k" : Str)) := by
  have e : (("k" : Str)).cps = #[107] := by decide +kernel
  have el : (x ++ ("k" : Str)).length = x.length + 1 := by
    show (x.cps ++ (("k" : Str)).cps).size = _
    rw [e]; simp [Str.length]
  refine ⟨by rw [el]; omega, by rw [el]; omega, fun c hc => ?_⟩
  have hc : c ∈ (x.cps ++ (("k" : Str)).cps).toList := hc
  rw [e, Array.toList_append] at hc
  rcases List.mem_append.mp hc with q | q
  · exact h.abc c q
  · have : c = 107 := by simpa using q
    omega
/-- the stamps that may be drawn -/
def StampsAt (S : Str → Nat → Prop) (H : Hp) (xs : List V) : Prop := ∀ x ∈ xs, ∃ (q : Addr) (nm : Str) (m : Nat), x = .ref q ∧ H q = some (.tup [.str nm, .int m]) ∧ m ≤ 2 ∧ S nm m
def spDrawn (K : PySem.W.Frag) (S : Str → Nat → Prop) : Sp := fun vs H Q _ => ∃ (c st : Addr) (ns : List Int) (xs : List V), vs = [.ref c, .ref st] ∧ SqL K H c (ns.map V.int) ∧ ns.length ≤ 100 ∧ H st = some (.lst xs) ∧ xs.length ≤ 1000 ∧ StampsAt S H xs ∧
  ∀ (t : T) (v : V) (H' : Hp), Same H H' → Den H' t v → WT S t → t.size ≤ 2 * ns.length + 2 → t.names.length ≤ ns.length + 1 → Q v H'
end SW

set_option Elab.async false
set_option linter.all false
set_option maxRecDepth 100000
set_option maxHeartbeats 4000000
namespace SW
open PySem L2
abbrev rAddI : R2 := rI0 fun i j => .int (i + j)
abbrev rSubI : R2 := rI0 fun i j => .int (i - j)
abbrev rMulI : R2 := rI CMul fun i j => .int (i * j)
abbrev rDivI : R2 := rI CDiv fun i j => .int (i / j)
abbrev rModI : R2 := rI (fun _ j => 0 < j) fun i j => .int (i % j)
abbrev rPowI : R2 := rI CPow fun i j => .int (i ^ j.toNat)
abbrev rNegI : V → Hp → VK → Prop := rU fun i => .int (-i)
abbrev rLtI : R2 := rI0 fun i j => .bl (decide (i < j))
abbrev rGtI : R2 := rI0 fun i j => .bl (decide (j < i))
abbrev rGeI : R2 := rI0 fun i j => .bl (decide (j ≤ i))
abbrev rAddS : R2 := fun x y H Q => ∃ i j, x = .str i ∧ y = .str j ∧ i.length + j.length ≤ sizeLine ∧ Q (.str (i ++ j)) H
abbrev cLen (K : PySem.W.Frag) : List V → Hp → VK → Prop := fun xs H Q => ∃ p ys, xs = [.ref p] ∧ (SqL K H p ys ∨ SqT K H p ys) ∧ Q (.int ys.length) H
abbrev cLenS : List V → Hp → VK → Prop := fun xs H Q => ∃ z, xs = [.str z] ∧ z.length ≤ sizeLine ∧ Q (.int z.length) H
abbrev cInt : List V → Hp → VK → Prop := fun xs H Q => (∃ i, xs = [.int i] ∧ Q (.int i) H) ∨ ∃ k, xs = [.bl k] ∧ Q (.int (if k then 1 else 0)) H
abbrev cAbs : List V → Hp → VK → Prop := fun xs H Q => ∃ i, xs = [.int i] ∧ Q (.int (if i < 0 then -i else i)) H
abbrev cMin : List V → Hp → VK → Prop := fun xs H Q => ∃ i j, xs = [.int i, .int j] ∧ Q (.int (if j < i then j else i)) H
abbrev cListOf (K : PySem.W.Frag) : List V → Hp → VK → Prop := fun xs H Q => ∃ p ys, xs = [.ref p] ∧ (SqL K H p ys ∨ SqT K H p ys) ∧ ∀ l, H l = none → Q (.ref l) (upd H l (.lst ys))
abbrev cTupleOf (K : PySem.W.Frag) : List V → Hp → VK → Prop := fun xs H Q => ∃ p ys, xs = [.ref p] ∧ ((SqL K H p ys ∧ ∀ l, H l = none → Q (.ref l) (upd H l (.tup ys))) ∨ (SqT K H p ys ∧ Q (.ref p) H))
abbrev cIsi (K : PySem.W.Frag) : List V → Hp → VK → Prop := fun xs H Q => ∃ x t c b, xs = [x, .ty c] ∧ TyOf K H x t ∧ PySem.W.kitOne K t (.type c) = some b ∧ Q (.bl b) H
end SW

set_option Elab.async false
set_option linter.all false
set_option maxRecDepth 100000
set_option maxHeartbeats 4000000
namespace SW
open PySem L2
def SMain : Str → Nat → Prop := fun x n => (x = "st" ∧ n = 2) ∨ (x = "sta" ∧ n = 1) ∨ (x = "star" ∧ n = 0)
def spMain (K : PySem.W.Frag) : Sp := fun vs H Q _ => ∃ (c : Addr) (ns : List Int), vs = [.ref c] ∧ SqL K H c (ns.map V.int) ∧ ns.length ≤ 100 ∧
  ∀ (t : T) (v : V) (H' : Hp), Same H H' → Den H' t v → WT SMain t → t.size ≤ 2 * ns.length + 2 → t.names.length ≤ ns.length + 1 → Q v H'
end SW

set_option Elab.async false
set_option linter.all false
set_option maxRecDepth 100000
namespace SW
open PySem L2
def t_any (K : PySem.W.Frag) : TS := (tSeq (tAsg (tOp rModI (tOp rDivI (tVar 0) (tC (.int 2))) (tOp rPowI (tC (.int 10)) (tC (.int 59)))) (gName 1)) (tRet (tOp rMulI (tVar 1) (tOp (rIxL K) (tLst (tCons (tC (.int 1)) (tCons (tUn rNegI (tC (.int 1))) tNil))) (tOp rModI (tVar 0) (tC (.int 2)))))))
def t_aw_1 (K : PySem.W.Frag) : TS := (tSeq (tAsg (tOp rAddS (tOp rIxS (tC (.str "abcdefghijklmnopqrstuvwxyz")) (tOp rModI (tVar 1) (tC (.int 26)))) (tVar 2)) (gName 2)) (tAsg (tOp rSubI (tOp rDivI (tVar 1) (tC (.int 26))) (tC (.int 1))) (gName 1)))
def t_aw (K : PySem.W.Frag) : TS := (tSeq (tAsg (tOp rModI (tCB cAbs (tCons (tVar 0) tNil)) (tOp rPowI (tC (.int 10)) (tC (.int 39)))) (gName 1)) (tSeq (tAsg (tC (.str "")) (gName 2)) (tSeq (tWhile (tTest (tOp rGeI (tVar 1) (tC (.int 0)))) (t_aw_1 K)) (tRet (tVar 2)))))
def t_ins_1 (K : PySem.W.Frag) : TS := (tRet (tLst tNil))
def t_ins_2 (K : PySem.W.Frag) : TS := (tIfS (tTest (tOp (rIn K false) (tOp (rIxT K) (tVar 0) (tC (.int 0))) (tLst (tCons (tC (.str "number")) (tCons (tC (.str "name")) tNil))))) (t_ins_1 K) tNext)
def t_ins (K : PySem.W.Frag) : TS := (tSeq (t_ins_2 K) (tRet (tCB (cListOf K) (tCons (tSl (rSlT K) (tVar 0) (tPart (tOp rAddI (tC (.int 1)) (tCB cInt (tCons (tOp (rIn K false) (tOp (rIxT K) (tVar 0) (tC (.int 0))) (tLst (tCons (tC (.str "let")) (tCons (tC (.str "stamp")) tNil)))) tNil)))) tNoPart) tNil))))
def t_dp_1 (K : PySem.W.Frag) : TS := (tAsg (tOp rAddS (tCall spWord [] E0 (tCons (tOp rDivI (tVar 4) (tC (.int 29))) tNil)) (tC (.str "k"))) (gName 6))
def t_dp_2 (K : PySem.W.Frag) : TS := (tIfS (tTest (tOp rEq (tOp rModI (tVar 4) (tC (.int 29))) (tC (.int 7)))) (t_dp_1 K) tNext)
def t_dp_3 (K : PySem.W.Frag) : TS := (tDrop (tBM K "list" rAppend (tVar 2) (tCons (tTup (tCons (tC (.str "number")) (tCons (tOp (rIxL K) (tLst (tCons (tOp rSubI (tOp rModI (tVar 4) (tC (.int 4))) (tC (.int 1))) (tCons (tCall spAny [] E0 (tCons (tVar 4) tNil)) tNil))) (tCB cInt (tCons (tOp rEq (tOp rModI (tVar 4) (tC (.int 5))) (tC (.int 3))) tNil))) tNil))) tNil)))
def t_dp_4 (K : PySem.W.Frag) : TS := (tDrop (tBM K "list" rAppend (tVar 2) (tCons (tTup (tCons (tC (.str "name")) (tCons (tVar 6) tNil))) tNil)))
def t_dp_5 (K : PySem.W.Frag) : TS := (tAsg (tOp rCat (tSl (rSlL K) (tVar 2) tNoPart (tPart (tUn rNegI (tC (.int 3))))) (tLst (tCons (tTup (tCons (tC (.str "choose")) (tCons (tOp (rIxL K) (tVar 7) (tC (.int 0))) (tCons (tOp (rIxL K) (tVar 7) (tC (.int 1))) (tCons (tOp (rIxL K) (tVar 7) (tC (.int 2))) tNil))))) tNil))) (gName 2))
def t_dp_6 (K : PySem.W.Frag) : TS := (tAsg (tOp rCat (tSl (rSlL K) (tVar 2) tNoPart (tPart (tUn rNegI (tC (.int 2))))) (tLst (tCons (tTup (tCons (tOp (rIxL K) (tLst (tCons (tC (.str "sum")) (tCons (tC (.str "less")) tNil))) (tOp rModI (tVar 5) (tC (.int 2)))) (tCons (tOp (rIxL K) (tVar 7) (tUn rNegI (tC (.int 2)))) (tCons (tOp (rIxL K) (tVar 7) (tUn rNegI (tC (.int 1)))) tNil)))) tNil))) (gName 2))
def t_dp_7 (K : PySem.W.Frag) : TS := (tAsg (tOp (rIxT K) (tVar 8) (tC (.int 2))) (gName 8))
def t_dp_8 (K : PySem.W.Frag) : TS := (tIfS (tTest (tOp (rIn K false) (tOp (rIxT K) (tVar 8) (tC (.int 0))) (tLst (tCons (tC (.str "sum")) (tCons (tC (.str "less")) tNil))))) (t_dp_7 K) tNext)
def t_dp_9 (K : PySem.W.Frag) : TS := (tAsg (tOp (rIxT K) (tVar 8) (tC (.int 1))) (gName 6))
def t_dp_10 (K : PySem.W.Frag) : TS := (tIfS (tAnd (tTest (tOp rEq (tOp (rIxT K) (tVar 8) (tC (.int 0))) (tC (.str "name")))) (tTest (tOp rGtI (tOp rModI (tVar 4) (tC (.int 3))) (tC (.int 0))))) (t_dp_9 K) tNext)
def t_dp_11 (K : PySem.W.Frag) : TS := (tSeq (tAsg (tOp (rIxL K) (tVar 7) (tUn rNegI (tC (.int 1)))) (gName 8)) (tSeq (t_dp_8 K) (tSeq (t_dp_10 K) (tAsg (tOp rCat (tSl (rSlL K) (tVar 2) tNoPart (tPart (tUn rNegI (tC (.int 2))))) (tLst (tCons (tTup (tCons (tC (.str "let")) (tCons (tVar 6) (tCons (tOp (rIxL K) (tVar 7) (tUn rNegI (tC (.int 2)))) (tCons (tOp (rIxL K) (tVar 7) (tUn rNegI (tC (.int 1)))) tNil))))) tNil))) (gName 2)))))
def t_dp_12 (K : PySem.W.Frag) : TS := (tSeq (tAsg (tCB (cTupleOf K) (tCons (tOp rCat (tLst (tCons (tC (.str "stamp")) (tCons (tVar 9) tNil))) (tSl (rSlL K) (tVar 2) (tPart (tOp rSubI (tCB (cLen K) (tCons (tVar 2) tNil)) (tVar 10))) tNoPart)) tNil)) (gName 11)) (tAsg (tOp rCat (tSl (rSlL K) (tVar 2) tNoPart (tPart (tOp rSubI (tCB (cLen K) (tCons (tVar 2) tNil)) (tVar 10)))) (tLst (tCons (tVar 11) tNil))) (gName 2)))
def t_dp_13 (K : PySem.W.Frag) : TS := (tIfS (tTest (tOp rEq (tVar 10) (tOp (rIxT K) (tOp (rIxL K) (tVar 1) (tOp rModI (tVar 4) (tCB (cLen K) (tCons (tVar 1) tNil)))) (tC (.int 1))))) (t_dp_12 K) tNext)
def t_dp_14 (K : PySem.W.Frag) : TS := (tSeq (tAsg (tOp (rIxL K) (tVar 1) (tOp rModI (tVar 4) (tCB (cLen K) (tCons (tVar 1) tNil)))) (gTup K 2 (gCons (gName 9) (gCons (gName 10) gNil)))) (tSeq (tAsg (tCB cMin (tCons (tVar 10) (tCons (tCB (cLen K) (tCons (tVar 2) tNil)) tNil))) (gName 10)) (t_dp_13 K)))
def t_dp_15 (K : PySem.W.Frag) : TS := (tIfS (tTest (tOp (rNeNil K) (tVar 1) (tLst tNil))) (t_dp_14 K) tNext)
def t_dp_16 (K : PySem.W.Frag) : TS := (tIfS (tTest (tOp rEq (tVar 5) (tC (.int 6)))) (t_dp_11 K) (t_dp_15 K))
def t_dp_17 (K : PySem.W.Frag) : TS := (tIfS (tTest (tOp rLtI (tVar 5) (tC (.int 6)))) (t_dp_6 K) (t_dp_16 K))
def t_dp_18 (K : PySem.W.Frag) : TS := (tIfS (tAnd (tTest (tOp rEq (tVar 5) (tC (.int 5)))) (tTest (tOp rEq (tCB (cLen K) (tCons (tVar 7) tNil)) (tC (.int 3))))) (t_dp_5 K) (t_dp_17 K))
def t_dp_19 (K : PySem.W.Frag) : TS := (tIfS (tTest (tOp rLtI (tVar 5) (tC (.int 3)))) (t_dp_4 K) (t_dp_18 K))
def t_dp_20 (K : PySem.W.Frag) : TS := (tIfS (tOr (tTest (tOp rEq (tVar 5) (tC (.int 0)))) (tAnd (tTest (tOp rEq (tCB (cLen K) (tCons (tVar 7) tNil)) (tC (.int 1)))) (tTest (tChain rLtI rLtI (tC (.int 2)) (tVar 5) (tC (.int 7)))))) (t_dp_3 K) (t_dp_19 K))
def t_dp_21 (K : PySem.W.Frag) : TS := (tSeq (tAsg (tOp rDivI (tVar 3) (tC (.int 9))) (gName 4)) (tSeq (tAsg (tOp rModI (tVar 3) (tC (.int 9))) (gName 5)) (tSeq (tAsg (tOp (rIxL K) (tLst (tCons (tC (.str "sab")) (tCons (tC (.str "tab")) (tCons (tC (.str "sob")) (tCons (tC (.str "sat")) tNil))))) (tOp rModI (tVar 4) (tC (.int 4)))) (gName 6)) (tSeq (t_dp_2 K) (tSeq (tAsg (tSl (rSlL K) (tVar 2) (tPart (tUn rNegI (tC (.int 3)))) tNoPart) (gName 7)) (t_dp_20 K))))))
def t_dp_22 (K : PySem.W.Frag) : TS := (tSeq (tAsg (tBM0 K "list" rPop (tVar 2)) (gName 12)) (tDrop (tBM K "list" rAppend (tVar 2) (tCons (tTup (tCons (tC (.str "sum")) (tCons (tBM0 K "list" rPop (tVar 2)) (tCons (tVar 12) tNil)))) tNil))))
def t_dp (K : PySem.W.Frag) : TS := (tSeq (tAsg (tLst (tCons (tTup (tCons (tC (.str "name")) (tCons (tC (.str "sab")) tNil))) tNil)) (gName 2)) (tSeq (tFor (iList K (tVar 0)) (gName 3) (t_dp_21 K)) (tSeq (tWhile (tTest (tOp rGtI (tCB (cLen K) (tCons (tVar 2) tNil)) (tC (.int 1)))) (t_dp_22 K)) (tRet (tOp (rIxL K) (tVar 2) (tC (.int 0)))))))
def t_main (K : PySem.W.Frag) (S : Str → Nat → Prop) : TS := (tRet (tCall (spDrawn K S) [] E0 (tCons (tVar 0) (tCons (tLst (tCons (tTup (tCons (tC (.str "st")) (tCons (tC (.int 2)) tNil))) (tCons (tTup (tCons (tC (.str "sta")) (tCons (tC (.int 1)) tNil))) (tCons (tTup (tCons (tC (.str "st")) (tCons (tC (.int 2)) tNil))) (tCons (tTup (tCons (tC (.str "star")) (tCons (tC (.int 0)) tNil))) tNil))))) tNil))))
end SW

set_option Elab.async false
set_option linter.all false
set_option maxRecDepth 100000
set_option maxHeartbeats 4000000
namespace SW
open PySem L2
variable {K : PySem.W.Frag} {vs : List V} {H : Hp} {Q : VK} {E : XK}
abbrev fin (Q : VK) : Ends := { nx := fun _ H' => Q .non H', rt := Q }
theorem rd_any (h : spAny vs H Q E) : t_any K (fin Q) (start ["_law_cell", "_law_size"] vs) H := by
  obtain ⟨c, rfl, k⟩ := h
  refine ⟨_, rfl, _, _, rfl, rfl, ⟨by decide, by decide⟩, _, _, rfl, rfl, ⟨by decide, by decide, by decide⟩, _, _, rfl, rfl, (show (0 : Int) < 10 ^ (59 : Int).toNat by decide), ?_⟩
  refine ⟨_, rfl, _, rfl, szl, fun p hp => ?_⟩
  have h2 : 0 ≤ c % 2 ∧ c % 2 < 2 := by omega
  obtain ⟨v, hv, e⟩ := atI_mem (xs := [V.int 1, V.int (-1)]) h2.1 h2.2
  refine ⟨_, rfl, _, _, rfl, rfl, (show (0 : Int) < 2 by decide), p, _, _, v, rfl, rfl, SqL.of upd_same, e, ?_⟩
  have b0 := Int.emod_nonneg (c / 2) (show (10 : Int) ^ (59 : Int).toNat ≠ 0 by decide)
  have b1 := Int.emod_lt_of_pos (c / 2) (show (0 : Int) < 10 ^ (59 : Int).toNat by decide)
  have e59 : (10 : Int) ^ (59 : Int).toNat = 10 ^ 59 := rfl
  rw [e59] at b0 b1
  rcases List.mem_cons.mp hv with rfl | hv
  · refine ⟨_, _, rfl, rfl, .inr ⟨by decide, by decide⟩, k _ _ ?_ (same_new hp)⟩
    rw [e59]
    generalize c / 2 % 10 ^ 59 = z at *
    generalize (10 : Int) ^ 59 = y at *
    omega
  · rw [List.mem_singleton] at hv
    subst hv
    refine ⟨_, _, rfl, rfl, .inr ⟨by decide, by decide⟩, k _ _ ?_ (same_new hp)⟩
    rw [e59]
    generalize c / 2 % 10 ^ 59 = z at *
    generalize (10 : Int) ^ 59 = y at *
    omega
theorem rd_aw (h : spWord vs H Q E) : t_aw K (fin Q) (start ["_law_cell", "_law_left", "_law_word"] vs) H := by
  obtain ⟨c, rfl, k⟩ := h
  refine ⟨_, rfl, _, rfl, _, _, rfl, rfl, ⟨by decide, by decide, by decide⟩, _, _, rfl, rfl, (show (0 : Int) < 10 ^ (39 : Int).toNat by decide), ?_⟩
  refine ⟨fun m σ H' => H' = H ∧ ∃ (l : Int) (x : Str), σ = [some (.int c), some (.int l), some (.str x)] ∧ WordTo l x ∧ -1 ≤ l ∧ (m : Int) = l + 1, ⟨((if c < 0 then -c else c) % 10 ^ (39 : Int).toNat + 1).toNat, rfl, _, _, rfl, wordTo_start _, ?_, ?_⟩, ?_⟩
  · have := Int.emod_nonneg (if c < 0 then -c else c) (show (10 : Int) ^ (39 : Int).toNat ≠ 0 by decide)
    omega
  · have := Int.emod_nonneg (if c < 0 then -c else c) (show (10 : Int) ^ (39 : Int).toNat ≠ 0 by decide)
    exact Int.toNat_of_nonneg (by omega)
  · rintro m σ H' ⟨rfl, l, x, rfl, hw, hl1, hm⟩
    refine ⟨_, rfl, _, _, rfl, rfl, _, rfl, ?_⟩
    refine ite2 (fun hl => ?_) (fun hl => ?_)
    · have hl : (0 : Int) ≤ l := of_decide_eq_true hl
      refine ⟨fun σ' H'' => ∃ m', m' < m ∧ (H'' = H' ∧ ∃ (l : Int) (x : Str), σ' = [some (.int c), some (.int l), some (.str x)] ∧ WordTo l x ∧ -1 ≤ l ∧ (m' : Int) = l + 1), fun _ _ h => h, ?_⟩
      obtain ⟨ch, hc, e⟩ := letter_at l
      refine ⟨_, rfl, _, _, rfl, rfl, (show (0 : Int) < 26 by decide), _, _, ch, rfl, rfl, szl (by decide +kernel), e, _, rfl, _, _, rfl, rfl, wordTo_small hw, ?_⟩
      refine ⟨_, rfl, _, _, rfl, rfl, ⟨by decide, by decide⟩, _, _, rfl, rfl, ?_⟩
      refine ⟨(l / 26 - 1 + 1).toNat, ?_, rfl, _, _, rfl, wordTo_step hw hl hc, ?_, ?_⟩
      · omega
      · omega
      · omega
    · have hl : ¬ (0 : Int) ≤ l := fun z => hl (decide_eq_true z)
      exact ⟨_, rfl, k _ (wordTo_end hw hl)⟩
theorem rd_ins (h : spInside vs H Q E) : t_ins K (fin Q) (start ["_law_piece"] vs) H := by
    obtain ⟨t, v, rfl, hd, k⟩ := h
    cases t with
    | num n =>
      obtain ⟨p, rfl, hp⟩ := hd
      refine ⟨_, rfl, p, _, _, _, rfl, rfl, SqT.of hp, rfl, szl, fun q hq => ?_⟩
      refine ⟨q, _, rfl, .inl (SqL.of upd_same), rfl, rfl, _, rfl, ?_⟩
      refine iteY (by decide +kernel) ⟨szl, fun l hl => ?_⟩
      exact k l [] _ ((same_new hq).trans (same_new hl)) ((same_new hq).free hl) upd_same .nil
    | name x =>
      obtain ⟨p, rfl, hp⟩ := hd
      refine ⟨_, rfl, p, _, _, _, rfl, rfl, SqT.of hp, rfl, szl, fun q hq => ?_⟩
      refine ⟨q, _, rfl, .inl (SqL.of upd_same), rfl, rfl, _, rfl, ?_⟩
      refine iteY (by decide +kernel) ⟨szl, fun l hl => ?_⟩
      exact k l [] _ ((same_new hq).trans (same_new hl)) ((same_new hq).free hl) upd_same .nil
    | sum a b =>
      obtain ⟨p, x, y, rfl, hp, d1, d2⟩ := hd
      refine ⟨_, rfl, p, _, _, _, rfl, rfl, SqT.of hp, rfl, szl, fun q hq => ?_⟩
      refine ⟨q, _, rfl, .inl (SqL.of upd_same), rfl, rfl, _, rfl, ?_⟩
      have h1 := tl_new (o := .lst [.str "number", .str "name"]) hq _ _ hp
      refine iteN (by decide +kernel) ⟨_, rfl, _, rfl, p, _, _, _, rfl, rfl, SqT.of h1, rfl, szl, fun q2 hq2 => ?_⟩
      have h2 := tl_new (o := .lst [.str "let", .str "stamp"]) hq2 _ _ h1
      refine ⟨q2, _, rfl, .inl (SqL.of upd_same), rfl, rfl, ?_⟩
      rw [if_neg Bool.false_ne_true, show inV (V.str "sum") [V.str "let", V.str "stamp"] = false from by decide +kernel]
      refine .inr ⟨_, rfl, ?_⟩
      refine ⟨_, _, rfl, rfl, _, rfl, p, _, rfl, SqT.of h2, cut_not 1 (by decide) (Nat.le_of_ble_eq_true rfl), fun q3 hq3 => ?_⟩
      refine ⟨q3, [x, y], rfl, .inr (SqT.of upd_same), fun l hl => ?_⟩
      have s := (((same_new (o := .lst [.str "number", .str "name"]) hq).trans (same_new (o := .lst [.str "let", .str "stamp"]) hq2)).trans (same_new (o := .tup [x, y]) hq3)).trans (same_new (o := .lst [x, y]) hl)
      have s3 := ((same_new (o := .lst [.str "number", .str "name"]) hq).trans (same_new (o := .lst [.str "let", .str "stamp"]) hq2)).trans (same_new (o := .tup [x, y]) hq3)
      exact k l [x, y] _ s (s3.free hl) upd_same (.cons (d1.mono (tl_same s)) (.cons (d2.mono (tl_same s)) .nil))
    | less a b =>
      obtain ⟨p, x, y, rfl, hp, d1, d2⟩ := hd
      refine ⟨_, rfl, p, _, _, _, rfl, rfl, SqT.of hp, rfl, szl, fun q hq => ?_⟩
      refine ⟨q, _, rfl, .inl (SqL.of upd_same), rfl, rfl, _, rfl, ?_⟩
      have h1 := tl_new (o := .lst [.str "number", .str "name"]) hq _ _ hp
      refine iteN (by decide +kernel) ⟨_, rfl, _, rfl, p, _, _, _, rfl, rfl, SqT.of h1, rfl, szl, fun q2 hq2 => ?_⟩
      have h2 := tl_new (o := .lst [.str "let", .str "stamp"]) hq2 _ _ h1
      refine ⟨q2, _, rfl, .inl (SqL.of upd_same), rfl, rfl, ?_⟩
      rw [if_neg Bool.false_ne_true, show inV (V.str "less") [V.str "let", V.str "stamp"] = false from by decide +kernel]
      refine .inr ⟨_, rfl, ?_⟩
      refine ⟨_, _, rfl, rfl, _, rfl, p, _, rfl, SqT.of h2, cut_not 1 (by decide) (Nat.le_of_ble_eq_true rfl), fun q3 hq3 => ?_⟩
      refine ⟨q3, [x, y], rfl, .inr (SqT.of upd_same), fun l hl => ?_⟩
      have s := (((same_new (o := .lst [.str "number", .str "name"]) hq).trans (same_new (o := .lst [.str "let", .str "stamp"]) hq2)).trans (same_new (o := .tup [x, y]) hq3)).trans (same_new (o := .lst [x, y]) hl)
      have s3 := ((same_new (o := .lst [.str "number", .str "name"]) hq).trans (same_new (o := .lst [.str "let", .str "stamp"]) hq2)).trans (same_new (o := .tup [x, y]) hq3)
      exact k l [x, y] _ s (s3.free hl) upd_same (.cons (d1.mono (tl_same s)) (.cons (d2.mono (tl_same s)) .nil))
    | cho a b c =>
      obtain ⟨p, x, y, z, rfl, hp, d1, d2, d3⟩ := hd
      refine ⟨_, rfl, p, _, _, _, rfl, rfl, SqT.of hp, rfl, szl, fun q hq => ?_⟩
      refine ⟨q, _, rfl, .inl (SqL.of upd_same), rfl, rfl, _, rfl, ?_⟩
      have h1 := tl_new (o := .lst [.str "number", .str "name"]) hq _ _ hp
      refine iteN (by decide +kernel) ⟨_, rfl, _, rfl, p, _, _, _, rfl, rfl, SqT.of h1, rfl, szl, fun q2 hq2 => ?_⟩
      have h2 := tl_new (o := .lst [.str "let", .str "stamp"]) hq2 _ _ h1
      refine ⟨q2, _, rfl, .inl (SqL.of upd_same), rfl, rfl, ?_⟩
      rw [if_neg Bool.false_ne_true, show inV (V.str "choose") [V.str "let", V.str "stamp"] = false from by decide +kernel]
      refine .inr ⟨_, rfl, ?_⟩
      refine ⟨_, _, rfl, rfl, _, rfl, p, _, rfl, SqT.of h2, cut_not 1 (by decide) (Nat.le_of_ble_eq_true rfl), fun q3 hq3 => ?_⟩
      refine ⟨q3, [x, y, z], rfl, .inr (SqT.of upd_same), fun l hl => ?_⟩
      have s := (((same_new (o := .lst [.str "number", .str "name"]) hq).trans (same_new (o := .lst [.str "let", .str "stamp"]) hq2)).trans (same_new (o := .tup [x, y, z]) hq3)).trans (same_new (o := .lst [x, y, z]) hl)
      have s3 := ((same_new (o := .lst [.str "number", .str "name"]) hq).trans (same_new (o := .lst [.str "let", .str "stamp"]) hq2)).trans (same_new (o := .tup [x, y, z]) hq3)
      exact k l [x, y, z] _ s (s3.free hl) upd_same (.cons (d1.mono (tl_same s)) (.cons (d2.mono (tl_same s)) (.cons (d3.mono (tl_same s)) .nil)))
    | lt w a b =>
      obtain ⟨p, x, y, rfl, hp, d1, d2⟩ := hd
      refine ⟨_, rfl, p, _, _, _, rfl, rfl, SqT.of hp, rfl, szl, fun q hq => ?_⟩
      refine ⟨q, _, rfl, .inl (SqL.of upd_same), rfl, rfl, _, rfl, ?_⟩
      have h1 := tl_new (o := .lst [.str "number", .str "name"]) hq _ _ hp
      refine iteN (by decide +kernel) ⟨_, rfl, _, rfl, p, _, _, _, rfl, rfl, SqT.of h1, rfl, szl, fun q2 hq2 => ?_⟩
      have h2 := tl_new (o := .lst [.str "let", .str "stamp"]) hq2 _ _ h1
      refine ⟨q2, _, rfl, .inl (SqL.of upd_same), rfl, rfl, ?_⟩
      rw [if_neg Bool.false_ne_true, show inV (V.str "let") [V.str "let", V.str "stamp"] = true from by decide +kernel]
      refine .inr ⟨_, rfl, ?_⟩
      refine ⟨_, _, rfl, rfl, _, rfl, p, _, rfl, SqT.of h2, cut_not 2 (by decide) (Nat.le_of_ble_eq_true rfl), fun q3 hq3 => ?_⟩
      refine ⟨q3, [x, y], rfl, .inr (SqT.of upd_same), fun l hl => ?_⟩
      have s := (((same_new (o := .lst [.str "number", .str "name"]) hq).trans (same_new (o := .lst [.str "let", .str "stamp"]) hq2)).trans (same_new (o := .tup [x, y]) hq3)).trans (same_new (o := .lst [x, y]) hl)
      have s3 := ((same_new (o := .lst [.str "number", .str "name"]) hq).trans (same_new (o := .lst [.str "let", .str "stamp"]) hq2)).trans (same_new (o := .tup [x, y]) hq3)
      exact k l [x, y] _ s (s3.free hl) upd_same (.cons (d1.mono (tl_same s)) (.cons (d2.mono (tl_same s)) .nil))
    | st0 w =>
      obtain ⟨p, rfl, hp⟩ := hd
      refine ⟨_, rfl, p, _, _, _, rfl, rfl, SqT.of hp, rfl, szl, fun q hq => ?_⟩
      refine ⟨q, _, rfl, .inl (SqL.of upd_same), rfl, rfl, _, rfl, ?_⟩
      have h1 := tl_new (o := .lst [.str "number", .str "name"]) hq _ _ hp
      refine iteN (by decide +kernel) ⟨_, rfl, _, rfl, p, _, _, _, rfl, rfl, SqT.of h1, rfl, szl, fun q2 hq2 => ?_⟩
      have h2 := tl_new (o := .lst [.str "let", .str "stamp"]) hq2 _ _ h1
      refine ⟨q2, _, rfl, .inl (SqL.of upd_same), rfl, rfl, ?_⟩
      rw [if_neg Bool.false_ne_true, show inV (V.str "stamp") [V.str "let", V.str "stamp"] = true from by decide +kernel]
      refine .inr ⟨_, rfl, ?_⟩
      refine ⟨_, _, rfl, rfl, _, rfl, p, _, rfl, SqT.of h2, cut_not 2 (by decide) (Nat.le_of_ble_eq_true rfl), fun q3 hq3 => ?_⟩
      refine ⟨q3, [], rfl, .inr (SqT.of upd_same), fun l hl => ?_⟩
      have s := (((same_new (o := .lst [.str "number", .str "name"]) hq).trans (same_new (o := .lst [.str "let", .str "stamp"]) hq2)).trans (same_new (o := .tup []) hq3)).trans (same_new (o := .lst []) hl)
      have s3 := ((same_new (o := .lst [.str "number", .str "name"]) hq).trans (same_new (o := .lst [.str "let", .str "stamp"]) hq2)).trans (same_new (o := .tup []) hq3)
      exact k l [] _ s (s3.free hl) upd_same .nil
    | st1 w a =>
      obtain ⟨p, x, rfl, hp, d1⟩ := hd
      refine ⟨_, rfl, p, _, _, _, rfl, rfl, SqT.of hp, rfl, szl, fun q hq => ?_⟩
      refine ⟨q, _, rfl, .inl (SqL.of upd_same), rfl, rfl, _, rfl, ?_⟩
      have h1 := tl_new (o := .lst [.str "number", .str "name"]) hq _ _ hp
      refine iteN (by decide +kernel) ⟨_, rfl, _, rfl, p, _, _, _, rfl, rfl, SqT.of h1, rfl, szl, fun q2 hq2 => ?_⟩
      have h2 := tl_new (o := .lst [.str "let", .str "stamp"]) hq2 _ _ h1
      refine ⟨q2, _, rfl, .inl (SqL.of upd_same), rfl, rfl, ?_⟩
      rw [if_neg Bool.false_ne_true, show inV (V.str "stamp") [V.str "let", V.str "stamp"] = true from by decide +kernel]
      refine .inr ⟨_, rfl, ?_⟩
      refine ⟨_, _, rfl, rfl, _, rfl, p, _, rfl, SqT.of h2, cut_not 2 (by decide) (Nat.le_of_ble_eq_true rfl), fun q3 hq3 => ?_⟩
      refine ⟨q3, [x], rfl, .inr (SqT.of upd_same), fun l hl => ?_⟩
      have s := (((same_new (o := .lst [.str "number", .str "name"]) hq).trans (same_new (o := .lst [.str "let", .str "stamp"]) hq2)).trans (same_new (o := .tup [x]) hq3)).trans (same_new (o := .lst [x]) hl)
      have s3 := ((same_new (o := .lst [.str "number", .str "name"]) hq).trans (same_new (o := .lst [.str "let", .str "stamp"]) hq2)).trans (same_new (o := .tup [x]) hq3)
      exact k l [x] _ s (s3.free hl) upd_same (.cons (d1.mono (tl_same s)) .nil)
    | st2 w a b =>
      obtain ⟨p, x, y, rfl, hp, d1, d2⟩ := hd
      refine ⟨_, rfl, p, _, _, _, rfl, rfl, SqT.of hp, rfl, szl, fun q hq => ?_⟩
      refine ⟨q, _, rfl, .inl (SqL.of upd_same), rfl, rfl, _, rfl, ?_⟩
      have h1 := tl_new (o := .lst [.str "number", .str "name"]) hq _ _ hp
      refine iteN (by decide +kernel) ⟨_, rfl, _, rfl, p, _, _, _, rfl, rfl, SqT.of h1, rfl, szl, fun q2 hq2 => ?_⟩
      have h2 := tl_new (o := .lst [.str "let", .str "stamp"]) hq2 _ _ h1
      refine ⟨q2, _, rfl, .inl (SqL.of upd_same), rfl, rfl, ?_⟩
      rw [if_neg Bool.false_ne_true, show inV (V.str "stamp") [V.str "let", V.str "stamp"] = true from by decide +kernel]
      refine .inr ⟨_, rfl, ?_⟩
      refine ⟨_, _, rfl, rfl, _, rfl, p, _, rfl, SqT.of h2, cut_not 2 (by decide) (Nat.le_of_ble_eq_true rfl), fun q3 hq3 => ?_⟩
      refine ⟨q3, [x, y], rfl, .inr (SqT.of upd_same), fun l hl => ?_⟩
      have s := (((same_new (o := .lst [.str "number", .str "name"]) hq).trans (same_new (o := .lst [.str "let", .str "stamp"]) hq2)).trans (same_new (o := .tup [x, y]) hq3)).trans (same_new (o := .lst [x, y]) hl)
      have s3 := ((same_new (o := .lst [.str "number", .str "name"]) hq).trans (same_new (o := .lst [.str "let", .str "stamp"]) hq2)).trans (same_new (o := .tup [x, y]) hq3)
      exact k l [x, y] _ s (s3.free hl) upd_same (.cons (d1.mono (tl_same s)) (.cons (d2.mono (tl_same s)) .nil))
end SW

set_option Elab.async false
set_option linter.all false
set_option maxRecDepth 100000
set_option maxHeartbeats 4000000
namespace SW
open PySem L2
theorem kind_name {t : T} (h : kind t = "name") : ∃ x, t = .name x := by
  cases t with
  | name x => exact ⟨x, rfl⟩
  | _ => simp only [kind] at h; exact absurd h (by decide +kernel)
theorem hd_kind (t : T) (us : List V) : atI (hd t ++ us) 0 = some (.str (kind t)) := by cases t <;> exact atI_nat (j := 0) rfl
theorem namesAll_append (a b : List T) : namesAll (a ++ b) = namesAll a + namesAll b := by simp [namesAll]
theorem snoc_of_ne {α : Type} {l : List α} (h : l ≠ []) : ∃ us u, l = us ++ [u] := ⟨l.dropLast, l.getLast h, (List.dropLast_concat_getLast h).symm⟩
theorem pop_at {us : List V} {u : V} : (us ++ [u])[(us ++ [u]).length - 1]? = some u := by simp
theorem drop_at {us : List V} {u : V} : (us ++ [u]).dropLast = us := by simp
end SW

set_option Elab.async false
set_option linter.all false
set_option maxRecDepth 100000
set_option maxHeartbeats 4000000
namespace SW
open PySem L2
variable {K : PySem.W.Frag} {vs : List V} {H : Hp} {Q : VK} {E : XK}
end SW

set_option Elab.async false
set_option linter.all false
set_option maxRecDepth 100000
set_option maxHeartbeats 4000000
namespace SW
open PySem L2
variable {K : PySem.W.Frag} {vs : List V} {H : Hp} {Q : VK} {E : XK}
end SW

set_option Elab.async false
set_option linter.all false
set_option maxRecDepth 100000
set_option maxHeartbeats 4000000
namespace SW
open PySem L2
variable {K : PySem.W.Frag} {vs : List V} {H : Hp} {Q : VK} {E : XK}
end SW

set_option Elab.async false
set_option linter.all false
set_option maxRecDepth 100000
set_option maxHeartbeats 4000000
namespace SW
open PySem L2
variable {K : PySem.W.Frag} {vs : List V} {H : Hp} {Q : VK} {E : XK}
theorem cut_back (xs : List V) (k : Nat) (hk : 0 < k) : cutV xs (some (-(k : Int))) none = xs.drop (xs.length - k) := by
  unfold cutV HT.sIx
  have h1 : (-(k : Int)) < 0 := by omega
  simp only [h1, if_true]
  have e : (-(k : Int) + (xs.length : Int)).toNat = xs.length - k := by omega
  rw [e, List.take_of_length_le]
  rw [List.length_drop]; omega
theorem cut_front (xs : List V) (k : Nat) (hk : 0 < k) : cutV xs none (some (-(k : Int))) = xs.take (xs.length - k) := by
  unfold cutV HT.sIx
  have h1 : (-(k : Int)) < 0 := by omega
  simp only [h1, if_true, List.drop_zero, Nat.sub_zero]
  have e : (-(k : Int) + (xs.length : Int)).toNat = xs.length - k := by omega
  rw [e]
theorem cut_from (xs : List V) (k : Nat) (hk : k ≤ xs.length) : cutV xs (some (k : Int)) none = xs.drop k := by
  unfold cutV
  rw [HT.sIx_nat, HT.sIx_none, Nat.min_eq_left hk, List.take_of_length_le]
  rw [List.length_drop]; omega
theorem cut_to (xs : List V) (k : Nat) (hk : k ≤ xs.length) : cutV xs none (some (k : Int)) = xs.take k := by
  unfold cutV
  rw [HT.sIx_nat, HT.sIx_none, Nat.min_eq_left hk, List.drop_zero, Nat.sub_zero]
theorem DenL.split {H : Hp} : ∀ {us : List V} {ts : List T} {ws : List V}, DenL H ts (us ++ ws) → ∃ ta tb, ts = ta ++ tb ∧ DenL H ta us ∧ DenL H tb ws
  | [], ts, ws, h => ⟨[], ts, rfl, .nil, h⟩
  | u :: us, _, ws, .cons a r => by
    obtain ⟨ta, tb, rfl, h1, h2⟩ := DenL.split (us := us) r
    exact ⟨_ :: ta, tb, rfl, .cons a h1, h2⟩
theorem atI_end2 (xs : List V) (a b : V) : atI (xs ++ [a, b]) (-2) = some a := by
  unfold atI ixN
  have h1 : ¬ (0 : Int) ≤ -2 := by decide
  have h2 : -((xs ++ [a, b]).length : Int) ≤ -2 := by simp; omega
  rw [if_neg h1, if_pos h2]
  have e : (-2 + ((xs ++ [a, b]).length : Int)).toNat = xs.length := by simp; omega
  show (xs ++ [a, b])[(-2 + ((xs ++ [a, b]).length : Int)).toNat]? = some a
  rw [e]; simp
theorem atI_end1 (xs : List V) (a b : V) : atI (xs ++ [a, b]) (-1) = some b := by
  have := atI_last (xs ++ [a]) b
  rw [List.append_assoc] at this
  exact this
section
variable {S : Str → Nat → Prop} {H₀ H1 : Hp} {n : Nat} {l p : Addr} {ts : List T} {t : T} {v : V}
theorem Pile.mono (P : Pile S H₀ H n l vs ts) (s : Same H H1) : Pile S H₀ H1 n l vs ts := ⟨P.same.trans s, P.new, s _ _ P.at_, P.den.mono (tl_same s), P.sz, P.one, P.wt⟩
theorem Pile.push (P : Pile S H₀ H n l vs ts) (hd : Den H t v) (wt : WT S t) (hs : t.size = 1) : Pile S H₀ (upd H l (.lst (vs ++ [v]))) (n + 1) l (vs ++ [v]) (ts ++ [t]) := by
  have tl := tl_lst (o := .lst (vs ++ [v])) P.at_
  refine ⟨same_old P.same P.new, P.new, upd_same, (P.den.mono tl).append (.cons (hd.mono tl) .nil), ?_, by simp, fun u hu => ?_⟩
  · rw [sizes_append, sizes_cons, sizes_nil]; have := P.sz; omega
  · rcases List.mem_append.mp hu with z | z
    · exact P.wt u z
    · rw [List.mem_singleton] at z; subst z; exact wt
theorem Pile.fold {us ws : List V} {ta tb : List T} (P : Pile S H₀ H n l (us ++ ws) (ta ++ tb)) (s : Same H H1) (hp : H1 p = none) (d : DenL H ta us) (hd : Den H1 t v) (wt : WT S t) (hs : t.size = sizes tb + 1) : Pile S H₀ (upd H1 p (.lst (us ++ [v]))) (n + 1) p (us ++ [v]) (ta ++ [t]) := by
  have tl := tl_new (o := .lst (us ++ [v])) hp
  refine ⟨(P.same.trans s).trans (same_new hp), (P.same.trans s).free hp, upd_same, ((d.mono (tl_same s)).mono tl).append (.cons (hd.mono tl) .nil), ?_, by simp, fun u hu => ?_⟩
  · have := P.sz
    rw [sizes_append] at this ⊢
    rw [sizes_cons, sizes_nil]; omega
  · rcases List.mem_append.mp hu with z | z
    · exact P.wt u (List.mem_append_left _ z)
    · rw [List.mem_singleton] at z; subst z; exact wt
/-- behind a turn -/
def DpN (S : Str → Nat → Prop) (H₀ : Hp) (c st : Addr) (n : Nat) (σ : L2.St) (H : Hp) : Prop :=
  ∃ l vs ts j3 j4 j5 j6 j7 j8 j9 j10 j11 j12, σ = [some (.ref c), some (.ref st), some (.ref l), j3, j4, j5, j6, j7, j8, j9, j10, j11, j12] ∧ Pile S H₀ H n l vs ts
end
section
variable {S : Str → Nat → Prop} {H₀ : Hp} {n : Nat} {l c st li : Addr} {ts : List T} {D : Ends} {cell rest way : Int} {x : Str} {j8 j9 j10 j11 j12 : Option V}
theorem rd_dp_number (P : Pile S H₀ H n l vs ts) (hn : n ≤ 1000) (hD : ∀ σ H, DpN S H₀ c st (n + 1) σ H → D.nx σ H) :
    t_dp_3 K D [some (.ref c), some (.ref st), some (.ref l), some (.int cell), some (.int rest), some (.int way), some (.str x), some (.ref li), j8, j9, j10, j11, j12] H := by
  refine ⟨_, rfl, .inl ⟨rfl, _, SqL.of P.at_⟩, ?_⟩
  refine ⟨_, rfl, _, _, rfl, rfl, (show (0 : Int) < 4 by decide), _, _, rfl, rfl, _, rfl, rest, rfl, fun z H1 hz s1 => ⟨szl, fun q hq => ?_⟩⟩
  have P1 := (P.mono s1).mono (same_new (o := .lst [.int (rest % 4 - 1), .int z]) hq)
  have hq1 : (upd H1 q (.lst [.int (rest % 4 - 1), .int z])) q = some (.lst [.int (rest % 4 - 1), .int z]) := upd_same
  generalize upd H1 q (.lst [.int (rest % 4 - 1), .int z]) = H2 at P1 hq1 ⊢
  refine ⟨_, rfl, _, _, rfl, rfl, (show (0 : Int) < 5 by decide), rfl, .inr ⟨_, rfl, ?_⟩⟩
  have hi : 0 ≤ (if decide (V.int (rest % 5) = V.int 3) = true then (1 : Int) else 0) ∧ (if decide (V.int (rest % 5) = V.int 3) = true then (1 : Int) else 0) < ([V.int (rest % 4 - 1), V.int z] : List V).length := by
    constructor
    · split <;> decide
    · show _ < ((2 : Nat) : Int)
      split <;> decide
  obtain ⟨u, hu, e⟩ := atI_mem hi.1 hi.2
  obtain ⟨y, rfl, hy⟩ : ∃ y, u = .int y ∧ (-(10 ^ 60) < y ∧ y < 10 ^ 60) := by
    have e60 : (10 : Int) ^ 60 = 1000000000000000000000000000000000000000000000000000000000000 := by decide
    have e59 : (10 : Int) ^ 59 = 100000000000000000000000000000000000000000000000000000000000 := by decide
    rw [e60]; rw [e59] at hz
    rcases List.mem_cons.mp hu with rfl | hu
    · exact ⟨_, rfl, by omega⟩
    · rw [List.mem_singleton] at hu
      exact ⟨_, hu, by omega⟩
  refine ⟨q, _, _, .int y, rfl, rfl, SqL.of hq1, e, szl, fun p hp => ?_⟩
  have P2 := P1.mono (same_new (o := .tup [.str "number", .int y]) hp)
  have hl : vs.length ≤ n := by rw [P.den.length]; exact Nat.le_trans (length_le_sizes ts) P.sz
  refine ⟨l, vs, .ref p, rfl, rfl, P2.at_, by rw [sizeLine_eq]; omega, hD _ _ ⟨l, vs ++ [.ref p], ts ++ [.num y], _, _, _, _, _, _, _, _, _, _, rfl, P2.push (t := .num y) (v := .ref p) ⟨p, rfl, upd_same⟩ hy rfl⟩⟩
theorem rd_dp_name (P : Pile S H₀ H n l vs ts) (hn : n ≤ 1000) (hx : Wd x) (hD : ∀ σ H, DpN S H₀ c st (n + 1) σ H → D.nx σ H) :
    t_dp_4 K D [some (.ref c), some (.ref st), some (.ref l), some (.int cell), some (.int rest), some (.int way), some (.str x), some (.ref li), j8, j9, j10, j11, j12] H := by
  refine ⟨_, rfl, .inl ⟨rfl, _, SqL.of P.at_⟩, _, rfl, szl, fun p hp => ?_⟩
  have P2 := P.mono (same_new (o := .tup [.str "name", .str x]) hp)
  have hl : vs.length ≤ n := by rw [P.den.length]; exact Nat.le_trans (length_le_sizes ts) P.sz
  refine ⟨l, vs, .ref p, rfl, rfl, P2.at_, by rw [sizeLine_eq]; omega, hD _ _ ⟨l, vs ++ [.ref p], ts ++ [.name x], _, _, _, _, _, _, _, _, _, _, rfl, P2.push (t := .name x) (v := .ref p) ⟨p, rfl, upd_same⟩ hx rfl⟩⟩
theorem rd_dp_choose {us : List V} {a b d : V} {ta : List T} {t1 t2 t3 : T} (P : Pile S H₀ H n l (us ++ [a, b, d]) (ta ++ [t1, t2, t3])) (hn : n ≤ 1000) (d0 : DenL H ta us) (d1 : Den H t1 a) (d2 : Den H t2 b) (d3 : Den H t3 d) (hli : H li = some (.lst [a, b, d])) (hD : ∀ σ H, DpN S H₀ c st (n + 1) σ H → D.nx σ H) :
    t_dp_5 K D [some (.ref c), some (.ref st), some (.ref l), some (.int cell), some (.int rest), some (.int way), some (.str x), some (.ref li), j8, j9, j10, j11, j12] H := by
  refine ⟨_, rfl, _, rfl, _, rfl, l, _, rfl, SqL.of P.at_, fun q hq => ?_⟩
  rw [show (-3 : Int) = -((3 : Nat) : Int) from rfl, cut_front _ 3 (by decide), show (us ++ [a, b, d]).length - 3 = us.length by simp, List.take_left']
  have s1 := same_new (o := .lst us) hq
  have g1 : (upd H q (.lst us)) q = some (.lst us) := upd_same
  generalize upd H q (.lst us) = G1 at s1 g1 ⊢
  refine ⟨_, rfl, li, _, _, _, rfl, rfl, SqL.of (s1 _ _ hli), rfl, _, rfl, li, _, _, _, rfl, rfl, SqL.of (s1 _ _ hli), rfl, _, rfl, li, _, _, _, rfl, rfl, SqL.of (s1 _ _ hli), rfl, szl, fun p hp => ?_⟩
  have s2 := same_new (o := .tup [.str "choose", a, b, d]) hp
  have g2 : (upd G1 p (.tup [.str "choose", a, b, d])) p = some (.tup [.str "choose", a, b, d]) := upd_same
  generalize upd G1 p (.tup [.str "choose", a, b, d]) = G2 at s2 g2 ⊢
  refine ⟨szl, fun q2 hq2 => ?_⟩
  have s3 := same_new (o := .lst [.ref p]) hq2
  have g3 : (upd G2 q2 (.lst [.ref p])) q2 = some (.lst [.ref p]) := upd_same
  generalize upd G2 q2 (.lst [.ref p]) = G3 at s3 g3 ⊢
  have sA := s1.trans (s2.trans s3)
  have hl : (us ++ [a, b, d]).length ≤ n := by rw [P.den.length]; exact Nat.le_trans (length_le_sizes _) P.sz
  rw [List.length_append] at hl
  refine ⟨q, q2, us, [.ref p], rfl, rfl, s3 _ _ (s2 _ _ g1), g3, by rw [sizeLine_eq]; simp; omega, fun p3 hp3 => hD _ _ ⟨p3, us ++ [.ref p], ta ++ [.cho t1 t2 t3], _, _, _, _, _, _, _, _, _, _, rfl, P.fold (t := .cho t1 t2 t3) (v := .ref p) sA hp3 d0 ⟨p, a, b, d, rfl, s3 _ _ g2, d1.mono (tl_same sA), d2.mono (tl_same sA), d3.mono (tl_same sA)⟩ ⟨P.wt _ (by simp), P.wt _ (by simp), P.wt _ (by simp)⟩ (by simp [T.size, sizes]; omega)⟩⟩
  simp
theorem rd_dp_sum {us zs : List V} {a b : V} {ta : List T} {t1 t2 : T} (P : Pile S H₀ H n l (us ++ [a, b]) (ta ++ [t1, t2])) (hn : n ≤ 1000) (d0 : DenL H ta us) (d1 : Den H t1 a) (d2 : Den H t2 b) (hli : H li = some (.lst (zs ++ [a, b]))) (hD : ∀ σ H, DpN S H₀ c st (n + 1) σ H → D.nx σ H) :
    t_dp_6 K D [some (.ref c), some (.ref st), some (.ref l), some (.int cell), some (.int rest), some (.int way), some (.str x), some (.ref li), j8, j9, j10, j11, j12] H := by
  refine ⟨_, rfl, _, rfl, _, rfl, l, _, rfl, SqL.of P.at_, fun q hq => ?_⟩
  rw [show (-2 : Int) = -((2 : Nat) : Int) from rfl, cut_front _ 2 (by decide), show (us ++ [a, b]).length - 2 = us.length by simp, List.take_left']
  have s1 := same_new (o := .lst us) hq
  have g1 : (upd H q (.lst us)) q = some (.lst us) := upd_same
  generalize upd H q (.lst us) = G1 at s1 g1 ⊢
  refine ⟨szl, fun q1 hq1 => ?_⟩
  have s1b := same_new (o := .lst [.str "sum", .str "less"]) hq1
  have g1b : (upd G1 q1 (.lst [.str "sum", .str "less"])) q1 = some (.lst [.str "sum", .str "less"]) := upd_same
  generalize upd G1 q1 (.lst [.str "sum", .str "less"]) = G1b at s1b g1b ⊢
  have sB := s1.trans s1b
  have hw : 0 ≤ way % 2 ∧ way % 2 < 2 := by omega
  obtain ⟨u, hu, e⟩ := atI_mem (xs := [V.str "sum", V.str "less"]) hw.1 hw.2
  refine ⟨_, rfl, _, _, rfl, rfl, (show (0 : Int) < 2 by decide), q1, _, _, u, rfl, rfl, SqL.of g1b, e, ?_⟩
  refine ⟨_, rfl, _, rfl, li, _, _, _, rfl, rfl, SqL.of (sB _ _ hli), atI_end2 zs a b, _, rfl, _, rfl, li, _, _, _, rfl, rfl, SqL.of (sB _ _ hli), atI_end1 zs a b, szl, fun p hp => ?_⟩
  have s2 := same_new (o := .tup [u, a, b]) hp
  have g2 : (upd G1b p (.tup [u, a, b])) p = some (.tup [u, a, b]) := upd_same
  generalize upd G1b p (.tup [u, a, b]) = G2 at s2 g2 ⊢
  refine ⟨szl, fun q2 hq2 => ?_⟩
  have s3 := same_new (o := .lst [.ref p]) hq2
  have g3 : (upd G2 q2 (.lst [.ref p])) q2 = some (.lst [.ref p]) := upd_same
  generalize upd G2 q2 (.lst [.ref p]) = G3 at s3 g3 ⊢
  have sA := sB.trans (s2.trans s3)
  have hl : (us ++ [a, b]).length ≤ n := by rw [P.den.length]; exact Nat.le_trans (length_le_sizes _) P.sz
  rw [List.length_append] at hl
  have e1 := d1.mono (tl_same sA)
  have e2 := d2.mono (tl_same sA)
  have w1 : WT S t1 := P.wt _ (by simp)
  have w2 : WT S t2 := P.wt _ (by simp)
  refine ⟨q, q2, us, [.ref p], rfl, rfl, s3 _ _ (s2 _ _ (s1b _ _ g1)), g3, by rw [sizeLine_eq]; simp; omega, fun p3 hp3 => ?_⟩
  rcases List.mem_cons.mp hu with rfl | hu
  · exact hD _ _ ⟨p3, us ++ [.ref p], ta ++ [.sum t1 t2], _, _, _, _, _, _, _, _, _, _, rfl, P.fold (t := .sum t1 t2) (v := .ref p) sA hp3 d0 ⟨p, a, b, rfl, s3 _ _ g2, e1, e2⟩ ⟨w1, w2⟩ (by simp [T.size, sizes])⟩
  · rw [List.mem_singleton] at hu
    subst hu
    exact hD _ _ ⟨p3, us ++ [.ref p], ta ++ [.less t1 t2], _, _, _, _, _, _, _, _, _, _, rfl, P.fold (t := .less t1 t2) (v := .ref p) sA hp3 d0 ⟨p, a, b, rfl, s3 _ _ g2, e1, e2⟩ ⟨w1, w2⟩ (by simp [T.size, sizes])⟩
  all_goals simp
end
end SW

set_option Elab.async false
set_option linter.all false
set_option maxRecDepth 100000
set_option maxHeartbeats 4000000
namespace SW
open PySem L2
variable {K : PySem.W.Frag} {vs : List V} {H : Hp} {Q : VK} {E : XK}
theorem in_sumless {t : T} (h : (if false = true then !inV (V.str (kind t)) [V.str "sum", V.str "less"] else inV (V.str (kind t)) [V.str "sum", V.str "less"]) = true) : (∃ a b, t = .sum a b) ∨ ∃ a b, t = .less a b := by
  rw [if_neg Bool.false_ne_true] at h
  cases t with
  | sum a b => exact .inl ⟨a, b, rfl⟩
  | less a b => exact .inr ⟨a, b, rfl⟩
  | _ => simp only [kind] at h; exact absurd h (by decide +kernel)
section
variable {S : Str → Nat → Prop} {H₀ : Hp} {n : Nat} {l c st li : Addr} {ts : List T} {D : Ends} {cell rest way : Int} {x : Str} {j8 j9 j10 j11 j12 : Option V}
theorem rd_dp_let {us zs : List V} {a b : V} {ta : List T} {t1 t2 : T} (P : Pile S H₀ H n l (us ++ [a, b]) (ta ++ [t1, t2])) (hn : n ≤ 1000) (d0 : DenL H ta us) (d1 : Den H t1 a) (d2 : Den H t2 b) (hli : H li = some (.lst (zs ++ [a, b]))) (hx : Wd x) (hD : ∀ σ H, DpN S H₀ c st (n + 1) σ H → D.nx σ H) :
    t_dp_11 K D [some (.ref c), some (.ref st), some (.ref l), some (.int cell), some (.int rest), some (.int way), some (.str x), some (.ref li), j8, j9, j10, j11, j12] H := by
  have w1 : WT S t1 := P.wt _ (by simp)
  have w2 : WT S t2 := P.wt _ (by simp)
  -- the last row, for any word and heap
  have last : ∀ (y : Str) (vl : V) (G : Hp), Wd y → Same H G →
      (tAsg (tOp rCat (tSl (rSlL K) (tVar 2) tNoPart (tPart (tUn rNegI (tC (.int 2))))) (tLst (tCons (tTup (tCons (tC (.str "let")) (tCons (tVar 6) (tCons (tOp (rIxL K) (tVar 7) (tUn rNegI (tC (.int 2)))) (tCons (tOp (rIxL K) (tVar 7) (tUn rNegI (tC (.int 1)))) tNil))))) tNil))) (gName 2)) D
        [some (.ref c), some (.ref st), some (.ref l), some (.int cell), some (.int rest), some (.int way), some (.str y), some (.ref li), some vl, j9, j10, j11, j12] G := by
    intro y vl G hy sG
    have PG := P.mono sG
    refine ⟨_, rfl, _, rfl, _, rfl, l, _, rfl, SqL.of PG.at_, fun q hq => ?_⟩
    rw [show (-2 : Int) = -((2 : Nat) : Int) from rfl, cut_front _ 2 (by decide), show (us ++ [a, b]).length - 2 = us.length by simp, List.take_left']
    have s1 := same_new (o := .lst us) hq
    have g1 : (upd G q (.lst us)) q = some (.lst us) := upd_same
    generalize upd G q (.lst us) = G1 at s1 g1 ⊢
    have hli1 := s1 _ _ (sG _ _ hli)
    refine ⟨_, rfl, _, rfl, _, rfl, li, _, _, _, rfl, rfl, SqL.of hli1, atI_end2 zs a b, _, rfl, _, rfl, li, _, _, _, rfl, rfl, SqL.of hli1, atI_end1 zs a b, szl, fun p hp => ?_⟩
    have s2 := same_new (o := .tup [.str "let", .str y, a, b]) hp
    have g2 : (upd G1 p (.tup [.str "let", .str y, a, b])) p = some (.tup [.str "let", .str y, a, b]) := upd_same
    generalize upd G1 p (.tup [.str "let", .str y, a, b]) = G2 at s2 g2 ⊢
    refine ⟨szl, fun q2 hq2 => ?_⟩
    have s3 := same_new (o := .lst [.ref p]) hq2
    have g3 : (upd G2 q2 (.lst [.ref p])) q2 = some (.lst [.ref p]) := upd_same
    generalize upd G2 q2 (.lst [.ref p]) = G3 at s3 g3 ⊢
    have sA := s1.trans (s2.trans s3)
    have hl : (us ++ [a, b]).length ≤ n := by rw [P.den.length]; exact Nat.le_trans (length_le_sizes _) P.sz
    rw [List.length_append] at hl
    have e1 := (d1.mono (tl_same sG)).mono (tl_same sA)
    have e2 := (d2.mono (tl_same sG)).mono (tl_same sA)
    refine ⟨q, q2, us, [.ref p], rfl, rfl, s3 _ _ (s2 _ _ g1), g3, by rw [sizeLine_eq]; simp; omega, fun p3 hp3 => ?_⟩
    exact hD _ _ ⟨p3, us ++ [.ref p], ta ++ [.lt y t1 t2], _, _, _, _, _, _, _, _, _, _, rfl, PG.fold (t := .lt y t1 t2) (v := .ref p) sA hp3 (d0.mono (tl_same sG)) ⟨p, a, b, rfl, s3 _ _ g2, e1, e2⟩ ⟨hy, w1, w2⟩ (by simp [T.size, sizes])⟩
    simp
  have rest2 : ∀ (tl : T) (vl : V) (G : Hp), Same H G → Den G tl vl → WT S tl →
      (tSeq (t_dp_10 K) (tAsg (tOp rCat (tSl (rSlL K) (tVar 2) tNoPart (tPart (tUn rNegI (tC (.int 2))))) (tLst (tCons (tTup (tCons (tC (.str "let")) (tCons (tVar 6) (tCons (tOp (rIxL K) (tVar 7) (tUn rNegI (tC (.int 2)))) (tCons (tOp (rIxL K) (tVar 7) (tUn rNegI (tC (.int 1)))) tNil))))) tNil))) (gName 2))) D
        [some (.ref c), some (.ref st), some (.ref l), some (.int cell), some (.int rest), some (.int way), some (.str x), some (.ref li), some vl, j9, j10, j11, j12] G := by
    intro tl vl G sG dl wl
    obtain ⟨pl, ks, rfl, hpl, _⟩ := dl.open
    refine ⟨_, rfl, pl, _, _, _, rfl, rfl, SqT.of hpl, hd_kind tl ks, rfl, _, rfl, ?_⟩
    refine ite2 (fun hk => ?_) (fun hk => ?_)
    · obtain ⟨y, rfl⟩ := kind_name (V.str.inj (of_decide_eq_true hk))
      refine ⟨_, rfl, _, _, rfl, rfl, (show (0 : Int) < 3 by decide), _, _, rfl, rfl, _, rfl, ?_⟩
      refine ite2 (fun _ => ?_) (fun _ => ?_)
      · exact ⟨_, rfl, pl, _, _, _, rfl, rfl, SqT.of hpl, atI_nat (j := 1) rfl, last y _ G wl sG⟩
      · exact last x _ G hx sG
    · exact iteF (last x _ G hx sG)
  obtain ⟨pb, ks, rfl, hpb, _⟩ := d2.open
  refine ⟨_, rfl, _, rfl, li, _, _, _, rfl, rfl, SqL.of hli, atI_end1 zs a _, ?_⟩
  refine ⟨_, rfl, pb, _, _, _, rfl, rfl, SqT.of hpb, hd_kind t2 ks, szl, fun q hq => ?_⟩
  have s1 := same_new (o := .lst [.str "sum", .str "less"]) hq
  have g1 : (upd H q (.lst [.str "sum", .str "less"])) q = some (.lst [.str "sum", .str "less"]) := upd_same
  generalize upd H q (.lst [.str "sum", .str "less"]) = G1 at s1 g1 ⊢
  refine ⟨q, _, rfl, .inl (SqL.of g1), rfl, rfl, _, rfl, ?_⟩
  refine ite2 (fun hk => ?_) (fun hk => ?_)
  · rcases in_sumless hk with ⟨a', b', rfl⟩ | ⟨a', b', rfl⟩
    · obtain ⟨p', u1, u2, e, h3, e1, e2⟩ := d2
      cases e
      exact ⟨_, rfl, pb, _, _, _, rfl, rfl, SqT.of (s1 _ _ h3), rfl, rest2 b' u2 G1 s1 (e2.mono (tl_same s1)) w2.2⟩
    · obtain ⟨p', u1, u2, e, h3, e1, e2⟩ := d2
      cases e
      exact ⟨_, rfl, pb, _, _, _, rfl, rfl, SqT.of (s1 _ _ h3), rfl, rest2 b' u2 G1 s1 (e2.mono (tl_same s1)) w2.2⟩
  · exact rest2 t2 _ G1 s1 (d2.mono (tl_same s1)) w2
/-- the stamp of m pieces -/
theorem stamp_of {S : Str → Nat → Prop} {H : Hp} {nm : Str} {m : Nat} {ws : List V} {tb : List T} {p : Addr} (hm : m ≤ 2) (hS : S nm m) (hl : ws.length = m) (d : DenL H tb ws) (wt : ∀ t ∈ tb, WT S t) (hp : H p = some (.tup ([.str "stamp", .str nm] ++ ws))) :
    ∃ t, Den H t (.ref p) ∧ WT S t ∧ t.size = sizes tb + 1 := by
  cases d with
  | nil =>
    subst hl
    exact ⟨.st0 nm, ⟨p, rfl, hp⟩, hS, rfl⟩
  | @cons t1 v1 tb ws a r =>
    cases r with
    | nil =>
      subst hl
      exact ⟨.st1 nm t1, ⟨p, v1, rfl, hp, a⟩, ⟨hS, wt _ (by simp)⟩, by simp [T.size, sizes]⟩
    | @cons t2 v2 tb ws b r =>
      cases r with
      | nil =>
        subst hl
        exact ⟨.st2 nm t1 t2, ⟨p, v1, v2, rfl, hp, a, b⟩, ⟨hS, wt _ (by simp), wt _ (by simp)⟩, by simp [T.size, sizes]⟩
      | cons _ _ => simp at hl; omega
theorem rd_dp_stamp {xs : List V} (P : Pile S H₀ H n l vs ts) (hn : n ≤ 1000) (hst : H st = some (.lst xs)) (hxs : xs ≠ []) (hS : StampsAt S H xs) (hD : ∀ σ H, DpN S H₀ c st (n + 1) σ H → D.nx σ H) (hD0 : ∀ σ H, DpN S H₀ c st n σ H → D.nx σ H) :
    t_dp_14 K D [some (.ref c), some (.ref st), some (.ref l), some (.int cell), some (.int rest), some (.int way), some (.str x), some (.ref li), j8, j9, j10, j11, j12] H := by
  have hpos : (0 : Int) < (xs.length : Int) := by
    cases xs with
    | nil => exact absurd rfl hxs
    | cons _ _ => simp
  have hr := Int.emod_nonneg rest (Int.ne_of_gt hpos)
  have hr2 := Int.emod_lt_of_pos rest hpos
  obtain ⟨v, hv, e⟩ := atI_mem hr hr2
  obtain ⟨q, nm, m, rfl, hq, hm, hSm⟩ := hS v hv
  refine ⟨_, rfl, _, rfl, _, rfl, st, xs, rfl, .inl (SqL.of hst), _, _, rfl, rfl, hpos, st, xs, _, _, rfl, rfl, SqL.of hst, e, q, _, rfl, SqT.of hq, rfl, _, _, rfl, _, _, rfl, rfl, ?_⟩
  refine ⟨_, rfl, _, rfl, l, vs, rfl, .inl (SqL.of P.at_), _, _, rfl, ?_⟩
  refine ⟨_, rfl, _, rfl, _, rfl, _, rfl, st, xs, rfl, .inl (SqL.of hst), _, _, rfl, rfl, hpos, st, xs, _, _, rfl, rfl, SqL.of hst, e, q, _, _, _, rfl, rfl, SqT.of hq, atI_nat (j := 1) rfl, rfl, _, rfl, ?_⟩
  refine ite2 (fun hk => ?_) (fun hk => ?_)
  · have hk : (if (vs.length : Int) < (m : Int) then (vs.length : Int) else (m : Int)) = m := V.int.inj (of_decide_eq_true hk)
    have hml : m ≤ vs.length := by
      split at hk
      · omega
      · omega
    rw [hk]
    obtain ⟨us, ws, rfl, hws⟩ : ∃ us ws, vs = us ++ ws ∧ ws.length = m := ⟨vs.take (vs.length - m), vs.drop (vs.length - m), (List.take_append_drop _ _).symm, by rw [List.length_drop]; omega⟩
    obtain ⟨ta, tb, rfl, d0, d1⟩ := P.den.split
    have hel : ((us ++ ws).length : Int) - (m : Int) = ((us.length : Nat) : Int) := by rw [List.length_append]; omega
    have hl : (us ++ ws).length ≤ n := by rw [P.den.length]; exact Nat.le_trans (length_le_sizes _) P.sz
    rw [List.length_append] at hl
    refine ⟨_, rfl, szl, fun q1 hq1 => ?_⟩
    have s1 := same_new (o := .lst [.str "stamp", .str nm]) hq1
    have g1 : (upd H q1 (.lst [.str "stamp", .str nm])) q1 = some (.lst [.str "stamp", .str nm]) := upd_same
    generalize upd H q1 (.lst [.str "stamp", .str nm]) = G1 at s1 g1 ⊢
    refine ⟨_, rfl, _, rfl, l, _, rfl, .inl (SqL.of (s1 _ _ P.at_)), _, rfl, _, _, rfl, rfl, _, rfl, l, _, rfl, SqL.of (s1 _ _ P.at_), fun q2 hq2 => ?_⟩
    rw [hel, cut_from _ _ (by simp), List.drop_left']
    have s2 := same_new (o := .lst ws) hq2
    have g2 : (upd G1 q2 (.lst ws)) q2 = some (.lst ws) := upd_same
    generalize upd G1 q2 (.lst ws) = G2 at s2 g2 ⊢
    refine ⟨q1, q2, _, _, rfl, rfl, s2 _ _ g1, g2, by rw [sizeLine_eq]; simp; omega, fun q3 hq3 => ?_⟩
    have s3 := same_new (o := .lst ([.str "stamp", .str nm] ++ ws)) hq3
    have g3 : (upd G2 q3 (.lst ([.str "stamp", .str nm] ++ ws))) q3 = some (.lst ([.str "stamp", .str nm] ++ ws)) := upd_same
    generalize upd G2 q3 (.lst ([.str "stamp", .str nm] ++ ws)) = G3 at s3 g3 ⊢
    refine ⟨q3, _, rfl, .inl ⟨SqL.of g3, fun q4 hq4 => ?_⟩⟩
    have s4 := same_new (o := .tup ([.str "stamp", .str nm] ++ ws)) hq4
    have g4 : (upd G3 q4 (.tup ([.str "stamp", .str nm] ++ ws))) q4 = some (.tup ([.str "stamp", .str nm] ++ ws)) := upd_same
    generalize upd G3 q4 (.tup ([.str "stamp", .str nm] ++ ws)) = G4 at s4 g4 ⊢
    have sB := (s1.trans s2).trans (s3.trans s4)
    refine ⟨_, rfl, _, rfl, l, _, rfl, .inl (SqL.of (sB _ _ P.at_)), _, rfl, _, _, rfl, rfl, _, rfl, l, _, rfl, SqL.of (sB _ _ P.at_), fun q5 hq5 => ?_⟩
    rw [hel, cut_to _ _ (by simp), List.take_left']
    have s5 := same_new (o := .lst us) hq5
    have g5 : (upd G4 q5 (.lst us)) q5 = some (.lst us) := upd_same
    generalize upd G4 q5 (.lst us) = G5 at s5 g5 ⊢
    refine ⟨_, rfl, szl, fun q6 hq6 => ?_⟩
    have s6 := same_new (o := .lst [.ref q4]) hq6
    have g6 : (upd G5 q6 (.lst [.ref q4])) q6 = some (.lst [.ref q4]) := upd_same
    generalize upd G5 q6 (.lst [.ref q4]) = G6 at s6 g6 ⊢
    have sA := sB.trans (s5.trans s6)
    obtain ⟨t, dt, wt, hs⟩ := stamp_of hm hSm hws (d1.mono (tl_same sA)) (fun t ht => P.wt t (List.mem_append_right _ ht)) (s6 _ _ (s5 _ _ g4))
    refine ⟨q5, q6, us, [.ref q4], rfl, rfl, s6 _ _ g5, g6, by rw [sizeLine_eq]; simp; omega, fun p3 hp3 => ?_⟩
    exact hD _ _ ⟨p3, us ++ [.ref q4], ta ++ [t], _, _, _, _, _, _, _, _, _, _, rfl, P.fold sA hp3 d0 dt wt hs⟩
    all_goals rfl
  · exact hD0 _ _ ⟨l, vs, ts, _, _, _, _, _, _, _, _, _, _, rfl, P⟩
end
end SW

set_option Elab.async false
set_option linter.all false
set_option maxRecDepth 100000
set_option maxHeartbeats 4000000
namespace SW
open PySem L2
variable {K : PySem.W.Frag} {vs : List V} {H : Hp} {Q : VK} {E : XK}
theorem two_ends {α : Type} : ∀ {l : List α}, 2 ≤ l.length → ∃ us a b, l = us ++ [a, b] := fun {l} h => by
  have hne : l ≠ [] := by intro e; subst e; simp at h
  obtain ⟨us, b, rfl⟩ := snoc_of_ne hne
  have hne : us ≠ [] := by intro e; subst e; simp at h
  obtain ⟨us, a, rfl⟩ := snoc_of_ne hne
  exact ⟨us, a, b, by simp⟩
theorem three_ends {α : Type} : ∀ {l : List α}, 3 ≤ l.length → ∃ us a b c, l = us ++ [a, b, c] := fun {l} h => by
  have hne : l ≠ [] := by intro e; subst e; simp at h
  obtain ⟨us, c, rfl⟩ := snoc_of_ne hne
  obtain ⟨us, a, b, rfl⟩ := two_ends (l := us) (by simp at h; omega)
  exact ⟨us, a, b, c, by simp⟩
section
variable {S : Str → Nat → Prop} {H₀ : Hp} {n : Nat} {l c st li : Addr} {ts : List T} {D : Ends} {cell rest way : Int} {x : Str} {j8 j9 j10 j11 j12 : Option V}
theorem rd_dp_if {xs : List V} (P : Pile S H₀ H n l vs ts) (hn : n ≤ 1000) (hli : H li = some (.lst (vs.drop (vs.length - 3)))) (hw : 0 ≤ way ∧ way < 9) (hx : Wd x) (hst : H st = some (.lst xs)) (hS : StampsAt S H xs)
    (hD : ∀ σ H, DpN S H₀ c st (n + 1) σ H → D.nx σ H) :
    t_dp_20 K D [some (.ref c), some (.ref st), some (.ref l), some (.int cell), some (.int rest), some (.int way), some (.str x), some (.ref li), j8, j9, j10, j11, j12] H := by
  have hD0 : ∀ σ H, DpN S H₀ c st n σ H → D.nx σ H := fun σ H h => hD σ H (by
    obtain ⟨l, vs, ts, j3, j4, j5, j6, j7, j8, j9, j10, j11, j12, e, P⟩ := h
    exact ⟨l, vs, ts, j3, j4, j5, j6, j7, j8, j9, j10, j11, j12, e, P.same, P.new, P.at_, P.den, by have := P.sz; omega, P.one, P.wt⟩)
  have hlen : (vs.drop (vs.length - 3)).length = min 3 vs.length := by rw [List.length_drop]; omega
  have h1 : 1 ≤ vs.length := by
    rw [P.den.length]
    cases ts with
    | nil => exact absurd rfl P.one
    | cons _ _ => simp
  -- two at the end
  have two : 2 ≤ vs.length → ∃ us a b ta t1 t2, vs = us ++ [a, b] ∧ ts = ta ++ [t1, t2] ∧ DenL H ta us ∧ Den H t1 a ∧ Den H t2 b ∧ ∃ zs, vs.drop (vs.length - 3) = zs ++ [a, b] := fun h2 => by
    obtain ⟨us, a, b, rfl⟩ := two_ends h2
    obtain ⟨ta, tb, rfl, d0, d1⟩ := P.den.split
    cases d1 with
    | cons e1 r =>
    cases r with
    | cons e2 r =>
    cases r
    refine ⟨us, a, b, ta, _, _, rfl, rfl, d0, e1, e2, us.drop (us.length - 1), ?_⟩
    rw [show (us ++ [a, b]).length - 3 = us.length - 1 by simp, List.drop_append_of_le_length (by omega)]
  have other : way ≠ 0 → ((vs.drop (vs.length - 3)).length = 1 → ¬ (2 < way ∧ way < 7)) →
      t_dp_19 K D [some (.ref c), some (.ref st), some (.ref l), some (.int cell), some (.int rest), some (.int way), some (.str x), some (.ref li), j8, j9, j10, j11, j12] H := by
    intro h0 hno
    have hge : 2 < way → way < 7 → 2 ≤ vs.length := fun a b => by
      rcases Nat.lt_or_ge vs.length 2 with z | z
      · exact absurd ⟨a, b⟩ (hno (by rw [hlen]; omega))
      · exact z
    refine ⟨_, rfl, _, _, rfl, rfl, _, rfl, ?_⟩
    refine ite2 (fun h3 => rd_dp_name P hn hx hD) (fun h3 => ?_)
    have h3 : ¬ way < 3 := fun z => h3 (decide_eq_true z)
    have low : t_dp_17 K D [some (.ref c), some (.ref st), some (.ref l), some (.int cell), some (.int rest), some (.int way), some (.str x), some (.ref li), j8, j9, j10, j11, j12] H := by
      refine ⟨_, rfl, _, _, rfl, rfl, _, rfl, ?_⟩
      refine ite2 (fun h6 => ?_) (fun h6 => ?_)
      · have h6 : way < 6 := of_decide_eq_true h6
        obtain ⟨us, a, b, ta, t1, t2, rfl, rfl, d0, d1, d2, zs, ez⟩ := two (hge (by omega) (by omega))
        rw [ez] at hli
        exact rd_dp_sum P hn d0 d1 d2 hli hD
      · have h6 : ¬ way < 6 := fun z => h6 (decide_eq_true z)
        refine ⟨_, rfl, rfl, _, rfl, ?_⟩
        refine ite2 (fun h7 => ?_) (fun h7 => ?_)
        · have h7 : way = 6 := V.int.inj (of_decide_eq_true h7)
          obtain ⟨us, a, b, ta, t1, t2, rfl, rfl, d0, d1, d2, zs, ez⟩ := two (hge (by omega) (by omega))
          rw [ez] at hli
          exact rd_dp_let P hn d0 d1 d2 hli hx hD
        · refine ⟨_, rfl, szl, fun e he => ?_⟩
          have s1 := same_new (o := .lst []) he
          have g1 : (upd H e (.lst [])) e = some (.lst []) := upd_same
          generalize upd H e (.lst []) = G at s1 g1 ⊢
          refine ⟨st, e, xs, rfl, rfl, SqL.of (s1 _ _ hst), SqL.of g1, _, rfl, ?_⟩
          have hSG : StampsAt S G xs := fun v hv => by
            obtain ⟨q, nm, m, e1, e2, e3⟩ := hS v hv
            exact ⟨q, nm, m, e1, s1 _ _ e2, e3⟩
          refine ite2 (fun hk => ?_) (fun hk => ?_)
          · exact rd_dp_stamp (P.mono s1) hn (s1 _ _ hst) (by intro z; subst z; cases hk) hSG hD hD0
          · exact hD0 _ _ ⟨l, vs, ts, _, _, _, _, _, _, _, _, _, _, rfl, P.mono s1⟩
    refine ⟨_, rfl, rfl, _, rfl, ?_⟩
    refine ite2 (fun h5 => ?_) (fun h5 => iteF low)
    refine ⟨_, rfl, li, _, rfl, .inl (SqL.of hli), rfl, _, rfl, ?_⟩
    refine ite2 (fun hl3 => ?_) (fun hl3 => low)
    have hl3 : (((vs.drop (vs.length - 3)).length : Nat) : Int) = 3 := V.int.inj (of_decide_eq_true hl3)
    obtain ⟨us, a, b, d, rfl⟩ := three_ends (l := vs) (by omega)
    obtain ⟨ta, tb, rfl, d0, d1⟩ := P.den.split
    cases d1 with
    | cons e1 r =>
    cases r with
    | cons e2 r =>
    cases r with
    | cons e3 r =>
    cases r
    rw [show (us ++ [a, b, d]).length - 3 = us.length by simp, List.drop_left'] at hli
    exact rd_dp_choose P hn d0 e1 e2 e3 hli hD
    rfl
  refine ⟨_, rfl, rfl, _, rfl, ?_⟩
  refine ite2 (fun h0 => iteT (rd_dp_number P hn hD)) (fun h0 => ?_)
  have h0 : way ≠ 0 := fun z => h0 (by rw [z]; exact decide_eq_true rfl)
  refine ⟨_, rfl, li, _, rfl, .inl (SqL.of hli), rfl, _, rfl, ?_⟩
  refine ite2 (fun hl1 => ?_) (fun hl1 => ?_)
  · refine ⟨_, rfl, _, _, rfl, rfl, _, rfl, ?_⟩
    refine ite2 (fun h2 => ⟨_, _, rfl, rfl, _, rfl, ?_⟩) (fun h2 => ⟨_, rfl, ?_⟩)
    · refine ite2 (fun _ => rd_dp_number P hn hD) (fun h7 => ?_)
      exact other h0 fun _ z => h7 (decide_eq_true z.2)
    · exact iteF (other h0 fun _ z => h2 (decide_eq_true z.1))
  · refine iteF (other h0 fun z => ?_)
    exact absurd (decide_eq_true (congrArg V.int (by rw [z]; rfl))) hl1
/-- one turn -/
theorem rd_dp_turn {xs : List V} {j4 j5 j6 j7 : Option V} (P : Pile S H₀ H n l vs ts) (hn : n ≤ 1000) (hst : H st = some (.lst xs)) (hS : StampsAt S H xs) (hD : ∀ σ H, DpN S H₀ c st (n + 1) σ H → D.nx σ H) :
    t_dp_21 K D [some (.ref c), some (.ref st), some (.ref l), some (.int cell), j4, j5, j6, j7, j8, j9, j10, j11, j12] H := by
  refine ⟨_, rfl, _, _, rfl, rfl, ⟨by decide, by decide⟩, _, rfl, _, _, rfl, rfl, (show (0 : Int) < 9 by decide), szl, fun q hq => ?_⟩
  have hw : 0 ≤ cell % 9 ∧ cell % 9 < 9 := by omega
  have s1 := same_new (o := .lst [.str "sab", .str "tab", .str "sob", .str "sat"]) hq
  have g1 : (upd H q (.lst [.str "sab", .str "tab", .str "sob", .str "sat"])) q = some (.lst [.str "sab", .str "tab", .str "sob", .str "sat"]) := upd_same
  generalize upd H q (.lst [.str "sab", .str "tab", .str "sob", .str "sat"]) = G at s1 g1 ⊢
  have h4 : 0 ≤ (cell / 9) % 4 ∧ (cell / 9) % 4 < 4 := by omega
  obtain ⟨v, hv, e⟩ := atI_mem (xs := [V.str "sab", V.str "tab", V.str "sob", V.str "sat"]) h4.1 h4.2
  obtain ⟨x, rfl, hx⟩ := wd_menu hv
  refine ⟨_, rfl, _, _, rfl, rfl, (show (0 : Int) < 4 by decide), q, _, _, _, rfl, rfl, SqL.of g1, e, ?_⟩
  have PG := P.mono s1
  have hSG : ∀ {G'}, Same G G' → StampsAt S G' xs := fun {G'} s v hv => by
    obtain ⟨q, nm, m, e1, e2, e3⟩ := hS v hv
    exact ⟨q, nm, m, e1, s _ _ (s1 _ _ e2), e3⟩
  have go : ∀ y, Wd y → (tSeq (tAsg (tSl (rSlL K) (tVar 2) (tPart (tUn rNegI (tC (.int 3)))) tNoPart) (gName 7)) (t_dp_20 K)) D [some (.ref c), some (.ref st), some (.ref l), some (.int cell), some (.int (cell / 9)), some (.int (cell % 9)), some (.str y), j7, j8, j9, j10, j11, j12] G := by
    intro y hy
    refine ⟨_, rfl, _, rfl, _, rfl, l, vs, rfl, SqL.of PG.at_, fun li hli => ?_⟩
    rw [show (-3 : Int) = -((3 : Nat) : Int) from rfl, cut_back _ 3 (by decide)]
    have s2 := same_new (o := .lst (vs.drop (vs.length - 3))) hli
    exact rd_dp_if (PG.mono s2) hn upd_same hw hy (s2 _ _ (s1 _ _ hst)) (hSG s2) hD
  refine ⟨_, rfl, _, _, rfl, rfl, (show (0 : Int) < 29 by decide), rfl, _, rfl, ?_⟩
  refine ite2 (fun _ => ?_) (fun _ => go x hx)
  refine ⟨_, rfl, _, _, rfl, rfl, ⟨by decide, by decide⟩, _, rfl, fun y hy => ?_⟩
  refine ⟨_, _, rfl, rfl, ?_, go _ (wd_k hy.1 hy.2)⟩
  have : (("k" : Str)).length = 1 := by decide +kernel
  have := hy.2
  rw [sizeLine_eq]; omega
/-- the sums at the end -/
structure Tail (S : Str → Nat → Prop) (H₀ H : Hp) (n : Nat) (l : Addr) (vs : List V) (ts : List T) : Prop where
  same : Same H₀ H
  new : H₀ l = none
  at_ : H l = some (.lst vs)
  den : DenL H ts vs
  sz : sizes ts + ts.length ≤ 2 * n
  nm : namesAll ts ≤ n
  one : ts ≠ []
  wt : ∀ t ∈ ts, WT S t
theorem namesAll_le : ∀ ts : List T, namesAll ts ≤ sizes ts
  | [] => Nat.le_refl _
  | t :: ts => by
    have h := namesAll_le ts
    have h2 := t.names_len
    simp only [namesAll, sizes, List.map_cons, List.sum_cons] at *
    omega
theorem rd_dp (h : spDrawn K S vs H Q E) : t_dp K (fin Q) (start ["_law_cells", "_law_stamps", "_law_pile", "_law_cell", "_law_rest", "_law_way", "_law_word", "_law_inner", "_law_look", "_law_name", "_law_many", "_law_made", "_law_last"] vs) H := by
  obtain ⟨c, st, ns, xs, rfl, hc, hns, hst, hxl, hS, k⟩ := h
  refine ⟨szl, fun p hp => ⟨szl, fun l hl => ?_⟩⟩
  have s1 := same_new (o := .tup [.str "name", .str "sab"]) hp
  have s2 := same_new (o := .lst [.ref p]) hl
  have P0 : Pile S H (upd (upd H p (.tup [.str "name", .str "sab"])) l (.lst [.ref p])) 1 l [.ref p] [.name "sab"] :=
    ⟨s1.trans s2, s1.free hl, upd_same, .cons ⟨p, rfl, s2 _ _ upd_same⟩ .nil, by simp [sizes, T.size], by simp, fun t ht => by rw [List.mem_singleton] at ht; subst ht; exact wd_sab⟩
  refine ⟨_, rfl, c, rfl, ⟨_, (s1.trans s2).seq hc⟩, for_list (K := K) (a := c) (xs := ns.map V.int) (fun i σ H2 => DpN S H c st (i + 1) σ H2) ⟨l, _, _, _, _, _, _, _, _, _, _, _, _, rfl, P0⟩ (fun i σ H2 _ hN => ?_) ?_ ?_⟩
  · obtain ⟨l, vs, ts, j3, j4, j5, j6, j7, j8, j9, j10, j11, j12, e, P⟩ := hN
    exact P.same.seq hc
  · rintro i y σ H2 hi ⟨l, vs, ts, j3, j4, j5, j6, j7, j8, j9, j10, j11, j12, rfl, P⟩
    have hil : i < (ns.map V.int).length := (List.getElem?_eq_some_iff.mp hi).1
    rw [List.length_map] at hil
    obtain ⟨z, rfl⟩ : ∃ z, y = V.int z := by
      rw [List.getElem?_map] at hi
      cases e : ns[i]? with
      | none => rw [e] at hi; cases hi
      | some z => rw [e] at hi; exact ⟨z, (Option.some.inj hi).symm⟩
    refine rd_dp_turn P (by omega) (P.same _ _ hst) (fun v hv => ?_) (fun σ H h => h)
    obtain ⟨q, nm, m, e1, e2, e3⟩ := hS v hv
    exact ⟨q, nm, m, e1, P.same _ _ e2, e3⟩
  · rintro σ H2 ⟨l, vs, ts, j3, j4, j5, j6, j7, j8, j9, j10, j11, j12, rfl, P⟩
    rw [List.length_map] at P
    refine ⟨fun m σ H' => ∃ l vs ts j3 j4 j5 j6 j7 j8 j9 j10 j11 j12, σ = [some (.ref c), some (.ref st), some (.ref l), j3, j4, j5, j6, j7, j8, j9, j10, j11, j12] ∧ Tail S H H' (ns.length + 1) l vs ts ∧ m = ts.length, ⟨_, l, vs, ts, _, _, _, _, _, _, _, _, _, _, rfl, ?_, rfl⟩, ?_⟩
    · refine ⟨P.same, P.new, P.at_, P.den, ?_, ?_, P.one, P.wt⟩
      · have := length_le_sizes ts; have := P.sz; omega
      · have := namesAll_le ts; have := P.sz; omega
    · clear P j3 j4 j5 j6 j7 j8 j9 j10 j11 j12
      rintro m σ H3 ⟨l, vs, ts, j3, j4, j5, j6, j7, j8, j9, j10, j11, j12, rfl, A, rfl⟩
      refine ⟨_, rfl, l, vs, rfl, .inl (SqL.of A.at_), _, _, rfl, rfl, _, rfl, ?_⟩
      refine ite2 (fun h1 => ?_) (fun h1 => ?_)
      · have h1 : (1 : Int) < (vs.length : Int) := of_decide_eq_true h1
        obtain ⟨us, a, b, rfl⟩ := two_ends (l := vs) (by omega)
        obtain ⟨ta, tb, rfl, d0, d1⟩ := A.den.split
        cases d1 with
        | @cons t1 _ _ _ e1 r =>
        cases r with
        | @cons t2 _ _ _ e2 r =>
        cases r
        refine ⟨fun σ' H' => ∃ m', m' < (ta ++ [t1, t2]).length ∧ ∃ l vs ts j3 j4 j5 j6 j7 j8 j9 j10 j11 j12, σ' = [some (.ref c), some (.ref st), some (.ref l), j3, j4, j5, j6, j7, j8, j9, j10, j11, j12] ∧ Tail S H H' (ns.length + 1) l vs ts ∧ m' = ts.length, fun _ _ h => h, ?_⟩
        have ha := A.at_
        rw [show us ++ [a, b] = (us ++ [a]) ++ [b] by simp] at ha
        refine ⟨_, rfl, .inl ⟨rfl, _, SqL.of ha⟩, l, _, _, rfl, rfl, ha, pop_at, ?_⟩
        rw [drop_at]
        have tl1 := tl_lst (o := .lst (us ++ [a])) ha
        have sO := same_old (o := .lst (us ++ [a])) A.same A.new
        have g1 : (upd H3 l (.lst (us ++ [a]))) l = some (.lst (us ++ [a])) := upd_same
        generalize upd H3 l (.lst (us ++ [a])) = G1 at tl1 sO g1 ⊢
        refine ⟨_, rfl, .inl ⟨rfl, _, SqL.of g1⟩, _, rfl, .inl ⟨rfl, _, SqL.of g1⟩, l, _, _, rfl, rfl, g1, pop_at, ?_⟩
        rw [drop_at]
        have tl2 := tl_lst (o := .lst us) g1
        have sO2 := same_old (o := .lst us) sO A.new
        have g2 : (upd G1 l (.lst us)) l = some (.lst us) := upd_same
        generalize upd G1 l (.lst us) = G2 at tl2 sO2 g2 ⊢
        refine ⟨_, rfl, szl, fun p hp => ?_⟩
        have s3 := same_new (o := .tup [.str "sum", a, b]) hp
        have g3 : (upd G2 p (.tup [.str "sum", a, b])) p = some (.tup [.str "sum", a, b]) := upd_same
        generalize upd G2 p (.tup [.str "sum", a, b]) = G3 at s3 g3 ⊢
        have hlen := d0.length
        have hsz := A.sz
        rw [sizes_append, List.length_append] at hsz
        have hq := length_le_sizes ta
        have tl4 := tl_lst (o := .lst (us ++ [.ref p])) (s3 _ _ g2)
        have tlA := tl1.trans (tl2.trans ((tl_same s3).trans tl4))
        refine ⟨l, us, .ref p, rfl, rfl, s3 _ _ g2, by rw [sizeLine_eq]; omega, (ta ++ [T.sum t1 t2]).length, by simp, l, us ++ [.ref p], ta ++ [T.sum t1 t2], _, _, _, _, _, _, _, _, _, _, rfl, ⟨same_old (sO2.trans s3) A.new, A.new, upd_same, (d0.mono tlA).append (.cons (show Den _ (T.sum t1 t2) (.ref p) from ⟨p, a, b, rfl, tl4 _ _ g3, e1.mono tlA, e2.mono tlA⟩) .nil), ?_, ?_, by simp, fun t ht => ?_⟩, rfl⟩
        · rw [sizes_append, List.length_append]
          simp [sizes, T.size] at hsz ⊢
          omega
        · have := A.nm
          rw [namesAll_append] at this ⊢
          simp [namesAll, T.names] at this ⊢
          omega
        · rcases List.mem_append.mp ht with z | z
          · exact A.wt t (List.mem_append_left _ z)
          · rw [List.mem_singleton] at z
            subst z
            exact ⟨A.wt _ (by simp), A.wt _ (by simp)⟩
      · have h1 : ¬ (1 : Int) < (vs.length : Int) := fun z => h1 (decide_eq_true z)
        have hlen := A.den.length
        obtain ⟨t, rfl⟩ : ∃ t, ts = [t] := by
          cases ts with
          | nil => exact absurd rfl A.one
          | cons t ts =>
            cases ts with
            | nil => exact ⟨t, rfl⟩
            | cons _ _ => simp at hlen; omega
        obtain ⟨v, rfl⟩ : ∃ v, vs = [v] := by
          cases A.den with
          | cons a r => cases r; exact ⟨_, rfl⟩
        have d1 : Den H3 t v := by cases A.den with | cons a r => exact a
        have hsz := A.sz
        have hnm := A.nm
        refine ⟨_, rfl, l, _, _, _, rfl, rfl, SqL.of A.at_, rfl, k t v H3 A.same d1 (A.wt t (by simp)) ?_ ?_⟩
        · simp [sizes] at hsz; omega
        · simp [namesAll] at hnm; omega
end
theorem rd_main (h : spMain K vs H Q E) : t_main K SMain (fin Q) (start ["_law_cells"] vs) H := by
  obtain ⟨c, ns, rfl, hc, hns, k⟩ := h
  refine ⟨_, rfl, szl, fun q1 h1 => ⟨szl, fun q2 h2 => ⟨szl, fun q3 h3 => ⟨szl, fun q4 h4 => ⟨szl, fun l hl => ?_⟩⟩⟩⟩⟩
  have s1 := same_new (o := .tup [.str "st", .int 2]) h1
  have g1 : (upd H q1 (.tup [.str "st", .int 2])) q1 = some (.tup [.str "st", .int 2]) := upd_same
  generalize upd H q1 (.tup [.str "st", .int 2]) = G1 at *
  have s2 := same_new (o := .tup [.str "sta", .int 1]) h2
  have g2 : (upd G1 q2 (.tup [.str "sta", .int 1])) q2 = some (.tup [.str "sta", .int 1]) := upd_same
  generalize upd G1 q2 (.tup [.str "sta", .int 1]) = G2 at *
  have s3 := same_new (o := .tup [.str "st", .int 2]) h3
  have g3 : (upd G2 q3 (.tup [.str "st", .int 2])) q3 = some (.tup [.str "st", .int 2]) := upd_same
  generalize upd G2 q3 (.tup [.str "st", .int 2]) = G3 at *
  have s4 := same_new (o := .tup [.str "star", .int 0]) h4
  have g4 : (upd G3 q4 (.tup [.str "star", .int 0])) q4 = some (.tup [.str "star", .int 0]) := upd_same
  generalize upd G3 q4 (.tup [.str "star", .int 0]) = G4 at *
  have s5 := same_new (o := .lst [.ref q1, .ref q2, .ref q3, .ref q4]) hl
  have g5 : (upd G4 l (.lst [.ref q1, .ref q2, .ref q3, .ref q4])) l = some (.lst [.ref q1, .ref q2, .ref q3, .ref q4]) := upd_same
  generalize upd G4 l (.lst [.ref q1, .ref q2, .ref q3, .ref q4]) = G5 at *
  have sA := (s1.trans s2).trans ((s3.trans s4).trans s5)
  refine ⟨c, l, ns, _, rfl, sA.seq hc, hns, g5, by simp, fun x hx => ?_, fun t v H' s d w a b => k t v H' (sA.trans s) d w a b⟩
  rcases List.mem_cons.mp hx with rfl | hx
  · exact ⟨q1, "st", 2, rfl, s5 _ _ (s4 _ _ (s3 _ _ (s2 _ _ g1))), by decide, .inl ⟨rfl, rfl⟩⟩
  rcases List.mem_cons.mp hx with rfl | hx
  · exact ⟨q2, "sta", 1, rfl, s5 _ _ (s4 _ _ (s3 _ _ g2)), by decide, .inr (.inl ⟨rfl, rfl⟩)⟩
  rcases List.mem_cons.mp hx with rfl | hx
  · exact ⟨q3, "st", 2, rfl, s5 _ _ (s4 _ _ g3), by decide, .inl ⟨rfl, rfl⟩⟩
  rcases List.mem_cons.mp hx with rfl | hx
  · exact ⟨q4, "star", 0, rfl, s5 _ _ g4, by decide, .inr (.inr ⟨rfl, rfl⟩)⟩
  · cases hx
end SW

set_option Elab.async false
set_option maxRecDepth 100000
set_option maxHeartbeats 4000000
namespace L2
open PySem PySem.Spec PyProof.Rows
/-! ### an exception on its way -/

section
variable {X : Cx} {pins : List (Addr × Obj)} {σ : St} {H H' : Hp} {s s' : Shared} {ea : Addr} {cls a0 : Value} {B : Heap}
end

section
variable {P : Program} {w : World} {K : PySem.W.Frag} {mg : Str → Option Value} {base : Heap} {N : List Str} {qual : Str} {scope : Scope} {f : Addr} {cd : Value} {A : Around} {outer : List Env} {s : Shared} {H : Hp} {E E' : XK}

end
end L2

set_option Elab.async false
set_option maxRecDepth 100000
set_option maxHeartbeats 4000000
namespace L2
open PySem PySem.Spec PyProof.Rows
/-! ### try -/
section
variable {X : Cx} {pins : List (Addr × Obj)} {σ : St} {H H' : Hp} {s s' : Shared} {ea : Addr} {oe : Obj} {cls a0 : Value} {B : Heap}

end

section
variable {X : Cx} {k : Nat} {f : Addr} {fd : FuncData} {ps : List Str} {sp : Sp} {x : Str} {p pos cpos : Pos} {e : Expr} {es : List Expr} {t : TA}
end

section
variable {X : Cx} {st b₀ : Stmt} {suite : List Stmt} {c : Str} {C : Addr} {np hpos pos : Pos} {tb : (St → XK) → TS} {th : TS}
end
end L2

set_option Elab.async false
set_option maxRecDepth 100000
set_option maxHeartbeats 4000000
namespace PySem.W
open PySem PySem.Spec PySem.Calls PyProof.Rows Builtin Builtin.ObjectAttr Builtin.Getset_descriptor
section
variable {prog : Program} {w : World} {A : Around} {E : Value → Shared → Prop} {K : Frag} {h : Heap} {g : Array GenState} {d : Drawn} {t : Nat} {os : OsState} {a D : Addr} {o : Obj}

end
end PySem.W
namespace L2
open PySem PySem.Spec PyProof.Rows
section
variable {X : Cx} {ea : Addr} {oe : Obj} {D : Addr}

end
section
variable {X : Cx} {pins : List (Addr × Obj)} {σ : St} {H : Hp} {s : Shared}
end
section
variable {X : Cx} {st b₀ : Stmt} {suite : List Stmt} {c n : Str} {C CN : Addr} {j : Nat} {np hpos pos : Pos} {tb : (St → XK) → TS} {th : Addr → TS}
end
end L2

set_option Elab.async false
set_option maxRecDepth 100000
set_option maxHeartbeats 4000000
namespace L2
open PySem PySem.Spec PyProof.Rows
/-! ### for x in reversed(list) -/
/-- the list at a, of n items, from its end -/
def Itrev (K : PySem.W.Frag) (a : Addr) (n : Nat) : It :=
  ⟨fun i H => i < n ∧ ∃ xs x, SqL K H a xs ∧ xs.length = n ∧ xs[n - 1 - i]? = some x, fun i H x H' => H' = H ∧ ∀ xs, SqL K H a xs → xs[n - 1 - i]? = some x, fun i _ => i = n⟩
theorem turn_rev {P : Program} {w : World} {K : PySem.W.Frag} {tg : Expr} (a it : Addr) (n : Nat) : Turn P w K tg (Itrev K a n) [it] it (fun i h => h.IsRevIter it a ((n : Int) - 1 - i)) where
  mem := by simp
  obj := fun i h st b hb => by
    have e : b = it := by simpa using hb
    subst e
    obtain ⟨o, e, c, d⟩ := st
    exact ⟨o, e, fun v z => by rw [d] at z; cases z⟩
  keep := fun i h h' st k => st.at fun o e => k it (by simp) o e
  item := by
    intro X hP hw hK hc i pins s σ H E I hf st hg
    subst hP hw hK
    obtain ⟨hi, xs, x, hq, hl, hx⟩ := hg
    obtain ⟨its, rv, p, hz⟩ := I.list hq
    obtain ⟨u, hu, ru⟩ := rv.get hx
    obtain ⟨f0, f1, f2, f3, f4, f5⟩ := hf it (by simp)
    have e1 : (n : Int) - 1 - i = ((n - 1 - i : Nat) : Int) := by omega
    have st1 : s.heap.IsRevIter it a ((n - 1 - i : Nat) : Int) := by rw [← e1]; exact st
    refine wpAny_pyNext_rev_item st1 p.isList (x := u) (by simpa using hu) fun h' st' sb => ?_
    have I1 : Inv X pins σ H { s with heap := h' } := I.turned (t' := s.toks) (fun b o hb e => (sb.2 b hb).trans e) f0 f1 f3 f4 f5
    obtain ⟨o, e, c, d⟩ := id st'
    have e2 : ((n - 1 - i : Nat) : Int) - 1 = (n : Int) - 1 - (i + 1 : Nat) := by omega
    exact ⟨u, rfl, go_of (s := { s with heap := h' }) e c d (by decide) ⟨x, H, I1, ru, ⟨rfl, fun ys hy => by rw [I.list_inj hy hq]; exact hx⟩, by rw [← e2]; exact st', fun b hb => (hf b hb).1⟩⟩
  done := by
    intro X hP hw hK hc i pins s σ H E I hf st hg
    subst hP hw hK
    obtain rfl : i = n := hg
    obtain ⟨f0, f1, f2, f3, f4, f5⟩ := hf it (by simp)
    have st1 : s.heap.IsRevIter it a (-1) := (show (i : Int) - 1 - i = -1 by omega) ▸ st
    exact wpAny_pyNext_rev_end (I.ok.hd hc) st1 fun h' eb => ⟨rfl, I.turned (t' := s.toks) (fun b o hb e => eb b o hb e) f0 f1 f3 f4 f5⟩
  self := fun _ _ _ _ _ st h => wpAny_pyIter_revIter st h
def iRev (K : PySem.W.Frag) (tl : TE) : TI := fun σ H R => tl σ H fun x H1 => ∃ a xs, [x] = [V.ref a] ∧ SqL K H1 a xs ∧ R (Itrev K a xs.length) H1
theorem bo_reversed : bootBuiltins "reversed" = some (.type "reversed") := by decide +kernel
section
variable {X : Cx} {tg : Expr}
theorem pi_rev {l : Expr} {tl : TE} {np pos : Pos} (hg : Gl X "reversed") (hm : X.mg "reversed" = none) (hl : PE X l tl) (he : starEach [l] X.env = [(false, eval l X.env)] := by rfl) : PI X tg (.Call (.Name "reversed" np) [l] [] pos) (iRev X.K tl) := by
  intro pins s σ H R I h
  refine wpAny_Call_Name_kw (ld_blt I hg hm bo_reversed ?_)
  have he' : starEach (l :: []) X.env = (false, eval l X.env) :: starEach [] X.env := he
  refine PyProof.Rows.callWith_type1 (thn ((pa_cons hl pa_nil he' : PA X [l] (tCons tl tNil)) pos pins s σ H (fun vs H1 => ∃ a xs, vs = [V.ref a] ∧ SqL X.K H1 a xs ∧ R (Itrev X.K a xs.length) H1) I h) fun us s1 ⟨vs, H1, I1, r1, q1⟩ => ?_) he' (by rfl)
  · obtain ⟨a, xs, rfl, hq, q⟩ := q1
    obtain ⟨u, rfl, ru⟩ := vals1 r1
    cases ru
    obtain ⟨its, rv, p, hz⟩ := I1.list hq
    refine call_reversed_list p.isList ?_
    refine wpAny_pyIter_revIter (l := a) (i := (xs.length : Int) - 1) ⟨_, Heap.get?_push_size _ rfl, rfl, by simp [revObj, rv.length]⟩ ?_
    refine ⟨s1.heap.objs.size, [s1.heap.objs.size], _, _, H1, rfl, I1.kept (t' := s1.toks) fun b o e => Heap.get?_push_of_some _ e, turn_rev a _ xs.length, ⟨_, Heap.get?_push_size _ rfl, rfl, by simp [revObj, rv.length]⟩, fun b hb => ?_, q⟩
    have e : b = s1.heap.objs.size := by simpa using hb
    subst e
    exact I1.fpOk (Nat.le_refl _) (I1.hok.fresh (Nat.le_refl _))

/-! ### isinstance(x, (list, tuple)) -/
end
end L2

set_option Elab.async false
set_option linter.all false
set_option maxRecDepth 100000
set_option maxHeartbeats 4000000
namespace SW
open PySem L2
/-! ### what a piece means -/
/-! ### dicts -/
/-! ### promises -/
def spWhole : Sp := fun vs H Q _ => ∃ n : Int, vs = [.int n] ∧ Q (.bl true) H
end SW

set_option Elab.async false
set_option linter.all false
set_option maxRecDepth 100000
namespace S1
open PySem L2 SW
def t_wh (K : PySem.W.Frag) : TS := (tRet (tAndV (tCB (cIsi K) (tCons (tVar 0) (tCons (tC (.ty "int")) tNil))) (tNotV (tCB (cIsi K) (tCons (tVar 0) (tCons (tC (.ty "bool")) tNil))))))
end S1

set_option Elab.async false
set_option linter.all false
set_option maxRecDepth 100000
set_option maxHeartbeats 4000000
namespace L2
open PySem PySem.Spec PyProof.Rows
end L2
namespace S1
open PySem L2 SW
end S1

set_option Elab.async false
set_option linter.all false
set_option maxRecDepth 100000
set_option maxHeartbeats 4000000
namespace S1
open PySem L2 SW
variable {K : PySem.W.Frag} {N : Addr} {vs : List V} {H : Hp} {Q : VK} {E : XK}
end S1
namespace SW
open PySem L2
end SW

set_option Elab.async false
set_option linter.all false
set_option maxRecDepth 100000
set_option maxHeartbeats 4000000
namespace S1
open PySem L2 SW
variable {K : PySem.W.Frag} {N : Addr} {vs : List V} {H : Hp} {Q : VK} {E : XK}

end S1

set_option Elab.async false
set_option linter.all false
set_option maxRecDepth 100000
set_option maxHeartbeats 4000000
namespace SW
open PySem L2
/-! ### the steps -/
/-! ### the steps in the heap -/
end SW

set_option Elab.async false
set_option linter.all false
set_option maxRecDepth 100000
set_option maxHeartbeats 4000000
namespace S1
open PySem L2 SW
variable {K : PySem.W.Frag} {N : Addr} {vs : List V} {H : Hp} {Q : VK} {E : XK}
end S1

set_option Elab.async false
set_option linter.all false
set_option maxRecDepth 100000
set_option maxHeartbeats 4000000
namespace SW
open PySem L2
variable {K : PySem.W.Frag}
theorem kt_int_int : PySem.W.kitOne K (.type "int") (.type "int") = some true := by kernel_rfl
theorem kt_int_bool : PySem.W.kitOne K (.type "int") (.type "bool") = some false := by kernel_rfl
theorem kt_str_str : PySem.W.kitOne K (.type "str") (.type "str") = some true := by kernel_rfl
end SW
namespace S1
open PySem L2 SW
variable {K : PySem.W.Frag} {N : Addr} {vs : List V} {H : Hp} {Q : VK} {E : XK}
theorem rd_wh (h : spWhole vs H Q E) : t_wh K (fin Q) (start ["_law_found"] vs) H := by
  obtain ⟨n, rfl, k⟩ := h
  refine ⟨_, rfl, _, _, _, _, rfl, .int n, kt_int_int, _, rfl, iteT ?_⟩
  exact ⟨_, rfl, _, _, _, _, rfl, .int n, kt_int_bool, _, rfl, k⟩
end S1

set_option Elab.async false
set_option linter.all false
set_option maxRecDepth 100000
set_option maxHeartbeats 4000000
namespace SW
open PySem L2
end SW
namespace S1
open PySem L2 SW
variable {K : PySem.W.Frag} {N : Addr} {vs : List V} {H : Hp} {Q : VK} {E : XK}
end S1

set_option Elab.async false
set_option linter.all false
set_option maxRecDepth 100000
set_option maxHeartbeats 4000000
namespace SW
open PySem L2
end SW
namespace S1
open PySem L2 SW
variable {K : PySem.W.Frag} {N : Addr} {vs : List V} {H : Hp} {Q : VK} {E : XK}
end S1

set_option Elab.async false
set_option linter.all false
set_option maxRecDepth 100000
set_option maxHeartbeats 4000000
namespace SW
open PySem L2
/-! ### the law's own reckoning -/
def DkLe (H H' : Hp) : Prop := ∀ (d : Addr) (kvs : List (Key × V)), H d = some (.dK kvs) → H' d = some (.dK kvs)
theorem dk_lst {H : Hp} {l : Addr} {ys : List V} {o : HO} (h : H l = some (.lst ys)) : DkLe H (upd H l o) := fun b xs e => by rw [upd_ne (ne_of e h (by intro z; cases z))]; exact e
section
variable {H₀ H : Hp} {st nu q : Addr} {fs : List Fr} {us : List V} {ns ns' : List Int} {o : HO} {f : Fr} {v z : V}
end
end SW
namespace S1
open PySem L2 SW
variable {K : PySem.W.Frag} {N : Addr} {vs : List V} {H H₀ : Hp} {Q : VK} {E : XK}
end S1

set_option Elab.async false
set_option linter.all false
set_option maxRecDepth 100000
set_option maxHeartbeats 4000000
namespace S1
open PySem L2 SW
variable {K : PySem.W.Frag} {N : Addr} {vs : List V} {H H₀ : Hp} {Q : VK} {E : XK}
end S1

set_option Elab.async false
set_option linter.all false
set_option maxRecDepth 100000
set_option maxHeartbeats 4000000
namespace SW
open PySem L2
end SW
namespace S1
open PySem L2 SW
variable {K : PySem.W.Frag} {N : Addr} {vs : List V} {H : Hp} {Q : VK} {E : XK}
end S1

set_option Elab.async false
set_option linter.all false
set_option maxRecDepth 100000
set_option maxHeartbeats 4000000
namespace L2
open PySem PySem.Spec PyProof.Rows SW
section
variable {X : Cx} {pins : List (Addr × Obj)} {σ : St} {H : Hp} {s : Shared}
/-- two lists of values whose pairs are equal -/
theorem eqAt_flat {A : Around} {x : V} {u1 u2 : Value} (h : (∃ n, x = .int n) ∨ ∃ w, x = .str w) (r1 : RelV x u1) (r2 : RelV x u2) : SeqAt.EqAt A s u1 u2 true := by
  rcases h with ⟨n, rfl⟩ | ⟨w, rfl⟩
  · obtain ⟨t1, rfl⟩ := r1
    obtain ⟨t2, rfl⟩ := r2
    have := SeqAt.EqAt.int_int (A := A) (s := s) n t1 n t2
    simpa using this
  · obtain ⟨t1, rfl⟩ := r1
    obtain ⟨t2, rfl⟩ := r2
    have := SeqAt.EqAt.str_str (A := A) (s := s) w t1 w t2
    simpa using this
theorem hd_flat (t : T) : ∀ x ∈ hd t, (∃ n, x = .int n) ∨ ∃ w, x = .str w := by
  cases t <;> simp [hd]
theorem kid_size {t k : T} (h : k ∈ t.kids) : k.size < t.size := by
  have h1 := sizes_kids t
  have h2 : k.size ≤ sizes t.kids := by
    unfold sizes
    generalize t.kids = l at h
    induction l with
    | nil => cases h
    | cons a r ih =>
      rcases List.mem_cons.mp h with rfl | h
      · simp
      · have := ih h; simp only [List.map_cons, List.sum_cons]; omega
  omega
theorem denL_at {H : Hp} : ∀ {ts : List T} {us : List V} {i : Nat} {x : V}, DenL H ts us → us[i]? = some x → ∃ t, ts[i]? = some t ∧ Den H t x
  | _, _, 0, _, .cons a r, h => by cases h; exact ⟨_, rfl, a⟩
  | _, _, i + 1, _, .cons a r, h => denL_at (i := i) r h
/-- two of the same shape are equal -/
theorem rcAt_den (I : Inv X pins σ H s) : ∀ (n : Nat) (t : T) (A : Around) (p q : Addr), t.size ≤ n → A.units + n < cLine → Den H t (.ref p) → Den H t (.ref q) → SeqAt.RcAt A s (.ref p) (.ref q) true
  | 0, t, _, _, _, hn, _, _, _ => absurd t.size_pos (by omega)
  | n + 1, t, A, p, q, hn, hu, d1, d2 => by
    obtain ⟨p', us1, ep, hp, k1⟩ := d1.open
    obtain ⟨q', us2, eq, hq, k2⟩ := d2.open
    cases ep
    cases eq
    obtain ⟨i1, rr1, p1, _⟩ := I.tuple (SqT.of hp)
    obtain ⟨i2, rr2, p2, _⟩ := I.tuple (SqT.of hq)
    have l1 := rr1.length
    have l2 := rr2.length
    have e1 := k1.length
    have e2 := k2.length
    have hs : i1.length = i2.length := by rw [← l1, ← l2]; simp [e1, e2]
    have hall : ((List.range (min i1.toArray.size i2.toArray.size)).all (fun _ => true) && i1.toArray.size == i2.toArray.size) = true := by simp [hs]
    have hel : ∀ j (h1 : j < i1.toArray.size) (h2 : j < i2.toArray.size), SeqAt.EqAt A.in1 s i1.toArray[j] i2.toArray[j] true := fun j h1 h2 => by
      have h1' : j < i1.length := by simpa using h1
      have h2' : j < i2.length := by simpa using h2
      have g1 : i1[j]? = some i1[j] := by simp [h1']
      have g2 : i2[j]? = some i2[j] := by simp [h2']
      have hx1 : j < (hd t ++ us1).length := by omega
      have hx2 : j < (hd t ++ us2).length := by omega
      obtain ⟨w1, gw1, rw1⟩ := rr1.get (show (hd t ++ us1)[j]? = some (hd t ++ us1)[j] by rw [List.getElem?_eq_getElem hx1])
      obtain ⟨w2, gw2, rw2⟩ := rr2.get (show (hd t ++ us2)[j]? = some (hd t ++ us2)[j] by rw [List.getElem?_eq_getElem hx2])
      rw [g1] at gw1
      rw [g2] at gw2
      cases gw1
      cases gw2
      simp only [List.getElem_toArray]
      by_cases hj : j < (hd t).length
      · rw [List.getElem_append_left hj] at rw1 rw2
        exact eqAt_flat (hd_flat t _ (List.getElem_mem hj)) rw1 rw2
      · have hj' : (hd t).length ≤ j := by omega
        rw [List.getElem_append_right hj'] at rw1 rw2
        have b1 : j - (hd t).length < us1.length := by rw [List.length_append] at hx1; omega
        have b2 : j - (hd t).length < us2.length := by rw [List.length_append] at hx2; omega
        obtain ⟨c1, m1, dd1⟩ := denL_at k1 (show us1[j - (hd t).length]? = some us1[j - (hd t).length] by rw [List.getElem?_eq_getElem b1])
        obtain ⟨c2, m2, dd2⟩ := denL_at k2 (show us2[j - (hd t).length]? = some us2[j - (hd t).length] by rw [List.getElem?_eq_getElem b2])
        rw [m1] at m2
        cases m2
        have hsz := kid_size (List.mem_of_getElem? m1)
        generalize us1[j - (hd t).length] = x1 at *
        generalize us2[j - (hd t).length] = x2 at *
        obtain ⟨pa, _, rfl, _⟩ := dd1.open
        obtain ⟨pb, _, rfl, _⟩ := dd2.open
        rw [show i1[j] = Value.ref pa from rw1, show i2[j] = Value.ref pb from rw2]
        by_cases e : pa = pb
        · subst e; exact SeqAt.EqAt.same _
        · exact SeqAt.EqAt.of_refs e (rcAt_den I n c1 A.in1 pa pb (by omega) (by show A.units + 1 + n < cLine; omega) dd1 dd2)
    have hmain := SeqAt.RcAt.tuples (A := A) (s := s) (e := fun _ => true) (isT_of p1) (isT_of p2) (by omega) hel
    rw [hall] at hmain
    exact hmain
end
section
variable {X : Cx}
/-- x == y, two pieces of the same shape -/
def rEqDen : R2 := fun x y H Q => ∃ t, Den H t x ∧ Den H t y ∧ t.size ≤ 180 ∧ Q (.bl true) H
theorem op_eqDen (hu : X.A.units + 200 < cLine) : OpR X (compareOp .Eq) rEqDen := by
  intro pins s σ H x y v u Q I rx ry h
  obtain ⟨t, d1, d2, hs, q⟩ := h
  obtain ⟨p, us1, rfl, hp, k1⟩ := d1.open
  obtain ⟨q', us2, rfl, hq, k2⟩ := d2.open
  cases rx
  cases ry
  exact rcAt_den I 180 t X.A p q' hs (by omega) d1 d2 X.prog X.w X.xe _ ⟨.bl true, H, I, rfl, q⟩
end
end L2

set_option Elab.async false
set_option linter.all false
set_option maxRecDepth 100000
set_option maxHeartbeats 4000000
namespace L2
open PySem PySem.Spec PyProof.Rows
theorem rangeSize_down (a b : Int) : Builtin.Range.rangeSize a b (-1) = if b < a then a - b else 0 := by
  unfold Builtin.Range.rangeSize
  simp only [show ¬ ((-1 : Int) > 0) by decide, if_false]
  split <;> (try split) <;> simp <;> omega
theorem small_down {a b : Int} (ha : -(2 ^ 62) ≤ a) (ha' : a < 2 ^ 62) (hb : -(2 ^ 62) ≤ b) (hb' : b < 2 ^ 62) : Builtin.Range.small a b (-1) = true := by
  unfold Builtin.Range.small
  rw [rangeSize_down]
  simp only [Builtin.Range.rangeFitsLong, Bool.and_eq_true, Bool.or_eq_true, decide_eq_true_eq, beq_iff_eq, show ¬ ((-1 : Int) > 0) by decide, if_false]
  split
  · refine ⟨⟨⟨⟨by omega, by omega⟩, by omega⟩, by omega⟩, .inr (by omega)⟩
  · refine ⟨⟨⟨⟨by omega, by omega⟩, by omega⟩, by omega⟩, .inl ?_⟩
    first | trivial | rfl
/-- hi, hi - 1, .. (n of them) -/
def Itd (hi : Int) (n : Nat) : It := ⟨fun i _ => i < n, fun i H x H' => H' = H ∧ x = .int (hi - i), fun i _ => n ≤ i⟩
theorem turn_down {P : Program} {w : World} {K : PySem.W.Frag} {tg : Expr} (it : Addr) (hi : Int) (n : Nat) : Turn P w K tg (Itd hi n) [it] it (fun i h => IsRangeIter h it (hi + (i : Nat) * (-1)) ((n : Int) - (i : Nat)) (-1)) where
  mem := by simp
  obj := fun i h st b hb => by
    have e : b = it := by simpa using hb
    subst e
    exact ⟨_, st, fun v z => by
      have z' : Data.fields _ = Data.cell v := z
      cases z'⟩
  keep := fun i h h' st k => k it (by simp) _ st
  item := by
    intro X hP hw hK hc i pins s σ H E I hf st hg
    subst hP hw hK
    obtain ⟨f0, f1, f2, f3, f4, f5⟩ := hf it (by simp)
    have W := Walks.range (prog := X.prog) (w := X.w) (I.ok.hd hc) it hi (-1) n
    refine W.item i s _ _ hg st fun v h' tk hv st' kk => ?_
    obtain ⟨t, rfl⟩ := hv
    have I1 : Inv X pins σ H { s with heap := h', toks := tk } := I.turned (fun b o hb e => kk b o (by simpa using hb) e) f0 f1 f3 f4 f5
    refine ⟨_, rfl, go_of (s := { s with heap := h', toks := tk }) (n := "range_iterator") st' rfl rfl (by decide) ⟨.int (hi - i), H, I1, ⟨t, ?_⟩, ⟨rfl, rfl⟩, st', fun b hb => (hf b hb).1⟩⟩
    rw [show hi + (i : Int) * (-1) = hi - i by omega]
  done := by
    intro X hP hw hK hc i pins s σ H E I hf st hg
    subst hP hw hK
    obtain ⟨f0, f1, f2, f3, f4, f5⟩ := hf it (by simp)
    exact wpAny_pyNext_range_end (I.ok.hd hc) st (by have : n ≤ i := hg; omega) fun h' eb => ⟨rfl, I.turned (t' := s.toks) (fun b o hb e => eb b o hb e) f0 f1 f3 f4 f5⟩
  self := fun _ _ _ _ _ st h => wpAny_pyIter_rangeiter st h
section
variable {X : Cx} {tg : Expr}
theorem range_down {pins : List (Addr × Obj)} {σ : St} {H : Hp} {s : Shared} {R : It → Hp → Prop} {E : Value → Shared → Prop} {hi lo : Int} {t u v : Tok} {tk : Nat} (I : Inv X pins σ H s) (h1 : -(2 ^ 62) ≤ hi) (h2 : hi < 2 ^ 62) (h3 : -(2 ^ 62) ≤ lo) (h4 : lo < 2 ^ 62)
    (q : R (Itd hi (hi - lo).toNat) H) : wpAny (model X.prog X.w) X.A (pyIter (.ref s.heap.objs.size)) (PIE X pins σ tg R) E { s with heap := s.heap.push { cls := .type "range", data := .fields #[.int hi t, .int lo u, .int (-1) v] }, toks := tk } := by
  refine wpAny_pyIter_range (IsRange.new ..) (small_down h1 h2 h3 h4) ?_
  have I1 : Inv X pins σ H { s with heap := s.heap.push { cls := .type "range", data := .fields #[.int hi t, .int lo u, .int (-1) v] }, toks := tk } := I.kept fun b o e => Heap.get?_push_of_some _ e
  refine ⟨(s.heap.push { cls := .type "range", data := .fields #[.int hi t, .int lo u, .int (-1) v] }).objs.size, [(s.heap.push { cls := .type "range", data := .fields #[.int hi t, .int lo u, .int (-1) v] }).objs.size], _, _, H, rfl,
    I1.kept (t' := tk) fun b o e => Heap.get?_push_of_some _ e, turn_down _ hi (hi - lo).toNat, ?_, fun b hb => ?_, q⟩
  · have e1 : hi + ((0 : Nat) : Int) * (-1) = hi := by simp
    have e2 : (((hi - lo).toNat : Nat) : Int) - ((0 : Nat) : Int) = Builtin.Range.rangeSize hi lo (-1) := by rw [rangeSize_down]; split <;> omega
    show IsRangeIter _ _ (hi + ((0 : Nat) : Int) * (-1)) ((((hi - lo).toNat : Nat) : Int) - ((0 : Nat) : Int)) (-1)
    rw [e1, e2]
    exact Heap.get?_push_size _ rfl
  · have e : b = (s.heap.push { cls := .type "range", data := .fields #[.int hi t, .int lo u, .int (-1) v] }).objs.size := by simpa using hb
    subst e
    exact I1.fpOk (Nat.le_refl _) (I1.hok.fresh (Nat.le_refl _))
/-- range(hi, lo, -1) -/
def iRngD (ta : TA) : TI := fun σ H R => ta σ H fun vs H1 => ∃ i j : Int, vs = [.int i, .int j, .int (-1)] ∧ (-(2 ^ 62) ≤ i ∧ i < 2 ^ 62 ∧ -(2 ^ 62) ≤ j ∧ j < 2 ^ 62) ∧ R (Itd i (i - j).toNat) H1
theorem pi_rangeD {a b c : Expr} {ta : TA} {p pos : Pos} (hg : Gl X "range") (hm : X.mg "range" = none) (ha : PA X [a, b, c] ta) (hs : starEach [a, b, c] X.env = [(false, eval a X.env), (false, eval b X.env), (false, eval c X.env)] := by rfl) (hs2 : starEach [b, c] X.env = [(false, eval b X.env), (false, eval c X.env)] := by rfl) :
    PI X tg (.Call (.Name "range" p) [a, b, c] [] pos) (iRngD ta) := by
  intro pins s σ H R I h
  refine Call_ (ld_blt I hg hm boot_range (PyProof.Rows.callWith_type1 (thn (ha pos pins s σ H _ I h) fun us s1 ⟨vs, H1, I1, r1, q1⟩ => ?_) (by rw [hs, hs2]) (by rw [hs2]; rfl)))
  obtain ⟨i, j, e, ⟨q1, q2, q3, q4⟩, q⟩ := q1
  subst e
  cases r1 with
  | cons r rr =>
    cases rr with
    | cons r' rr =>
      cases rr with
      | cons r'' rr =>
        cases rr
        obtain ⟨t, rfl⟩ := r
        obtain ⟨t', rfl⟩ := r'
        obtain ⟨t'', rfl⟩ := r''
        exact call_range_3 (by decide) (range_down I1 q1 q2 q3 q4 q) (.inl (PyProof.noPylong_small (by decide)))
end
end L2

set_option Elab.async false
set_option linter.all false
set_option maxRecDepth 100000
set_option maxHeartbeats 4000000
namespace PySem.W
open PySem PySem.Spec PySem.Calls PyProof.Rows
theorem rv_nolen : typeLookup (.type "list_reverseiterator") "__len__" = pure none := by rw [typeLookup_type, builtinLookup_eq_fast]; kernel_rfl
theorem rv_haslh : typeLookup (.type "list_reverseiterator") "__length_hint__" = pure (some (.builtin "list_reverseiterator.__length_hint__")) := by rw [typeLookup_type, builtinLookup_eq_fast]; kernel_rfl
section
variable {prog : Program} {w : World} {A : Around} {E : Value → Shared → Prop} {s : Shared} {r l : Addr} {items : Array Value}
theorem rv_hint {Q : Bool → Shared → Prop} (hT : s.TypeIs (.ref r) "list_reverseiterator") (h : Q false s) : wpAny (model prog w) A (Builtin.List.listLengthHint (.ref r)) Q E s := by
  unfold Builtin.List.listLengthHint
  refine wpAny_bind (wpAny_specialOf hT rv_nolen ?_)
  refine wpAny_bind (wpAny_specialOf hT rv_haslh ?_)
  generalize hid : ("list_reverseiterator.__length_hint__" : String) = id0
  wp_delta
  rw [show splitId id0 = some ("list_reverseiterator", "__length_hint__") from by subst hid; decide +kernel]
  subst hid
  refine wpAny_bind (wpAny_isInstance (T := "list_reverseiterator") (b := true) hT (by rw [isSubtype_type]; kernel_rfl) ?_)
  refine wpAny_ite_split (fun hab => absurd hab (by decide)) (fun _ => ?_)
  refine wpAny_ite_split (fun _ => ?_) (fun hab => absurd (by decide +kernel) hab)
  refine wpAny_ite_split (fun hab => absurd hab (by decide +kernel)) (fun _ => ?_)
  exact wpAny_pure h
theorem rv_extend {R : Result → Shared → Prop} (hh : A.handled = none) (hit : s.heap.IsRevIter r l ((items.size : Int) - 1)) (hl : s.heap.IsList l items) (S : Addr) (hSr : S ≠ r) (hSl : S ≠ l) (hlr : l ≠ r) (res : Value) (c₀ : Nat) (hS : s.heap.get? S = some { cls := .type "list", data := .seq #[] c₀ })
    (hR : ∀ h' tk acc' c', (∀ b o, b ≠ S → b ≠ r → s.heap.get? b = some o → h'.get? b = some o) → h'.get? S = some { cls := .type "list", dict := none, data := .seq acc' c', slots := #[] } → ItemsOf (fun i v => items[items.size - 1 - i]? = some v) acc' items.size → R (.ok (.ret res)) { s with heap := h', toks := tk }) (hn : items.size ≤ sizeLine) :
    wpAny (model prog w) A.in1 (Builtin.List.listExtendWith (.ref S) (.ref r) res)
      (fun fin s' => match fin with | .done f => R (.ok f) s' | .again c' => c'.quiet = true ∧ codeAny (model prog w) A c' R s') (fun e s' => R (.error e) s') s := by
  have hSf : S ∉ [r, l] := by simp only [List.mem_cons, List.not_mem_nil, or_false, not_or]; exact ⟨hSr, hSl⟩
  have W := Walks.listRev (prog := prog) (w := w) (A := A.in1) hh r l hlr items
  have hT : s.TypeIs (.ref r) "list_reverseiterator" := hit.typeIs
  have st0 : 0 ≤ items.size ∧ s.heap.IsRevIter r l ((items.size : Int) - 1 - ((0 : Nat) : Int)) ∧ s.heap.IsList l items := ⟨Nat.zero_le _, by simpa using hit, hl⟩
  unfold Builtin.List.listExtendWith
  refine wpAny_bind (wpAny_typeOf (T := "list_reverseiterator") hT ?_)
  have h1 : Builtin.List.listSameRef (.ref S) (.ref r) = false := by simp [Builtin.List.listSameRef, hSr]
  simp only [h1, show (Value.type "list_reverseiterator" == Value.type "list") = false from by decide +kernel, show (Value.type "list_reverseiterator" == Value.type "tuple") = false from by decide +kernel, Bool.or_false, Bool.false_eq_true, if_false]
  refine wpAny_bind (wpAny_pyIter_revIter hit ?_)
  refine wpAny_bind (wpAny_holding (rv_hint hT ?_))
  refine wpAny_ite_split (fun hab => absurd hab (by decide)) (fun _ => wpAny_pure ⟨plainId_quiet PySem.F.plain_extend_loop _, ?_⟩)
  refine codeAny_extend_loopS W.toS hn S hSf res items.size 0 _ #[] c₀ rfl (Nat.zero_le _) st0 hS (ItemsOf.nil _) fun s' acc' c' hm hS' hacc => ?_
  rw [Moved.eq_with hm]
  refine hR s'.heap s'.toks acc' c' (fun b o hb hbr e => hm.heap b o (fun hmem => ?_) e) hS' hacc
  rcases List.mem_cons.mp hmem with e' | hmem
  · exact hb e'
  · exact hbr (List.mem_singleton.mp hmem)
end
end PySem.W
namespace L2
open PySem PySem.Spec PyProof.Rows
section
variable {X : Cx}
theorem vals_reverse : ∀ {xs : List V} {us : List Value}, Vals xs us → Vals xs.reverse us.reverse
  | _, _, .nil => .nil
  | _, _, .cons r t => by
    rw [List.reverse_cons, List.reverse_cons]
    exact (vals_reverse t).append (.cons r .nil)
end
end L2

set_option Elab.async false
set_option linter.all false
set_option maxRecDepth 100000
set_option maxHeartbeats 4000000
namespace L2
open PySem PySem.Spec PyProof.Rows
section
variable {X : Cx}
/-- t + u, either may be empty -/
def rCatA (K : PySem.W.Frag) : R2 := fun x y H Q => ∃ a b xs ys, x = .ref a ∧ y = .ref b ∧ SqT K H a xs ∧ SqT K H b ys ∧ xs.length + ys.length ≤ sizeLine ∧
  (xs = [] → Q (.ref b) H) ∧ (xs ≠ [] → ys = [] → Q (.ref a) H) ∧ (xs ≠ [] → ys ≠ [] → ∀ p, H p = none → Q (.ref p) (upd H p (.tup (xs ++ ys))))
theorem op_catA : OpR X (binaryOp .Add) (rCatA X.K) := by
  intro pins s σ H x y v u Q I rx ry h
  obtain ⟨a, b, xs, ys, rfl, rfl, ha, hb, hz, q0, q1, q2⟩ := h
  by_cases hx : xs = []
  · subst hx
    cases rx
    cases ry
    obtain ⟨its, r1, p1, _⟩ := I.tuple ha
    obtain ⟨its2, r2, p2, _⟩ := I.tuple hb
    cases r1
    obtain ⟨⟨cls, dd, data, sl⟩, ho, hc, n, hd⟩ := id p1
    obtain ⟨⟨cls2, dd2, data2, sl2⟩, ho2, hc2, n2, hd2⟩ := id p2
    simp only at hc hd hc2 hd2
    subst hc hd hc2 hd2
    exact concat_meets ⟨_, ho, rfl⟩ ⟨_, ho2, rfl⟩ noFill_tuple_add seq_tuple_add PySem.F.slot_tuple_add PySem.F.entry_tuple_add (PySem.F.args_tuple_add_2 _ _)
      (tuple_addW0 a b #[] its2.toArray n n2 dd dd2 sl sl2 rfl) ⟨ho, ho2, .ref b, H, I, rfl, q0 rfl⟩
  · exact op_catT pins s σ H _ _ v u Q I rx ry ⟨a, b, xs, ys, rfl, rfl, ha, hb, hx, hz, q1 hx, q2 hx⟩
end
end L2

set_option Elab.async false
set_option linter.all false
set_option maxRecDepth 100000
set_option maxHeartbeats 4000000
namespace SW
open PySem L2
abbrev cStrI : List V → Hp → VK → Prop := fun xs H Q => ∃ i, xs = [.int i] ∧ i.natAbs.log2 < 1920 ∧ Q (.str (toString i)) H
theorem kt_tuple_tuple {K : PySem.W.Frag} : PySem.W.kitOne K (.type "tuple") (.type "tuple") = some true := by kernel_rfl
theorem kt_tuple_str {K : PySem.W.Frag} : PySem.W.kitOne K (.type "tuple") (.type "str") = some false := by kernel_rfl
def sizesL : List (Key × V) := [(.inr "number", .int 2), (.inr "name", .int 2), (.inr "sum", .int 3), (.inr "less", .int 3), (.inr "choose", .int 4), (.inr "let", .int 4)]
def spIsPiece : Sp := fun vs H Q _ => ∃ (t : T) (v : V), vs = [v] ∧ Den H t v ∧ t.size ≤ 5000 ∧ ∀ H', Same H H' → Q (.bl true) H'
end SW
namespace S10
open PySem L2 SW
-- _law_is_piece ['_law_found', '_law_todo', '_law_part', '_law_sizes'] ['str', 'isinstance', 'len', 'tuple']
def t_ip_1 (K : PySem.W.Frag) : TS := (tRet (tC (.bl false)))
def t_ip_2 (K : PySem.W.Frag) : TS := (tIfS (tOr (tNot (tB (tCB (cIsi K) (tCons (tVar 2) (tCons (tC (.ty "tuple")) tNil))))) (tOr (tTest (tOp rLtI (tCB (cLen K) (tCons (tVar 2) tNil)) (tC (.int 2)))) (tNot (tB (tCB (cIsi K) (tCons (tOp (rIxT K) (tVar 2) (tC (.int 0))) (tCons (tC (.ty "str")) tNil))))))) (t_ip_1 K) tNext)
def t_ip_3 (K : PySem.W.Frag) : TS := (tRet (tC (.bl false)))
def t_ip_4 (K : PySem.W.Frag) : TS := (tIfS (tAnd (tTest (tOp rNe (tDGet2 (tVar 3) (tOp (rIxT K) (tVar 2) (tC (.int 0))) (tC (.int 0))) (tCB (cLen K) (tCons (tVar 2) tNil)))) (tTest (tOp rNe (tOp (rIxT K) (tVar 2) (tC (.int 0))) (tC (.str "stamp"))))) (t_ip_3 K) tNext)
def t_ip_5 (K : PySem.W.Frag) : TS := (tRet (tC (.bl false)))
def t_ip_6 (K : PySem.W.Frag) : TS := (tIfS (tNot (tB (tCall spWhole [] E0 (tCons (tOp (rIxT K) (tVar 2) (tC (.int 1))) tNil)))) (t_ip_5 K) tNext)
def t_ip_7 (K : PySem.W.Frag) : TS := (tRet (tC (.bl false)))
def t_ip_8 (K : PySem.W.Frag) : TS := (tIfS (tAnd (tTest (tOp (rIn K false) (tOp (rIxT K) (tVar 2) (tC (.int 0))) (tLst (tCons (tC (.str "name")) (tCons (tC (.str "let")) (tCons (tC (.str "stamp")) tNil)))))) (tNot (tB (tCB (cIsi K) (tCons (tOp (rIxT K) (tVar 2) (tC (.int 1))) (tCons (tC (.ty "str")) tNil)))))) (t_ip_7 K) tNext)
def t_ip_9 (K : PySem.W.Frag) : TS := (tIfS (tTest (tOp rEq (tOp (rIxT K) (tVar 2) (tC (.int 0))) (tC (.str "number")))) (t_ip_6 K) (t_ip_8 K))
def t_ip_10 (K : PySem.W.Frag) : TS := (tSeq (tAsg (tBM0 K "list" rPop (tVar 1)) (gName 2)) (tSeq (t_ip_2 K) (tSeq (tAsg (tDisp [((tC (.str "number")), (tC (.int 2))), ((tC (.str "name")), (tC (.int 2))), ((tC (.str "sum")), (tC (.int 3))), ((tC (.str "less")), (tC (.int 3))), ((tC (.str "choose")), (tC (.int 4))), ((tC (.str "let")), (tC (.int 4)))]) (gName 3)) (tSeq (t_ip_4 K) (tSeq (t_ip_9 K) (tAsg (tOp rCat (tVar 1) (tCall spInside [] E0 (tCons (tVar 2) tNil))) (gName 1)))))))
def t_ip (K : PySem.W.Frag) : TS := (tSeq (tAsg (tLst (tCons (tVar 0) tNil)) (gName 1)) (tSeq (tWhile (tTest (tOp (rNeNil K) (tVar 1) (tLst tNil))) (t_ip_10 K)) (tRet (tC (.bl true)))))
-- _law_line_of ['_law_piece', '_law_line', '_law_todo', '_law_part', '_law_k', '_law_signs'] ['str', 'isinstance', 'range', 'len']
def t_lo_1 (K : PySem.W.Frag) : TS := (tAsg (tOp rAddS (tVar 1) (tVar 3)) (gName 1))
def t_lo_2 (K : PySem.W.Frag) : TS := (tAsg (tOp rAddS (tVar 1) (tCB cStrI (tCons (tOp (rIxT K) (tVar 3) (tC (.int 1))) tNil))) (gName 1))
def t_lo_3 (K : PySem.W.Frag) : TS := (tAsg (tOp rAddS (tVar 1) (tOp (rIxT K) (tVar 3) (tC (.int 1)))) (gName 1))
def t_lo_4 (K : PySem.W.Frag) : TS := (tSeq (tAsg (tOp rAddS (tOp rAddS (tOp rAddS (tVar 1) (tC (.str "["))) (tOp (rIxT K) (tVar 3) (tC (.int 1)))) (tC (.str "="))) (gName 1)) (tAsg (tOp rCat (tVar 2) (tLst (tCons (tOp (rIxT K) (tVar 3) (tC (.int 3))) (tCons (tC (.str "]")) (tCons (tOp (rIxT K) (tVar 3) (tC (.int 2))) tNil))))) (gName 2)))
def t_lo_5 (K : PySem.W.Frag) : TS := (tDrop (tBM K "list" rAppend (tVar 2) (tCons (tC (.str ",")) tNil)))
def t_lo_6 (K : PySem.W.Frag) : TS := (tIfS (tTest (tOp rGtI (tVar 4) (tC (.int 2)))) (t_lo_5 K) tNext)
def t_lo_7 (K : PySem.W.Frag) : TS := (tSeq (tDrop (tBM K "list" rAppend (tVar 2) (tCons (tOp (rIxT K) (tVar 3) (tVar 4)) tNil))) (t_lo_6 K))
def t_lo_8 (K : PySem.W.Frag) : TS := (tSeq (tAsg (tOp rAddS (tOp rAddS (tVar 1) (tOp (rIxT K) (tVar 3) (tC (.int 1)))) (tC (.str "{"))) (gName 1)) (tSeq (tDrop (tBM K "list" rAppend (tVar 2) (tCons (tC (.str "}")) tNil))) (tFor (iRngD (tCons (tOp rSubI (tCB (cLen K) (tCons (tVar 3) tNil)) (tC (.int 1))) (tCons (tC (.int 1)) (tCons (tUn rNegI (tC (.int 1))) tNil)))) (gName 4) (t_lo_7 K))))
def t_lo_9 (K : PySem.W.Frag) : TS := (tAsg (tOp rCat (tVar 2) (tLst (tCons (tOp (rIxT K) (tVar 3) (tC (.int 3))) (tCons (tC (.str ":")) tNil)))) (gName 2))
def t_lo_10 (K : PySem.W.Frag) : TS := (tIfS (tTest (tOp rEq (tOp (rIxT K) (tVar 3) (tC (.int 0))) (tC (.str "choose")))) (t_lo_9 K) tNext)
def t_lo_11 (K : PySem.W.Frag) : TS := (tSeq (tAsg (tDisp [((tC (.str "sum")), (tC (.str "+"))), ((tC (.str "less")), (tC (.str "-"))), ((tC (.str "choose")), (tC (.str "?")))]) (gName 5)) (tSeq (tAsg (tOp rAddS (tVar 1) (tC (.str "("))) (gName 1)) (tSeq (tDrop (tBM K "list" rAppend (tVar 2) (tCons (tC (.str ")")) tNil))) (tSeq (t_lo_10 K) (tAsg (tOp rCat (tVar 2) (tLst (tCons (tOp (rIxT K) (tVar 3) (tC (.int 2))) (tCons (tDGet (tVar 5) (tOp (rIxT K) (tVar 3) (tC (.int 0)))) (tCons (tOp (rIxT K) (tVar 3) (tC (.int 1))) tNil))))) (gName 2))))))
def t_lo_12 (K : PySem.W.Frag) : TS := (tIfS (tTest (tOp rEq (tOp (rIxT K) (tVar 3) (tC (.int 0))) (tC (.str "stamp")))) (t_lo_8 K) (t_lo_11 K))
def t_lo_13 (K : PySem.W.Frag) : TS := (tIfS (tTest (tOp rEq (tOp (rIxT K) (tVar 3) (tC (.int 0))) (tC (.str "let")))) (t_lo_4 K) (t_lo_12 K))
def t_lo_14 (K : PySem.W.Frag) : TS := (tIfS (tTest (tOp rEq (tOp (rIxT K) (tVar 3) (tC (.int 0))) (tC (.str "name")))) (t_lo_3 K) (t_lo_13 K))
def t_lo_15 (K : PySem.W.Frag) : TS := (tIfS (tTest (tOp rEq (tOp (rIxT K) (tVar 3) (tC (.int 0))) (tC (.str "number")))) (t_lo_2 K) (t_lo_14 K))
def t_lo_16 (K : PySem.W.Frag) : TS := (tIfS (tB (tCB (cIsi K) (tCons (tVar 3) (tCons (tC (.ty "str")) tNil)))) (t_lo_1 K) (t_lo_15 K))
def t_lo_17 (K : PySem.W.Frag) : TS := (tSeq (tAsg (tBM0 K "list" rPop (tVar 2)) (gName 3)) (t_lo_16 K))
def t_lo (K : PySem.W.Frag) : TS := (tSeq (tAsg (tC (.str "")) (gName 1)) (tSeq (tAsg (tLst (tCons (tVar 0) tNil)) (gName 2)) (tSeq (tWhile (tTest (tOp (rNeNil K) (tVar 2) (tLst tNil))) (t_lo_17 K)) (tRet (tVar 1)))))
variable {K : PySem.W.Frag} {vs : List V} {H : Hp} {Q : VK} {E : XK}
/-- one part is looked at -/
theorem rd_ip_part {t : T} {v v0 : V} {tl : Addr} {D : Ends} {j3 : Option V} (hd : Den H t v)
    (k : ∀ H', Same H H' → ∀ j3, (tAsg (tOp rCat (tVar 1) (tCall spInside [] E0 (tCons (tVar 2) tNil))) (gName 1)) D [some v0, some (.ref tl), some v, j3] H') :
    (tSeq (t_ip_2 K) (tSeq (tAsg (tDisp [((tC (.str "number")), (tC (.int 2))), ((tC (.str "name")), (tC (.int 2))), ((tC (.str "sum")), (tC (.int 3))), ((tC (.str "less")), (tC (.int 3))), ((tC (.str "choose")), (tC (.int 4))), ((tC (.str "let")), (tC (.int 4)))]) (gName 3)) (tSeq (t_ip_4 K) (tSeq (t_ip_9 K) (tAsg (tOp rCat (tVar 1) (tCall spInside [] E0 (tCons (tVar 2) tNil))) (gName 1)))))) D [some v0, some (.ref tl), some v, j3] H := by
  cases t with
  | num n =>
    obtain ⟨p, rfl, hp⟩ := id hd
    refine ⟨_, rfl, _, _, _, _, rfl, .tup hp, kt_tuple_tuple, _, rfl, iteF ?_⟩
    refine ⟨_, rfl, p, _, rfl, .inr (SqT.of hp), _, _, rfl, rfl, _, rfl, iteN rfl ?_⟩
    refine ⟨_, rfl, p, _, _, _, rfl, rfl, SqT.of hp, rfl, _, _, _, _, rfl, .str _, kt_str_str, _, rfl, iteF ?_⟩
    refine fun pd hpd => ⟨upd_same, sizesL, rfl, by decide, ?_⟩
    have s1 : Same H (upd (upd H pd (.dK [])) pd (.dK (mergeK [] sizesL))) := same_old (same_new hpd) hpd
    have g1 : (upd (upd H pd (.dK [])) pd (.dK (mergeK [] sizesL))) pd = some (.dK (mergeK [] sizesL)) := upd_same
    generalize upd (upd H pd (.dK [])) pd (.dK (mergeK [] sizesL)) = H1 at s1 g1 ⊢
    have hp1 := s1 _ _ hp
    have dg := DGet.k (k := .inr ("number" : Str)) g1
    rw [show valV (mergeK [] sizesL) (.inr ("number" : Str) : Key) = some (.int 2) from by decide +kernel] at dg
    refine ⟨_, rfl, pd, rfl, .inl ⟨_, .inl g1⟩, _, rfl, p, _, _, _, rfl, rfl, SqT.of hp1, rfl, _, dg, _, rfl, p, _, rfl, .inr (SqT.of hp1), rfl, _, rfl, ?_⟩
    refine iteN rfl (iteF ?_)
    refine ⟨_, rfl, p, _, _, _, rfl, rfl, SqT.of hp1, rfl, rfl, _, rfl, ?_⟩
    refine iteY (by decide +kernel) ?_
    refine ⟨_, rfl, p, _, _, _, rfl, rfl, SqT.of hp1, rfl, n, rfl, _, rfl, iteF ?_⟩
    exact k H1 s1 _
  | name x =>
    obtain ⟨p, rfl, hp⟩ := id hd
    refine ⟨_, rfl, _, _, _, _, rfl, .tup hp, kt_tuple_tuple, _, rfl, iteF ?_⟩
    refine ⟨_, rfl, p, _, rfl, .inr (SqT.of hp), _, _, rfl, rfl, _, rfl, iteN rfl ?_⟩
    refine ⟨_, rfl, p, _, _, _, rfl, rfl, SqT.of hp, rfl, _, _, _, _, rfl, .str _, kt_str_str, _, rfl, iteF ?_⟩
    refine fun pd hpd => ⟨upd_same, sizesL, rfl, by decide, ?_⟩
    have s1 : Same H (upd (upd H pd (.dK [])) pd (.dK (mergeK [] sizesL))) := same_old (same_new hpd) hpd
    have g1 : (upd (upd H pd (.dK [])) pd (.dK (mergeK [] sizesL))) pd = some (.dK (mergeK [] sizesL)) := upd_same
    generalize upd (upd H pd (.dK [])) pd (.dK (mergeK [] sizesL)) = H1 at s1 g1 ⊢
    have hp1 := s1 _ _ hp
    have dg := DGet.k (k := .inr ("name" : Str)) g1
    rw [show valV (mergeK [] sizesL) (.inr ("name" : Str) : Key) = some (.int 2) from by decide +kernel] at dg
    refine ⟨_, rfl, pd, rfl, .inl ⟨_, .inl g1⟩, _, rfl, p, _, _, _, rfl, rfl, SqT.of hp1, rfl, _, dg, _, rfl, p, _, rfl, .inr (SqT.of hp1), rfl, _, rfl, ?_⟩
    refine iteN rfl (iteF ?_)
    refine ⟨_, rfl, p, _, _, _, rfl, rfl, SqT.of hp1, rfl, rfl, _, rfl, ?_⟩
    refine iteN (by decide +kernel) ?_
    refine ⟨_, rfl, p, _, _, _, rfl, rfl, SqT.of hp1, rfl, szl, fun l hl => ?_⟩
    have s2 := same_new (o := .lst [.str "name", .str "let", .str "stamp"]) hl
    have g2 : (upd H1 l (.lst [.str "name", .str "let", .str "stamp"])) l = some (.lst [.str "name", .str "let", .str "stamp"]) := upd_same
    generalize upd H1 l (.lst [.str "name", .str "let", .str "stamp"]) = H2 at s2 g2 ⊢
    refine ⟨l, _, rfl, .inl (SqL.of g2), rfl, rfl, _, rfl, ?_⟩
    refine iteY (by decide +kernel) ?_
    refine ⟨_, rfl, p, _, _, _, rfl, rfl, SqT.of (s2 _ _ hp1), rfl, _, _, _, _, rfl, .str _, kt_str_str, _, rfl, iteF ?_⟩
    exact k H2 (s1.trans s2) _
  | sum a b =>
    obtain ⟨p, x, y, rfl, hp, d1, d2⟩ := id hd
    refine ⟨_, rfl, _, _, _, _, rfl, .tup hp, kt_tuple_tuple, _, rfl, iteF ?_⟩
    refine ⟨_, rfl, p, _, rfl, .inr (SqT.of hp), _, _, rfl, rfl, _, rfl, iteN rfl ?_⟩
    refine ⟨_, rfl, p, _, _, _, rfl, rfl, SqT.of hp, rfl, _, _, _, _, rfl, .str _, kt_str_str, _, rfl, iteF ?_⟩
    refine fun pd hpd => ⟨upd_same, sizesL, rfl, by decide, ?_⟩
    have s1 : Same H (upd (upd H pd (.dK [])) pd (.dK (mergeK [] sizesL))) := same_old (same_new hpd) hpd
    have g1 : (upd (upd H pd (.dK [])) pd (.dK (mergeK [] sizesL))) pd = some (.dK (mergeK [] sizesL)) := upd_same
    generalize upd (upd H pd (.dK [])) pd (.dK (mergeK [] sizesL)) = H1 at s1 g1 ⊢
    have hp1 := s1 _ _ hp
    have dg := DGet.k (k := .inr ("sum" : Str)) g1
    rw [show valV (mergeK [] sizesL) (.inr ("sum" : Str) : Key) = some (.int 3) from by decide +kernel] at dg
    refine ⟨_, rfl, pd, rfl, .inl ⟨_, .inl g1⟩, _, rfl, p, _, _, _, rfl, rfl, SqT.of hp1, rfl, _, dg, _, rfl, p, _, rfl, .inr (SqT.of hp1), rfl, _, rfl, ?_⟩
    refine iteN rfl (iteF ?_)
    refine ⟨_, rfl, p, _, _, _, rfl, rfl, SqT.of hp1, rfl, rfl, _, rfl, ?_⟩
    refine iteN (by decide +kernel) ?_
    refine ⟨_, rfl, p, _, _, _, rfl, rfl, SqT.of hp1, rfl, szl, fun l hl => ?_⟩
    have s2 := same_new (o := .lst [.str "name", .str "let", .str "stamp"]) hl
    have g2 : (upd H1 l (.lst [.str "name", .str "let", .str "stamp"])) l = some (.lst [.str "name", .str "let", .str "stamp"]) := upd_same
    generalize upd H1 l (.lst [.str "name", .str "let", .str "stamp"]) = H2 at s2 g2 ⊢
    refine ⟨l, _, rfl, .inl (SqL.of g2), rfl, rfl, _, rfl, ?_⟩
    refine iteN (by decide +kernel) (iteF ?_)
    exact k H2 (s1.trans s2) _
  | less a b =>
    obtain ⟨p, x, y, rfl, hp, d1, d2⟩ := id hd
    refine ⟨_, rfl, _, _, _, _, rfl, .tup hp, kt_tuple_tuple, _, rfl, iteF ?_⟩
    refine ⟨_, rfl, p, _, rfl, .inr (SqT.of hp), _, _, rfl, rfl, _, rfl, iteN rfl ?_⟩
    refine ⟨_, rfl, p, _, _, _, rfl, rfl, SqT.of hp, rfl, _, _, _, _, rfl, .str _, kt_str_str, _, rfl, iteF ?_⟩
    refine fun pd hpd => ⟨upd_same, sizesL, rfl, by decide, ?_⟩
    have s1 : Same H (upd (upd H pd (.dK [])) pd (.dK (mergeK [] sizesL))) := same_old (same_new hpd) hpd
    have g1 : (upd (upd H pd (.dK [])) pd (.dK (mergeK [] sizesL))) pd = some (.dK (mergeK [] sizesL)) := upd_same
    generalize upd (upd H pd (.dK [])) pd (.dK (mergeK [] sizesL)) = H1 at s1 g1 ⊢
    have hp1 := s1 _ _ hp
    have dg := DGet.k (k := .inr ("less" : Str)) g1
    rw [show valV (mergeK [] sizesL) (.inr ("less" : Str) : Key) = some (.int 3) from by decide +kernel] at dg
    refine ⟨_, rfl, pd, rfl, .inl ⟨_, .inl g1⟩, _, rfl, p, _, _, _, rfl, rfl, SqT.of hp1, rfl, _, dg, _, rfl, p, _, rfl, .inr (SqT.of hp1), rfl, _, rfl, ?_⟩
    refine iteN rfl (iteF ?_)
    refine ⟨_, rfl, p, _, _, _, rfl, rfl, SqT.of hp1, rfl, rfl, _, rfl, ?_⟩
    refine iteN (by decide +kernel) ?_
    refine ⟨_, rfl, p, _, _, _, rfl, rfl, SqT.of hp1, rfl, szl, fun l hl => ?_⟩
    have s2 := same_new (o := .lst [.str "name", .str "let", .str "stamp"]) hl
    have g2 : (upd H1 l (.lst [.str "name", .str "let", .str "stamp"])) l = some (.lst [.str "name", .str "let", .str "stamp"]) := upd_same
    generalize upd H1 l (.lst [.str "name", .str "let", .str "stamp"]) = H2 at s2 g2 ⊢
    refine ⟨l, _, rfl, .inl (SqL.of g2), rfl, rfl, _, rfl, ?_⟩
    refine iteN (by decide +kernel) (iteF ?_)
    exact k H2 (s1.trans s2) _
  | cho a b c =>
    obtain ⟨p, x, y, z, rfl, hp, d1, d2, d3⟩ := id hd
    refine ⟨_, rfl, _, _, _, _, rfl, .tup hp, kt_tuple_tuple, _, rfl, iteF ?_⟩
    refine ⟨_, rfl, p, _, rfl, .inr (SqT.of hp), _, _, rfl, rfl, _, rfl, iteN rfl ?_⟩
    refine ⟨_, rfl, p, _, _, _, rfl, rfl, SqT.of hp, rfl, _, _, _, _, rfl, .str _, kt_str_str, _, rfl, iteF ?_⟩
    refine fun pd hpd => ⟨upd_same, sizesL, rfl, by decide, ?_⟩
    have s1 : Same H (upd (upd H pd (.dK [])) pd (.dK (mergeK [] sizesL))) := same_old (same_new hpd) hpd
    have g1 : (upd (upd H pd (.dK [])) pd (.dK (mergeK [] sizesL))) pd = some (.dK (mergeK [] sizesL)) := upd_same
    generalize upd (upd H pd (.dK [])) pd (.dK (mergeK [] sizesL)) = H1 at s1 g1 ⊢
    have hp1 := s1 _ _ hp
    have dg := DGet.k (k := .inr ("choose" : Str)) g1
    rw [show valV (mergeK [] sizesL) (.inr ("choose" : Str) : Key) = some (.int 4) from by decide +kernel] at dg
    refine ⟨_, rfl, pd, rfl, .inl ⟨_, .inl g1⟩, _, rfl, p, _, _, _, rfl, rfl, SqT.of hp1, rfl, _, dg, _, rfl, p, _, rfl, .inr (SqT.of hp1), rfl, _, rfl, ?_⟩
    refine iteN rfl (iteF ?_)
    refine ⟨_, rfl, p, _, _, _, rfl, rfl, SqT.of hp1, rfl, rfl, _, rfl, ?_⟩
    refine iteN (by decide +kernel) ?_
    refine ⟨_, rfl, p, _, _, _, rfl, rfl, SqT.of hp1, rfl, szl, fun l hl => ?_⟩
    have s2 := same_new (o := .lst [.str "name", .str "let", .str "stamp"]) hl
    have g2 : (upd H1 l (.lst [.str "name", .str "let", .str "stamp"])) l = some (.lst [.str "name", .str "let", .str "stamp"]) := upd_same
    generalize upd H1 l (.lst [.str "name", .str "let", .str "stamp"]) = H2 at s2 g2 ⊢
    refine ⟨l, _, rfl, .inl (SqL.of g2), rfl, rfl, _, rfl, ?_⟩
    refine iteN (by decide +kernel) (iteF ?_)
    exact k H2 (s1.trans s2) _
  | lt w a b =>
    obtain ⟨p, x, y, rfl, hp, d1, d2⟩ := id hd
    refine ⟨_, rfl, _, _, _, _, rfl, .tup hp, kt_tuple_tuple, _, rfl, iteF ?_⟩
    refine ⟨_, rfl, p, _, rfl, .inr (SqT.of hp), _, _, rfl, rfl, _, rfl, iteN rfl ?_⟩
    refine ⟨_, rfl, p, _, _, _, rfl, rfl, SqT.of hp, rfl, _, _, _, _, rfl, .str _, kt_str_str, _, rfl, iteF ?_⟩
    refine fun pd hpd => ⟨upd_same, sizesL, rfl, by decide, ?_⟩
    have s1 : Same H (upd (upd H pd (.dK [])) pd (.dK (mergeK [] sizesL))) := same_old (same_new hpd) hpd
    have g1 : (upd (upd H pd (.dK [])) pd (.dK (mergeK [] sizesL))) pd = some (.dK (mergeK [] sizesL)) := upd_same
    generalize upd (upd H pd (.dK [])) pd (.dK (mergeK [] sizesL)) = H1 at s1 g1 ⊢
    have hp1 := s1 _ _ hp
    have dg := DGet.k (k := .inr ("let" : Str)) g1
    rw [show valV (mergeK [] sizesL) (.inr ("let" : Str) : Key) = some (.int 4) from by decide +kernel] at dg
    refine ⟨_, rfl, pd, rfl, .inl ⟨_, .inl g1⟩, _, rfl, p, _, _, _, rfl, rfl, SqT.of hp1, rfl, _, dg, _, rfl, p, _, rfl, .inr (SqT.of hp1), rfl, _, rfl, ?_⟩
    refine iteN rfl (iteF ?_)
    refine ⟨_, rfl, p, _, _, _, rfl, rfl, SqT.of hp1, rfl, rfl, _, rfl, ?_⟩
    refine iteN (by decide +kernel) ?_
    refine ⟨_, rfl, p, _, _, _, rfl, rfl, SqT.of hp1, rfl, szl, fun l hl => ?_⟩
    have s2 := same_new (o := .lst [.str "name", .str "let", .str "stamp"]) hl
    have g2 : (upd H1 l (.lst [.str "name", .str "let", .str "stamp"])) l = some (.lst [.str "name", .str "let", .str "stamp"]) := upd_same
    generalize upd H1 l (.lst [.str "name", .str "let", .str "stamp"]) = H2 at s2 g2 ⊢
    refine ⟨l, _, rfl, .inl (SqL.of g2), rfl, rfl, _, rfl, ?_⟩
    refine iteY (by decide +kernel) ?_
    refine ⟨_, rfl, p, _, _, _, rfl, rfl, SqT.of (s2 _ _ hp1), rfl, _, _, _, _, rfl, .str _, kt_str_str, _, rfl, iteF ?_⟩
    exact k H2 (s1.trans s2) _
  | st0 w =>
    obtain ⟨p, rfl, hp⟩ := id hd
    refine ⟨_, rfl, _, _, _, _, rfl, .tup hp, kt_tuple_tuple, _, rfl, iteF ?_⟩
    refine ⟨_, rfl, p, _, rfl, .inr (SqT.of hp), _, _, rfl, rfl, _, rfl, iteN rfl ?_⟩
    refine ⟨_, rfl, p, _, _, _, rfl, rfl, SqT.of hp, rfl, _, _, _, _, rfl, .str _, kt_str_str, _, rfl, iteF ?_⟩
    refine fun pd hpd => ⟨upd_same, sizesL, rfl, by decide, ?_⟩
    have s1 : Same H (upd (upd H pd (.dK [])) pd (.dK (mergeK [] sizesL))) := same_old (same_new hpd) hpd
    have g1 : (upd (upd H pd (.dK [])) pd (.dK (mergeK [] sizesL))) pd = some (.dK (mergeK [] sizesL)) := upd_same
    generalize upd (upd H pd (.dK [])) pd (.dK (mergeK [] sizesL)) = H1 at s1 g1 ⊢
    have hp1 := s1 _ _ hp
    have dg := DGet.k (k := .inr ("stamp" : Str)) g1
    rw [show valV (mergeK [] sizesL) (.inr ("stamp" : Str) : Key) = none from by decide +kernel] at dg
    refine ⟨_, rfl, pd, rfl, .inl ⟨_, .inl g1⟩, _, rfl, p, _, _, _, rfl, rfl, SqT.of hp1, rfl, _, dg, _, rfl, p, _, rfl, .inr (SqT.of hp1), rfl, _, rfl, ?_⟩
    refine iteY rfl ?_
    refine ⟨_, rfl, p, _, _, _, rfl, rfl, SqT.of hp1, rfl, rfl, _, rfl, iteN (by decide +kernel) ?_⟩
    refine ⟨_, rfl, p, _, _, _, rfl, rfl, SqT.of hp1, rfl, rfl, _, rfl, ?_⟩
    refine iteN (by decide +kernel) ?_
    refine ⟨_, rfl, p, _, _, _, rfl, rfl, SqT.of hp1, rfl, szl, fun l hl => ?_⟩
    have s2 := same_new (o := .lst [.str "name", .str "let", .str "stamp"]) hl
    have g2 : (upd H1 l (.lst [.str "name", .str "let", .str "stamp"])) l = some (.lst [.str "name", .str "let", .str "stamp"]) := upd_same
    generalize upd H1 l (.lst [.str "name", .str "let", .str "stamp"]) = H2 at s2 g2 ⊢
    refine ⟨l, _, rfl, .inl (SqL.of g2), rfl, rfl, _, rfl, ?_⟩
    refine iteY (by decide +kernel) ?_
    refine ⟨_, rfl, p, _, _, _, rfl, rfl, SqT.of (s2 _ _ hp1), rfl, _, _, _, _, rfl, .str _, kt_str_str, _, rfl, iteF ?_⟩
    exact k H2 (s1.trans s2) _
  | st1 w a =>
    obtain ⟨p, x, rfl, hp, d1⟩ := id hd
    refine ⟨_, rfl, _, _, _, _, rfl, .tup hp, kt_tuple_tuple, _, rfl, iteF ?_⟩
    refine ⟨_, rfl, p, _, rfl, .inr (SqT.of hp), _, _, rfl, rfl, _, rfl, iteN rfl ?_⟩
    refine ⟨_, rfl, p, _, _, _, rfl, rfl, SqT.of hp, rfl, _, _, _, _, rfl, .str _, kt_str_str, _, rfl, iteF ?_⟩
    refine fun pd hpd => ⟨upd_same, sizesL, rfl, by decide, ?_⟩
    have s1 : Same H (upd (upd H pd (.dK [])) pd (.dK (mergeK [] sizesL))) := same_old (same_new hpd) hpd
    have g1 : (upd (upd H pd (.dK [])) pd (.dK (mergeK [] sizesL))) pd = some (.dK (mergeK [] sizesL)) := upd_same
    generalize upd (upd H pd (.dK [])) pd (.dK (mergeK [] sizesL)) = H1 at s1 g1 ⊢
    have hp1 := s1 _ _ hp
    have dg := DGet.k (k := .inr ("stamp" : Str)) g1
    rw [show valV (mergeK [] sizesL) (.inr ("stamp" : Str) : Key) = none from by decide +kernel] at dg
    refine ⟨_, rfl, pd, rfl, .inl ⟨_, .inl g1⟩, _, rfl, p, _, _, _, rfl, rfl, SqT.of hp1, rfl, _, dg, _, rfl, p, _, rfl, .inr (SqT.of hp1), rfl, _, rfl, ?_⟩
    refine iteY rfl ?_
    refine ⟨_, rfl, p, _, _, _, rfl, rfl, SqT.of hp1, rfl, rfl, _, rfl, iteN (by decide +kernel) ?_⟩
    refine ⟨_, rfl, p, _, _, _, rfl, rfl, SqT.of hp1, rfl, rfl, _, rfl, ?_⟩
    refine iteN (by decide +kernel) ?_
    refine ⟨_, rfl, p, _, _, _, rfl, rfl, SqT.of hp1, rfl, szl, fun l hl => ?_⟩
    have s2 := same_new (o := .lst [.str "name", .str "let", .str "stamp"]) hl
    have g2 : (upd H1 l (.lst [.str "name", .str "let", .str "stamp"])) l = some (.lst [.str "name", .str "let", .str "stamp"]) := upd_same
    generalize upd H1 l (.lst [.str "name", .str "let", .str "stamp"]) = H2 at s2 g2 ⊢
    refine ⟨l, _, rfl, .inl (SqL.of g2), rfl, rfl, _, rfl, ?_⟩
    refine iteY (by decide +kernel) ?_
    refine ⟨_, rfl, p, _, _, _, rfl, rfl, SqT.of (s2 _ _ hp1), rfl, _, _, _, _, rfl, .str _, kt_str_str, _, rfl, iteF ?_⟩
    exact k H2 (s1.trans s2) _
  | st2 w a b =>
    obtain ⟨p, x, y, rfl, hp, d1, d2⟩ := id hd
    refine ⟨_, rfl, _, _, _, _, rfl, .tup hp, kt_tuple_tuple, _, rfl, iteF ?_⟩
    refine ⟨_, rfl, p, _, rfl, .inr (SqT.of hp), _, _, rfl, rfl, _, rfl, iteN rfl ?_⟩
    refine ⟨_, rfl, p, _, _, _, rfl, rfl, SqT.of hp, rfl, _, _, _, _, rfl, .str _, kt_str_str, _, rfl, iteF ?_⟩
    refine fun pd hpd => ⟨upd_same, sizesL, rfl, by decide, ?_⟩
    have s1 : Same H (upd (upd H pd (.dK [])) pd (.dK (mergeK [] sizesL))) := same_old (same_new hpd) hpd
    have g1 : (upd (upd H pd (.dK [])) pd (.dK (mergeK [] sizesL))) pd = some (.dK (mergeK [] sizesL)) := upd_same
    generalize upd (upd H pd (.dK [])) pd (.dK (mergeK [] sizesL)) = H1 at s1 g1 ⊢
    have hp1 := s1 _ _ hp
    have dg := DGet.k (k := .inr ("stamp" : Str)) g1
    rw [show valV (mergeK [] sizesL) (.inr ("stamp" : Str) : Key) = none from by decide +kernel] at dg
    refine ⟨_, rfl, pd, rfl, .inl ⟨_, .inl g1⟩, _, rfl, p, _, _, _, rfl, rfl, SqT.of hp1, rfl, _, dg, _, rfl, p, _, rfl, .inr (SqT.of hp1), rfl, _, rfl, ?_⟩
    refine iteY rfl ?_
    refine ⟨_, rfl, p, _, _, _, rfl, rfl, SqT.of hp1, rfl, rfl, _, rfl, iteN (by decide +kernel) ?_⟩
    refine ⟨_, rfl, p, _, _, _, rfl, rfl, SqT.of hp1, rfl, rfl, _, rfl, ?_⟩
    refine iteN (by decide +kernel) ?_
    refine ⟨_, rfl, p, _, _, _, rfl, rfl, SqT.of hp1, rfl, szl, fun l hl => ?_⟩
    have s2 := same_new (o := .lst [.str "name", .str "let", .str "stamp"]) hl
    have g2 : (upd H1 l (.lst [.str "name", .str "let", .str "stamp"])) l = some (.lst [.str "name", .str "let", .str "stamp"]) := upd_same
    generalize upd H1 l (.lst [.str "name", .str "let", .str "stamp"]) = H2 at s2 g2 ⊢
    refine ⟨l, _, rfl, .inl (SqL.of g2), rfl, rfl, _, rfl, ?_⟩
    refine iteY (by decide +kernel) ?_
    refine ⟨_, rfl, p, _, _, _, rfl, rfl, SqT.of (s2 _ _ hp1), rfl, _, _, _, _, rfl, .str _, kt_str_str, _, rfl, iteF ?_⟩
    exact k H2 (s1.trans s2) _
structure IpSt (H₀ H : Hp) (tl : Addr) (us : List V) (ts : List T) : Prop where
  same : Same H₀ H
  new : H₀ tl = none
  at_ : H tl = some (.lst us)
  den : DenL H ts us
  sz : sizes ts ≤ 5000
theorem rd_ip (h : spIsPiece vs H Q E) : t_ip K (fin Q) (start ["_law_found", "_law_todo", "_law_part", "_law_sizes"] vs) H := by
  obtain ⟨t, v, rfl, hd, hs, k⟩ := h
  refine ⟨_, rfl, szl, fun tl htl => ?_⟩
  have s1 := same_new (o := .lst [v]) htl
  have g1 : (upd H tl (.lst [v])) tl = some (.lst [v]) := upd_same
  generalize upd H tl (.lst [v]) = H1 at s1 g1 ⊢
  refine ⟨fun m σ H' => ∃ tl us ts j2 j3, σ = [some v, some (.ref tl), j2, j3] ∧ IpSt H H' tl us ts ∧ m = sizes ts, ⟨_, tl, [v], [t], none, none, rfl, ⟨s1, htl, g1, .cons (hd.mono (tl_same s1)) .nil, by rw [sizes_cons, sizes_nil]; omega⟩, rfl⟩, ?_⟩
  clear s1 g1 htl
  rintro m σ H2 ⟨tl, us, ts, j2, j3, rfl, A, rfl⟩
  refine ⟨_, rfl, szl, fun e he => ?_⟩
  have s3 := same_new (o := .lst []) he
  have g3 : (upd H2 e (.lst [])) e = some (.lst []) := upd_same
  have A3 : IpSt H (upd H2 e (.lst [])) tl us ts := ⟨A.same.trans s3, A.new, s3 _ _ A.at_, A.den.mono (tl_same s3), A.sz⟩
  generalize upd H2 e (.lst []) = H3 at g3 A3 ⊢
  refine ⟨tl, e, us, rfl, rfl, SqL.of A3.at_, SqL.of g3, _, rfl, ?_⟩
  by_cases hv : us = []
  · subst hv
    exact iteN rfl (k _ A3.same)
  · obtain ⟨us, u, rfl⟩ := snoc_of_ne hv
    refine iteY (by simp) ?_
    obtain ⟨ts', t', rfl, d1, d2⟩ := A3.den.snoc
    refine ⟨fun σ' H' => ∃ m', m' < sizes (ts' ++ [t']) ∧ ∃ tl us ts j2 j3, σ' = [some v, some (.ref tl), j2, j3] ∧ IpSt H H' tl us ts ∧ m' = sizes ts, fun _ _ h => h, ?_⟩
    refine ⟨_, rfl, .inl ⟨rfl, _, SqL.of A3.at_⟩, tl, _, _, rfl, rfl, A3.at_, pop_at, ?_⟩
    rw [drop_at]
    have t4 := tl_lst (o := .lst us) A3.at_
    have s4 : Same H (upd H3 tl (.lst us)) := same_old A3.same A3.new
    have g4 : (upd H3 tl (.lst us)) tl = some (.lst us) := upd_same
    have c1 := d1.mono t4
    have c2 := d2.mono t4
    generalize upd H3 tl (.lst us) = H4 at s4 g4 c1 c2 ⊢
    refine rd_ip_part c2 fun H5 s5 j3 => ?_
    refine ⟨_, rfl, _, rfl, t', u, rfl, c2.mono (tl_same s5), fun l us2 H6 s6 n6 h6 d6 => ?_⟩
    have q1 := c1.length
    have q2 := d6.length
    have q3 := length_le_sizes ts'
    have q4 := length_le_sizes t'.kids
    have hk := sizes_kids t'
    have hz := A3.sz
    rw [sizes_append, sizes_cons, sizes_nil] at hz
    have s56 := s5.trans s6
    refine ⟨tl, l, us, us2, rfl, rfl, s56 _ _ g4, h6, by rw [sizeLine_eq]; omega, fun p7 hp7 => ?_⟩
    have s7 := same_new (o := .lst (us ++ us2)) hp7
    have s47 := s56.trans s7
    refine ⟨sizes (ts' ++ t'.kids), by rw [sizes_append, sizes_append, sizes_cons, sizes_nil]; omega, p7, us ++ us2, ts' ++ t'.kids, _, _, rfl, ⟨s4.trans s47, (s4.trans s56).free hp7, upd_same, (c1.mono (tl_same s47)).append (d6.mono (tl_same s7)), by rw [sizes_append]; omega⟩, rfl⟩
end S10

set_option Elab.async false
set_option linter.all false
set_option maxRecDepth 100000
set_option maxHeartbeats 4000000
namespace SW
open PySem L2
/-! ### the line of a piece -/
def cs (x : Str) : List Nat := x.cps.toList
theorem cs_append (x y : Str) : cs (x ++ y) = cs x ++ cs y := by
  show (x.cps ++ y.cps).toList = _
  rw [Array.toList_append]; rfl
theorem cs_len (x : Str) : (cs x).length = x.length := by simp [cs, Str.length]
theorem cs_inj {x y : Str} (h : cs x = cs y) : x = y := by
  obtain ⟨a⟩ := x
  obtain ⟨b⟩ := y
  have : a.toList = b.toList := h
  rw [Array.toList_inj.mp this]
def ln : T → List Nat
  | .num n => cs (toString n)
  | .name w => cs w
  | .sum a b => cs "(" ++ (ln a ++ (cs "+" ++ (ln b ++ cs ")")))
  | .less a b => cs "(" ++ (ln a ++ (cs "-" ++ (ln b ++ cs ")")))
  | .cho a b c => cs "(" ++ (ln a ++ (cs "?" ++ (ln b ++ (cs ":" ++ (ln c ++ cs ")")))))
  | .lt w a b => cs "[" ++ (cs w ++ (cs "=" ++ (ln a ++ (cs "]" ++ ln b))))
  | .st0 w => cs w ++ (cs "{" ++ cs "}")
  | .st1 w a => cs w ++ (cs "{" ++ (ln a ++ cs "}"))
  | .st2 w a b => cs w ++ (cs "{" ++ (ln a ++ (cs "," ++ (ln b ++ cs "}"))))
abbrev It2 := Sum Str T
def iln : It2 → List Nat
  | .inl s => cs s
  | .inr t => ln t
def flat : List It2 → List Nat
  | [] => []
  | i :: r => iln i ++ flat r
def wi : It2 → Nat
  | .inl _ => 1
  | .inr t => 4 * t.size
def wis : List It2 → Nat
  | [] => 0
  | i :: r => wi i + wis r
def ItAt (H : Hp) : It2 → V → Prop
  | .inl s, u => u = .str s
  | .inr t, u => Den H t u
/-- the head is the last of the list -/
inductive ItL (H : Hp) : List It2 → List V → Prop where
  | nil : ItL H [] []
  | snoc {i : It2} {u : V} {is : List It2} {us : List V} : ItL H is us → ItAt H i u → ItL H (i :: is) (us ++ [u])
theorem ItAt.mono {H H' : Hp} (m : TupLe H H') : ∀ {i : It2} {u : V}, ItAt H i u → ItAt H' i u
  | .inl _, _, h => h
  | .inr _, _, h => Den.mono m h
theorem ItL.mono {H H' : Hp} (m : TupLe H H') : ∀ {is : List It2} {us : List V}, ItL H is us → ItL H' is us
  | _, _, .nil => .nil
  | _, _, .snoc r a => .snoc (ItL.mono m r) (a.mono m)
theorem ItL.length {H : Hp} : ∀ {is : List It2} {us : List V}, ItL H is us → us.length = is.length
  | _, _, .nil => rfl
  | _, _, .snoc r _ => by rw [List.length_append, List.length_cons, ItL.length r]; rfl
theorem len_wis : ∀ is : List It2, is.length ≤ wis is
  | [] => Nat.le_refl _
  | .inl _ :: r => by have := len_wis r; simp only [List.length_cons, wis, wi]; omega
  | .inr t :: r => by have := len_wis r; have := t.size_pos; simp only [List.length_cons, wis, wi]; omega
theorem num_log {n : Int} (h : -(10 ^ 60) < n ∧ n < 10 ^ 60) : n.natAbs.log2 < 1920 := by
  by_cases e : n.natAbs = 0
  · rw [e]; decide +kernel
  · rw [Nat.log2_lt e]
    have h1 : n.natAbs < 10 ^ 60 := by
      have e1 : ((10 : Int) ^ 60) = ((10 ^ 60 : Nat) : Int) := by norm_cast
      rw [e1] at h
      generalize (10 ^ 60 : Nat) = y at *
      omega
    exact Nat.lt_trans h1 (by decide +kernel)
def spLine (S : Str → Nat → Prop) : Sp := fun vs H Q _ => ∃ (t : T) (v : V), vs = [v] ∧ Den H t v ∧ WT S t ∧ t.size ≤ 1000 ∧ (ln t).length ≤ 1000000 ∧ ∀ (x : Str) (H' : Hp), Same H H' → cs x = ln t → Q (.str x) H'
structure LoSt (S : Str → Nat → Prop) (H₀ H : Hp) (R : List Nat) (tl : Addr) (x : Str) (is : List It2) (us : List V) : Prop where
  same : Same H₀ H
  new : H₀ tl = none
  at_ : H tl = some (.lst us)
  its : ItL H is us
  eq : cs x ++ flat is = R
  few : wis is ≤ 4000
  wt : ∀ t, Sum.inr t ∈ is → WT S t
theorem LoSt.fits {S : Str → Nat → Prop} {R : List Nat} {x : Str} {l : List Nat} {y : Str} {r : List Nat} (hR : R.length ≤ 1000000) (e : cs x ++ l = R) (el : l = cs y ++ r) : x.length + y.length ≤ sizeLine := by
  rw [el] at e
  have := congrArg List.length e
  simp only [List.length_append, cs_len] at this
  rw [sizeLine_eq]; omega
end SW

set_option Elab.async false
set_option linter.all false
set_option maxRecDepth 100000
set_option maxHeartbeats 4000000
namespace SW
open PySem L2
def signsL : List (Key × V) := [(.inr "sum", .str "+"), (.inr "less", .str "-"), (.inr "choose", .str "?")]
theorem flat_append : ∀ (a b : List It2), flat (a ++ b) = flat a ++ flat b
  | [], _ => rfl
  | i :: r, b => by rw [List.cons_append, flat, flat, flat_append r b, List.append_assoc]
theorem wis_append : ∀ (a b : List It2), wis (a ++ b) = wis a + wis b
  | [], _ => by simp [wis]
  | i :: r, b => by rw [List.cons_append, wis, wis, wis_append r b, Nat.add_assoc]
end SW
namespace S10
open PySem L2 SW
variable {K : PySem.W.Frag} {vs : List V} {H H₀ : Hp} {Q : VK} {E : XK}
theorem rd_lo_part {S : Str → Nat → Prop} {R : List Nat} {t : T} {v0 : V} {tl p : Addr} {x : Str} {is : List It2} {us : List V} {D : Ends} {j4 j5 : Option V} (hd : Den H t (.ref p)) (hw : WT S t) (hR : R.length ≤ 1000000)
    (same : Same H₀ H) (new : H₀ tl = none) (at_ : H tl = some (.lst us)) (its : ItL H is us) (eq : cs x ++ (ln t ++ flat is) = R) (few : us.length ≤ 4000)
    (hN : ∀ (x' : Str) (tl' : Addr) (ns : List It2) (us' : List V) (H' : Hp) (j3 j4 j5 : Option V), Same H₀ H' → H₀ tl' = none → H' tl' = some (.lst us') → ItL H' (ns ++ is) us' → cs x' ++ (flat ns ++ flat is) = R → wis ns < 4 * t.size → (∀ t', Sum.inr t' ∈ ns → WT S t') → D.nx [some v0, some (.str x'), some (.ref tl'), j3, j4, j5] H') :
    t_lo_15 K D [some v0, some (.str x), some (.ref tl), some (.ref p), j4, j5] H := by
  cases t with
  | num n =>
    obtain ⟨p', ep, hp⟩ := hd
    cases ep
    refine ⟨_, rfl, p, _, _, _, rfl, rfl, SqT.of hp, rfl, rfl, _, rfl, iteY (by decide +kernel) ?_⟩
    refine ⟨_, rfl, _, rfl, p, _, _, _, rfl, rfl, SqT.of hp, rfl, n, rfl, num_log hw, x, _, rfl, rfl, LoSt.fits (S := S) hR eq rfl, ?_⟩
    refine hN _ tl [] us _ _ _ _ same new at_ its ?_ (by simp [wis, T.size]) (by intro t' h; cases h)
    rw [cs_append, ← eq]; simp [ln, flat]
  | name w =>
    obtain ⟨p', ep, hp⟩ := hd
    cases ep
    refine ⟨_, rfl, p, _, _, _, rfl, rfl, SqT.of hp, rfl, rfl, _, rfl, iteN (by decide +kernel) ?_⟩
    refine ⟨_, rfl, p, _, _, _, rfl, rfl, SqT.of hp, rfl, rfl, _, rfl, iteY (by decide +kernel) ?_⟩
    refine ⟨_, rfl, _, rfl, p, _, _, _, rfl, rfl, SqT.of hp, rfl, x, w, rfl, rfl, LoSt.fits (S := S) hR eq rfl, ?_⟩
    refine hN _ tl [] us _ _ _ _ same new at_ its ?_ (by simp [wis, T.size]) (by intro t' h; cases h)
    rw [cs_append, ← eq]; simp [ln, flat]
  | lt w a b =>
    obtain ⟨p', x1, y1, ep, hp, d1, d2⟩ := hd
    cases ep
    refine ⟨_, rfl, p, _, _, _, rfl, rfl, SqT.of hp, rfl, rfl, _, rfl, iteN (by decide +kernel) ?_⟩
    refine ⟨_, rfl, p, _, _, _, rfl, rfl, SqT.of hp, rfl, rfl, _, rfl, iteN (by decide +kernel) ?_⟩
    refine ⟨_, rfl, p, _, _, _, rfl, rfl, SqT.of hp, rfl, rfl, _, rfl, iteY (by decide +kernel) ?_⟩
    have f1 := LoSt.fits (S := S) (y := "[") (r := cs w ++ (cs "=" ++ (ln a ++ (cs "]" ++ ln b))) ++ flat is) hR eq (by simp [ln])
    have f2 := LoSt.fits (S := S) (x := x ++ "[") (l := cs w ++ (cs "=" ++ (ln a ++ (cs "]" ++ ln b))) ++ flat is) (y := w) (r := cs "=" ++ (ln a ++ (cs "]" ++ ln b)) ++ flat is) hR (by rw [cs_append, ← eq]; simp [ln]) (by simp)
    have f3 := LoSt.fits (S := S) (x := x ++ "[" ++ w) (l := cs "=" ++ (ln a ++ (cs "]" ++ ln b)) ++ flat is) (y := "=") (r := (ln a ++ (cs "]" ++ ln b)) ++ flat is) hR (by rw [cs_append, cs_append, ← eq]; simp [ln]) (by simp)
    refine ⟨_, rfl, x, _, rfl, rfl, f1, _, rfl, p, _, _, _, rfl, rfl, SqT.of hp, rfl, _, _, rfl, rfl, f2, _, _, rfl, rfl, f3, ?_⟩
    refine ⟨_, rfl, _, rfl, p, _, _, _, rfl, rfl, SqT.of hp, rfl, _, rfl, p, _, _, _, rfl, rfl, SqT.of hp, rfl, szl, fun l hl => ?_⟩
    have s3 := same_new (o := .lst [y1, .str "]", x1]) hl
    have g3 : (upd H l (.lst [y1, .str "]", x1])) l = some (.lst [y1, .str "]", x1]) := upd_same
    generalize upd H l (.lst [y1, .str "]", x1]) = H3 at s3 g3 ⊢
    refine ⟨tl, l, _, _, rfl, rfl, s3 _ _ at_, g3, by simp only [List.length_append, List.length_cons, List.length_nil]; rw [sizeLine_eq]; omega, fun q hq => ?_⟩
    have s4 := same_new (o := .lst (us ++ [y1, .str "]", x1])) hq
    have s34 := s3.trans s4
    have j := its.mono (tl_same s34)
    refine hN (x ++ "[" ++ w ++ "=") q [.inr a, .inl "]", .inr b] (us ++ [y1, .str "]", x1]) _ _ _ _ (same.trans s34) ((same.trans s3).free hq) upd_same ?_ ?_ ?_ ?_
    · have e := ItL.snoc (i := .inr a) (u := x1) (ItL.snoc (i := .inl "]") (u := .str "]") (ItL.snoc (i := .inr b) (u := y1) j (d2.mono (tl_same s34))) rfl) (d1.mono (tl_same s34))
      simpa using e
    · rw [cs_append, cs_append, cs_append, ← eq]; simp [ln, flat, iln]
    · simp only [wis, wi, T.size]; omega
    · intro t' ht'
      simp only [List.mem_cons, List.not_mem_nil, or_false, Sum.inr.injEq, reduceCtorEq, false_or] at ht'
      rcases ht' with rfl | rfl
      · exact hw.2.1
      · exact hw.2.2
  | sum a b =>
    obtain ⟨p', x1, y1, ep, hp, d1, d2⟩ := hd
    cases ep
    refine ⟨_, rfl, p, _, _, _, rfl, rfl, SqT.of hp, rfl, rfl, _, rfl, iteN (by decide +kernel) ?_⟩
    refine ⟨_, rfl, p, _, _, _, rfl, rfl, SqT.of hp, rfl, rfl, _, rfl, iteN (by decide +kernel) ?_⟩
    refine ⟨_, rfl, p, _, _, _, rfl, rfl, SqT.of hp, rfl, rfl, _, rfl, iteN (by decide +kernel) ?_⟩
    refine ⟨_, rfl, p, _, _, _, rfl, rfl, SqT.of hp, rfl, rfl, _, rfl, iteN (by decide +kernel) ?_⟩
    refine fun pd hpd => ⟨upd_same, signsL, rfl, by decide, ?_⟩
    have s1 : Same H (upd (upd H pd (.dK [])) pd (.dK (mergeK [] signsL))) := same_old (same_new hpd) hpd
    have g1 : (upd (upd H pd (.dK [])) pd (.dK (mergeK [] signsL))) pd = some (.dK (mergeK [] signsL)) := upd_same
    generalize upd (upd H pd (.dK [])) pd (.dK (mergeK [] signsL)) = H1 at s1 g1 ⊢
    have f1 := LoSt.fits (S := S) (y := "(") (r := ln a ++ (cs "+" ++ (ln b ++ cs ")")) ++ flat is) hR eq (by simp [ln])
    refine ⟨_, rfl, x, _, rfl, rfl, f1, ?_⟩
    have at1 := s1 _ _ at_
    refine ⟨_, rfl, .inl ⟨rfl, _, SqL.of at1⟩, tl, us, _, rfl, rfl, at1, by rw [sizeLine_eq]; omega, ?_⟩
    have t2 := tl_lst (o := .lst (us ++ [.str ")"])) at1
    have s2 : Same H₀ (upd H1 tl (.lst (us ++ [.str ")"]))) := same_old (same.trans s1) new
    have g2 : (upd H1 tl (.lst (us ++ [.str ")"]))) tl = some (.lst (us ++ [.str ")"])) := upd_same
    have i2 := (its.mono (tl_same s1)).mono t2
    have hp2 := t2 _ _ (s1 _ _ hp)
    have c1 := (d1.mono (tl_same s1)).mono t2
    have c2 := (d2.mono (tl_same s1)).mono t2
    have k2 := dk_lst (o := .lst (us ++ [.str ")"])) at1 _ _ g1
    generalize upd H1 tl (.lst (us ++ [.str ")"])) = H2 at s2 g2 i2 hp2 c1 c2 k2 ⊢
    refine ⟨_, rfl, p, _, _, _, rfl, rfl, SqT.of hp2, rfl, rfl, _, rfl, iteN (by decide +kernel) ?_⟩
    have dg := DGet.k (k := .inr ("sum" : Str)) k2
    rw [show valV (mergeK [] signsL) (.inr ("sum" : Str) : Key) = some (.str "+") from by decide +kernel] at dg
    refine ⟨_, rfl, _, rfl, p, _, _, _, rfl, rfl, SqT.of hp2, rfl, _, rfl, _, rfl, p, _, _, _, rfl, rfl, SqT.of hp2, rfl, pd, _, rfl, dg, _, rfl, p, _, _, _, rfl, rfl, SqT.of hp2, rfl, szl, fun l hl => ?_⟩
    have s3 := same_new (o := .lst [y1, .str "+", x1]) hl
    have g3 : (upd H2 l (.lst [y1, .str "+", x1])) l = some (.lst [y1, .str "+", x1]) := upd_same
    generalize upd H2 l (.lst [y1, .str "+", x1]) = H3 at s3 g3 ⊢
    refine ⟨tl, l, _, _, rfl, rfl, s3 _ _ g2, g3, by simp only [List.length_append, List.length_cons, List.length_nil]; rw [sizeLine_eq]; omega, fun q hq => ?_⟩
    have s4 := same_new (o := .lst (us ++ [.str ")"] ++ [y1, .str "+", x1])) hq
    have s34 := s3.trans s4
    have j := i2.mono (tl_same s34)
    refine hN (x ++ "(") q [.inr a, .inl "+", .inr b, .inl ")"] (us ++ [.str ")"] ++ [y1, .str "+", x1]) _ _ _ _ (s2.trans s34) ((s2.trans s3).free hq) upd_same ?_ ?_ ?_ ?_
    · have e := ItL.snoc (i := .inr a) (u := x1) (ItL.snoc (i := .inl "+") (u := .str "+") (ItL.snoc (i := .inr b) (u := y1) (ItL.snoc (i := .inl ")") (u := .str ")") j rfl) (c2.mono (tl_same s34))) rfl) (c1.mono (tl_same s34))
      simpa using e
    · rw [cs_append, ← eq]; simp [ln, flat, iln]
    · simp only [wis, wi, T.size]; omega
    · intro t' ht'
      simp only [List.mem_cons, List.not_mem_nil, or_false, Sum.inr.injEq, reduceCtorEq, false_or] at ht'
      rcases ht' with rfl | rfl
      · exact hw.1
      · exact hw.2
  | less a b =>
    obtain ⟨p', x1, y1, ep, hp, d1, d2⟩ := hd
    cases ep
    refine ⟨_, rfl, p, _, _, _, rfl, rfl, SqT.of hp, rfl, rfl, _, rfl, iteN (by decide +kernel) ?_⟩
    refine ⟨_, rfl, p, _, _, _, rfl, rfl, SqT.of hp, rfl, rfl, _, rfl, iteN (by decide +kernel) ?_⟩
    refine ⟨_, rfl, p, _, _, _, rfl, rfl, SqT.of hp, rfl, rfl, _, rfl, iteN (by decide +kernel) ?_⟩
    refine ⟨_, rfl, p, _, _, _, rfl, rfl, SqT.of hp, rfl, rfl, _, rfl, iteN (by decide +kernel) ?_⟩
    refine fun pd hpd => ⟨upd_same, signsL, rfl, by decide, ?_⟩
    have s1 : Same H (upd (upd H pd (.dK [])) pd (.dK (mergeK [] signsL))) := same_old (same_new hpd) hpd
    have g1 : (upd (upd H pd (.dK [])) pd (.dK (mergeK [] signsL))) pd = some (.dK (mergeK [] signsL)) := upd_same
    generalize upd (upd H pd (.dK [])) pd (.dK (mergeK [] signsL)) = H1 at s1 g1 ⊢
    have f1 := LoSt.fits (S := S) (y := "(") (r := ln a ++ (cs "-" ++ (ln b ++ cs ")")) ++ flat is) hR eq (by simp [ln])
    refine ⟨_, rfl, x, _, rfl, rfl, f1, ?_⟩
    have at1 := s1 _ _ at_
    refine ⟨_, rfl, .inl ⟨rfl, _, SqL.of at1⟩, tl, us, _, rfl, rfl, at1, by rw [sizeLine_eq]; omega, ?_⟩
    have t2 := tl_lst (o := .lst (us ++ [.str ")"])) at1
    have s2 : Same H₀ (upd H1 tl (.lst (us ++ [.str ")"]))) := same_old (same.trans s1) new
    have g2 : (upd H1 tl (.lst (us ++ [.str ")"]))) tl = some (.lst (us ++ [.str ")"])) := upd_same
    have i2 := (its.mono (tl_same s1)).mono t2
    have hp2 := t2 _ _ (s1 _ _ hp)
    have c1 := (d1.mono (tl_same s1)).mono t2
    have c2 := (d2.mono (tl_same s1)).mono t2
    have k2 := dk_lst (o := .lst (us ++ [.str ")"])) at1 _ _ g1
    generalize upd H1 tl (.lst (us ++ [.str ")"])) = H2 at s2 g2 i2 hp2 c1 c2 k2 ⊢
    refine ⟨_, rfl, p, _, _, _, rfl, rfl, SqT.of hp2, rfl, rfl, _, rfl, iteN (by decide +kernel) ?_⟩
    have dg := DGet.k (k := .inr ("less" : Str)) k2
    rw [show valV (mergeK [] signsL) (.inr ("less" : Str) : Key) = some (.str "-") from by decide +kernel] at dg
    refine ⟨_, rfl, _, rfl, p, _, _, _, rfl, rfl, SqT.of hp2, rfl, _, rfl, _, rfl, p, _, _, _, rfl, rfl, SqT.of hp2, rfl, pd, _, rfl, dg, _, rfl, p, _, _, _, rfl, rfl, SqT.of hp2, rfl, szl, fun l hl => ?_⟩
    have s3 := same_new (o := .lst [y1, .str "-", x1]) hl
    have g3 : (upd H2 l (.lst [y1, .str "-", x1])) l = some (.lst [y1, .str "-", x1]) := upd_same
    generalize upd H2 l (.lst [y1, .str "-", x1]) = H3 at s3 g3 ⊢
    refine ⟨tl, l, _, _, rfl, rfl, s3 _ _ g2, g3, by simp only [List.length_append, List.length_cons, List.length_nil]; rw [sizeLine_eq]; omega, fun q hq => ?_⟩
    have s4 := same_new (o := .lst (us ++ [.str ")"] ++ [y1, .str "-", x1])) hq
    have s34 := s3.trans s4
    have j := i2.mono (tl_same s34)
    refine hN (x ++ "(") q [.inr a, .inl "-", .inr b, .inl ")"] (us ++ [.str ")"] ++ [y1, .str "-", x1]) _ _ _ _ (s2.trans s34) ((s2.trans s3).free hq) upd_same ?_ ?_ ?_ ?_
    · have e := ItL.snoc (i := .inr a) (u := x1) (ItL.snoc (i := .inl "-") (u := .str "-") (ItL.snoc (i := .inr b) (u := y1) (ItL.snoc (i := .inl ")") (u := .str ")") j rfl) (c2.mono (tl_same s34))) rfl) (c1.mono (tl_same s34))
      simpa using e
    · rw [cs_append, ← eq]; simp [ln, flat, iln]
    · simp only [wis, wi, T.size]; omega
    · intro t' ht'
      simp only [List.mem_cons, List.not_mem_nil, or_false, Sum.inr.injEq, reduceCtorEq, false_or] at ht'
      rcases ht' with rfl | rfl
      · exact hw.1
      · exact hw.2
  | cho a b c =>
    obtain ⟨p', x1, y1, z1, ep, hp, d1, d2, d3⟩ := hd
    cases ep
    refine ⟨_, rfl, p, _, _, _, rfl, rfl, SqT.of hp, rfl, rfl, _, rfl, iteN (by decide +kernel) ?_⟩
    refine ⟨_, rfl, p, _, _, _, rfl, rfl, SqT.of hp, rfl, rfl, _, rfl, iteN (by decide +kernel) ?_⟩
    refine ⟨_, rfl, p, _, _, _, rfl, rfl, SqT.of hp, rfl, rfl, _, rfl, iteN (by decide +kernel) ?_⟩
    refine ⟨_, rfl, p, _, _, _, rfl, rfl, SqT.of hp, rfl, rfl, _, rfl, iteN (by decide +kernel) ?_⟩
    refine fun pd hpd => ⟨upd_same, signsL, rfl, by decide, ?_⟩
    have s1 : Same H (upd (upd H pd (.dK [])) pd (.dK (mergeK [] signsL))) := same_old (same_new hpd) hpd
    have g1 : (upd (upd H pd (.dK [])) pd (.dK (mergeK [] signsL))) pd = some (.dK (mergeK [] signsL)) := upd_same
    generalize upd (upd H pd (.dK [])) pd (.dK (mergeK [] signsL)) = H1 at s1 g1 ⊢
    have f1 := LoSt.fits (S := S) (y := "(") (r := ln a ++ (cs "?" ++ (ln b ++ (cs ":" ++ (ln c ++ cs ")")))) ++ flat is) hR eq (by simp [ln])
    refine ⟨_, rfl, x, _, rfl, rfl, f1, ?_⟩
    have at1 := s1 _ _ at_
    refine ⟨_, rfl, .inl ⟨rfl, _, SqL.of at1⟩, tl, us, _, rfl, rfl, at1, by rw [sizeLine_eq]; omega, ?_⟩
    have t2 := tl_lst (o := .lst (us ++ [.str ")"])) at1
    have s2 : Same H₀ (upd H1 tl (.lst (us ++ [.str ")"]))) := same_old (same.trans s1) new
    have g2 : (upd H1 tl (.lst (us ++ [.str ")"]))) tl = some (.lst (us ++ [.str ")"])) := upd_same
    have i2 := (its.mono (tl_same s1)).mono t2
    have hp2 := t2 _ _ (s1 _ _ hp)
    have c1 := (d1.mono (tl_same s1)).mono t2
    have c2 := (d2.mono (tl_same s1)).mono t2
    have c3 := (d3.mono (tl_same s1)).mono t2
    have k2 := dk_lst (o := .lst (us ++ [.str ")"])) at1 _ _ g1
    generalize upd H1 tl (.lst (us ++ [.str ")"])) = H2 at s2 g2 i2 hp2 c1 c2 c3 k2 ⊢
    refine ⟨_, rfl, p, _, _, _, rfl, rfl, SqT.of hp2, rfl, rfl, _, rfl, iteY (by decide +kernel) ?_⟩
    refine ⟨_, rfl, _, rfl, p, _, _, _, rfl, rfl, SqT.of hp2, rfl, szl, fun la hla => ?_⟩
    have sa := same_new (o := .lst [z1, .str ":"]) hla
    have ga : (upd H2 la (.lst [z1, .str ":"])) la = some (.lst [z1, .str ":"]) := upd_same
    generalize upd H2 la (.lst [z1, .str ":"]) = Ha at sa ga ⊢
    refine ⟨tl, la, _, _, rfl, rfl, sa _ _ g2, ga, by simp only [List.length_append, List.length_cons, List.length_nil]; rw [sizeLine_eq]; omega, fun tb htb => ?_⟩
    have sb := same_new (o := .lst (us ++ [.str ")"] ++ [z1, .str ":"])) htb
    have gb : (upd Ha tb (.lst (us ++ [.str ")"] ++ [z1, .str ":"]))) tb = some (.lst (us ++ [.str ")"] ++ [z1, .str ":"])) := upd_same
    generalize upd Ha tb (.lst (us ++ [.str ")"] ++ [z1, .str ":"])) = Hb at sb gb ⊢
    have sab := sa.trans sb
    have hpb := sab _ _ hp2
    have dg := DGet.k (k := .inr ("choose" : Str)) (sab _ _ k2)
    rw [show valV (mergeK [] signsL) (.inr ("choose" : Str) : Key) = some (.str "?") from by decide +kernel] at dg
    refine ⟨_, rfl, _, rfl, p, _, _, _, rfl, rfl, SqT.of hpb, rfl, _, rfl, _, rfl, p, _, _, _, rfl, rfl, SqT.of hpb, rfl, pd, _, rfl, dg, _, rfl, p, _, _, _, rfl, rfl, SqT.of hpb, rfl, szl, fun l hl => ?_⟩
    have s3 := same_new (o := .lst [y1, .str "?", x1]) hl
    have g3 : (upd Hb l (.lst [y1, .str "?", x1])) l = some (.lst [y1, .str "?", x1]) := upd_same
    generalize upd Hb l (.lst [y1, .str "?", x1]) = H3 at s3 g3 ⊢
    refine ⟨tb, l, _, _, rfl, rfl, s3 _ _ gb, g3, by simp only [List.length_append, List.length_cons, List.length_nil]; rw [sizeLine_eq]; omega, fun q hq => ?_⟩
    have s4 := same_new (o := .lst (us ++ [.str ")"] ++ [z1, .str ":"] ++ [y1, .str "?", x1])) hq
    have s34 := sab.trans (s3.trans s4)
    have j := i2.mono (tl_same s34)
    refine hN (x ++ "(") q [.inr a, .inl "?", .inr b, .inl ":", .inr c, .inl ")"] (us ++ [.str ")"] ++ [z1, .str ":"] ++ [y1, .str "?", x1]) _ _ _ _ (s2.trans s34) ((s2.trans (sab.trans s3)).free hq) upd_same ?_ ?_ ?_ ?_
    · have e := ItL.snoc (i := .inr a) (u := x1) (ItL.snoc (i := .inl "?") (u := .str "?") (ItL.snoc (i := .inr b) (u := y1) (ItL.snoc (i := .inl ":") (u := .str ":") (ItL.snoc (i := .inr c) (u := z1) (ItL.snoc (i := .inl ")") (u := .str ")") j rfl) (c3.mono (tl_same s34))) rfl) (c2.mono (tl_same s34))) rfl) (c1.mono (tl_same s34))
      simpa using e
    · rw [cs_append, ← eq]; simp [ln, flat, iln]
    · simp only [wis, wi, T.size]; omega
    · intro t' ht'
      simp only [List.mem_cons, List.not_mem_nil, or_false, Sum.inr.injEq, reduceCtorEq, false_or] at ht'
      rcases ht' with rfl | rfl | rfl
      · exact hw.1
      · exact hw.2.1
      · exact hw.2.2
  | st0 w =>
    obtain ⟨p', ep, hp⟩ := hd
    cases ep
    refine ⟨_, rfl, p, _, _, _, rfl, rfl, SqT.of hp, rfl, rfl, _, rfl, iteN (by decide +kernel) ?_⟩
    refine ⟨_, rfl, p, _, _, _, rfl, rfl, SqT.of hp, rfl, rfl, _, rfl, iteN (by decide +kernel) ?_⟩
    refine ⟨_, rfl, p, _, _, _, rfl, rfl, SqT.of hp, rfl, rfl, _, rfl, iteN (by decide +kernel) ?_⟩
    refine ⟨_, rfl, p, _, _, _, rfl, rfl, SqT.of hp, rfl, rfl, _, rfl, iteY (by decide +kernel) ?_⟩
    have f1 := LoSt.fits (S := S) (y := w) (r := cs "{" ++ (cs "}") ++ flat is) hR eq (by simp [ln])
    have f2 := LoSt.fits (S := S) (x := x ++ w) (l := cs "{" ++ (cs "}") ++ flat is) (y := "{") (r := (cs "}") ++ flat is) hR (by rw [cs_append, ← eq]; simp [ln]) (by simp)
    refine ⟨_, rfl, _, rfl, p, _, _, _, rfl, rfl, SqT.of hp, rfl, x, w, rfl, rfl, f1, _, _, rfl, rfl, f2, ?_⟩
    refine ⟨_, rfl, .inl ⟨rfl, _, SqL.of at_⟩, tl, us, _, rfl, rfl, at_, by rw [sizeLine_eq]; omega, ?_⟩
    have t2 := tl_lst (o := .lst (us ++ [.str "}"])) at_
    have s2 : Same H₀ (upd H tl (.lst (us ++ [.str "}"]))) := same_old same new
    have g2 : (upd H tl (.lst (us ++ [.str "}"]))) tl = some (.lst (us ++ [.str "}"])) := upd_same
    have i2 := its.mono t2
    have hp2 := t2 _ _ hp
    generalize upd H tl (.lst (us ++ [.str "}"])) = H2 at s2 g2 i2 hp2  ⊢
    refine ⟨_, rfl, p, _, rfl, .inr (SqT.of hp2), _, _, rfl, rfl, _, rfl, 1, 1, rfl, ⟨by decide, by decide, by decide, by decide⟩, ?_⟩
    refine ⟨fun i m σ H' => m = 0 - i ∧ (∃ j4, σ = [some v0, some (.str (x ++ w ++ "{")), some (.ref tl), some (.ref p), j4, j5]) ∧ Same H₀ H' ∧ TupLe H2 H' ∧ ((i = 0 ∧ H' tl = some (.lst (us ++ [.str "}"] ++ [])))), ⟨_, rfl, ⟨_, rfl⟩, s2, .refl, ⟨rfl, by simpa using g2⟩⟩, ?_⟩
    rintro i m σ H' ⟨rfl, ⟨j4, rfl⟩, s', t', hc⟩
    have hp' := t' _ _ hp2
    obtain ⟨rfl, e⟩ := hc
    refine .inl ⟨show _ ≤ 0 by decide, hN (x ++ w ++ "{") tl [.inl "}"] (us ++ [.str "}"] ++ []) _ _ _ _ s' new e ?_ ?_ ?_ ?_⟩
    · have e := ItL.snoc (i := .inl "}") (u := .str "}") (i2.mono t') rfl
      simpa using e
    · rw [cs_append, cs_append, ← eq]; simp [ln, flat, iln]
    · simp only [wis, wi, T.size]; omega
    · intro t' ht'
      simp only [List.mem_cons, List.not_mem_nil, or_false, Sum.inr.injEq, reduceCtorEq, false_or] at ht'
  | st1 w a =>
    obtain ⟨p', x1, ep, hp, d1⟩ := hd
    cases ep
    refine ⟨_, rfl, p, _, _, _, rfl, rfl, SqT.of hp, rfl, rfl, _, rfl, iteN (by decide +kernel) ?_⟩
    refine ⟨_, rfl, p, _, _, _, rfl, rfl, SqT.of hp, rfl, rfl, _, rfl, iteN (by decide +kernel) ?_⟩
    refine ⟨_, rfl, p, _, _, _, rfl, rfl, SqT.of hp, rfl, rfl, _, rfl, iteN (by decide +kernel) ?_⟩
    refine ⟨_, rfl, p, _, _, _, rfl, rfl, SqT.of hp, rfl, rfl, _, rfl, iteY (by decide +kernel) ?_⟩
    have f1 := LoSt.fits (S := S) (y := w) (r := cs "{" ++ (ln a ++ cs "}") ++ flat is) hR eq (by simp [ln])
    have f2 := LoSt.fits (S := S) (x := x ++ w) (l := cs "{" ++ (ln a ++ cs "}") ++ flat is) (y := "{") (r := (ln a ++ cs "}") ++ flat is) hR (by rw [cs_append, ← eq]; simp [ln]) (by simp)
    refine ⟨_, rfl, _, rfl, p, _, _, _, rfl, rfl, SqT.of hp, rfl, x, w, rfl, rfl, f1, _, _, rfl, rfl, f2, ?_⟩
    refine ⟨_, rfl, .inl ⟨rfl, _, SqL.of at_⟩, tl, us, _, rfl, rfl, at_, by rw [sizeLine_eq]; omega, ?_⟩
    have t2 := tl_lst (o := .lst (us ++ [.str "}"])) at_
    have s2 : Same H₀ (upd H tl (.lst (us ++ [.str "}"]))) := same_old same new
    have g2 : (upd H tl (.lst (us ++ [.str "}"]))) tl = some (.lst (us ++ [.str "}"])) := upd_same
    have i2 := its.mono t2
    have hp2 := t2 _ _ hp
    have c1 := d1.mono t2
    generalize upd H tl (.lst (us ++ [.str "}"])) = H2 at s2 g2 i2 hp2 c1 ⊢
    refine ⟨_, rfl, p, _, rfl, .inr (SqT.of hp2), _, _, rfl, rfl, _, rfl, 2, 1, rfl, ⟨by decide, by decide, by decide, by decide⟩, ?_⟩
    refine ⟨fun i m σ H' => m = 1 - i ∧ (∃ j4, σ = [some v0, some (.str (x ++ w ++ "{")), some (.ref tl), some (.ref p), j4, j5]) ∧ Same H₀ H' ∧ TupLe H2 H' ∧ ((i = 0 ∧ H' tl = some (.lst (us ++ [.str "}"] ++ []))) ∨ (i = 1 ∧ H' tl = some (.lst (us ++ [.str "}"] ++ [x1])))), ⟨_, rfl, ⟨_, rfl⟩, s2, .refl, .inl ⟨rfl, by simpa using g2⟩⟩, ?_⟩
    rintro i m σ H' ⟨rfl, ⟨j4, rfl⟩, s', t', hc⟩
    have hp' := t' _ _ hp2
    rcases hc with ⟨rfl, e⟩ | ⟨rfl, e⟩
    · refine .inr ⟨show 0 < _ by decide, _, fun σ2 H2 h => ⟨1 - (0 + 1), by decide, h⟩, ?_⟩
      rintro v3 H3 ⟨rfl, rfl⟩
      refine ⟨_, rfl, .inl ⟨rfl, _, SqL.of e⟩, _, rfl, _, rfl, p, _, _, _, rfl, rfl, SqT.of hp', rfl, tl, _, _, rfl, rfl, e, by simp only [List.length_append, List.length_cons, List.length_nil]; rw [sizeLine_eq]; omega, ?_⟩
      refine ⟨_, rfl, _, _, rfl, rfl, _, rfl, iteN (by decide) ?_⟩
      exact ⟨rfl, ⟨_, rfl⟩, same_old s' new, t'.trans (tl_lst e), .inr ⟨rfl, by rw [upd_same]; simp⟩⟩
    · refine .inl ⟨show _ ≤ 1 by decide, hN (x ++ w ++ "{") tl [.inr a, .inl "}"] (us ++ [.str "}"] ++ [x1]) _ _ _ _ s' new e ?_ ?_ ?_ ?_⟩
      · have e := ItL.snoc (i := .inr a) (u := x1) (ItL.snoc (i := .inl "}") (u := .str "}") (i2.mono t') rfl) (c1.mono t')
        simpa using e
      · rw [cs_append, cs_append, ← eq]; simp [ln, flat, iln]
      · simp only [wis, wi, T.size]; omega
      · intro t' ht'
        simp only [List.mem_cons, List.not_mem_nil, or_false, Sum.inr.injEq, reduceCtorEq, false_or] at ht'
        subst ht'
        exact hw.2
  | st2 w a b =>
    obtain ⟨p', x1, y1, ep, hp, d1, d2⟩ := hd
    cases ep
    refine ⟨_, rfl, p, _, _, _, rfl, rfl, SqT.of hp, rfl, rfl, _, rfl, iteN (by decide +kernel) ?_⟩
    refine ⟨_, rfl, p, _, _, _, rfl, rfl, SqT.of hp, rfl, rfl, _, rfl, iteN (by decide +kernel) ?_⟩
    refine ⟨_, rfl, p, _, _, _, rfl, rfl, SqT.of hp, rfl, rfl, _, rfl, iteN (by decide +kernel) ?_⟩
    refine ⟨_, rfl, p, _, _, _, rfl, rfl, SqT.of hp, rfl, rfl, _, rfl, iteY (by decide +kernel) ?_⟩
    have f1 := LoSt.fits (S := S) (y := w) (r := cs "{" ++ (ln a ++ (cs "," ++ (ln b ++ cs "}"))) ++ flat is) hR eq (by simp [ln])
    have f2 := LoSt.fits (S := S) (x := x ++ w) (l := cs "{" ++ (ln a ++ (cs "," ++ (ln b ++ cs "}"))) ++ flat is) (y := "{") (r := (ln a ++ (cs "," ++ (ln b ++ cs "}"))) ++ flat is) hR (by rw [cs_append, ← eq]; simp [ln]) (by simp)
    refine ⟨_, rfl, _, rfl, p, _, _, _, rfl, rfl, SqT.of hp, rfl, x, w, rfl, rfl, f1, _, _, rfl, rfl, f2, ?_⟩
    refine ⟨_, rfl, .inl ⟨rfl, _, SqL.of at_⟩, tl, us, _, rfl, rfl, at_, by rw [sizeLine_eq]; omega, ?_⟩
    have t2 := tl_lst (o := .lst (us ++ [.str "}"])) at_
    have s2 : Same H₀ (upd H tl (.lst (us ++ [.str "}"]))) := same_old same new
    have g2 : (upd H tl (.lst (us ++ [.str "}"]))) tl = some (.lst (us ++ [.str "}"])) := upd_same
    have i2 := its.mono t2
    have hp2 := t2 _ _ hp
    have c1 := d1.mono t2
    have c2 := d2.mono t2
    generalize upd H tl (.lst (us ++ [.str "}"])) = H2 at s2 g2 i2 hp2 c1 c2 ⊢
    refine ⟨_, rfl, p, _, rfl, .inr (SqT.of hp2), _, _, rfl, rfl, _, rfl, 3, 1, rfl, ⟨by decide, by decide, by decide, by decide⟩, ?_⟩
    refine ⟨fun i m σ H' => m = 2 - i ∧ (∃ j4, σ = [some v0, some (.str (x ++ w ++ "{")), some (.ref tl), some (.ref p), j4, j5]) ∧ Same H₀ H' ∧ TupLe H2 H' ∧ ((i = 0 ∧ H' tl = some (.lst (us ++ [.str "}"] ++ []))) ∨ (i = 1 ∧ H' tl = some (.lst (us ++ [.str "}"] ++ [y1, .str ","]))) ∨ (i = 2 ∧ H' tl = some (.lst (us ++ [.str "}"] ++ [y1, .str ",", x1])))), ⟨_, rfl, ⟨_, rfl⟩, s2, .refl, .inl ⟨rfl, by simpa using g2⟩⟩, ?_⟩
    rintro i m σ H' ⟨rfl, ⟨j4, rfl⟩, s', t', hc⟩
    have hp' := t' _ _ hp2
    rcases hc with ⟨rfl, e⟩ | ⟨rfl, e⟩ | ⟨rfl, e⟩
    · refine .inr ⟨show 0 < _ by decide, _, fun σ2 H2 h => ⟨2 - (0 + 1), by decide, h⟩, ?_⟩
      rintro v3 H3 ⟨rfl, rfl⟩
      refine ⟨_, rfl, .inl ⟨rfl, _, SqL.of e⟩, _, rfl, _, rfl, p, _, _, _, rfl, rfl, SqT.of hp', rfl, tl, _, _, rfl, rfl, e, by simp only [List.length_append, List.length_cons, List.length_nil]; rw [sizeLine_eq]; omega, ?_⟩
      have e5 : ∀ o, (upd H3 tl o) tl = some o := fun o => upd_same
      refine ⟨_, rfl, _, _, rfl, rfl, _, rfl, iteY (by decide) ?_⟩
      refine ⟨_, rfl, .inl ⟨rfl, _, SqL.of (e5 _)⟩, tl, _, _, rfl, rfl, e5 _, by simp only [List.length_append, List.length_cons, List.length_nil]; rw [sizeLine_eq]; omega, ?_⟩
      exact ⟨rfl, ⟨_, rfl⟩, same_old (same_old s' new) new, t'.trans ((tl_lst e).trans (tl_lst (e5 _))), .inr (.inl ⟨rfl, by rw [upd_same]; simp⟩)⟩
    · refine .inr ⟨show 1 < _ by decide, _, fun σ2 H2 h => ⟨2 - (1 + 1), by decide, h⟩, ?_⟩
      rintro v3 H3 ⟨rfl, rfl⟩
      refine ⟨_, rfl, .inl ⟨rfl, _, SqL.of e⟩, _, rfl, _, rfl, p, _, _, _, rfl, rfl, SqT.of hp', rfl, tl, _, _, rfl, rfl, e, by simp only [List.length_append, List.length_cons, List.length_nil]; rw [sizeLine_eq]; omega, ?_⟩
      refine ⟨_, rfl, _, _, rfl, rfl, _, rfl, iteN (by decide) ?_⟩
      exact ⟨rfl, ⟨_, rfl⟩, same_old s' new, t'.trans (tl_lst e), .inr (.inr ⟨rfl, by rw [upd_same]; simp⟩)⟩
    · refine .inl ⟨show _ ≤ 2 by decide, hN (x ++ w ++ "{") tl [.inr a, .inl ",", .inr b, .inl "}"] (us ++ [.str "}"] ++ [y1, .str ",", x1]) _ _ _ _ s' new e ?_ ?_ ?_ ?_⟩
      · have e := ItL.snoc (i := .inr a) (u := x1) (ItL.snoc (i := .inl ",") (u := .str ",") (ItL.snoc (i := .inr b) (u := y1) (ItL.snoc (i := .inl "}") (u := .str "}") (i2.mono t') rfl) (c2.mono t')) rfl) (c1.mono t')
        simpa using e
      · rw [cs_append, cs_append, ← eq]; simp [ln, flat, iln]
      · simp only [wis, wi, T.size]; omega
      · intro t' ht'
        simp only [List.mem_cons, List.not_mem_nil, or_false, Sum.inr.injEq, reduceCtorEq, false_or] at ht'
        rcases ht' with rfl | rfl
        · exact hw.2.1
        · exact hw.2.2
theorem rd_lo {S : Str → Nat → Prop} (h : spLine S vs H Q E) : t_lo K (fin Q) (start ["_law_piece", "_law_line", "_law_todo", "_law_part", "_law_k", "_law_signs"] vs) H := by
  obtain ⟨t, v, rfl, hd, hw, hs, hR, k⟩ := h
  refine ⟨_, rfl, szl, fun tl htl => ?_⟩
  have s1 := same_new (o := .lst [v]) htl
  have g1 : (upd H tl (.lst [v])) tl = some (.lst [v]) := upd_same
  generalize upd H tl (.lst [v]) = H1 at s1 g1 ⊢
  have e0 : cs "" = [] := by decide +kernel
  refine ⟨fun m σ H' => ∃ x tl is us j3 j4 j5, σ = [some v, some (.str x), some (.ref tl), j3, j4, j5] ∧ LoSt S H H' (ln t) tl x is us ∧ m = wis is, ⟨_, "", tl, [.inr t], [v], none, none, none, rfl, ⟨s1, htl, g1, .snoc (us := []) .nil (hd.mono (tl_same s1)), by rw [e0]; simp [flat, iln], by simp only [wis, wi]; omega, fun t' h => by simp at h; subst h; exact hw⟩, rfl⟩, ?_⟩
  clear s1 g1 htl
  rintro m σ H2 ⟨x, tl, is, us, j3, j4, j5, rfl, A, rfl⟩
  refine ⟨_, rfl, szl, fun e he => ?_⟩
  have s3 := same_new (o := .lst []) he
  have g3 : (upd H2 e (.lst [])) e = some (.lst []) := upd_same
  have A3 : LoSt S H (upd H2 e (.lst [])) (ln t) tl x is us := ⟨A.same.trans s3, A.new, s3 _ _ A.at_, A.its.mono (tl_same s3), A.eq, A.few, A.wt⟩
  generalize upd H2 e (.lst []) = H3 at g3 A3 ⊢
  refine ⟨tl, e, us, rfl, rfl, SqL.of A3.at_, SqL.of g3, _, rfl, ?_⟩
  have hit := A3.its
  cases hit with
  | nil =>
    refine iteN rfl ⟨_, rfl, k x _ A3.same ?_⟩
    have := A3.eq
    simpa [flat] using this
  | @snoc i u is us hit ha =>
    refine iteY (by simp) ?_
    refine ⟨fun σ' H' => ∃ m', m' < wis (i :: is) ∧ ∃ x tl is us j3 j4 j5, σ' = [some v, some (.str x), some (.ref tl), j3, j4, j5] ∧ LoSt S H H' (ln t) tl x is us ∧ m' = wis is, fun _ _ h => h, ?_⟩
    refine ⟨_, rfl, .inl ⟨rfl, _, SqL.of A3.at_⟩, tl, _, _, rfl, rfl, A3.at_, pop_at, ?_⟩
    rw [drop_at]
    have t4 := tl_lst (o := .lst us) A3.at_
    have s4 : Same H (upd H3 tl (.lst us)) := same_old A3.same A3.new
    have g4 : (upd H3 tl (.lst us)) tl = some (.lst us) := upd_same
    have h4 := hit.mono t4
    have a4 := ha.mono t4
    generalize upd H3 tl (.lst us) = H4 at s4 g4 h4 a4 ⊢
    have hlen := h4.length
    have hlw := len_wis is
    have hfew := A3.few
    cases i with
    | inl s =>
      obtain rfl : u = .str s := a4
      refine ⟨_, rfl, _, _, _, _, rfl, .str s, kt_str_str, _, rfl, iteT ?_⟩
      have heq := A3.eq
      refine ⟨_, rfl, _, rfl, x, s, rfl, rfl, LoSt.fits (S := S) (r := flat is) hR heq rfl, ?_⟩
      exact ⟨wis is, by simp only [wis, wi]; omega, _, tl, is, us, _, _, _, rfl, ⟨s4, A3.new, g4, h4, by rw [cs_append, ← heq]; simp [flat, iln], by simp only [wis] at hfew; omega, fun t' h => A3.wt t' (List.mem_cons_of_mem _ h)⟩, rfl⟩
    | inr t' =>
      have d4 : Den H4 t' u := a4
      obtain ⟨p, ks, rfl, hp, _⟩ := d4.open
      refine ⟨_, rfl, _, _, _, _, rfl, .tup hp, kt_tuple_str, _, rfl, iteF ?_⟩
      refine rd_lo_part (R := ln t) d4 (A3.wt t' (.head _)) hR s4 A3.new g4 h4 A3.eq (by simp only [wis] at hfew; omega) fun x' tl' ns us' H' j3 j4 j5 h1 h2 h3 h5 h6 h7 h8 => ?_
      refine ⟨wis (ns ++ is), by rw [wis_append]; simp only [wis, wi]; omega, x', tl', ns ++ is, us', j3, j4, j5, rfl, ⟨h1, h2, h3, h5, by rw [flat_append]; exact h6, by rw [wis_append]; simp only [wis, wi] at hfew; omega, fun t'' ht => ?_⟩, rfl⟩
      rcases List.mem_append.mp ht with z | z
      · exact h8 _ z
      · exact A3.wt _ (List.mem_cons_of_mem _ z)
end S10

set_option Elab.async false
set_option linter.all false
set_option maxRecDepth 100000
set_option maxHeartbeats 4000000
namespace PySem.W
open PySem PySem.Spec PySem.Calls PyProof.Rows
section
variable {prog : Program} {w : World} {A : Around} {E : Value → Shared → Prop} {s : Shared} {r l : Addr} {items : Array Value}
theorem rv_collect {Q : List Value → Shared → Prop} (hh : A.handled = none) (hit : s.heap.IsRevIter r l ((items.size : Int) - 1)) (hl : s.heap.IsList l items) (hlr : l ≠ r) (hn : items.size ≤ sizeLine)
    (hQ : ∀ (h' : Heap) (tk : Nat) (acc' : Array Value), (∀ b o, b ≠ r → s.heap.get? b = some o → h'.get? b = some o) → ItemsOf (fun i v => items[items.size - 1 - i]? = some v) acc' items.size → Q acc'.toList { s with heap := h', toks := tk }) :
    wpAny (model prog w) A (collect (.ref r)) Q E s := by
  have lr : r < s.heap.objs.size := by obtain ⟨o, e, _⟩ := hit; exact Heap.lt_size e
  have ll : l < s.heap.objs.size := by obtain ⟨o, e, _⟩ := hl; exact Heap.lt_size e
  unfold collect
  refine wpAny_bind (wpAny_runValue (codeAny_builtin PySem.F.entry_proto_collect ?_))
  rw [Around.under_plainId PySem.F.plain_proto_collect _]
  show wpAny _ A.in1 (newList [] >>= fun l => again (.builtin "list.__iadd__" ⟨[l, .ref r], []⟩)) _ _ s
  refine wpAny_bind (wpAny_newObj_type ?_)
  refine wpAny_pure ⟨plainId_quiet PySem.F.plain_list_iadd _, codeAny_builtin PySem.F.entry_list_iadd ?_⟩
  rw [Around.under_plainId PySem.F.plain_list_iadd _]
  have hS : (s.heap.push { cls := .type "list", data := .seq ([] : List Value).toArray }).get? s.heap.objs.size = some { cls := .type "list", data := .seq #[] } := Heap.get?_push_size _ rfl
  show wpAny _ A.in1 (Builtin.List.listExtendWith (.ref s.heap.objs.size) (.ref r) (.ref s.heap.objs.size)) _ _ _
  refine rv_extend (R := wants (fun v s' => wpAny (model prog w) A (match v with | .ref a => (load a >>= fun o => match o.data with | .seq xs _ => pure xs.toList | _ => unsupported "internal:collect") | _ => unsupported "internal:collect") Q E s') E) (s := { s with heap := s.heap.push { cls := .type "list", data := .seq ([] : List Value).toArray } }) (items := items) hh (hit.at fun o e => Heap.get?_push_of_some _ e) (hl.at fun o e => Heap.get?_push_of_some _ e) s.heap.objs.size (Nat.ne_of_gt lr) (Nat.ne_of_gt ll) hlr (.ref s.heap.objs.size) 0 hS (fun h' tk acc' c' hk hS' hacc => ?_) hn
  show wpAny _ A (load s.heap.objs.size >>= _) _ _ _
  refine wpAny_bind (wpAny_load hS' ?_)
  exact wpAny_pure (hQ h' tk acc' (fun b o hb e => hk b o (Nat.ne_of_lt (Heap.lt_size e)) hb (Heap.get?_push_of_some _ e)) hacc)
theorem rv_tupcode {Q₁ : Value → Shared → Prop} (hh : A.handled = none) (hit : s.heap.IsRevIter r l ((items.size : Int) - 1)) (hl : s.heap.IsList l items) (hlr : l ≠ r) (hn : items.size ≤ sizeLine)
    (h : ∀ (h' : Heap) (tk : Nat) (acc' : Array Value), (∀ b o, b ≠ r → s.heap.get? b = some o → h'.get? b = some o) → ItemsOf (fun i v => items[items.size - 1 - i]? = some v) acc' items.size → Q₁ (.ref h'.objs.size) { s with heap := h'.push { cls := .type "tuple", data := .seq acc' }, toks := tk }) :
    codeAny (model prog w) A (.call (.builtin "tuple.__new__") ⟨[.type "tuple", .ref r], []⟩) (wants Q₁ E) s := by
  refine codeAny_of_tree ?_
  show wpAny _ A.in1 (do checkBuiltinCall "tuple.__new__" ⟨[.type "tuple", .ref r], []⟩; again (.builtin "tuple.__new__" ⟨[.type "tuple", .ref r], []⟩)) _ _ s
  refine wpAny_bind (wpAny_of_eq (PySem.F.newCall_tuple_1 _) (wpAny_pure ⟨plainId_quiet PySem.F.plain_tuple_new _, codeAny_builtin PySem.F.entry_tuple_new ?_⟩))
  rw [Around.under_plainId PySem.F.plain_tuple_new _]
  have hsub := sub_tuple_self
  have hinit := init_tuple_lookup
  have hmh := madeHere_tuple
  have hTI : s.TypeIs (.ref r) "list_reverseiterator" := hit.typeIs
  wp_walk using wpAny_typeOf hTI, rv_collect (A := A.in1) hh hit hl hlr hn
  intro h' tk acc hk hacc
  show wpAny _ _ (Builtin.Tuple.tupleExact acc.toList.toArray >>= fun v => ret v) _ _ _
  unfold Builtin.Tuple.tupleExact
  refine wpAny_bind (wpAny_newObj_type ?_ (by show acc.toList.toArray.size ≤ sizeLine; simp only [Array.toArray_toList]; rw [hacc.1]; exact hn))
  refine wpAny_pure ?_
  have e : acc.toList.toArray = acc := by simp
  rw [e]
  exact h h' tk acc hk hacc
theorem rv_tuple {Q : Value → Shared → Prop} (hh : A.handled = none) (hit : s.heap.IsRevIter r l ((items.size : Int) - 1)) (hl : s.heap.IsList l items) (hlr : l ≠ r) (hn : items.size ≤ sizeLine)
    (hQ : ∀ (h' : Heap) (tk : Nat) (acc' : Array Value), (∀ b o, b ≠ r → s.heap.get? b = some o → h'.get? b = some o) → ItemsOf (fun i v => items[items.size - 1 - i]? = some v) acc' items.size → Q (.ref h'.objs.size) { s with heap := h'.push { cls := .type "tuple", data := .seq acc' }, toks := tk }) :
    wpAny (model prog w) A (call (.type "tuple") [.ref r]) Q E s := by
  refine callType_codes (Q₁ := fun obj s₁ => s₁.TypeIs obj "tuple" ∧ Q obj s₁) PySem.F.called_tuple (PySem.F.typeCall_tuple_1 _) PySem.F.entry_object_init
    (rv_tupcode hh hit hl hlr hn fun h' tk acc' hk hacc => ⟨⟨_, Heap.get?_push_size _ rfl, rfl⟩, hQ h' tk acc' hk hacc⟩) fun obj s₁ h₁ => ?_
  exact ⟨h₁.1, PySem.F.args_object_init_2 obj _, object_init_meets PySem.F.called_tuple.init.lookup PySem.F.called_tuple.made (by decide) prog w A.in1 _ s₁ ⟨h₁.1, rfl, h₁.2⟩⟩
end
end PySem.W
namespace L2
open PySem PySem.Spec PyProof.Rows
section
variable {X : Cx}
/-- tuple(reversed(xs)) -/
def tRevT (K : PySem.W.Frag) (tl : TE) : TE := fun σ H Q => tl σ H fun x H1 => ∃ a xs, [x] = [V.ref a] ∧ SqL K H1 a xs ∧ ∀ p, H1 p = none → Q (.ref p) (upd H1 p (.tup xs.reverse))
theorem pe_revT {e : Expr} {tl : TE} {p1 p2 q1 q2 : Pos} (hc : X.calm = true) (hgl : Gl X "tuple") (hml : X.mg "tuple" = none) (hgr : Gl X "reversed") (hmr : X.mg "reversed" = none) (he : PE X e tl) (h1 : starEach [e] X.env = [(false, eval e X.env)] := by rfl)
    (h2 : starEach [.Call (.Name "reversed" p1) [e] [] p2] X.env = [(false, eval (.Call (.Name "reversed" p1) [e] [] p2) X.env)] := by rfl) :
    PE X (.Call (.Name "tuple" q1) [.Call (.Name "reversed" p1) [e] [] p2] [] q2) (tRevT X.K tl) := by
  intro pins s σ H Q I h
  refine wpAny_Call_Name_kw (ld_blt I hgl hml bo_tuple ?_)
  have h2' : starEach (.Call (.Name "reversed" p1) [e] [] p2 :: []) X.env = (false, eval (.Call (.Name "reversed" p1) [e] [] p2) X.env) :: starEach [] X.env := h2
  refine PyProof.Rows.callWith_type1 ?_ h2' (by rfl)
  rw [h2]
  refine Calls.spliced_cons ?_
  refine wpAny_Call_Name_kw (ld_blt I hgr hmr bo_reversed ?_)
  have h1' : starEach (e :: []) X.env = (false, eval e X.env) :: starEach [] X.env := h1
  refine PyProof.Rows.callWith_type1 (thn ((pa_cons he pa_nil h1' : PA X [e] (tCons tl tNil)) p2 pins s σ H (fun vs H1 => ∃ a xs, vs = [V.ref a] ∧ SqL X.K H1 a xs ∧ ∀ p, H1 p = none → Q (.ref p) (upd H1 p (.tup xs.reverse))) I h) fun us s1 ⟨vs, H1, I1, r1, q1⟩ => ?_) h1' (by rfl)
  obtain ⟨a, xs, rfl, hq, q⟩ := q1
  obtain ⟨u, rfl, ru⟩ := vals1 r1
  cases ru
  obtain ⟨its, rv, p, hz⟩ := I1.list hq
  refine call_reversed_list p.isList ?_
  refine Calls.spliced_nil ?_
  have hlt : a < s1.heap.objs.size := by obtain ⟨o, eo, _⟩ := p.isList; exact Heap.lt_size eo
  refine PySem.W.rv_tuple (l := a) (items := its.toArray) (I1.ok.hd hc) ⟨_, Heap.get?_push_size _ rfl, rfl, rfl⟩ (p.isList.at fun o eo => Heap.get?_push_of_some _ eo) (Nat.ne_of_lt hlt) (by simpa [← rv.length] using hz) fun h' tk acc' hk hacc => ?_
  have hvals : Vals xs.reverse acc'.toList := by
    have e : acc'.toList = its.reverse := by
      apply List.ext_getElem?
      intro i
      have hs : acc'.size = its.length := by simpa using hacc.1
      by_cases hi : i < its.length
      · have h1 : acc'[i]? = some acc'[i] := by simp [hs, hi]
        have h2 := hacc.2 i _ h1
        rw [Array.getElem?_toList, h1, List.getElem?_reverse hi]
        simpa using h2.symm
      · rw [List.getElem?_eq_none (by simp [hs]; omega), List.getElem?_eq_none (by simp; omega)]
    rw [e]
    exact vals_reverse rv
  have I2 : Inv X pins σ H1 { s1 with heap := h', toks := tk } := I1.kept (t' := tk) fun b o eo => hk b o (Nat.ne_of_lt (Heap.lt_size eo)) (Heap.get?_push_of_some _ eo)
  have I3 : Inv X pins σ (upd H1 h'.objs.size (.tup xs.reverse)) { s1 with heap := h'.push { cls := .type "tuple", data := .seq acc' }, toks := tk } :=
    I2.laid (t' := tk) (fun b o e => Heap.get?_push_of_some _ e) (Nat.le_refl _) (show ObjOk X.prog X.w _ _ _ (.tup xs.reverse) from ⟨by simpa using hz, acc'.toList, hvals, by simpa using IsTup.new h' acc'⟩)
  exact ⟨.ref h'.objs.size, _, I3, rfl, q _ (I2.hok.fresh (Nat.le_refl _))⟩
/-- x.startswith(y, i) -/
def rStarts : V → List V → Hp → VK → Prop := fun x ys H Q => ∃ a b i, x = .str a ∧ ys = [.str b, .int i] ∧ Q (.bl (PySem.Txt.startswith3 a b i)) H
theorem mt_starts : MtR X "str.startswith" rStarts := by
  intro pins s σ H x xs v us Q I rx rs h
  obtain ⟨a, b, i, rfl, rfl, q⟩ := h
  obtain ⟨t, rfl⟩ := rx
  obtain ⟨u1, u2, rfl, ⟨t1, rfl⟩, ⟨t2, rfl⟩⟩ := Vals.two rs
  exact SC.startswith3 ⟨.bl _, H, I, rfl, q⟩
/-- x.join(list of texts) -/
def rJoin (K : PySem.W.Frag) : V → List V → Hp → VK → Prop := fun x ys H Q => ∃ a p ws, x = .str a ∧ ys = [.ref p] ∧ SqL K H p (ws.map V.str) ∧ (ws.map (·.length)).sum + ws.length * a.length ≤ 16777216 ∧ Q (.str (PySem.Txt.join a ws)) H
theorem mt_join : MtR X "str.join" (rJoin X.K) := by
  intro pins s σ H x xs v us Q I rx rs h
  obtain ⟨a, p, ws, rfl, rfl, hq, hb, q⟩ := h
  obtain ⟨t, rfl⟩ := rx
  obtain ⟨u1, rfl, r1⟩ := Vals.one rs
  cases r1
  obtain ⟨its, rv, pl, hz⟩ := I.list hq
  exact join_list pl.isList (by simpa using strs_of rv) hb fun t' k => ⟨.str _, H, I.tok _, ⟨_, rfl⟩, q⟩
/-- int of a text -/
abbrev cIntS : List V → Hp → VK → Prop := fun xs H Q => ∃ z n, xs = [.str z] ∧ PySem.intText? z = some n ∧ z.length ≤ 640 ∧ Q (.int n) H
theorem call_intS : CallR X (.type "int") cIntS := by
  intro pins s σ H xs us Q I r h
  obtain ⟨z, n, rfl, hn, hl, q⟩ := h
  obtain ⟨u, rfl, t, rfl⟩ := vals1 r
  exact PySem.W.KIN.call_text hn hl ⟨.int n, H, I.tok _, ⟨_, rfl⟩, q⟩
/-- a slice of a text -/
def rSlS : V → Option Int → Option Int → Hp → VK → Prop := fun x lo hi H Q => ∃ z, x = .str z ∧ z.length ≤ sizeLine ∧ Q (.str (PySem.Txt.slice z lo hi)) H
theorem part_of {v : Value} {lo : Option Int} (h : IsPart v lo) : ∃ l : Option (Int × Tok), v = partValue l ∧ lo = l.map (·.1) := by
  cases h with
  | none => exact ⟨none, rfl, rfl⟩
  | int i t => exact ⟨some (i, t), rfl, rfl⟩
theorem sl_str : SlR X rSlS := by
  intro pins s σ H x v vl vu lo hi sl Q I rx hs pl pu h
  obtain ⟨z, rfl, hz, q⟩ := h
  obtain ⟨t, rfl⟩ := rx
  obtain ⟨l, rfl, rfl⟩ := part_of pl
  obtain ⟨u, rfl, rfl⟩ := part_of pu
  refine ⟨"str", _, PySem.F.slot_str_getitem.lookup, typeIs_str _ _ _, ?_⟩
  refine wpAny_getItem_str_slice (l := l) (u := u) (st := none) hs rfl ?_
  unfold sliceMade
  have hle : (PySem.Txt.slice z (l.map (·.1)) (u.map (·.1))).length ≤ z.length := PySem.Txt.slice_le z _ _
  have e : PySem.Txt.slice z (l.map (·.1)) (u.map (·.1)) = if ((1 : Int) == 1 && (slicePicked z l u none).length == z.length) = true then z else ⟨((slicePicked z l u none).filterMap (z.cps[·]?)).toArray⟩ := rfl
  rw [e] at q hle
  by_cases c : ((1 : Int) == 1 && (slicePicked z l u none).length == z.length) = true
  · rw [if_pos c] at q
    rw [if_pos (show ((((none : Option (Int × Tok)).map (·.1)).getD 1 == 1 && (slicePicked z l u none).length == z.length) = true) from c)]
    exact ⟨.str z, H, I, ⟨_, rfl⟩, q⟩
  · rw [if_neg c] at q hle
    rw [if_neg (show ¬ ((((none : Option (Int × Tok)).map (·.1)).getD 1 == 1 && (slicePicked z l u none).length == z.length) = true) from c)]
    exact ⟨Nat.le_trans hle hz, .str _, H, I.tok _, ⟨_, rfl⟩, q⟩
end
end L2

set_option Elab.async false
set_option linter.all false
set_option maxRecDepth 100000
set_option maxHeartbeats 4000000
namespace SW
open PySem L2
/-! ### texts by their signs -/
abbrev rInS : R2 := fun x y H Q => ∃ i j, x = .str i ∧ y = .str j ∧ Q (.bl (!(Builtin.Str.occurrences j i 0 j.length 1).isEmpty)) H
theorem one_cs {y : Str} {c : Nat} (h : cs y = [c]) : y = ⟨#[c]⟩ := cs_inj (by rw [h]; rfl)
theorem sw_one {x y : Str} {c k : Nat} (hy : cs y = [c]) : Txt.startswith3 x y (k : Int) = decide ((cs x)[k]? = some c) := by
  rw [one_cs hy]
  unfold Txt.startswith3
  have e : fromIndex x.length (k : Int) = k := by
    unfold fromIndex
    rw [if_neg (by omega)]
    omega
  rw [e]
  apply Bool.eq_iff_iff.mpr
  rw [decide_eq_true_iff, Bool.and_eq_true, decide_eq_true_iff]
  exact StrLaws.subAt_one x c k
theorem in_one {x y : Str} {c : Nat} (hy : cs y = [c]) : (!(Builtin.Str.occurrences x y 0 x.length 1).isEmpty) = decide (c ∈ cs x) := by
  rw [one_cs hy]
  rcases StrLaws.occ_head_from x ⟨#[c]⟩ 0 1 (Nat.le_refl 1) with ⟨h0, hn⟩ | ⟨k, r, h0, hlo, hk, hn⟩
  · rw [h0]
    have : c ∉ cs x := fun hm => by
      obtain ⟨v, hv⟩ := List.getElem?_of_mem hm
      exact hn v (Nat.zero_le _) ((StrLaws.subAt_one x c v).mpr hv)
    simp [this]
  · rw [h0]
    have : c ∈ cs x := List.mem_of_getElem? ((StrLaws.subAt_one x c k).mp hk)
    simp [this]
theorem slice_cs {x : Str} {b e : Nat} (h1 : b ≤ e) (h2 : e ≤ x.length) : cs (Txt.slice x (some (b : Int)) (some (e : Int))) = ((cs x).drop b).take (e - b) := by
  have h := PyProof.Rows.slice_closesL (x := x) (i := b) (j := e) (by omega) (by omega) (by omega)
  rw [eq_of_beq h]
  show (((x.cps.toList.drop ((b : Int)).toNat).take ((e : Int) - b).toNat).toArray).toList = _
  rw [show ((b : Int)).toNat = b by omega, show ((e : Int) - b).toNat = e - b by omega]
  simp [cs]
theorem cs_empty : cs "" = [] := by decide +kernel
theorem join_go : ∀ (ws : List Str) (a : Array Nat), (ws.foldl (fun acc p => acc ++ (("" : Str)).cps ++ p.cps) a).toList = a.toList ++ (ws.map cs).flatten
  | [], a => by simp
  | w :: ws, a => by
    rw [List.foldl_cons, join_go ws]
    have e : (("" : Str)).cps = #[] := by decide +kernel
    rw [e]; simp [cs]
theorem join_cs : ∀ ws : List Str, cs (Txt.join "" ws) = (ws.map cs).flatten
  | [] => by decide +kernel
  | w :: ws => by
    show (((w :: ws).drop 1).foldl (fun acc p => acc ++ (("" : Str)).cps ++ p.cps) ((w :: ws).headD Str.empty).cps).toList = _
    rw [List.drop_succ_cons, List.drop_zero, join_go]
    rfl
theorem figures : cs "0123456789" = (List.range 10).map (· + 48) := by decide +kernel
theorem mem_letters {c : Nat} : c ∈ cs "abcdefghijklmnopqrstuvwxyz" ↔ 97 ≤ c ∧ c ≤ 122 := by
  show c ∈ (("abcdefghijklmnopqrstuvwxyz" : Str)).cps.toList ↔ _
  rw [letters]
  simp only [List.mem_map, List.mem_range]
  constructor
  · rintro ⟨a, h, rfl⟩; omega
  · rintro ⟨h1, h2⟩; exact ⟨c - 97, by omega, by omega⟩
theorem mem_figures {c : Nat} : c ∈ cs "0123456789" ↔ 48 ≤ c ∧ c ≤ 57 := by
  rw [figures]
  simp only [List.mem_map, List.mem_range]
  constructor
  · rintro ⟨a, h, rfl⟩; omega
  · rintro ⟨h1, h2⟩; exact ⟨c - 48, by omega, by omega⟩
/-! ### numbers in figures -/
def digs (m : Nat) : List Nat := (Nat.toDigits 10 m).map Char.toNat
theorem digs_lt {m : Nat} (h : m < 10) : digs m = [m + 48] := by
  unfold digs
  rw [Nat.toDigits_of_lt_base h]
  have : ∀ d : Nat, d < 10 → (Nat.digitChar d).toNat = d + 48 := by decide
  simp [this m h]
theorem digs_ge {m : Nat} (h : ¬ m < 10) : digs m = digs (m / 10) ++ [m % 10 + 48] := by
  have hm : m % 10 < 10 := Nat.mod_lt m (by decide)
  have t : Nat.toDigits 10 (m / 10) ++ Nat.toDigits 10 (m % 10) = Nat.toDigits 10 (10 * (m / 10) + m % 10) := Nat.toDigits_append_toDigits (by decide) (by omega) hm
  rw [Nat.div_add_mod] at t
  rw [← digs_lt hm]
  unfold digs
  rw [← t, List.map_append]
theorem digs_ne (m : Nat) : digs m ≠ [] := by
  by_cases h : m < 10
  · rw [digs_lt h]; simp
  · rw [digs_ge h]; simp
theorem digs_all (m : Nat) : ∀ c ∈ digs m, 48 ≤ c ∧ c ≤ 57 := by
  induction m using Nat.strongRecOn with
  | _ m ih =>
    by_cases h : m < 10
    · rw [digs_lt h]; intro c hc; simp at hc; omega
    · rw [digs_ge h]
      intro c hc
      rcases List.mem_append.mp hc with z | z
      · exact ih (m / 10) (by omega) c z
      · simp at z; omega
theorem digs_len {k : Nat} : ∀ {m : Nat}, m < 10 ^ (k + 1) → (digs m).length ≤ k + 1 := by
  induction k with
  | zero => intro m h; rw [digs_lt (by omega)]; simp
  | succ k ih =>
    intro m h
    by_cases h1 : m < 10
    · rw [digs_lt h1]; simp
    · rw [digs_ge h1, List.length_append]
      have := ih (m := m / 10) (by rw [Nat.pow_succ] at h; exact Nat.div_lt_of_lt_mul (by rw [Nat.mul_comm]; exact h))
      simp only [List.length_cons, List.length_nil]; omega
theorem digs_head (m : Nat) (hm : 0 < m) : ∃ c r, digs m = c :: r ∧ c ≠ 48 := by
  induction m using Nat.strongRecOn with
  | _ m ih =>
    by_cases h : m < 10
    · exact ⟨m + 48, [], digs_lt h, by omega⟩
    · obtain ⟨c, r, e, hc⟩ := ih (m / 10) (by omega) (by omega)
      exact ⟨c, r ++ [m % 10 + 48], by rw [digs_ge h, e]; rfl, hc⟩
theorem digs_zero : digs 0 = [48] := digs_lt (by decide)
theorem cs_ofString (z : String) : cs (Str.ofString z) = z.toList.map Char.toNat := PyProof.Rows.signs_ofString z
theorem num_pos (m : Nat) : cs (Str.ofString (toString (m : Int))) = digs m := PySem.W.KIN.signs_num m
theorem num_neg (m : Nat) : cs (Str.ofString (toString (Int.negSucc m))) = 45 :: digs (m + 1) := by
  rw [cs_ofString]
  show ("-" ++ Nat.repr (m + 1)).toList.map Char.toNat = _
  rw [String.toList_append, List.map_append, Nat.toList_repr]
  rfl
theorem int_digs {z : Str} {m : Nat} (h : cs z = digs m) (hl : z.length ≤ 640) : PySem.intText? z = some (m : Int) := by
  have h1 : PySem.NumText.AllDigits z.cps.toList := fun c hc => digs_all m c (by rw [← h]; exact hc)
  have h2 : z.cps.toList ≠ [] := by have := digs_ne m; rw [← h] at this; exact this
  have e := PySem.intText_digits h1 h2 (by omega)
  have : z.cps.toList = digs m := h
  rw [this] at e
  rw [e]
  congr 2
  exact PySem.W.KIN.val_back m
end SW

set_option Elab.async false
set_option linter.all false
set_option maxRecDepth 100000
set_option maxHeartbeats 4000000
namespace SW
open PySem L2
/-! ### a line is read: what is to be done -/
inductive Hdk where
  | sum | less | cho | lt (w : Str)
inductive Stp where
  | piece | between | handed (w : Str) (n : Nat) | sign (s : Str) | make (h : Hdk) (n : Nat)
def hdV : Hdk → List V
  | .sum => [.str "sum"]
  | .less => [.str "less"]
  | .cho => [.str "choose"]
  | .lt w => [.str "let", .str w]
def StpAt (H : Hp) : Stp → V → Prop
  | .piece, v => ∃ p, v = .ref p ∧ H p = some (.tup [.str "piece"])
  | .between, v => ∃ p, v = .ref p ∧ H p = some (.tup [.str "between"])
  | .handed w n, v => ∃ p, v = .ref p ∧ H p = some (.tup [.str "handed", .str w, .int n])
  | .sign s, v => ∃ p, v = .ref p ∧ H p = some (.tup [.str "sign", .str s])
  | .make h n, v => ∃ p q, v = .ref p ∧ H p = some (.tup [.str "make", .ref q, .int n]) ∧ H q = some (.tup (hdV h))
theorem StpAt.mono {H H' : Hp} (m : TupLe H H') : ∀ {s : Stp} {v : V}, StpAt H s v → StpAt H' s v
  | .piece, _, ⟨p, e, h⟩ => ⟨p, e, m _ _ h⟩
  | .between, _, ⟨p, e, h⟩ => ⟨p, e, m _ _ h⟩
  | .handed _ _, _, ⟨p, e, h⟩ => ⟨p, e, m _ _ h⟩
  | .sign _, _, ⟨p, e, h⟩ => ⟨p, e, m _ _ h⟩
  | .make _ _, _, ⟨p, q, e, h, g⟩ => ⟨p, q, e, m _ _ h, m _ _ g⟩
/-- the head is the last of the list -/
inductive StL (H : Hp) : List Stp → List V → Prop where
  | nil : StL H [] []
  | snoc {s : Stp} {u : V} {ss : List Stp} {us : List V} : StL H ss us → StpAt H s u → StL H (s :: ss) (us ++ [u])
inductive DR (H : Hp) : List T → List V → Prop where
  | nil : DR H [] []
  | snoc {t : T} {u : V} {ts : List T} {us : List V} : DR H ts us → Den H t u → DR H (t :: ts) (us ++ [u])
theorem StL.mono {H H' : Hp} (m : TupLe H H') : ∀ {ss : List Stp} {us : List V}, StL H ss us → StL H' ss us
  | _, _, .nil => .nil
  | _, _, .snoc r a => .snoc (StL.mono m r) (a.mono m)
theorem DR.mono {H H' : Hp} (m : TupLe H H') : ∀ {ts : List T} {us : List V}, DR H ts us → DR H' ts us
  | _, _, .nil => .nil
  | _, _, .snoc r a => .snoc (DR.mono m r) (a.mono m)
theorem StL.length {H : Hp} : ∀ {ss : List Stp} {us : List V}, StL H ss us → us.length = ss.length
  | _, _, .nil => rfl
  | _, _, .snoc r _ => by rw [List.length_append, List.length_cons, StL.length r]; rfl
theorem DR.length {H : Hp} : ∀ {ts : List T} {us : List V}, DR H ts us → us.length = ts.length
  | _, _, .nil => rfl
  | _, _, .snoc r _ => by rw [List.length_append, List.length_cons, DR.length r]; rfl
/-! ### lines -/
/-- what may stand behind a piece -/
def Bd (r : List Nat) : Prop := ∀ c, r.head? = some c → c = 43 ∨ c = 45 ∨ c = 63 ∨ c = 58 ∨ c = 41 ∨ c = 93 ∨ c = 44 ∨ c = 125
theorem bd_nil : Bd [] := fun c h => by cases h
theorem bd_cons {c : Nat} {r : List Nat} (h : c = 43 ∨ c = 45 ∨ c = 63 ∨ c = 58 ∨ c = 41 ∨ c = 93 ∨ c = 44 ∨ c = 125) : Bd (c :: r) := fun d e => by cases e; exact h
/-- the words and numbers in it -/
def LT : T → Prop
  | .num n => -(10 ^ 60) < n ∧ n < 10 ^ 60
  | .name w => Wd w
  | .sum a b => LT a ∧ LT b
  | .less a b => LT a ∧ LT b
  | .cho a b c => LT a ∧ LT b ∧ LT c
  | .lt w a b => Wd w ∧ LT a ∧ LT b
  | .st0 w => Wd w
  | .st1 w a => Wd w ∧ LT a
  | .st2 w a b => Wd w ∧ LT a ∧ LT b
theorem lt_of {S : Str → Nat → Prop} (hS : ∀ w n, S w n → Wd w) : ∀ {t : T}, WT S t → LT t
  | .num _, h => h
  | .name _, h => h
  | .sum _ _, h => ⟨lt_of hS h.1, lt_of hS h.2⟩
  | .less _ _, h => ⟨lt_of hS h.1, lt_of hS h.2⟩
  | .cho _ _ _, h => ⟨lt_of hS h.1, lt_of hS h.2.1, lt_of hS h.2.2⟩
  | .lt _ _ _, h => ⟨h.1, lt_of hS h.2.1, lt_of hS h.2.2⟩
  | .st0 _, h => hS _ _ h
  | .st1 _ a, h => ⟨hS _ _ h.1, lt_of hS h.2⟩
  | .st2 _ _ _, h => ⟨hS _ _ h.1, lt_of hS h.2.1, lt_of hS h.2.2⟩
theorem wd_main {w : Str} {n : Nat} (h : SMain w n) : Wd w := by
  rcases h with ⟨rfl, _⟩ | ⟨rfl, _⟩ | ⟨rfl, _⟩
  · exact ⟨by decide +kernel, by decide +kernel, by decide +kernel⟩
  · exact ⟨by decide +kernel, by decide +kernel, by decide +kernel⟩
  · exact ⟨by decide +kernel, by decide +kernel, by decide +kernel⟩
/-- what is to be done, what is made, and the rest of the line come to t -/
inductive Go (t : T) : List Stp → List T → List Nat → Prop where
  | done : Go t [] [t] []
  | piece {ss : List Stp} {ms : List T} {r : List Nat} (u : T) : LT u → Bd r → Go t ss (u :: ms) r → Go t (.piece :: ss) ms (ln u ++ r)
  | sign {ss : List Stp} {ms : List T} {r : List Nat} {s : Str} {c : Nat} : cs s = [c] → Go t ss ms r → Go t (.sign s :: ss) ms (c :: r)
  | plus {ss : List Stp} {ms : List T} {r : List Nat} : Go t (.piece :: .sign ")" :: .make .sum 2 :: ss) ms r → Go t (.between :: ss) ms (43 :: r)
  | minus {ss : List Stp} {ms : List T} {r : List Nat} : Go t (.piece :: .sign ")" :: .make .less 2 :: ss) ms r → Go t (.between :: ss) ms (45 :: r)
  | quest {ss : List Stp} {ms : List T} {r : List Nat} : Go t (.piece :: .sign ":" :: .piece :: .sign ")" :: .make .cho 3 :: ss) ms r → Go t (.between :: ss) ms (63 :: r)
  | more {ss : List Stp} {ms : List T} {r : List Nat} {w : Str} {n : Nat} : Go t (.piece :: .handed w (n + 1) :: ss) ms r → Go t (.handed w n :: ss) ms (44 :: r)
  | fin1 {ss : List Stp} {ms : List T} {r : List Nat} {w : Str} {a : T} : Go t ss (.st1 w a :: ms) r → Go t (.handed w 1 :: ss) (a :: ms) (125 :: r)
  | fin2 {ss : List Stp} {ms : List T} {r : List Nat} {w : Str} {a b : T} : Go t ss (.st2 w a b :: ms) r → Go t (.handed w 2 :: ss) (b :: a :: ms) (125 :: r)
  | mksum {ss : List Stp} {ms : List T} {r : List Nat} {a b : T} : Go t ss (.sum a b :: ms) r → Go t (.make .sum 2 :: ss) (b :: a :: ms) r
  | mkless {ss : List Stp} {ms : List T} {r : List Nat} {a b : T} : Go t ss (.less a b :: ms) r → Go t (.make .less 2 :: ss) (b :: a :: ms) r
  | mkcho {ss : List Stp} {ms : List T} {r : List Nat} {a b c : T} : Go t ss (.cho a b c :: ms) r → Go t (.make .cho 3 :: ss) (c :: b :: a :: ms) r
  | mklt {ss : List Stp} {ms : List T} {r : List Nat} {w : Str} {a b : T} : Go t ss (.lt w a b :: ms) r → Go t (.make (.lt w) 2 :: ss) (b :: a :: ms) r
theorem s40 : cs "(" = [40] := by decide +kernel
theorem s41 : cs ")" = [41] := by decide +kernel
theorem s43 : cs "+" = [43] := by decide +kernel
theorem s44 : cs "," = [44] := by decide +kernel
theorem s45 : cs "-" = [45] := by decide +kernel
theorem s58 : cs ":" = [58] := by decide +kernel
theorem s61 : cs "=" = [61] := by decide +kernel
theorem s63 : cs "?" = [63] := by decide +kernel
theorem s91 : cs "[" = [91] := by decide +kernel
theorem s93 : cs "]" = [93] := by decide +kernel
theorem s123 : cs "{" = [123] := by decide +kernel
theorem s125 : cs "}" = [125] := by decide +kernel
/-- the first sign of a piece -/
theorem ln_head : ∀ {u : T}, LT u → ∃ c r, ln u = c :: r ∧ ((97 ≤ c ∧ c ≤ 122) ∨ (48 ≤ c ∧ c ≤ 57) ∨ c = 45 ∨ c = 40 ∨ c = 91) := by
  have wd : ∀ {w : Str} (l : List Nat), Wd w → ∃ c r, cs w ++ l = c :: r ∧ ((97 ≤ c ∧ c ≤ 122) ∨ (48 ≤ c ∧ c ≤ 57) ∨ c = 45 ∨ c = 40 ∨ c = 91) := by
    intro w l h
    have h1 := h.one
    rw [← cs_len] at h1
    cases e : cs w with
    | nil => rw [e] at h1; exact absurd h1 (by decide)
    | cons c r => exact ⟨c, r ++ l, rfl, .inl (h.abc c (by show c ∈ cs w; rw [e]; exact List.mem_cons_self))⟩
  intro u h
  cases u with
  | num n =>
    cases n with
    | ofNat m =>
      have e : ln (.num (Int.ofNat m)) = digs m := num_pos m
      rw [e]
      cases q : digs m with
      | nil => exact absurd q (digs_ne m)
      | cons c r => exact ⟨c, r, rfl, .inr (.inl (digs_all m c (by rw [q]; exact List.mem_cons_self)))⟩
    | negSucc m => exact ⟨45, digs (m + 1), num_neg m, .inr (.inr (.inl rfl))⟩
  | name w => obtain ⟨c, r, e, z⟩ := wd [] h; exact ⟨c, r, by rw [← e]; simp [ln], z⟩
  | sum a b => exact ⟨40, _, by simp only [ln, s40]; rfl, .inr (.inr (.inr (.inl rfl)))⟩
  | less a b => exact ⟨40, _, by simp only [ln, s40]; rfl, .inr (.inr (.inr (.inl rfl)))⟩
  | cho a b c => exact ⟨40, _, by simp only [ln, s40]; rfl, .inr (.inr (.inr (.inl rfl)))⟩
  | lt w a b => exact ⟨91, _, by simp only [ln, s91]; rfl, .inr (.inr (.inr (.inr rfl)))⟩
  | st0 w => exact wd _ h
  | st1 w a => exact wd _ h.1
  | st2 w a b => exact wd _ h.1
theorem takeWhile_at {p : Nat → Bool} : ∀ {a r : List Nat}, (∀ c ∈ a, p c = true) → (∀ c, r.head? = some c → p c = false) → (a ++ r).takeWhile p = a
  | [], [], _, _ => rfl
  | [], c :: r, _, h => by rw [List.nil_append, List.takeWhile_cons, h c rfl]; rfl
  | x :: a, r, h1, h2 => by
    rw [List.cons_append, List.takeWhile_cons, h1 x List.mem_cons_self, if_pos rfl, takeWhile_at (fun c hc => h1 c (List.mem_cons_of_mem _ hc)) h2]
end SW

set_option Elab.async false
set_option linter.all false
set_option maxRecDepth 100000
set_option maxHeartbeats 4000000
namespace SW
open PySem L2
/-! ### a Reader in the heap -/
structure RC (K : PySem.W.Frag) (C : Addr) : Prop where
  cl : Cls K C
  nL : NoAttr K C "line"
  nA : NoAttr K C "at"
  nS : NoAttr K C "steps"
  nM : NoAttr K C "made"
def rf (x : Str) (k : Nat) (sl ml : Addr) : List (Str × V) := [("line", .str x), ("at", .int k), ("steps", .ref sl), ("made", .ref ml)]
section
variable {x : Str} {k : Nat} {sl ml : Addr}
theorem rf_line : (rf x k sl ml).lookup ("line" : Str) = some (.str x) := by
  have e1 : (("line" : Str) == "line") = true := by decide +kernel
  simp only [rf, List.lookup, e1]
theorem rf_atl : (rf x k sl ml).lookup ("at" : Str) = some (.int k) := by
  have e1 : (("at" : Str) == "line") = false := by decide +kernel
  have e2 : (("at" : Str) == "at") = true := by decide +kernel
  simp only [rf, List.lookup, e1, e2]
theorem rf_steps : (rf x k sl ml).lookup ("steps" : Str) = some (.ref sl) := by
  have e1 : (("steps" : Str) == "line") = false := by decide +kernel
  have e2 : (("steps" : Str) == "at") = false := by decide +kernel
  have e3 : (("steps" : Str) == "steps") = true := by decide +kernel
  simp only [rf, List.lookup, e1, e2, e3]
theorem rf_made : (rf x k sl ml).lookup ("made" : Str) = some (.ref ml) := by
  have e1 : (("made" : Str) == "line") = false := by decide +kernel
  have e2 : (("made" : Str) == "at") = false := by decide +kernel
  have e3 : (("made" : Str) == "steps") = false := by decide +kernel
  have e4 : (("made" : Str) == "made") = true := by decide +kernel
  simp only [rf, List.lookup, e1, e2, e3, e4]
theorem rf_no {m : Str} (e1 : (m == "line") = false := by decide +kernel) (e2 : (m == "at") = false := by decide +kernel) (e3 : (m == "steps") = false := by decide +kernel) (e4 : (m == "made") = false := by decide +kernel) : (rf x k sl ml).lookup m = none := by
  simp only [rf, List.lookup, e1, e2, e3, e4]
theorem nLA : ¬ (("line" : Str) = "at") := by decide +kernel
theorem nLS : ¬ (("line" : Str) = "steps") := by decide +kernel
theorem nLM : ¬ (("line" : Str) = "made") := by decide +kernel
theorem nAS : ¬ (("at" : Str) = "steps") := by decide +kernel
theorem nAM : ¬ (("at" : Str) = "made") := by decide +kernel
theorem nSM : ¬ (("steps" : Str) = "made") := by decide +kernel
theorem rf_put {z : Int} {j : Nat} (h : z = (j : Int)) : putF "at" (.int z) (rf x k sl ml) = rf x j sl ml := by
  subst h
  simp only [rf, putF, if_neg nLA, if_true]
theorem rf_len : (rf x k sl ml).length < 1000 := by show 4 < 1000; decide
end
theorem hu2_of {A : Around} {k : Nat} (hr : Room k A) : A.units + 200 < cLine := by have := hr.un; omega
/-- nothing but p is written -/
def Ap (p : Addr) (H H' : Hp) : Prop := ∀ b, b ≠ p → H' b = H b
theorem ap_upd {p : Addr} {H : Hp} {o : HO} : Ap p H (upd H p o) := fun b h => upd_ne h
theorem ap_refl {p : Addr} {H : Hp} : Ap p H H := fun _ _ => rfl
theorem ap_trans {p : Addr} {H H1 H2 : Hp} (a : Ap p H H1) (b : Ap p H1 H2) : Ap p H H2 := fun c h => (b c h).trans (a c h)
theorem tl_ap {p C dx : Addr} {fs : List (Str × V)} {H H' : Hp} (h : H p = some (.ins C dx fs)) (a : Ap p H H') : TupLe H H' := fun b xs e => by
  rw [a b (ne_of e h (by intro z; cases z))]; exact e
structure RB (C : Addr) (H₀ H : Hp) (x : Str) (p sl ml dx : Addr) (k : Nat) (ss : List Stp) (ms : List T) (us vs : List V) : Prop where
  same : Same H₀ H
  n1 : H₀ p = none
  n2 : H₀ sl = none
  n3 : H₀ ml = none
  ob : H p = some (.ins C dx (rf x k sl ml))
  sl_ : H sl = some (.lst us)
  ml_ : H ml = some (.lst vs)
  ne : sl ≠ ml
  st : StL H ss us
  md : DR H ms vs
  kx : k ≤ (cs x).length
  xl : (cs x).length ≤ 1000000
section
variable {C : Addr} {H₀ H H' : Hp} {x : Str} {p sl ml dx : Addr} {k k' : Nat} {ss ss' : List Stp} {ms ms' : List T} {us vs us' vs' : List V}
theorem RB.mv (B : RB C H₀ H x p sl ml dx k ss ms us vs) (ap : Ap p H H') (hp : H' p = some (.ins C dx (rf x k' sl ml))) (hk : k' ≤ (cs x).length) : RB C H₀ H' x p sl ml dx k' ss ms us vs :=
  have m := tl_ap B.ob ap
  ⟨fun b o e => by rw [ap b (ne_of_none e B.n1)]; exact B.same b o e, B.n1, B.n2, B.n3, hp, by rw [ap sl (ne_of B.sl_ B.ob (by intro z; cases z))]; exact B.sl_, by rw [ap ml (ne_of B.ml_ B.ob (by intro z; cases z))]; exact B.ml_, B.ne, B.st.mono m, B.md.mono m, hk, B.xl⟩
theorem RB.grow (B : RB C H₀ H x p sl ml dx k ss ms us vs) (s : Same H H') : RB C H₀ H' x p sl ml dx k ss ms us vs :=
  ⟨B.same.trans s, B.n1, B.n2, B.n3, s _ _ B.ob, s _ _ B.sl_, s _ _ B.ml_, B.ne, B.st.mono (tl_same s), B.md.mono (tl_same s), B.kx, B.xl⟩
theorem RB.setS (B : RB C H₀ H x p sl ml dx k ss ms us vs) (h : StL H ss' us') : RB C H₀ (upd H sl (.lst us')) x p sl ml dx k ss' ms us' vs :=
  have m := tl_lst (o := .lst us') B.sl_
  ⟨same_old B.same B.n2, B.n1, B.n2, B.n3, by rw [upd_ne (ne_of B.ob B.sl_ (by intro z; cases z))]; exact B.ob, upd_same, by rw [upd_ne B.ne.symm]; exact B.ml_, B.ne, h.mono m, B.md.mono m, B.kx, B.xl⟩
theorem RB.setM (B : RB C H₀ H x p sl ml dx k ss ms us vs) (h : DR H ms' vs') : RB C H₀ (upd H ml (.lst vs')) x p sl ml dx k ss ms' us vs' :=
  have m := tl_lst (o := .lst vs') B.ml_
  ⟨same_old B.same B.n3, B.n1, B.n2, B.n3, by rw [upd_ne (ne_of B.ob B.ml_ (by intro z; cases z))]; exact B.ob, by rw [upd_ne B.ne]; exact B.sl_, upd_same, B.ne, B.st.mono m, h.mono m, B.kx, B.xl⟩
theorem tl_but (hm : H ml = some (.lst vs)) (h : ∀ b o, b ≠ ml → H b = some o → H' b = some o) : TupLe H H' := fun b xs e => h b _ (ne_of e hm (by intro z; cases z)) e
theorem RB.butM (B : RB C H₀ H x p sl ml dx k ss ms us vs) (h : ∀ b o, b ≠ ml → H b = some o → H' b = some o) (hm : H' ml = some (.lst vs')) (d : DR H' ms' vs') : RB C H₀ H' x p sl ml dx k ss ms' us vs' :=
  ⟨fun b o e => h b o (ne_of_none e B.n3) (B.same b o e), B.n1, B.n2, B.n3, h _ _ (ne_of B.ob B.ml_ (by intro z; cases z)) B.ob, h _ _ B.ne B.sl_, hm, B.ne, B.st.mono (tl_but B.ml_ h), d, B.kx, B.xl⟩
end
/-- behind one step -/
def Nx (t : T) (C : Addr) (H₀ : Hp) (x : Str) (p sl ml dx : Addr) (m n : Nat) (H' : Hp) : Prop := ∃ (k : Nat) (ss : List Stp) (ms : List T) (us vs : List V), RB C H₀ H' x p sl ml dx k ss ms us vs ∧ Go t ss ms ((cs x).drop k) ∧ ss.length + 5 * ((cs x).length - k) < m ∧ ms.length ≤ n + 1
def spNo2 : Sp := fun vs _ _ _ => vs.length = 2 ∧ False
def spSkip (C : Addr) : Sp := fun vs H Q _ => ∃ (p dx sl ml : Addr) (x y : Str) (k c : Nat), vs = [.ref p, .str y] ∧ H p = some (.ins C dx (rf x k sl ml)) ∧ cs y = [c] ∧
  ((cs x)[k]? = some c → ∀ H', Ap p H H' → H' p = some (.ins C dx (rf x (k + 1) sl ml)) → Q (.bl true) H') ∧ ((cs x)[k]? ≠ some c → Q (.bl false) H)
def spNeed (C : Addr) : Sp := fun vs H Q _ => ∃ (p dx sl ml : Addr) (x y : Str) (k c : Nat), vs = [.ref p, .str y] ∧ H p = some (.ins C dx (rf x k sl ml)) ∧ cs y = [c] ∧ (cs x)[k]? = some c ∧
  ∀ H', Ap p H H' → H' p = some (.ins C dx (rf x (k + 1) sl ml)) → Q .non H'
def spRun (C : Addr) : Sp := fun vs H Q _ => ∃ (p dx sl ml : Addr) (x y : Str) (k : Nat) (a : List Nat), vs = [.ref p, .str y] ∧ H p = some (.ins C dx (rf x k sl ml)) ∧ k ≤ (cs x).length ∧ (cs x).length ≤ 1000000 ∧ ((cs x).drop k).takeWhile (fun c => decide (c ∈ cs y)) = a ∧
  ∀ (z : Str) H', cs z = a → Ap p H H' → H' p = some (.ins C dx (rf x (k + a.length) sl ml)) → Q (.str z) H'
def spMake (C : Addr) : Sp := fun vs H Q _ => ∃ (p dx sl ml q : Addr) (x : Str) (k n : Nat) (hs vs0 ks : List V), vs = [.ref p, .ref q, .int n] ∧ H p = some (.ins C dx (rf x k sl ml)) ∧ H q = some (.tup hs) ∧ H ml = some (.lst (vs0 ++ ks)) ∧ ks.length = n ∧ 0 < n ∧ n ≤ 3 ∧ hs ≠ [] ∧ hs.length ≤ 2 ∧ vs0.length ≤ 6000000 ∧
  ∀ (r : Addr) H', H' r = some (.tup (hs ++ ks)) → H' ml = some (.lst (vs0 ++ [.ref r])) → (∀ b o, b ≠ ml → H b = some o → H' b = some o) → Q .non H'
def spPiece (C : Addr) : Sp := fun vs H Q _ => ∃ (t : T) (p sl ml dx : Addr) (H₀ : Hp) (x : Str) (k : Nat) (ss : List Stp) (ms : List T) (us ws : List V), vs = [.ref p] ∧ RB C H₀ H x p sl ml dx k ss ms us ws ∧ Go t (.piece :: ss) ms ((cs x).drop k) ∧ ms.length + ss.length + 1 + 5 * ((cs x).length - k) ≤ 6000000 ∧
  ∀ H', Nx t C H₀ x p sl ml dx (ss.length + 1 + 5 * ((cs x).length - k)) ms.length H' → Q .non H'
def spBetw (C : Addr) : Sp := fun vs H Q _ => ∃ (t : T) (p sl ml dx : Addr) (H₀ : Hp) (x : Str) (k : Nat) (ss : List Stp) (ms : List T) (us ws : List V), vs = [.ref p] ∧ RB C H₀ H x p sl ml dx k ss ms us ws ∧ Go t (.between :: ss) ms ((cs x).drop k) ∧ ms.length + ss.length + 1 + 5 * ((cs x).length - k) ≤ 6000000 ∧
  ∀ H', Nx t C H₀ x p sl ml dx (ss.length + 1 + 5 * ((cs x).length - k)) ms.length H' → Q .non H'
def spHand (C : Addr) : Sp := fun vs H Q _ => ∃ (t : T) (p sl ml dx : Addr) (H₀ : Hp) (x : Str) (k n : Nat) (w : Str) (ss : List Stp) (ms : List T) (us ws : List V), vs = [.ref p, .str w, .int n] ∧ RB C H₀ H x p sl ml dx k ss ms us ws ∧ Go t (.handed w n :: ss) ms ((cs x).drop k) ∧ ms.length + ss.length + 1 + 5 * ((cs x).length - k) ≤ 6000000 ∧
  ∀ H', Nx t C H₀ x p sl ml dx (ss.length + 1 + 5 * ((cs x).length - k)) ms.length H' → Q .non H'
def spTake (C : Addr) : Sp := fun vs H Q _ => ∃ (t : T) (p sl ml dx : Addr) (H₀ : Hp) (x : Str) (k : Nat) (s : Stp) (u : V) (ss : List Stp) (ms : List T) (us ws : List V), vs = [.ref p, u] ∧ StpAt H s u ∧ RB C H₀ H x p sl ml dx k ss ms us ws ∧ Go t (s :: ss) ms ((cs x).drop k) ∧ ms.length + ss.length + 1 + 5 * ((cs x).length - k) ≤ 6000000 ∧
  ∀ H', Nx t C H₀ x p sl ml dx (ss.length + 1 + 5 * ((cs x).length - k)) ms.length H' → Q .non H'
def spLetR (C : Addr) : Sp := fun vs H Q _ => ∃ (t : T) (p sl ml dx : Addr) (H₀ : Hp) (x : Str) (k m : Nat) (w : Str) (a b : T) (r : List Nat) (ss : List Stp) (ms : List T) (us ws : List V), vs = [.ref p] ∧ RB C H₀ H x p sl ml dx k ss ms us ws ∧ Wd w ∧ LT a ∧ LT b ∧ Bd r ∧
  (cs x).drop k = cs w ++ (61 :: (ln a ++ (93 :: (ln b ++ r)))) ∧ Go t ss (.lt w a b :: ms) r ∧ ms.length + ss.length + 1 + 5 * ((cs x).length - k) ≤ 6000000 ∧ ss.length + 5 * ((cs x).length - k) ≤ m ∧ ∀ H', Nx t C H₀ x p sl ml dx m ms.length H' → Q .non H'
def spNumR (C : Addr) : Sp := fun vs H Q _ => ∃ (t : T) (p sl ml dx : Addr) (H₀ : Hp) (x : Str) (k m : Nat) (n : Int) (r : List Nat) (ss : List Stp) (ms : List T) (us ws : List V), vs = [.ref p] ∧ RB C H₀ H x p sl ml dx k ss ms us ws ∧ (-(10 ^ 60) < n ∧ n < 10 ^ 60) ∧ Bd r ∧
  (cs x).drop k = ln (.num n) ++ r ∧ Go t ss (.num n :: ms) r ∧ ms.length + ss.length + 1 + 5 * ((cs x).length - k) ≤ 6000000 ∧ ss.length + 5 * ((cs x).length - k) ≤ m ∧ ∀ H', Nx t C H₀ x p sl ml dx m ms.length H' → Q .non H'
/-- what stands behind the word -/
def wtl : T → List Nat
  | .st0 _ => [123, 125]
  | .st1 _ a => 123 :: (ln a ++ [125])
  | .st2 _ a b => 123 :: (ln a ++ (44 :: (ln b ++ [125])))
  | _ => []
def IsW (w : Str) : T → Prop
  | .name v => v = w
  | .st0 v => v = w
  | .st1 v _ => v = w
  | .st2 v _ _ => v = w
  | _ => False
def spWordB (C : Addr) : Sp := fun vs H Q _ => ∃ (t : T) (p sl ml dx : Addr) (H₀ : Hp) (x : Str) (k m : Nat) (w : Str) (u : T) (r : List Nat) (ss : List Stp) (ms : List T) (us ws : List V), vs = [.ref p, .str w] ∧ RB C H₀ H x p sl ml dx k ss ms us ws ∧ IsW w u ∧ LT u ∧ Bd r ∧
  (cs x).drop k = wtl u ++ r ∧ Go t ss (u :: ms) r ∧ ms.length + ss.length + 1 + 5 * ((cs x).length - k) ≤ 6000000 ∧ ss.length + 5 * ((cs x).length - k) < m ∧ ∀ H', Nx t C H₀ x p sl ml dx m ms.length H' → Q .non H'
def spInit (C : Addr) : Sp := fun vs H Q _ => ∃ (p dx : Addr) (x : Str), vs = [.ref p, .str x] ∧ H p = some (.ins C dx []) ∧
  ∀ (sl ml q : Addr) H', H sl = none → H ml = none → sl ≠ ml → H' p = some (.ins C dx (rf x 0 sl ml)) → H' sl = some (.lst [.ref q]) → H' q = some (.tup [.str "piece"]) → H' ml = some (.lst []) → (∀ b o, b ≠ p → H b = some o → H' b = some o) → Q .non H'
def spRead : Sp := fun vs H Q _ => ∃ (t : T) (x : Str), vs = [.str x] ∧ LT t ∧ cs x = ln t ∧ (ln t).length ≤ 1000000 ∧ ∀ (v : V) (H' : Hp), Same H H' → Den H' t v → Q v H'
/-! ### writing -/
def secs : T → List It2
  | .num n => [.inl (toString n)]
  | .name w => [.inl w]
  | .sum a b => [.inl "(", .inr a, .inl "+", .inr b, .inl ")"]
  | .less a b => [.inl "(", .inr a, .inl "-", .inr b, .inl ")"]
  | .cho a b c => [.inl "(", .inr a, .inl "?", .inr b, .inl ":", .inr c, .inl ")"]
  | .lt w a b => [.inl "[", .inl w, .inl "=", .inr a, .inl "]", .inr b]
  | .st0 w => [.inl w, .inl "{", .inl "}"]
  | .st1 w a => [.inl w, .inl "{", .inr a, .inl "}"]
  | .st2 w a b => [.inl w, .inl "{", .inr a, .inl ",", .inr b, .inl "}"]
inductive ItF (H : Hp) : List It2 → List V → Prop where
  | nil : ItF H [] []
  | cons {i : It2} {u : V} {is : List It2} {us : List V} : ItAt H i u → ItF H is us → ItF H (i :: is) (u :: us)
def comm : List T → List It2
  | [] => []
  | [a] => [.inr a]
  | a :: r => .inr a :: .inl "," :: comm r
def spCommas : Sp := fun vs H Q _ => ∃ (q : Addr) (ts : List T) (us : List V), vs = [.ref q] ∧ H q = some (.tup us) ∧ DenL H ts us ∧ ts.length ≤ 2 ∧ ∀ (l : Addr) (ws : List V) (H' : Hp), Same H H' → H l = none → H' l = some (.lst ws) → ItF H' (comm ts) ws → Q (.ref l) H'
def spSecs : Sp := fun vs H Q _ => ∃ (t : T) (v : V), vs = [v] ∧ Den H t v ∧ LT t ∧ ∀ (l : Addr) (ws : List V) (H' : Hp), Same H H' → H l = none → H' l = some (.lst ws) → ItF H' (secs t) ws → Q (.ref l) H'
def spShown : Sp := fun vs H Q _ => ∃ (t : T) (v : V), vs = [v] ∧ Den H t v ∧ LT t ∧ t.size ≤ 1000 ∧ (ln t).length ≤ 1000000 ∧ ∀ (x : Str) (H' : Hp), Same H H' → cs x = ln t → Q (.str x) H'
def spAtG (K : PySem.W.Frag) : Sp := fun vs H Q _ => ∃ (a : Addr) (ns : List Int) (i : Nat), vs = [.ref a, .int i] ∧ SqL K H a (ns.map V.int) ∧ ∀ n, Q (.int n) H
def spLaw10 (K : PySem.W.Frag) : Sp := fun vs H Q _ => ∃ (a : Addr) (ns : List Int), vs = [.ref a] ∧ SqL K H a (ns.map V.int) ∧ ns.length ≤ 63 ∧ ∀ H', Q (.bl true) H'
end SW

set_option Elab.async false
set_option linter.all false
set_option maxRecDepth 100000
namespace S10
open PySem L2 SW
-- _law_at ['_law_script', '_law_k']
def t_atg_1 (K : PySem.W.Frag) : TS := (tRet (tOp (rIxL K) (tVar 0) (tVar 1)))
def t_atg_2 (K : PySem.W.Frag) : TS := (tIfS (tTest (tOp rLtI (tVar 1) (tCB (cLen K) (tCons (tVar 0) tNil)))) (t_atg_1 K) tNext)
def t_atg (K : PySem.W.Frag) : TS := (tSeq (t_atg_2 K) (tRet (tC (.int 0))))
-- with_commas ['pieces', 'sections', 'piece']
def t_wc_1 (K : PySem.W.Frag) : TS := (tDrop (tBM K "list" rAppend (tVar 1) (tCons (tC (.str ",")) tNil)))
def t_wc_2 (K : PySem.W.Frag) : TS := (tIfS (tTest (tOp rGtI (tCB (cLen K) (tCons (tVar 1) tNil)) (tC (.int 0)))) (t_wc_1 K) tNext)
def t_wc_3 (K : PySem.W.Frag) : TS := (tSeq (t_wc_2 K) (tDrop (tBM K "list" rAppend (tVar 1) (tCons (tVar 2) tNil))))
def t_wc (K : PySem.W.Frag) : TS := (tSeq (tAsg (tLst tNil) (gName 1)) (tSeq (tFor (iTup K (tVar 0)) (gName 2) (t_wc_3 K)) (tRet (tVar 1))))
-- sections_of ['piece', 'kind']
def t_sc_1 (K : PySem.W.Frag) : TS := (tRet (tLst (tCons (tCB cStrI (tCons (tOp (rIxT K) (tVar 0) (tC (.int 1))) tNil)) tNil)))
def t_sc_2 (K : PySem.W.Frag) : TS := (tIfS (tTest (tOp rEq (tVar 1) (tC (.str "number")))) (t_sc_1 K) tNext)
def t_sc_3 (K : PySem.W.Frag) : TS := (tRet (tLst (tCons (tOp (rIxT K) (tVar 0) (tC (.int 1))) tNil)))
def t_sc_4 (K : PySem.W.Frag) : TS := (tIfS (tTest (tOp rEq (tVar 1) (tC (.str "name")))) (t_sc_3 K) tNext)
def t_sc_5 (K : PySem.W.Frag) : TS := (tRet (tLst (tCons (tC (.str "(")) (tCons (tOp (rIxT K) (tVar 0) (tC (.int 1))) (tCons (tC (.str "+")) (tCons (tOp (rIxT K) (tVar 0) (tC (.int 2))) (tCons (tC (.str ")")) tNil)))))))
def t_sc_6 (K : PySem.W.Frag) : TS := (tIfS (tTest (tOp rEq (tVar 1) (tC (.str "sum")))) (t_sc_5 K) tNext)
def t_sc_7 (K : PySem.W.Frag) : TS := (tRet (tLst (tCons (tC (.str "(")) (tCons (tOp (rIxT K) (tVar 0) (tC (.int 1))) (tCons (tC (.str "-")) (tCons (tOp (rIxT K) (tVar 0) (tC (.int 2))) (tCons (tC (.str ")")) tNil)))))))
def t_sc_8 (K : PySem.W.Frag) : TS := (tIfS (tTest (tOp rEq (tVar 1) (tC (.str "less")))) (t_sc_7 K) tNext)
def t_sc_9 (K : PySem.W.Frag) : TS := (tRet (tLst (tCons (tC (.str "(")) (tCons (tOp (rIxT K) (tVar 0) (tC (.int 1))) (tCons (tC (.str "?")) (tCons (tOp (rIxT K) (tVar 0) (tC (.int 2))) (tCons (tC (.str ":")) (tCons (tOp (rIxT K) (tVar 0) (tC (.int 3))) (tCons (tC (.str ")")) tNil)))))))))
def t_sc_10 (K : PySem.W.Frag) : TS := (tIfS (tTest (tOp rEq (tVar 1) (tC (.str "choose")))) (t_sc_9 K) tNext)
def t_sc_11 (K : PySem.W.Frag) : TS := (tRet (tLst (tCons (tC (.str "[")) (tCons (tOp (rIxT K) (tVar 0) (tC (.int 1))) (tCons (tC (.str "=")) (tCons (tOp (rIxT K) (tVar 0) (tC (.int 2))) (tCons (tC (.str "]")) (tCons (tOp (rIxT K) (tVar 0) (tC (.int 3))) tNil))))))))
def t_sc_12 (K : PySem.W.Frag) : TS := (tIfS (tTest (tOp rEq (tVar 1) (tC (.str "let")))) (t_sc_11 K) tNext)
def t_sc (K : PySem.W.Frag) : TS := (tSeq (tAsg (tOp (rIxT K) (tVar 0) (tC (.int 0))) (gName 1)) (tSeq (t_sc_2 K) (tSeq (t_sc_4 K) (tSeq (t_sc_6 K) (tSeq (t_sc_8 K) (tSeq (t_sc_10 K) (tSeq (t_sc_12 K) (tRet (tOp rCat (tOp rCat (tLst (tCons (tOp (rIxT K) (tVar 0) (tC (.int 1))) (tCons (tC (.str "{")) tNil))) (tCall spCommas [] E0 (tCons (tSl (rSlT K) (tVar 0) (tPart (tC (.int 2))) tNoPart) tNil))) (tLst (tCons (tC (.str "}")) tNil)))))))))))
-- shown ['piece', 'texts', 'waiting', 'section', 'inner']
def t_sh_1 (K : PySem.W.Frag) : TS := (tDrop (tBM K "list" rAppend (tVar 1) (tCons (tVar 3) tNil)))
def t_sh_2 (K : PySem.W.Frag) : TS := (tDrop (tBM K "list" rAppend (tVar 2) (tCons (tVar 4) tNil)))
def t_sh_3 (K : PySem.W.Frag) : TS := (tFor (iRev K (tCall spSecs [] E0 (tCons (tVar 3) tNil))) (gName 4) (t_sh_2 K))
def t_sh_4 (K : PySem.W.Frag) : TS := (tIfS (tB (tCB (cIsi K) (tCons (tVar 3) (tCons (tC (.ty "str")) tNil)))) (t_sh_1 K) (t_sh_3 K))
def t_sh_5 (K : PySem.W.Frag) : TS := (tSeq (tAsg (tBM0 K "list" rPop (tVar 2)) (gName 3)) (t_sh_4 K))
def t_sh (K : PySem.W.Frag) : TS := (tSeq (tAsg (tLst tNil) (gName 1)) (tSeq (tAsg (tLst (tCons (tVar 0) tNil)) (gName 2)) (tSeq (tWhile (tTest (tOp rGtI (tCB (cLen K) (tCons (tVar 2) tNil)) (tC (.int 0)))) (t_sh_5 K)) (tRet (tBM K "str" (rJoin K) (tC (.str "")) (tCons (tVar 1) tNil))))))
-- Reader.__init__ ['self', 'line']
def t_ri (K : PySem.W.Frag) (a_Reader : Addr) : TS := (tSeq (sFld K (tVar 0) (tVar 1) "line") (tSeq (sFld K (tVar 0) (tC (.int 0)) "at") (tSeq (sFld K (tVar 0) (tLst (tCons (tTup (tCons (tC (.str "piece")) tNil)) tNil)) "steps") (sFld K (tVar 0) (tLst tNil) "made"))))
-- Reader.skip ['self', 'sign']
def t_sk_1 (K : PySem.W.Frag) (a_Reader : Addr) : TS := (tRet (tC (.bl false)))
def t_sk_2 (K : PySem.W.Frag) (a_Reader : Addr) : TS := (tIfS (tNot (tB (tBM K "str" rStarts (tFld K (tVar 0) "line") (tCons (tVar 1) (tCons (tFld K (tVar 0) "at") tNil))))) (t_sk_1 K a_Reader) tNext)
def t_sk (K : PySem.W.Frag) (a_Reader : Addr) : TS := (tSeq (t_sk_2 K a_Reader) (tSeq (sFldAug K (tVar 0) (tCB cLenS (tCons (tVar 1) tNil)) rAdd "at") (tRet (tC (.bl true)))))
-- Reader.need ['self', 'sign']
def t_nd_1 (K : PySem.W.Frag) (a_Reader : Addr) : TS := (tDrop (tMeth a_Reader "refuse" spNo2 [] E0 (tVar 0) (tCons (tVar 1) tNil)))
def t_nd_2 (K : PySem.W.Frag) (a_Reader : Addr) : TS := (tIfS (tNot (tB (tMeth a_Reader "skip" (spSkip a_Reader) [] E0 (tVar 0) (tCons (tVar 1) tNil)))) (t_nd_1 K a_Reader) tNext)
def t_nd (K : PySem.W.Frag) (a_Reader : Addr) : TS := (t_nd_2 K a_Reader)
-- Reader.run_of ['self', 'signs', 'begin']
def t_ro_1 (K : PySem.W.Frag) (a_Reader : Addr) : TS := (sFldAug K (tVar 0) (tC (.int 1)) rAdd "at")
def t_ro (K : PySem.W.Frag) (a_Reader : Addr) : TS := (tSeq (tAsg (tFld K (tVar 0) "at") (gName 2)) (tSeq (tWhile (tAnd (tTest (tOp rLtI (tFld K (tVar 0) "at") (tCB cLenS (tCons (tFld K (tVar 0) "line") tNil)))) (tTest (tOp rInS (tOp rIxS (tFld K (tVar 0) "line") (tFld K (tVar 0) "at")) (tVar 1)))) (t_ro_1 K a_Reader)) (tRet (tSl rSlS (tFld K (tVar 0) "line") (tPart (tVar 2)) (tPart (tFld K (tVar 0) "at"))))))
-- Reader.read_piece ['self', 'word']
def t_rp_1 (K : PySem.W.Frag) (a_Reader : Addr) : TS := (tDrop (tMeth a_Reader "read_behind_word" (spWordB a_Reader) [] E0 (tVar 0) (tCons (tVar 1) tNil)))
def t_rp_2 (K : PySem.W.Frag) (a_Reader : Addr) : TS := (tDrop (tBM K "list" rExtend (tFld K (tVar 0) "steps") (tCons (tLst (tCons (tTup (tCons (tC (.str "between")) tNil)) (tCons (tTup (tCons (tC (.str "piece")) tNil)) tNil))) tNil)))
def t_rp_3 (K : PySem.W.Frag) (a_Reader : Addr) : TS := (tDrop (tMeth a_Reader "read_let" (spLetR a_Reader) [] E0 (tVar 0) tNil))
def t_rp_4 (K : PySem.W.Frag) (a_Reader : Addr) : TS := (tDrop (tMeth a_Reader "read_number" (spNumR a_Reader) [] E0 (tVar 0) tNil))
def t_rp_5 (K : PySem.W.Frag) (a_Reader : Addr) : TS := (tIfS (tB (tMeth a_Reader "skip" (spSkip a_Reader) [] E0 (tVar 0) (tCons (tC (.str "[")) tNil))) (t_rp_3 K a_Reader) (t_rp_4 K a_Reader))
def t_rp_6 (K : PySem.W.Frag) (a_Reader : Addr) : TS := (tIfS (tB (tMeth a_Reader "skip" (spSkip a_Reader) [] E0 (tVar 0) (tCons (tC (.str "(")) tNil))) (t_rp_2 K a_Reader) (t_rp_5 K a_Reader))
def t_rp_7 (K : PySem.W.Frag) (a_Reader : Addr) : TS := (tIfS (tTest (tOp rNe (tVar 1) (tC (.str "")))) (t_rp_1 K a_Reader) (t_rp_6 K a_Reader))
def t_rp (K : PySem.W.Frag) (a_Reader : Addr) : TS := (tSeq (tAsg (tMeth a_Reader "run_of" (spRun a_Reader) [] E0 (tVar 0) (tCons (tC (.str "abcdefghijklmnopqrstuvwxyz")) tNil)) (gName 1)) (t_rp_7 K a_Reader))
-- Reader.read_behind_word ['self', 'word']
def t_rb_1 (K : PySem.W.Frag) (a_Reader : Addr) : TS := (tDrop (tBM K "list" rAppend (tFld K (tVar 0) "made") (tCons (tTup (tCons (tC (.str "name")) (tCons (tVar 1) tNil))) tNil)))
def t_rb_2 (K : PySem.W.Frag) (a_Reader : Addr) : TS := (tDrop (tBM K "list" rAppend (tFld K (tVar 0) "made") (tCons (tTup (tCons (tC (.str "stamp")) (tCons (tVar 1) tNil))) tNil)))
def t_rb_3 (K : PySem.W.Frag) (a_Reader : Addr) : TS := (tDrop (tBM K "list" rExtend (tFld K (tVar 0) "steps") (tCons (tLst (tCons (tTup (tCons (tC (.str "handed")) (tCons (tVar 1) (tCons (tC (.int 1)) tNil)))) (tCons (tTup (tCons (tC (.str "piece")) tNil)) tNil))) tNil)))
def t_rb_4 (K : PySem.W.Frag) (a_Reader : Addr) : TS := (tIfS (tB (tMeth a_Reader "skip" (spSkip a_Reader) [] E0 (tVar 0) (tCons (tC (.str "}")) tNil))) (t_rb_2 K a_Reader) (t_rb_3 K a_Reader))
def t_rb_5 (K : PySem.W.Frag) (a_Reader : Addr) : TS := (tIfS (tNot (tB (tMeth a_Reader "skip" (spSkip a_Reader) [] E0 (tVar 0) (tCons (tC (.str "{")) tNil)))) (t_rb_1 K a_Reader) (t_rb_4 K a_Reader))
def t_rb (K : PySem.W.Frag) (a_Reader : Addr) : TS := (t_rb_5 K a_Reader)
-- Reader.read_let ['self', 'word']
def t_rl_1 (K : PySem.W.Frag) (a_Reader : Addr) : TS := (tDrop (tMeth a_Reader "refuse" spNo2 [] E0 (tVar 0) (tCons (tC (.str "a word")) tNil)))
def t_rl_2 (K : PySem.W.Frag) (a_Reader : Addr) : TS := (tIfS (tTest (tOp rEq (tVar 1) (tC (.str "")))) (t_rl_1 K a_Reader) tNext)
def t_rl (K : PySem.W.Frag) (a_Reader : Addr) : TS := (tSeq (tAsg (tMeth a_Reader "run_of" (spRun a_Reader) [] E0 (tVar 0) (tCons (tC (.str "abcdefghijklmnopqrstuvwxyz")) tNil)) (gName 1)) (tSeq (t_rl_2 K a_Reader) (tSeq (tDrop (tMeth a_Reader "need" (spNeed a_Reader) [] E0 (tVar 0) (tCons (tC (.str "=")) tNil))) (tDrop (tBM K "list" rExtend (tFld K (tVar 0) "steps") (tCons (tLst (tCons (tTup (tCons (tC (.str "make")) (tCons (tTup (tCons (tC (.str "let")) (tCons (tVar 1) tNil))) (tCons (tC (.int 2)) tNil)))) (tCons (tTup (tCons (tC (.str "piece")) tNil)) (tCons (tTup (tCons (tC (.str "sign")) (tCons (tC (.str "]")) tNil))) (tCons (tTup (tCons (tC (.str "piece")) tNil)) tNil))))) tNil))))))
-- Reader.read_number ['self', 'below', 'figures', 'number']
def t_rn_1 (K : PySem.W.Frag) (a_Reader : Addr) : TS := (tDrop (tMeth a_Reader "refuse" spNo2 [] E0 (tVar 0) (tCons (tC (.str "a piece")) tNil)))
def t_rn_2 (K : PySem.W.Frag) (a_Reader : Addr) : TS := (tIfS (tTest (tOp rEq (tVar 2) (tC (.str "")))) (t_rn_1 K a_Reader) tNext)
def t_rn_3 (K : PySem.W.Frag) (a_Reader : Addr) : TS := (tDrop (tMeth a_Reader "refuse" spNo2 [] E0 (tVar 0) (tCons (tC (.str "a number that does not begin with nought")) tNil)))
def t_rn_4 (K : PySem.W.Frag) (a_Reader : Addr) : TS := (tIfS (tAnd (tTest (tOp rEq (tOp rIxS (tVar 2) (tC (.int 0))) (tC (.str "0")))) (tOr (tB (tVar 1)) (tTest (tOp rNe (tVar 2) (tC (.str "0")))))) (t_rn_3 K a_Reader) tNext)
def t_rn (K : PySem.W.Frag) (a_Reader : Addr) : TS := (tSeq (tAsg (tMeth a_Reader "skip" (spSkip a_Reader) [] E0 (tVar 0) (tCons (tC (.str "-")) tNil)) (gName 1)) (tSeq (tAsg (tMeth a_Reader "run_of" (spRun a_Reader) [] E0 (tVar 0) (tCons (tC (.str "0123456789")) tNil)) (gName 2)) (tSeq (t_rn_2 K a_Reader) (tSeq (t_rn_4 K a_Reader) (tSeq (tAsg (tCB cIntS (tCons (tVar 2) tNil)) (gName 3)) (tDrop (tBM K "list" rAppend (tFld K (tVar 0) "made") (tCons (tTup (tCons (tC (.str "number")) (tCons (tIf (tB (tVar 1)) (tUn rNegI (tVar 3)) (tVar 3)) tNil))) tNil))))))))
-- Reader.read_between ['self']
def t_rw_1 (K : PySem.W.Frag) (a_Reader : Addr) : TS := (tDrop (tBM K "list" rExtend (tFld K (tVar 0) "steps") (tCons (tLst (tCons (tTup (tCons (tC (.str "make")) (tCons (tTup (tCons (tC (.str "sum")) tNil)) (tCons (tC (.int 2)) tNil)))) (tCons (tTup (tCons (tC (.str "sign")) (tCons (tC (.str ")")) tNil))) (tCons (tTup (tCons (tC (.str "piece")) tNil)) tNil)))) tNil)))
def t_rw_2 (K : PySem.W.Frag) (a_Reader : Addr) : TS := (tDrop (tBM K "list" rExtend (tFld K (tVar 0) "steps") (tCons (tLst (tCons (tTup (tCons (tC (.str "make")) (tCons (tTup (tCons (tC (.str "less")) tNil)) (tCons (tC (.int 2)) tNil)))) (tCons (tTup (tCons (tC (.str "sign")) (tCons (tC (.str ")")) tNil))) (tCons (tTup (tCons (tC (.str "piece")) tNil)) tNil)))) tNil)))
def t_rw_3 (K : PySem.W.Frag) (a_Reader : Addr) : TS := (tSeq (tDrop (tMeth a_Reader "need" (spNeed a_Reader) [] E0 (tVar 0) (tCons (tC (.str "?")) tNil))) (tDrop (tBM K "list" rExtend (tFld K (tVar 0) "steps") (tCons (tLst (tCons (tTup (tCons (tC (.str "make")) (tCons (tTup (tCons (tC (.str "choose")) tNil)) (tCons (tC (.int 3)) tNil)))) (tCons (tTup (tCons (tC (.str "sign")) (tCons (tC (.str ")")) tNil))) (tCons (tTup (tCons (tC (.str "piece")) tNil)) (tCons (tTup (tCons (tC (.str "sign")) (tCons (tC (.str ":")) tNil))) (tCons (tTup (tCons (tC (.str "piece")) tNil)) tNil)))))) tNil))))
def t_rw_4 (K : PySem.W.Frag) (a_Reader : Addr) : TS := (tIfS (tB (tMeth a_Reader "skip" (spSkip a_Reader) [] E0 (tVar 0) (tCons (tC (.str "-")) tNil))) (t_rw_2 K a_Reader) (t_rw_3 K a_Reader))
def t_rw_5 (K : PySem.W.Frag) (a_Reader : Addr) : TS := (tIfS (tB (tMeth a_Reader "skip" (spSkip a_Reader) [] E0 (tVar 0) (tCons (tC (.str "+")) tNil))) (t_rw_1 K a_Reader) (t_rw_4 K a_Reader))
def t_rw (K : PySem.W.Frag) (a_Reader : Addr) : TS := (t_rw_5 K a_Reader)
-- Reader.read_behind_handed ['self', 'word', 'many']
def t_rh_1 (K : PySem.W.Frag) (a_Reader : Addr) : TS := (tDrop (tBM K "list" rExtend (tFld K (tVar 0) "steps") (tCons (tLst (tCons (tTup (tCons (tC (.str "handed")) (tCons (tVar 1) (tCons (tOp rAddI (tVar 2) (tC (.int 1))) tNil)))) (tCons (tTup (tCons (tC (.str "piece")) tNil)) tNil))) tNil)))
def t_rh_2 (K : PySem.W.Frag) (a_Reader : Addr) : TS := (tSeq (tDrop (tMeth a_Reader "need" (spNeed a_Reader) [] E0 (tVar 0) (tCons (tC (.str "}")) tNil))) (tDrop (tMeth a_Reader "make" (spMake a_Reader) [] E0 (tVar 0) (tCons (tTup (tCons (tC (.str "stamp")) (tCons (tVar 1) tNil))) (tCons (tVar 2) tNil)))))
def t_rh_3 (K : PySem.W.Frag) (a_Reader : Addr) : TS := (tIfS (tB (tMeth a_Reader "skip" (spSkip a_Reader) [] E0 (tVar 0) (tCons (tC (.str ",")) tNil))) (t_rh_1 K a_Reader) (t_rh_2 K a_Reader))
def t_rh (K : PySem.W.Frag) (a_Reader : Addr) : TS := (t_rh_3 K a_Reader)
-- Reader.make ['self', 'head', 'many', 'inner']
def t_mk_1 (K : PySem.W.Frag) (a_Reader : Addr) : TS := (tDrop (tBM K "list" rAppend (tVar 3) (tCons (tBM0 K "list" rPop (tFld K (tVar 0) "made")) tNil)))
def t_mk (K : PySem.W.Frag) (a_Reader : Addr) : TS := (tSeq (tAsg (tLst tNil) (gName 3)) (tSeq (tWhile (tTest (tOp rLtI (tCB (cLen K) (tCons (tVar 3) tNil)) (tVar 2))) (t_mk_1 K a_Reader)) (tDrop (tBM K "list" rAppend (tFld K (tVar 0) "made") (tCons (tOp (rCatA K) (tVar 1) (tRevT K (tVar 3))) tNil)))))
-- Reader.take ['self', 'step']
def t_tk_1 (K : PySem.W.Frag) (a_Reader : Addr) : TS := (tDrop (tMeth a_Reader "read_piece" (spPiece a_Reader) [] E0 (tVar 0) tNil))
def t_tk_2 (K : PySem.W.Frag) (a_Reader : Addr) : TS := (tDrop (tMeth a_Reader "read_between" (spBetw a_Reader) [] E0 (tVar 0) tNil))
def t_tk_3 (K : PySem.W.Frag) (a_Reader : Addr) : TS := (tDrop (tMeth a_Reader "read_behind_handed" (spHand a_Reader) [] E0 (tVar 0) (tCons (tOp (rIxT K) (tVar 1) (tC (.int 1))) (tCons (tOp (rIxT K) (tVar 1) (tC (.int 2))) tNil))))
def t_tk_4 (K : PySem.W.Frag) (a_Reader : Addr) : TS := (tDrop (tMeth a_Reader "need" (spNeed a_Reader) [] E0 (tVar 0) (tCons (tOp (rIxT K) (tVar 1) (tC (.int 1))) tNil)))
def t_tk_5 (K : PySem.W.Frag) (a_Reader : Addr) : TS := (tDrop (tMeth a_Reader "make" (spMake a_Reader) [] E0 (tVar 0) (tCons (tOp (rIxT K) (tVar 1) (tC (.int 1))) (tCons (tOp (rIxT K) (tVar 1) (tC (.int 2))) tNil))))
def t_tk_6 (K : PySem.W.Frag) (a_Reader : Addr) : TS := (tIfS (tTest (tOp rEq (tOp (rIxT K) (tVar 1) (tC (.int 0))) (tC (.str "sign")))) (t_tk_4 K a_Reader) (t_tk_5 K a_Reader))
def t_tk_7 (K : PySem.W.Frag) (a_Reader : Addr) : TS := (tIfS (tTest (tOp rEq (tOp (rIxT K) (tVar 1) (tC (.int 0))) (tC (.str "handed")))) (t_tk_3 K a_Reader) (t_tk_6 K a_Reader))
def t_tk_8 (K : PySem.W.Frag) (a_Reader : Addr) : TS := (tIfS (tTest (tOp rEq (tOp (rIxT K) (tVar 1) (tC (.int 0))) (tC (.str "between")))) (t_tk_2 K a_Reader) (t_tk_7 K a_Reader))
def t_tk_9 (K : PySem.W.Frag) (a_Reader : Addr) : TS := (tIfS (tTest (tOp rEq (tOp (rIxT K) (tVar 1) (tC (.int 0))) (tC (.str "piece")))) (t_tk_1 K a_Reader) (t_tk_8 K a_Reader))
def t_tk (K : PySem.W.Frag) (a_Reader : Addr) : TS := (t_tk_9 K a_Reader)
-- read ['line', 'reader']
def t_rd_1 (K : PySem.W.Frag) (a_Reader : Addr) : TS := (tDrop (tMeth a_Reader "take" (spTake a_Reader) [] E0 (tVar 1) (tCons (tBM0 K "list" rPop (tFld K (tVar 1) "steps")) tNil)))
def t_rd_2 (K : PySem.W.Frag) (a_Reader : Addr) : TS := (tDrop (tMeth a_Reader "refuse" spNo2 [] E0 (tVar 1) (tCons (tC (.str "its end")) tNil)))
def t_rd_3 (K : PySem.W.Frag) (a_Reader : Addr) : TS := (tIfS (tTest (tOp rLtI (tFld K (tVar 1) "at") (tCB cLenS (tCons (tVar 0) tNil)))) (t_rd_2 K a_Reader) tNext)
def t_rd (K : PySem.W.Frag) (a_Reader : Addr) : TS := (tSeq (tAsg (tMake a_Reader (spInit a_Reader) [] E0 (tCons (tVar 0) tNil)) (gName 1)) (tSeq (tWhile (tTest (tOp rGtI (tCB (cLen K) (tCons (tFld K (tVar 1) "steps") tNil)) (tC (.int 0)))) (t_rd_1 K a_Reader)) (tSeq (t_rd_3 K a_Reader) (tRet (tBM0 K "list" rPop (tFld K (tVar 1) "made"))))))
-- law ['_law_script', '_law_piece', '_law_letters', '_law_seed', '_law_word', '_law_line', '_law_due', '_law_found']
def t_law_1 (K : PySem.W.Frag) : TS := (tRet (tC (.bl false)))
def t_law_2 (K : PySem.W.Frag) : TS := (tIfS (tOr (tNot (tB (tCB (cIsi K) (tCons (tVar 5) (tCons (tC (.ty "str")) tNil))))) (tTest (tOp rNe (tVar 5) (tVar 6)))) (t_law_1 K) tNext)
def t_law (K : PySem.W.Frag) : TS := (tSeq (tAsg (tCall (spMain K) [] E0 (tCons (tSl (rSlL K) (tVar 0) (tPart (tC (.int 1))) (tPart (tC (.int 98)))) tNil)) (gName 1)) (tSeq (tAsg (tC (.str "abcdefghijklmnopqrstuvwxyz")) (gName 2)) (tSeq (tAsg (tCall (spAtG K) [] E0 (tCons (tVar 0) (tCons (tC (.int 0)) tNil))) (gName 3)) (tSeq (tAsg (tOp rAddS (tOp rIxS (tVar 2) (tOp rModI (tVar 3) (tC (.int 26)))) (tOp rIxS (tVar 2) (tOp rModI (tCall (spAtG K) [] E0 (tCons (tVar 0) (tCons (tC (.int 1)) tNil))) (tC (.int 26))))) (gName 4)) (tSeq (tAsg (tTup (tCons (tC (.str "let")) (tCons (tVar 4) (tCons (tTup (tCons (tC (.str "name")) (tCons (tVar 4) tNil))) (tCons (tVar 1) tNil))))) (gName 1)) (tSeq (tAsg (tCall spShown [] E0 (tCons (tVar 1) tNil)) (gName 5)) (tSeq (tAsg (tCall (spLine SMain) [] E0 (tCons (tVar 1) tNil)) (gName 6)) (tSeq (t_law_2 K) (tSeq (tAsg (tCall spRead [] E0 (tCons (tVar 6) tNil)) (gName 7)) (tRet (tAndV (tCall spIsPiece [] E0 (tCons (tVar 7) tNil)) (tOp rEqDen (tVar 7) (tVar 1)))))))))))))
end S10

set_option Elab.async false
set_option linter.all false
set_option maxRecDepth 100000
set_option maxHeartbeats 4000000
namespace SW
open PySem L2
section
variable {p : Nat → Bool}
theorem tw_lt : ∀ {L : List Nat} {j c : Nat}, j ≤ (L.takeWhile p).length → L[j]? = some c → p c = true → j < (L.takeWhile p).length
  | [], _, _, _, e, _ => by cases e
  | x :: L, 0, c, _, e, h => by
    cases e
    rw [List.takeWhile_cons, h]
    exact Nat.zero_lt_succ _
  | x :: L, j + 1, c, hj, e, h => by
    rw [List.takeWhile_cons] at hj ⊢
    cases hx : p x with
    | false => rw [hx] at hj; exact absurd hj (Nat.not_succ_le_zero j)
    | true =>
      rw [hx] at hj
      have hj' : j + 1 ≤ (L.takeWhile p).length + 1 := hj
      have := tw_lt (L := L) (j := j) (c := c) (by omega) e h
      show j + 1 < (L.takeWhile p).length + 1
      omega
theorem tw_get : ∀ {L : List Nat} {j : Nat}, j < (L.takeWhile p).length → ∃ c, L[j]? = some c ∧ p c = true
  | [], _, h => by cases h
  | x :: L, j, h => by
    rw [List.takeWhile_cons] at h
    cases hx : p x with
    | false => rw [hx] at h; cases h
    | true =>
      rw [hx] at h
      have h : j < (L.takeWhile p).length + 1 := h
      cases j with
      | zero => exact ⟨x, rfl, hx⟩
      | succ j => exact tw_get (L := L) (j := j) (by omega)
theorem tw_end {L : List Nat} {j : Nat} (hj : j ≤ (L.takeWhile p).length) (h : ∀ c, L[j]? = some c → p c = false) : j = (L.takeWhile p).length := by
  by_cases q : j < (L.takeWhile p).length
  · obtain ⟨c, e, z⟩ := tw_get q
    rw [h c e] at z; cases z
  · omega
theorem tw_take (L : List Nat) : L.take (L.takeWhile p).length = L.takeWhile p := (List.prefix_iff_eq_take.mp (List.takeWhile_prefix p)).symm
end
theorem get_drop {L : List Nat} {k j : Nat} : (L.drop k)[j]? = L[k + j]? := List.getElem?_drop
theorem head_at {L : List Nat} {k c : Nat} {r : List Nat} (h : L.drop k = c :: r) : L[k]? = some c := by
  have := get_drop (L := L) (k := k) (j := 0)
  rw [h] at this
  exact this.symm
theorem drop_next {L : List Nat} {k : Nat} {a r : List Nat} (h : L.drop k = a ++ r) : L.drop (k + a.length) = r := by
  rw [← List.drop_drop, h]
  simp
theorem drop_one {L : List Nat} {k c : Nat} {r : List Nat} (h : L.drop k = c :: r) : L.drop (k + 1) = r := drop_next (a := [c]) h
theorem drop_len {L : List Nat} {k : Nat} {a r : List Nat} (h : L.drop k = a ++ r) (hk : k ≤ L.length) : k + a.length ≤ L.length := by
  have := congrArg List.length h
  rw [List.length_drop, List.length_append] at this
  omega
theorem one_len {y : Str} {c : Nat} (h : cs y = [c]) : y.length = 1 := by rw [← cs_len, h]; rfl
end SW
namespace S10
open PySem L2 SW
variable {K : PySem.W.Frag} {C : Addr} {vs : List V} {H H₀ : Hp} {Q : VK} {E : XK}
theorem rd_sk (rc : RC K C) (h : spSkip C vs H Q E) : t_sk K C (fin Q) (start ["self", "sign"] vs) H := by
  obtain ⟨p, dx, sl, ml, x, y, k, c, rfl, hp, hy, h1, h2⟩ := h
  refine ⟨_, rfl, p, C, dx, _, _, rfl, hp, rc.cl, rc.nL, rf_line, rfl, _, rfl, _, rfl, p, C, dx, _, _, rfl, hp, rc.cl, rc.nA, rf_atl, x, y, _, rfl, rfl, _, rfl, ?_⟩
  rw [sw_one hy]
  by_cases hc : (cs x)[k]? = some c
  · rw [decide_eq_true hc]
    refine iteF ?_
    refine ⟨_, rfl, p, C, dx, _, _, rfl, hp, rc.cl, rc.nA, rf_atl, _, rfl, y, rfl, by rw [one_len hy, sizeLine_eq]; omega, _, _, rfl, rfl, dx, _, hp, rf_len, ?_⟩
    refine h1 hc _ ap_upd ?_
    rw [upd_same, rf_put (j := k + 1) (by rw [one_len hy]; omega)]
  · rw [decide_eq_false hc]
    exact iteT (h2 hc)
theorem rd_nd (h : spNeed C vs H Q E) : t_nd K C (fin Q) (start ["self", "sign"] vs) H := by
  obtain ⟨p, dx, sl, ml, x, y, k, c, rfl, hp, hy, hc, h1⟩ := h
  exact ⟨_, rfl, p, dx, _, rfl, hp, rf_no, _, rfl, p, dx, sl, ml, x, y, k, c, rfl, hp, hy, fun _ H' ap hp' => ⟨_, rfl, iteF (h1 H' ap hp')⟩, fun z => absurd hc z⟩
theorem rd_ro (rc : RC K C) (h : spRun C vs H Q E) : t_ro K C (fin Q) (start ["self", "signs", "begin"] vs) H := by
  obtain ⟨p, dx, sl, ml, x, y, k, a, rfl, hp, hk, hx, ha, h1⟩ := h
  have hxl : x.length ≤ sizeLine := by rw [← cs_len, sizeLine_eq]; omega
  refine ⟨_, rfl, p, C, dx, _, _, rfl, hp, rc.cl, rc.nA, rf_atl, ?_⟩
  refine ⟨fun m σ H' => ∃ j, σ = [some (.ref p), some (.str y), some (.int k)] ∧ H' p = some (.ins C dx (rf x (k + j) sl ml)) ∧ Ap p H H' ∧ j ≤ a.length ∧ m = a.length - j,
    ⟨_, 0, rfl, hp, ap_refl, Nat.zero_le _, rfl⟩, ?_⟩
  rintro m σ H' ⟨j, rfl, hp', ap, hj, rfl⟩
  have fin' : j = a.length → Q (.str (Txt.slice x (some (k : Int)) (some ((k + j : Nat) : Int)))) H' := by
    intro e
    have hl : k + j ≤ x.length := by
      have h3 := congrArg List.length ha
      have h4 := (List.takeWhile_prefix (fun c => decide (c ∈ cs y)) (l := (cs x).drop k)).length_le
      rw [List.length_drop] at h4
      rw [← cs_len]; omega
    refine h1 _ H' ?_ ap (by rw [← e]; exact hp')
    rw [slice_cs (by omega) hl, show k + j - k = j by omega, e, ← ha, tw_take]
  have stop : j = a.length → (tRet (tSl rSlS (tFld K (tVar 0) "line") (tPart (tVar 2)) (tPart (tFld K (tVar 0) "at")))) (fin Q) [some (.ref p), some (.str y), some (.int k)] H' := fun e =>
    ⟨_, rfl, p, C, dx, _, _, rfl, hp', rc.cl, rc.nL, rf_line, _, rfl, _, rfl, _, rfl, p, C, dx, _, _, rfl, hp', rc.cl, rc.nA, rf_atl, _, rfl, x, rfl, hxl, fin' e⟩
  rw [← ha] at hj
  refine ⟨_, rfl, p, C, dx, _, _, rfl, hp', rc.cl, rc.nA, rf_atl, _, rfl, p, C, dx, _, _, rfl, hp', rc.cl, rc.nL, rf_line, x, rfl, hxl, _, _, rfl, rfl, _, rfl, ?_⟩
  by_cases hlt : k + j < x.length
  · refine iteY (decide_eq_true (by omega)) ?_
    obtain ⟨c, hc⟩ : ∃ c, (cs x)[k + j]? = some c := ⟨(cs x)[k + j]'(by rw [cs_len]; exact hlt), List.getElem?_eq_getElem _⟩
    refine ⟨_, rfl, p, C, dx, _, _, rfl, hp', rc.cl, rc.nL, rf_line, _, rfl, p, C, dx, _, _, rfl, hp', rc.cl, rc.nA, rf_atl, x, _, c, rfl, rfl, hxl, atI_nat hc, _, rfl, ⟨#[c]⟩, y, rfl, rfl, _, rfl, ?_⟩
    rw [in_one (c := c) rfl]
    have hd : ((cs x).drop k)[j]? = some c := by rw [get_drop]; exact hc
    by_cases hm : c ∈ cs y
    · refine iteY (decide_eq_true hm) ?_
      have hj2 := tw_lt hj hd (decide_eq_true hm)
      rw [ha] at hj2
      refine ⟨fun σ' H' => ∃ m', m' < a.length - j ∧ ∃ j, σ' = [some (.ref p), some (.str y), some (.int k)] ∧ H' p = some (.ins C dx (rf x (k + j) sl ml)) ∧ Ap p H H' ∧ j ≤ a.length ∧ m' = a.length - j, fun _ _ h => h, ?_⟩
      refine ⟨_, rfl, p, C, dx, _, _, rfl, hp', rc.cl, rc.nA, rf_atl, _, _, rfl, rfl, dx, _, hp', rf_len, a.length - (j + 1), by omega, j + 1, rfl, ?_, ap_trans ap ap_upd, by omega, rfl⟩
      rw [upd_same, rf_put (j := k + (j + 1)) (by omega)]
    · refine iteN (decide_eq_false hm) ?_
      refine stop ?_
      rw [← ha]
      refine tw_end hj fun d hd' => ?_
      rw [hd] at hd'
      cases hd'
      exact decide_eq_false hm
  · refine iteN (decide_eq_false (by omega)) (iteF ?_)
    refine stop ?_
    rw [← ha]
    refine tw_end hj fun d hd' => ?_
    rw [get_drop, List.getElem?_eq_none (by rw [cs_len]; omega)] at hd'
    cases hd'
theorem rd_mk (rc : RC K C) (h : spMake C vs H Q E) : t_mk K C (fin Q) (start ["self", "head", "many", "inner"] vs) H := by
  obtain ⟨p, dx, sl, ml, q, x, k, n, hs, vs0, ks, rfl, hp, hq, hml, hn, n0, n3, hne, hs2, few, h1⟩ := h
  refine ⟨szl, fun il hil => ?_⟩
  have s1 := same_new (o := .lst []) hil
  have g1 : (upd H il (.lst [])) il = some (.lst []) := upd_same
  have nil : il ≠ ml := fun z => by subst z; rw [hml] at hil; cases hil
  generalize upd H il (.lst []) = H1 at s1 g1 ⊢
  refine ⟨fun m σ H' => ∃ j, j ≤ n ∧ m = n - j ∧ σ = [some (.ref p), some (.ref q), some (.int n), some (.ref il)] ∧ H' il = some (.lst (ks.drop (n - j)).reverse) ∧ H' ml = some (.lst (vs0 ++ ks.take (n - j))) ∧ ∀ b o, b ≠ ml → H b = some o → H' b = some o,
    ⟨_, 0, Nat.zero_le _, rfl, rfl, by rw [Nat.sub_zero, ← hn, List.drop_length]; exact g1, by rw [Nat.sub_zero, ← hn, List.take_length]; exact s1 _ _ hml, fun b o _ e => s1 b o e⟩, ?_⟩
  rintro m σ H2 ⟨j, hj, rfl, rfl, hil2, hml2, keep⟩
  have hp2 := keep _ _ (ne_of hp hml (by intro z; cases z)) hp
  refine ⟨_, rfl, il, _, rfl, .inl (SqL.of hil2), _, rfl, _, _, rfl, rfl, _, rfl, ?_⟩
  by_cases hlt : j < n
  · refine iteY (decide_eq_true (by rw [List.length_reverse, List.length_drop]; omega)) ?_
    refine ⟨fun σ' H' => ∃ m', m' < n - j ∧ ∃ j, j ≤ n ∧ m' = n - j ∧ σ' = [some (.ref p), some (.ref q), some (.int n), some (.ref il)] ∧ H' il = some (.lst (ks.drop (n - j)).reverse) ∧ H' ml = some (.lst (vs0 ++ ks.take (n - j))) ∧ ∀ b o, b ≠ ml → H b = some o → H' b = some o, fun _ _ h => h, ?_⟩
    obtain ⟨i, hi⟩ : ∃ i, n - j = i + 1 := ⟨n - j - 1, by omega⟩
    have hlast : ks.take (n - j) = ks.take i ++ [ks[i]'(by omega)] := by rw [hi, List.take_succ_eq_append_getElem (by omega)]
    have hdrop : ks.drop i = ks[i]'(by omega) :: ks.drop (n - j) := by rw [hi, List.drop_eq_getElem_cons (by omega)]
    rw [hlast, ← List.append_assoc] at hml2
    refine ⟨_, rfl, .inl ⟨rfl, _, SqL.of hil2⟩, _, rfl, p, C, dx, _, _, rfl, hp2, rc.cl, rc.nM, rf_made, .inl ⟨rfl, _, SqL.of hml2⟩, ml, _, _, rfl, rfl, hml2, pop_at, ?_⟩
    rw [drop_at]
    refine ⟨il, _, _, rfl, rfl, by rw [upd_ne nil]; exact hil2, by rw [List.length_reverse, List.length_drop, sizeLine_eq]; omega, n - (j + 1), by omega, j + 1, by omega, rfl, rfl, ?_, ?_, fun b o hb e => ?_⟩
    · rw [upd_same, show n - (j + 1) = i by omega, hdrop, List.reverse_cons]
    · rw [upd_ne nil.symm, upd_same, show n - (j + 1) = i by omega]
    · by_cases hbi : b = il
      · subst hbi; rw [hil] at e; cases e
      · rw [upd_ne hbi, upd_ne hb]; exact keep b o hb e
  · have ej : j = n := by omega
    subst ej
    refine iteN (decide_eq_false (by rw [List.length_reverse, List.length_drop]; omega)) ?_
    rw [Nat.sub_self, List.drop_zero] at hil2
    rw [Nat.sub_self, List.take_zero, List.append_nil] at hml2
    refine ⟨_, rfl, p, C, dx, _, _, rfl, hp2, rc.cl, rc.nM, rf_made, .inl ⟨rfl, _, SqL.of hml2⟩, _, rfl, _, rfl, il, _, rfl, SqL.of hil2, fun tp htp => ?_⟩
    rw [List.reverse_reverse]
    have s3 := same_new (o := .tup ks) htp
    have g3 : (upd H2 tp (.tup ks)) tp = some (.tup ks) := upd_same
    generalize upd H2 tp (.tup ks) = H3 at s3 g3 ⊢
    have hq2 := keep _ _ (ne_of hq hml (by intro z; cases z)) hq
    refine ⟨q, tp, _, _, rfl, rfl, SqT.of (s3 _ _ hq2), SqT.of g3, by rw [sizeLine_eq]; omega, fun he => absurd he hne, fun _ he => ?_, fun _ _ r hr => ?_⟩
    · rw [he] at hn; simp at hn; omega
    · have s4 := same_new (o := .tup (hs ++ ks)) hr
      have g4 : (upd H3 r (.tup (hs ++ ks))) r = some (.tup (hs ++ ks)) := upd_same
      generalize upd H3 r (.tup (hs ++ ks)) = H4 at s4 g4 ⊢
      have s34 := s3.trans s4
      refine ⟨ml, _, _, rfl, rfl, s34 _ _ hml2, by rw [sizeLine_eq]; omega, h1 r _ ?_ upd_same fun b o hb e => ?_⟩
      · rw [upd_ne (ne_of g4 (s34 _ _ hml2) (by intro z; cases z))]; exact g4
      · rw [upd_ne hb]; exact s34 _ _ (keep b o hb e)
end S10

set_option Elab.async false
set_option linter.all false
set_option maxRecDepth 100000
set_option maxHeartbeats 4000000
namespace SW
open PySem L2
/-- the list as it stands -/
inductive StF (H : Hp) : List Stp → List V → Prop where
  | nil : StF H [] []
  | cons {s : Stp} {u : V} {ss : List Stp} {us : List V} : StpAt H s u → StF H ss us → StF H (s :: ss) (u :: us)
theorem StF.mono {H H' : Hp} (m : TupLe H H') : ∀ {ss : List Stp} {us : List V}, StF H ss us → StF H' ss us
  | _, _, .nil => .nil
  | _, _, .cons a r => .cons (a.mono m) (StF.mono m r)
theorem StF.length {H : Hp} : ∀ {ss : List Stp} {us : List V}, StF H ss us → us.length = ss.length
  | _, _, .nil => rfl
  | _, _, .cons _ r => by rw [List.length_cons, List.length_cons, StF.length r]
theorem stl_app {H : Hp} : ∀ {ns : List Stp} {ws : List V} {ss : List Stp} {us : List V}, StL H ss us → StF H ns ws → StL H (ns.reverse ++ ss) (us ++ ws)
  | _, _, _, _, h, .nil => by simpa using h
  | _, _, ss, us, h, .cons (s := s) (u := u) (ss := ns) (us := ws) a r => by
    have := stl_app (StL.snoc h a) r
    rw [List.append_assoc, List.singleton_append] at this
    rw [List.reverse_cons, List.append_assoc, List.singleton_append]
    exact this
def Mk1 (ta : TE) (σ : St) (s : Stp) : Prop := ∀ (H : Hp) (Q : VK), (∀ u H', Same H H' → StpAt H' s u → Q u H') → ta σ H Q
def Mks (t : TA) (σ : St) (ns : List Stp) : Prop := ∀ (H : Hp) (Q : List V → Hp → Prop), (∀ ws H', Same H H' → StF H' ns ws → Q ws H') → t σ H Q
def MkD (ta : TE) (σ : St) (u : T) : Prop := ∀ (H : Hp) (Q : VK), (∀ v H', Same H H' → Den H' u v → Q v H') → ta σ H Q
theorem mks_nil {σ : St} : Mks tNil σ [] := fun H Q k => k [] H (fun _ _ h => h) .nil
theorem mks_cons {ta : TE} {t : TA} {σ : St} {s : Stp} {ns : List Stp} (a : Mk1 ta σ s) (r : Mks t σ ns) : Mks (tCons ta t) σ (s :: ns) := fun H Q k =>
  a H _ fun u H1 s1 h1 => r H1 _ fun ws H2 s2 h2 => k (u :: ws) H2 (s1.trans s2) (.cons (h1.mono (tl_same s2)) h2)
theorem mk_piece {σ : St} : Mk1 (tTup (tCons (tC (.str "piece")) tNil)) σ .piece := fun H Q k => ⟨szl, fun p hp => k (.ref p) _ (same_new hp) ⟨p, rfl, upd_same⟩⟩
theorem mk_between {σ : St} : Mk1 (tTup (tCons (tC (.str "between")) tNil)) σ .between := fun H Q k => ⟨szl, fun p hp => k (.ref p) _ (same_new hp) ⟨p, rfl, upd_same⟩⟩
theorem mk_sign {σ : St} {s : Str} : Mk1 (tTup (tCons (tC (.str "sign")) (tCons (tC (.str s)) tNil))) σ (.sign s) := fun H Q k => ⟨szl, fun p hp => k (.ref p) _ (same_new hp) ⟨p, rfl, upd_same⟩⟩
theorem mk_handed {σ : St} {w : Str} (h : σ[1]? = some (some (.str w))) : Mk1 (tTup (tCons (tC (.str "handed")) (tCons (tVar 1) (tCons (tC (.int 1)) tNil)))) σ (.handed w 1) := fun H Q k =>
  ⟨_, h, szl, fun p hp => k (.ref p) _ (same_new hp) ⟨p, rfl, upd_same⟩⟩
theorem mk_handed1 {σ : St} {w : Str} {n : Nat} (h : σ[1]? = some (some (.str w))) (h2 : σ[2]? = some (some (.int n))) : Mk1 (tTup (tCons (tC (.str "handed")) (tCons (tVar 1) (tCons (tOp rAddI (tVar 2) (tC (.int 1))) tNil)))) σ (.handed w (n + 1)) := fun H Q k =>
  ⟨_, h, _, h2, _, _, rfl, rfl, szl, fun p hp => k (.ref p) _ (same_new hp) ⟨p, rfl, upd_same⟩⟩
theorem mk_make {σ : St} {h : Hdk} {n : Nat} {t : TA} (ht : ∀ (H : Hp) (Q : List V → Hp → Prop), Q (hdV h) H → t σ H Q) : Mk1 (tTup (tCons (tC (.str "make")) (tCons (tTup t) (tCons (tC (.int n)) tNil)))) σ (.make h n) := fun H Q k =>
  ht H _ ⟨by cases h <;> exact szl, fun q hq => ⟨szl, fun p hp => by
    have s1 := same_new (o := .tup (hdV h)) hq
    have g1 : (upd H q (.tup (hdV h))) q = some (.tup (hdV h)) := upd_same
    generalize upd H q (.tup (hdV h)) = H1 at s1 g1 hp ⊢
    have s2 := same_new (o := .tup [.str "make", .ref q, .int n]) hp
    exact k (.ref p) _ (s1.trans s2) ⟨p, q, rfl, upd_same, s2 _ _ g1⟩⟩⟩
theorem wd_ne {w : Str} (h : Wd w) : w ≠ "" := fun e => by
  have := h.one
  rw [e, len_empty] at this
  omega
/-- letters stand ahead, then another sign -/
theorem run_word {w : Str} {r : List Nat} (h : Wd w) (hr : ∀ c, r.head? = some c → ¬ (97 ≤ c ∧ c ≤ 122)) : (cs w ++ r).takeWhile (fun c => decide (c ∈ cs "abcdefghijklmnopqrstuvwxyz")) = cs w :=
  takeWhile_at (fun c hc => decide_eq_true (mem_letters.mpr (h.abc c hc))) fun c hc => decide_eq_false fun z => hr c hc (mem_letters.mp z)
theorem run_none {r : List Nat} (hr : ∀ c, r.head? = some c → ¬ (97 ≤ c ∧ c ≤ 122)) : r.takeWhile (fun c => decide (c ∈ cs "abcdefghijklmnopqrstuvwxyz")) = [] :=
  takeWhile_at (a := []) (fun c hc => by cases hc) fun c hc => decide_eq_false fun z => hr c hc (mem_letters.mp z)
theorem run_digs {m : Nat} {r : List Nat} (hr : ∀ c, r.head? = some c → ¬ (48 ≤ c ∧ c ≤ 57)) : (digs m ++ r).takeWhile (fun c => decide (c ∈ cs "0123456789")) = digs m :=
  takeWhile_at (fun c hc => decide_eq_true (mem_figures.mpr (digs_all m c hc))) fun c hc => decide_eq_false fun z => hr c hc (mem_figures.mp z)
theorem bd_abc {r : List Nat} (h : Bd r) : ∀ c, r.head? = some c → ¬ (97 ≤ c ∧ c ≤ 122) := fun c e => by have := h c e; omega
theorem bd_fig {r : List Nat} (h : Bd r) : ∀ c, r.head? = some c → ¬ (48 ≤ c ∧ c ≤ 57) := fun c e => by have := h c e; omega
end SW
namespace S10
open PySem L2 SW
variable {K : PySem.W.Frag} {C : Addr} {vs : List V} {H H₀ : Hp} {Q : VK} {E : XK}
section
variable {D : Ends} {σ : St} {x : Str} {p sl ml dx : Addr} {k : Nat} {ss ns : List Stp} {ms : List T} {us ws : List V} {t : TA} {ta : TE} {u : T}
theorem rd_ext (rc : RC K C) (B : RB C H₀ H x p sl ml dx k ss ms us ws) (few : ss.length ≤ 6000000) (fn : ns.length ≤ 10) (h0 : σ[0]? = some (some (.ref p))) (M : Mks t σ ns)
    (hD : ∀ H' us', RB C H₀ H' x p sl ml dx k (ns.reverse ++ ss) ms us' ws → D.nx σ H') : (tDrop (tBM K "list" rExtend (tFld K (tVar 0) "steps") (tCons (tLst t) tNil))) D σ H := by
  refine ⟨_, h0, p, C, dx, _, _, rfl, B.ob, rc.cl, rc.nS, rf_steps, .inl ⟨rfl, _, SqL.of B.sl_⟩, ?_⟩
  refine M H _ fun zs H1 s1 f1 => ⟨by rw [f1.length, sizeLine_eq]; omega, fun l hl => ?_⟩
  have s2 := same_new (o := .lst zs) hl
  have g2 : (upd H1 l (.lst zs)) l = some (.lst zs) := upd_same
  generalize upd H1 l (.lst zs) = H2 at s2 g2 ⊢
  have B2 := B.grow (s1.trans s2)
  exact ⟨sl, l, us, zs, rfl, rfl, B2.sl_, g2, by rw [f1.length, B2.st.length, sizeLine_eq]; omega, hD _ _ (B2.setS (stl_app B2.st (f1.mono (tl_same s2))))⟩
theorem rd_app (rc : RC K C) (B : RB C H₀ H x p sl ml dx k ss ms us ws) (few : ms.length ≤ 6000000) (h0 : σ[0]? = some (some (.ref p))) (M : MkD ta σ u)
    (hD : ∀ H' ws', RB C H₀ H' x p sl ml dx k ss (u :: ms) us ws' → D.nx σ H') : (tDrop (tBM K "list" rAppend (tFld K (tVar 0) "made") (tCons ta tNil))) D σ H := by
  refine ⟨_, h0, p, C, dx, _, _, rfl, B.ob, rc.cl, rc.nM, rf_made, .inl ⟨rfl, _, SqL.of B.ml_⟩, ?_⟩
  refine M H _ fun v H1 s1 d1 => ?_
  have B1 := B.grow s1
  exact ⟨ml, _, _, rfl, rfl, B1.ml_, by rw [B1.md.length, sizeLine_eq]; omega, hD _ _ (B1.setM (.snoc B1.md d1))⟩
end
theorem rd_rl (rc : RC K C) (h : spLetR C vs H Q E) : t_rl K C (fin Q) (start ["self", "word"] vs) H := by
  obtain ⟨t, p, sl, ml, dx, H₀, x, k, m, w, a, b, r, ss, ms, us, ws, rfl, B, hw, ha, hb, hr, hx, go, few, hm, h1⟩ := h
  have hrun := run_word (r := 61 :: (ln a ++ (93 :: (ln b ++ r)))) hw (by intro c e; cases e; omega)
  rw [← hx] at hrun
  refine ⟨_, rfl, p, dx, _, rfl, B.ob, rf_no, p, dx, sl, ml, x, _, k, cs w, rfl, B.ob, B.kx, B.xl, hrun, fun z H1 hz ap1 hp1 => ?_⟩
  have ez : z = w := cs_inj hz
  subst ez
  have hk1 := drop_len hx B.kx
  have B1 := B.mv ap1 hp1 hk1
  have hx1 := drop_next hx
  refine ⟨_, rfl, rfl, _, rfl, iteN (decide_eq_false fun e => wd_ne hw (V.str.inj e)) ?_⟩
  refine ⟨_, rfl, p, dx, _, rfl, hp1, rf_no, p, dx, sl, ml, x, _, _, 61, rfl, hp1, s61, head_at hx1, fun H2 ap2 hp2 => ?_⟩
  have hk2 := drop_len (a := [61]) hx1 hk1
  have B2 := B1.mv ap2 hp2 hk2
  have hx2 := drop_one hx1
  have hwl : 1 ≤ (cs z).length := by rw [cs_len]; exact hw.one
  simp only [List.length_cons, List.length_nil] at hk2
  refine rd_ext rc B2 (ns := [.make (.lt z) 2, .piece, .sign "]", .piece]) (by omega) (by simp) rfl
    (mks_cons (mk_make (h := .lt z) fun H Q q => ⟨_, rfl, q⟩) (mks_cons mk_piece (mks_cons mk_sign (mks_cons mk_piece mks_nil)))) fun H3 us3 B3 => ?_
  refine h1 H3 ⟨_, _, _, _, _, B3, ?_, ?_, Nat.le_succ _⟩
  · rw [hx2]
    exact .piece a ha (bd_cons (by omega)) (.sign s93 (.piece b hb hr (.mklt go)))
  · simp only [List.reverse_cons, List.reverse_nil, List.nil_append, List.cons_append, List.length_cons, List.length_append, List.length_nil]
    omega
theorem rd_rn (rc : RC K C) (h : spNumR C vs H Q E) : t_rn K C (fin Q) (start ["self", "below", "figures", "number"] vs) H := by
  obtain ⟨t, p, sl, ml, dx, H₀, x, k, m, n, r, ss, ms, us, ws, rfl, B, hn, hr, hx, go, few, hm, h1⟩ := h
  -- behind the sign
  have rest : ∀ (b : Bool) (d : Nat) (k1 : Nat) (H1 : Hp), RB C H₀ H1 x p sl ml dx k1 ss ms us ws → (cs x).drop k1 = digs d ++ r → k ≤ k1 → (b = true → 0 < d) → n = (if b = true then -(d : Int) else (d : Int)) → d < 10 ^ 60 →
      (tSeq (tAsg (tMeth C "run_of" (spRun C) [] E0 (tVar 0) (tCons (tC (.str "0123456789")) tNil)) (gName 2)) (tSeq (t_rn_2 K C) (tSeq (t_rn_4 K C) (tSeq (tAsg (tCB cIntS (tCons (tVar 2) tNil)) (gName 3)) (tDrop (tBM K "list" rAppend (tFld K (tVar 0) "made") (tCons (tTup (tCons (tC (.str "number")) (tCons (tIf (tB (tVar 1)) (tUn rNegI (tVar 3)) (tVar 3)) tNil))) tNil))))))) (fin Q) [some (.ref p), some (.bl b), none, none] H1 := by
    intro b d k1 H1 B1 hx1 hk hb en hd
    have hrun := run_digs (m := d) (bd_fig hr)
    rw [← hx1] at hrun
    refine ⟨_, rfl, p, dx, _, rfl, B1.ob, rf_no, p, dx, sl, ml, x, _, k1, digs d, rfl, B1.ob, B1.kx, B1.xl, hrun, fun z H2 hz ap2 hp2 => ?_⟩
    have hk2 := drop_len hx1 B1.kx
    have B2 := B1.mv ap2 hp2 hk2
    have hx2 := drop_next hx1
    have dl : (digs d).length ≤ 60 := digs_len (k := 59) hd
    have dn := digs_ne d
    have d1 : 1 ≤ (digs d).length := by cases q : digs d with | nil => exact absurd q dn | cons _ _ => simp
    have zl : z.length ≤ 640 := by rw [← cs_len, hz]; omega
    have zn : z ≠ "" := fun e => dn (by rw [← hz, e, cs_empty])
    refine ⟨_, rfl, rfl, _, rfl, iteN (decide_eq_false fun e => zn (V.str.inj e)) ?_⟩
    -- the first figure
    have tail : (tSeq (tAsg (tCB cIntS (tCons (tVar 2) tNil)) (gName 3)) (tDrop (tBM K "list" rAppend (tFld K (tVar 0) "made") (tCons (tTup (tCons (tC (.str "number")) (tCons (tIf (tB (tVar 1)) (tUn rNegI (tVar 3)) (tVar 3)) tNil))) tNil)))) (fin Q) [some (.ref p), some (.bl b), some (.str z), none] H2 := by
      refine ⟨_, rfl, z, _, rfl, int_digs hz zl, zl, ?_⟩
      refine rd_app rc B2 (u := .num n) (by omega) rfl ?_ fun H3 ws3 B3 => h1 H3 ⟨_, _, _, _, _, B3, by rw [hx2]; exact go, by omega, Nat.le_refl _⟩
      intro H3 Q3 k3
      cases b with
      | true =>
        refine ⟨_, rfl, _, rfl, iteT ⟨_, rfl, _, rfl, szl, fun q hq => ?_⟩⟩
        refine k3 _ _ (same_new hq) ⟨q, rfl, ?_⟩
        rw [upd_same, en]; rfl
      | false =>
        refine ⟨_, rfl, _, rfl, iteF ⟨_, rfl, szl, fun q hq => ?_⟩⟩
        refine k3 _ _ (same_new hq) ⟨q, rfl, ?_⟩
        rw [upd_same, en]; rfl
    by_cases d0 : d = 0
    · subst d0
      have ed : cs z = [48] := by rw [hz, digs_zero]
      have ez : z = "0" := cs_inj (by rw [ed]; decide +kernel)
      have bf : b = false := by cases b with | false => rfl | true => exact absurd (hb rfl) (by decide)
      subst bf
      refine ⟨_, rfl, z, 0, 48, rfl, rfl, by rw [sizeLine_eq]; omega, atI_nat (j := 0) (by show (cs z)[0]? = some 48; rw [ed]; rfl), rfl, _, rfl, ?_⟩
      refine iteY (by decide +kernel) ?_
      refine ⟨_, rfl, _, rfl, iteF ?_⟩
      refine ⟨_, rfl, rfl, _, rfl, iteN ?_ tail⟩
      subst ez
      decide +kernel
    · obtain ⟨c, rr, ec, hc⟩ := digs_head d (by omega)
      refine ⟨_, rfl, z, 0, c, rfl, rfl, by rw [sizeLine_eq]; omega, atI_nat (j := 0) (by show (cs z)[0]? = some c; rw [hz, ec]; rfl), rfl, _, rfl, ?_⟩
      refine iteN (decide_eq_false fun e => hc ?_) (iteF tail)
      have e2 : (⟨#[c]⟩ : Str) = "0" := V.str.inj e
      have e3 : cs (⟨#[c]⟩ : Str) = cs "0" := by rw [e2]
      have e4 : cs "0" = [48] := by decide +kernel
      rw [e4] at e3
      exact (List.cons.inj e3).1
  cases n with
  | ofNat d =>
    have e : ln (.num (Int.ofNat d)) = digs d := num_pos d
    rw [e] at hx
    have nh : (cs x)[k]? ≠ some 45 := by
      cases q : digs d with
      | nil => exact absurd q (digs_ne d)
      | cons c rr =>
        rw [q] at hx
        rw [head_at hx]
        intro z
        have := digs_all d c (by rw [q]; exact List.mem_cons_self)
        have z : c = 45 := Option.some.inj z
        omega
    refine ⟨_, rfl, p, dx, _, rfl, B.ob, rf_no, p, dx, sl, ml, x, _, k, 45, rfl, B.ob, s45, fun z => absurd z nh, fun _ => ?_⟩
    refine rest false d k H B hx (Nat.le_refl _) (fun z => by cases z) rfl ?_
    have h2 := hn.2
    have : ((10 : Int) ^ 60) = ((10 ^ 60 : Nat) : Int) := by norm_cast
    rw [this] at h2
    exact Int.ofNat_lt.mp h2
  | negSucc d =>
    have e : ln (.num (Int.negSucc d)) = 45 :: digs (d + 1) := num_neg d
    rw [e, List.cons_append] at hx
    refine ⟨_, rfl, p, dx, _, rfl, B.ob, rf_no, p, dx, sl, ml, x, _, k, 45, rfl, B.ob, s45, fun _ H1 ap hp1 => ?_, fun z => absurd (head_at hx) z⟩
    have hk1 := drop_len (a := [45]) hx B.kx
    refine rest true (d + 1) (k + 1) H1 (B.mv ap hp1 hk1) (drop_one hx) (Nat.le_succ _) (fun _ => Nat.succ_pos _) rfl ?_
    have h2 := hn.1
    have : ((10 : Int) ^ 60) = ((10 ^ 60 : Nat) : Int) := by norm_cast
    rw [this] at h2
    generalize (10 ^ 60 : Nat) = y at *
    omega
theorem rd_rb (rc : RC K C) (h : spWordB C vs H Q E) : t_rb K C (fin Q) (start ["self", "word"] vs) H := by
  obtain ⟨t, p, sl, ml, dx, H₀, x, k, m, w, u, r, ss, ms, us, ws, rfl, B, hw, hu, hr, hx, go, few, hm, h1⟩ := h
  -- no bracket
  have plain : IsW w (.name w) → (cs x)[k]? ≠ some 123 → Go t ss (.name w :: ms) ((cs x).drop k) → t_rb K C (fin Q) [some (.ref p), some (.str w)] H := by
    intro _ nb g
    refine ⟨_, rfl, p, dx, _, rfl, B.ob, rf_no, p, dx, sl, ml, x, _, k, 123, rfl, B.ob, s123, fun z => absurd z nb, fun _ => ⟨_, rfl, iteT ?_⟩⟩
    refine rd_app rc B (u := .name w) (by omega) rfl ?_ fun H3 ws3 B3 => h1 H3 ⟨_, _, _, _, _, B3, g, hm, Nat.le_refl _⟩
    intro H3 Q3 k3
    exact ⟨_, rfl, szl, fun q hq => k3 _ _ (same_new hq) ⟨q, rfl, upd_same⟩⟩
  have hand : ∀ (a : T) (r2 : List Nat), LT a → (cs x).drop k = 123 :: (ln a ++ r2) → Bd r2 → Go t (.handed w 1 :: ss) (a :: ms) r2 → t_rb K C (fin Q) [some (.ref p), some (.str w)] H := by
    intro a r2 la hx' b2 g
    have hk1 := drop_len (a := [123]) hx' B.kx
    refine ⟨_, rfl, p, dx, _, rfl, B.ob, rf_no, p, dx, sl, ml, x, _, k, 123, rfl, B.ob, s123, fun _ H1 ap hp1 => ⟨_, rfl, iteF ?_⟩, fun z => absurd (head_at hx') z⟩
    have B1 := B.mv ap hp1 hk1
    have hx1 := drop_one hx'
    simp only [List.length_cons, List.length_nil] at hk1
    obtain ⟨c, rr, ec, hc⟩ := ln_head la
    refine ⟨_, rfl, p, dx, _, rfl, hp1, rf_no, p, dx, sl, ml, x, _, k + 1, 125, rfl, hp1, s125, fun z => ?_, fun _ => ⟨_, rfl, iteF ?_⟩⟩
    · rw [ec, List.cons_append] at hx1
      rw [head_at hx1] at z
      have : c = 125 := Option.some.inj z
      omega
    · refine rd_ext rc B1 (ns := [.handed w 1, .piece]) (by omega) (by simp) rfl (mks_cons (mk_handed rfl) (mks_cons mk_piece mks_nil)) fun H3 us3 B3 => ?_
      refine h1 H3 ⟨_, _, _, _, _, B3, ?_, ?_, Nat.le_succ _⟩
      · rw [hx1]; exact .piece a la b2 g
      · simp only [List.reverse_cons, List.reverse_nil, List.nil_append, List.cons_append, List.length_cons, List.length_append, List.length_nil]
        omega
  cases u with
  | name v =>
    cases (show v = w from hw)
    have hx : (cs x).drop k = r := hx
    refine plain rfl ?_ (by rw [hx]; exact go)
    intro z
    cases r with
    | nil =>
      have := get_drop (L := cs x) (k := k) (j := 0)
      rw [hx] at this
      rw [Nat.add_zero, z] at this
      cases this
    | cons c rr =>
      rw [head_at hx] at z
      have := hr c rfl
      have : c = 123 := Option.some.inj z
      omega
  | st0 v =>
    cases (show v = w from hw)
    have hx : (cs x).drop k = 123 :: 125 :: r := hx
    have hk1 := drop_len (a := [123]) hx B.kx
    refine ⟨_, rfl, p, dx, _, rfl, B.ob, rf_no, p, dx, sl, ml, x, _, k, 123, rfl, B.ob, s123, fun _ H1 ap hp1 => ⟨_, rfl, iteF ?_⟩, fun z => absurd (head_at hx) z⟩
    have B1 := B.mv ap hp1 hk1
    have hx1 := drop_one hx
    have hk2 := drop_len (a := [125]) hx1 hk1
    refine ⟨_, rfl, p, dx, _, rfl, hp1, rf_no, p, dx, sl, ml, x, _, k + 1, 125, rfl, hp1, s125, fun _ H2 ap2 hp2 => ⟨_, rfl, iteT ?_⟩, fun z => absurd (head_at hx1) z⟩
    have B2 := B1.mv ap2 hp2 hk2
    simp only [List.length_cons, List.length_nil] at hk2
    refine rd_app rc B2 (u := .st0 w) (by omega) rfl ?_ fun H3 ws3 B3 => h1 H3 ⟨_, _, _, _, _, B3, by rw [drop_one hx1]; exact go, by omega, Nat.le_refl _⟩
    intro H3 Q3 k3
    exact ⟨_, rfl, szl, fun q hq => k3 _ _ (same_new hq) ⟨q, rfl, upd_same⟩⟩
  | st1 v a =>
    cases (show v = w from hw)
    refine hand a (125 :: r) hu.2 (by rw [hx]; simp [wtl]) (bd_cons (by omega)) (.fin1 go)
  | st2 v a b =>
    cases (show v = w from hw)
    refine hand a (44 :: (ln b ++ (125 :: r))) hu.2.1 (by rw [hx]; simp [wtl]) (bd_cons (by omega)) (.more (.piece b hu.2.2 (bd_cons (by omega)) (.fin2 go)))
  | _ => exact False.elim hw
end S10

set_option Elab.async false
set_option linter.all false
set_option maxRecDepth 100000
set_option maxHeartbeats 4000000
namespace S10
open PySem L2 SW
variable {K : PySem.W.Frag} {C : Addr} {vs : List V} {H H₀ : Hp} {Q : VK} {E : XK}
theorem rd_rp (rc : RC K C) (h : spPiece C vs H Q E) : t_rp K C (fin Q) (start ["self", "word"] vs) H := by
  obtain ⟨t, p, sl, ml, dx, H₀, x, k, ss, ms, us, ws, rfl, B, go, few, h1⟩ := h
  generalize hr0 : (cs x).drop k = r0 at go
  cases go with
  | @piece _ _ r u lu hr go =>
  -- the piece begins with a word
  have word : ∀ (w : Str), Wd w → IsW w u → ln u = cs w ++ wtl u → (∀ c, (wtl u ++ r).head? = some c → ¬ (97 ≤ c ∧ c ≤ 122)) → t_rp K C (fin Q) (start ["self", "word"] [.ref p]) H := by
    intro w hw iw el hb
    have hx : (cs x).drop k = cs w ++ (wtl u ++ r) := by rw [hr0, el, List.append_assoc]
    have hrun := run_word (r := wtl u ++ r) hw hb
    rw [← hx] at hrun
    refine ⟨_, rfl, p, dx, _, rfl, B.ob, rf_no, p, dx, sl, ml, x, _, k, cs w, rfl, B.ob, B.kx, B.xl, hrun, fun z H1 hz ap1 hp1 => ?_⟩
    have ez : z = w := cs_inj hz
    subst ez
    have hk1 := drop_len hx B.kx
    have B1 := B.mv ap1 hp1 hk1
    have hwl : 1 ≤ (cs z).length := by rw [cs_len]; exact hw.one
    refine ⟨_, rfl, rfl, _, rfl, iteY (by rw [decide_eq_false (fun e => wd_ne hw (V.str.inj e))]; rfl) ?_⟩
    exact ⟨_, rfl, p, dx, _, rfl, hp1, rf_no, _, rfl, t, p, sl, ml, dx, H₀, x, _, ss.length + 1 + 5 * ((cs x).length - k), z, u, r, ss, ms, us, ws, rfl, B1, iw, lu, hr, drop_next hx, go, by omega, by omega, h1⟩
  -- it does not
  have other : (∀ c, (ln u ++ r).head? = some c → ¬ (97 ≤ c ∧ c ≤ 122)) → (∀ H1, RB C H₀ H1 x p sl ml dx k ss ms us ws → t_rp_6 K C (fin Q) [some (.ref p), some (.str "")] H1) → t_rp K C (fin Q) (start ["self", "word"] [.ref p]) H := by
    intro hb rest
    have hrun := run_none hb
    rw [← hr0] at hrun
    refine ⟨_, rfl, p, dx, _, rfl, B.ob, rf_no, p, dx, sl, ml, x, _, k, [], rfl, B.ob, B.kx, B.xl, hrun, fun z H1 hz ap1 hp1 => ?_⟩
    have ez : z = "" := cs_inj (by rw [hz, cs_empty])
    subst ez
    exact ⟨_, rfl, rfl, _, rfl, iteN (by decide +kernel) (rest H1 (B.mv ap1 hp1 B.kx))⟩
  -- a round bracket
  have round : ∀ (a : T) (r2 : List Nat), ln u ++ r = 40 :: (ln a ++ r2) → LT a → Bd r2 → Go t (.between :: ss) (a :: ms) r2 → t_rp K C (fin Q) (start ["self", "word"] [.ref p]) H := by
    intro a r2 el la b2 g
    refine other (by rw [el]; intro c e; cases e; omega) fun H1 B1 => ?_
    have hx : (cs x).drop k = 40 :: (ln a ++ r2) := by rw [hr0, el]
    refine ⟨_, rfl, p, dx, _, rfl, B1.ob, rf_no, p, dx, sl, ml, x, _, k, 40, rfl, B1.ob, s40, fun _ H2 ap2 hp2 => ⟨_, rfl, iteT ?_⟩, fun z => absurd (head_at hx) z⟩
    have hk2 := drop_len (a := [40]) hx B1.kx
    have B2 := B1.mv ap2 hp2 hk2
    simp only [List.length_cons, List.length_nil] at hk2
    refine rd_ext rc B2 (ns := [.between, .piece]) (by omega) (by simp) rfl (mks_cons mk_between (mks_cons mk_piece mks_nil)) fun H3 us3 B3 => ?_
    refine h1 H3 ⟨_, _, _, _, _, B3, ?_, ?_, Nat.le_succ _⟩
    · rw [drop_one hx]; exact .piece a la b2 g
    · simp only [List.reverse_cons, List.reverse_nil, List.nil_append, List.cons_append, List.length_cons, List.length_append, List.length_nil]
      omega
  have nb : ∀ c, (([123] : List Nat)).head? = some c → ¬ (97 ≤ c ∧ c ≤ 122) := by intro c e; cases e; omega
  cases u with
  | name w => exact word w lu rfl (by simp [ln, wtl]) (bd_abc hr)
  | st0 w => exact word w lu rfl (by simp [ln, wtl, s123, s125]) (by intro c e; cases e; omega)
  | st1 w a => exact word w lu.1 rfl (by simp [ln, wtl, s123, s125]) (by intro c e; cases e; omega)
  | st2 w a b => exact word w lu.1 rfl (by simp [ln, wtl, s123, s125, s44]) (by intro c e; cases e; omega)
  | sum a b => exact round a (43 :: (ln b ++ (41 :: r))) (by simp [ln, s40, s43, s41]) lu.1 (bd_cons (by omega)) (.plus (.piece b lu.2 (bd_cons (by omega)) (.sign s41 (.mksum go))))
  | less a b => exact round a (45 :: (ln b ++ (41 :: r))) (by simp [ln, s40, s45, s41]) lu.1 (bd_cons (by omega)) (.minus (.piece b lu.2 (bd_cons (by omega)) (.sign s41 (.mkless go))))
  | cho a b c => exact round a (63 :: (ln b ++ (58 :: (ln c ++ (41 :: r))))) (by simp [ln, s40, s63, s58, s41]) lu.1 (bd_cons (by omega)) (.quest (.piece b lu.2.1 (bd_cons (by omega)) (.sign s58 (.piece c lu.2.2 (bd_cons (by omega)) (.sign s41 (.mkcho go))))))
  | lt w a b =>
    have el : ln (.lt w a b) ++ r = 91 :: (cs w ++ (61 :: (ln a ++ (93 :: (ln b ++ r))))) := by simp [ln, s91, s61, s93]
    refine other (by rw [el]; intro c e; cases e; omega) fun H1 B1 => ?_
    have hx : (cs x).drop k = 91 :: (cs w ++ (61 :: (ln a ++ (93 :: (ln b ++ r))))) := by rw [hr0, el]
    refine ⟨_, rfl, p, dx, _, rfl, B1.ob, rf_no, p, dx, sl, ml, x, _, k, 40, rfl, B1.ob, s40, fun z => ?_, fun _ => ⟨_, rfl, iteF ?_⟩⟩
    · rw [head_at hx] at z; cases z
    · refine ⟨_, rfl, p, dx, _, rfl, B1.ob, rf_no, p, dx, sl, ml, x, _, k, 91, rfl, B1.ob, s91, fun _ H2 ap2 hp2 => ⟨_, rfl, iteT ?_⟩, fun z => absurd (head_at hx) z⟩
      have hk2 := drop_len (a := [91]) hx B1.kx
      have B2 := B1.mv ap2 hp2 hk2
      simp only [List.length_cons, List.length_nil] at hk2
      exact ⟨_, rfl, p, dx, _, rfl, hp2, rf_no, t, p, sl, ml, dx, H₀, x, k + 1, ss.length + 1 + 5 * ((cs x).length - k), w, a, b, r, ss, ms, us, ws, rfl, B2, lu.1, lu.2.1, lu.2.2, hr, drop_one hx, go, by omega, by omega, h1⟩
  | num n =>
    obtain ⟨c, rr, ec, hc⟩ := ln_head (u := .num n) lu
    have hcn : (48 ≤ c ∧ c ≤ 57) ∨ c = 45 := by
      cases n with
      | ofNat d =>
        have e : ln (.num (Int.ofNat d)) = digs d := num_pos d
        rw [e] at ec
        exact .inl (digs_all d c (by rw [ec]; exact List.mem_cons_self))
      | negSucc d =>
        have e : ln (.num (Int.negSucc d)) = 45 :: digs (d + 1) := num_neg d
        rw [e] at ec
        exact .inr (List.cons.inj ec).1.symm
    have hx : (cs x).drop k = c :: (rr ++ r) := by rw [hr0, ec]; rfl
    refine other (by rw [ec]; intro c' e; cases e; omega) fun H1 B1 => ?_
    refine ⟨_, rfl, p, dx, _, rfl, B1.ob, rf_no, p, dx, sl, ml, x, _, k, 40, rfl, B1.ob, s40, fun z => ?_, fun _ => ⟨_, rfl, iteF ?_⟩⟩
    · rw [head_at hx] at z
      have : c = 40 := Option.some.inj z
      omega
    · refine ⟨_, rfl, p, dx, _, rfl, B1.ob, rf_no, p, dx, sl, ml, x, _, k, 91, rfl, B1.ob, s91, fun z => ?_, fun _ => ⟨_, rfl, iteF ?_⟩⟩
      · rw [head_at hx] at z
        have : c = 91 := Option.some.inj z
        omega
      · exact ⟨_, rfl, p, dx, _, rfl, B1.ob, rf_no, t, p, sl, ml, dx, H₀, x, k, ss.length + 1 + 5 * ((cs x).length - k), n, r, ss, ms, us, ws, rfl, B1, lu, hr, hr0, go, by omega, by omega, h1⟩
end S10

set_option Elab.async false
set_option linter.all false
set_option maxRecDepth 100000
set_option maxHeartbeats 4000000
namespace S10
open PySem L2 SW
variable {K : PySem.W.Frag} {C : Addr} {vs : List V} {H H₀ : Hp} {Q : VK} {E : XK}
theorem rd_rw (rc : RC K C) (h : spBetw C vs H Q E) : t_rw K C (fin Q) (start ["self"] vs) H := by
  obtain ⟨t, p, sl, ml, dx, H₀, x, k, ss, ms, us, ws, rfl, B, go, few, h1⟩ := h
  generalize hr0 : (cs x).drop k = r0 at go
  cases go with
  | @plus _ _ r g =>
    have hk2 := drop_len (a := [43]) hr0 B.kx
    refine ⟨_, rfl, p, dx, _, rfl, B.ob, rf_no, p, dx, sl, ml, x, _, k, 43, rfl, B.ob, s43, fun _ H2 ap2 hp2 => ⟨_, rfl, iteT ?_⟩, fun z => absurd (head_at hr0) z⟩
    have B2 := B.mv ap2 hp2 hk2
    simp only [List.length_cons, List.length_nil] at hk2
    refine rd_ext rc B2 (ns := [.make .sum 2, .sign ")", .piece]) (by omega) (by simp) rfl (mks_cons (mk_make (h := .sum) fun H Q q => q) (mks_cons mk_sign (mks_cons mk_piece mks_nil))) fun H3 us3 B3 => ?_
    refine h1 H3 ⟨_, _, _, _, _, B3, by rw [drop_one hr0]; exact g, ?_, Nat.le_succ _⟩
    simp only [List.reverse_cons, List.reverse_nil, List.nil_append, List.cons_append, List.length_cons, List.length_append, List.length_nil]
    omega
  | @minus _ _ r g =>
    have hk2 := drop_len (a := [45]) hr0 B.kx
    refine ⟨_, rfl, p, dx, _, rfl, B.ob, rf_no, p, dx, sl, ml, x, _, k, 43, rfl, B.ob, s43, fun z => (by rw [head_at hr0] at z; cases z), fun _ => ⟨_, rfl, iteF ?_⟩⟩
    refine ⟨_, rfl, p, dx, _, rfl, B.ob, rf_no, p, dx, sl, ml, x, _, k, 45, rfl, B.ob, s45, fun _ H2 ap2 hp2 => ⟨_, rfl, iteT ?_⟩, fun z => absurd (head_at hr0) z⟩
    have B2 := B.mv ap2 hp2 hk2
    simp only [List.length_cons, List.length_nil] at hk2
    refine rd_ext rc B2 (ns := [.make .less 2, .sign ")", .piece]) (by omega) (by simp) rfl (mks_cons (mk_make (h := .less) fun H Q q => q) (mks_cons mk_sign (mks_cons mk_piece mks_nil))) fun H3 us3 B3 => ?_
    refine h1 H3 ⟨_, _, _, _, _, B3, by rw [drop_one hr0]; exact g, ?_, Nat.le_succ _⟩
    simp only [List.reverse_cons, List.reverse_nil, List.nil_append, List.cons_append, List.length_cons, List.length_append, List.length_nil]
    omega
  | @quest _ _ r g =>
    have hk2 := drop_len (a := [63]) hr0 B.kx
    refine ⟨_, rfl, p, dx, _, rfl, B.ob, rf_no, p, dx, sl, ml, x, _, k, 43, rfl, B.ob, s43, fun z => (by rw [head_at hr0] at z; cases z), fun _ => ⟨_, rfl, iteF ?_⟩⟩
    refine ⟨_, rfl, p, dx, _, rfl, B.ob, rf_no, p, dx, sl, ml, x, _, k, 45, rfl, B.ob, s45, fun z => (by rw [head_at hr0] at z; cases z), fun _ => ⟨_, rfl, iteF ?_⟩⟩
    refine ⟨_, rfl, p, dx, _, rfl, B.ob, rf_no, p, dx, sl, ml, x, _, k, 63, rfl, B.ob, s63, head_at hr0, fun H2 ap2 hp2 => ?_⟩
    have B2 := B.mv ap2 hp2 hk2
    simp only [List.length_cons, List.length_nil] at hk2
    refine rd_ext rc B2 (ns := [.make .cho 3, .sign ")", .piece, .sign ":", .piece]) (by omega) (by simp) rfl (mks_cons (mk_make (h := .cho) fun H Q q => q) (mks_cons mk_sign (mks_cons mk_piece (mks_cons mk_sign (mks_cons mk_piece mks_nil))))) fun H3 us3 B3 => ?_
    refine h1 H3 ⟨_, _, _, _, _, B3, by rw [drop_one hr0]; exact g, ?_, Nat.le_succ _⟩
    simp only [List.reverse_cons, List.reverse_nil, List.nil_append, List.cons_append, List.length_cons, List.length_append, List.length_nil]
    omega
/-- a stamp is made of what lies last -/
theorem rd_stamp {p sl ml dx : Addr} {x : Str} {k n : Nat} {w : Str} {ss : List Stp} {ms : List T} {us vs0 ks ws : List V} {D : Ends} (B : RB C H₀ H x p sl ml dx k ss ms us ws) (ew : ws = vs0 ++ ks) (hn : ks.length = n) (n0 : 0 < n) (n3 : n ≤ 3) (few : ws.length ≤ 6000000)
    (hD : ∀ (q : Addr) H', H' q = some (.tup ([.str "stamp", .str w] ++ ks)) → H' ml = some (.lst (vs0 ++ [.ref q])) → (∀ b o, b ≠ ml → H b = some o → H' b = some o) → D.nx [some (.ref p), some (.str w), some (.int n)] H') :
    (tDrop (tMeth C "make" (spMake C) [] E0 (tVar 0) (tCons (tTup (tCons (tC (.str "stamp")) (tCons (tVar 1) tNil))) (tCons (tVar 2) tNil)))) D [some (.ref p), some (.str w), some (.int n)] H := by
  refine ⟨_, rfl, p, dx, _, rfl, B.ob, rf_no, _, rfl, szl, fun q hq => ?_⟩
  have s1 := same_new (o := .tup [.str "stamp", .str w]) hq
  have g1 : (upd H q (.tup [.str "stamp", .str w])) q = some (.tup [.str "stamp", .str w]) := upd_same
  generalize upd H q (.tup [.str "stamp", .str w]) = H1 at s1 g1 ⊢
  have B1 := B.grow s1
  have hm := B1.ml_
  rw [ew] at hm few
  rw [List.length_append] at few
  exact ⟨_, rfl, p, dx, sl, ml, q, x, k, n, _, vs0, ks, rfl, B1.ob, g1, hm, hn, n0, n3, by simp, by simp, by omega, fun r H' h1 h2 h3 => hD r H' h1 h2 fun b o hb e => h3 b o hb (s1 b o e)⟩
theorem rd_rh (rc : RC K C) (h : spHand C vs H Q E) : t_rh K C (fin Q) (start ["self", "word", "many"] vs) H := by
  obtain ⟨t, p, sl, ml, dx, H₀, x, k, n, w, ss, ms, us, ws, rfl, B, go, few, h1⟩ := h
  generalize hr0 : (cs x).drop k = r0 at go
  have hml := B.md.length
  cases go with
  | @more _ _ r _ _ g =>
    have hk2 := drop_len (a := [44]) hr0 B.kx
    refine ⟨_, rfl, p, dx, _, rfl, B.ob, rf_no, p, dx, sl, ml, x, _, k, 44, rfl, B.ob, s44, fun _ H2 ap2 hp2 => ⟨_, rfl, iteT ?_⟩, fun z => absurd (head_at hr0) z⟩
    have B2 := B.mv ap2 hp2 hk2
    simp only [List.length_cons, List.length_nil] at hk2
    refine rd_ext rc B2 (ns := [.handed w (n + 1), .piece]) (by omega) (by simp) rfl (mks_cons (mk_handed1 rfl rfl) (mks_cons mk_piece mks_nil)) fun H3 us3 B3 => ?_
    refine h1 H3 ⟨_, _, _, _, _, B3, by rw [drop_one hr0]; exact g, ?_, Nat.le_succ _⟩
    simp only [List.reverse_cons, List.reverse_nil, List.nil_append, List.cons_append, List.length_cons, List.length_append, List.length_nil]
    omega
  | @fin1 _ ms _ _ a g =>
    have hk2 := drop_len (a := [125]) hr0 B.kx
    refine ⟨_, rfl, p, dx, _, rfl, B.ob, rf_no, p, dx, sl, ml, x, _, k, 44, rfl, B.ob, s44, fun z => (by rw [head_at hr0] at z; cases z), fun _ => ⟨_, rfl, iteF ?_⟩⟩
    refine ⟨_, rfl, p, dx, _, rfl, B.ob, rf_no, p, dx, sl, ml, x, _, k, 125, rfl, B.ob, s125, head_at hr0, fun H2 ap2 hp2 => ?_⟩
    have B2 := B.mv ap2 hp2 hk2
    simp only [List.length_cons, List.length_nil] at hk2 few
    have md := B2.md
    cases md with
    | @snoc _ ua _ us1 md1 da =>
    refine rd_stamp B2 (vs0 := us1) (ks := [ua]) rfl rfl (by decide) (by decide) (by rw [hml]; simp only [List.length_cons]; omega) fun q H3 g1 g2 g3 => ?_
    have tl := tl_but B2.ml_ g3
    refine h1 H3 ⟨_, _, _, _, _, B2.butM g3 g2 (.snoc (t := .st1 w a) (md1.mono tl) ⟨q, ua, rfl, g1, da.mono tl⟩), by rw [drop_one hr0]; exact g, by omega, by simp⟩
  | @fin2 _ ms _ _ a b g =>
    have hk2 := drop_len (a := [125]) hr0 B.kx
    refine ⟨_, rfl, p, dx, _, rfl, B.ob, rf_no, p, dx, sl, ml, x, _, k, 44, rfl, B.ob, s44, fun z => (by rw [head_at hr0] at z; cases z), fun _ => ⟨_, rfl, iteF ?_⟩⟩
    refine ⟨_, rfl, p, dx, _, rfl, B.ob, rf_no, p, dx, sl, ml, x, _, k, 125, rfl, B.ob, s125, head_at hr0, fun H2 ap2 hp2 => ?_⟩
    have B2 := B.mv ap2 hp2 hk2
    simp only [List.length_cons, List.length_nil] at hk2 few
    have md := B2.md
    cases md with
    | @snoc _ ub _ us2 md2 db =>
    cases md2 with
    | @snoc _ ua _ us1 md1 da =>
    refine rd_stamp B2 (vs0 := us1) (ks := [ua, ub]) (by simp) rfl (by decide) (by decide) (by rw [hml]; simp only [List.length_cons]; omega) fun q H3 g1 g2 g3 => ?_
    have tl := tl_but B2.ml_ g3
    refine h1 H3 ⟨_, _, _, _, _, B2.butM g3 g2 (.snoc (t := .st2 w a b) (md1.mono tl) ⟨q, ua, ub, rfl, g1, da.mono tl, db.mono tl⟩), by rw [drop_one hr0]; exact g, by omega, by simp⟩
theorem rd_tk (h : spTake C vs H Q E) : t_tk K C (fin Q) (start ["self", "step"] vs) H := by
  obtain ⟨t, p, sl, ml, dx, H₀, x, k, s, u, ss, ms, us, ws, rfl, hs, B, go, few, h1⟩ := h
  have hml := B.md.length
  cases s with
  | piece =>
    obtain ⟨q, rfl, hq⟩ := hs
    refine ⟨_, rfl, q, _, _, _, rfl, rfl, SqT.of hq, atI_nat (j := 0) rfl, rfl, _, rfl, iteY (by decide +kernel) ?_⟩
    exact ⟨_, rfl, p, dx, _, rfl, B.ob, rf_no, t, p, sl, ml, dx, H₀, x, k, ss, ms, us, ws, rfl, B, go, few, h1⟩
  | between =>
    obtain ⟨q, rfl, hq⟩ := hs
    refine ⟨_, rfl, q, _, _, _, rfl, rfl, SqT.of hq, atI_nat (j := 0) rfl, rfl, _, rfl, iteN (by decide +kernel) ?_⟩
    refine ⟨_, rfl, q, _, _, _, rfl, rfl, SqT.of hq, atI_nat (j := 0) rfl, rfl, _, rfl, iteY (by decide +kernel) ?_⟩
    exact ⟨_, rfl, p, dx, _, rfl, B.ob, rf_no, t, p, sl, ml, dx, H₀, x, k, ss, ms, us, ws, rfl, B, go, few, h1⟩
  | handed w n =>
    obtain ⟨q, rfl, hq⟩ := hs
    refine ⟨_, rfl, q, _, _, _, rfl, rfl, SqT.of hq, atI_nat (j := 0) rfl, rfl, _, rfl, iteN (by decide +kernel) ?_⟩
    refine ⟨_, rfl, q, _, _, _, rfl, rfl, SqT.of hq, atI_nat (j := 0) rfl, rfl, _, rfl, iteN (by decide +kernel) ?_⟩
    refine ⟨_, rfl, q, _, _, _, rfl, rfl, SqT.of hq, atI_nat (j := 0) rfl, rfl, _, rfl, iteY (by decide +kernel) ?_⟩
    refine ⟨_, rfl, p, dx, _, rfl, B.ob, rf_no, _, rfl, q, _, _, _, rfl, rfl, SqT.of hq, atI_nat (j := 1) rfl, _, rfl, q, _, _, _, rfl, rfl, SqT.of hq, atI_nat (j := 2) rfl, ?_⟩
    exact ⟨t, p, sl, ml, dx, H₀, x, k, n, w, ss, ms, us, ws, rfl, B, go, few, h1⟩
  | sign y =>
    obtain ⟨q, rfl, hq⟩ := hs
    refine ⟨_, rfl, q, _, _, _, rfl, rfl, SqT.of hq, atI_nat (j := 0) rfl, rfl, _, rfl, iteN (by decide +kernel) ?_⟩
    refine ⟨_, rfl, q, _, _, _, rfl, rfl, SqT.of hq, atI_nat (j := 0) rfl, rfl, _, rfl, iteN (by decide +kernel) ?_⟩
    refine ⟨_, rfl, q, _, _, _, rfl, rfl, SqT.of hq, atI_nat (j := 0) rfl, rfl, _, rfl, iteN (by decide +kernel) ?_⟩
    refine ⟨_, rfl, q, _, _, _, rfl, rfl, SqT.of hq, atI_nat (j := 0) rfl, rfl, _, rfl, iteY (by decide +kernel) ?_⟩
    generalize hr0 : (cs x).drop k = r0 at go
    cases go with
    | @sign _ _ r _ c hy g =>
    have hk2 := drop_len (a := [c]) hr0 B.kx
    refine ⟨_, rfl, p, dx, _, rfl, B.ob, rf_no, _, rfl, q, _, _, _, rfl, rfl, SqT.of hq, atI_nat (j := 1) rfl, p, dx, sl, ml, x, y, k, c, rfl, B.ob, hy, head_at hr0, fun H2 ap2 hp2 => ?_⟩
    have B2 := B.mv ap2 hp2 hk2
    simp only [List.length_cons, List.length_nil] at hk2
    exact h1 H2 ⟨_, _, _, _, _, B2, by rw [drop_one hr0]; exact g, by omega, Nat.le_succ _⟩
  | make hk n =>
    obtain ⟨q, hp, rfl, hq, hhp⟩ := hs
    refine ⟨_, rfl, q, _, _, _, rfl, rfl, SqT.of hq, atI_nat (j := 0) rfl, rfl, _, rfl, iteN (by decide +kernel) ?_⟩
    refine ⟨_, rfl, q, _, _, _, rfl, rfl, SqT.of hq, atI_nat (j := 0) rfl, rfl, _, rfl, iteN (by decide +kernel) ?_⟩
    refine ⟨_, rfl, q, _, _, _, rfl, rfl, SqT.of hq, atI_nat (j := 0) rfl, rfl, _, rfl, iteN (by decide +kernel) ?_⟩
    refine ⟨_, rfl, q, _, _, _, rfl, rfl, SqT.of hq, atI_nat (j := 0) rfl, rfl, _, rfl, iteN (by decide +kernel) ?_⟩
    refine ⟨_, rfl, p, dx, _, rfl, B.ob, rf_no, _, rfl, q, _, _, _, rfl, rfl, SqT.of hq, atI_nat (j := 1) rfl, _, rfl, q, _, _, _, rfl, rfl, SqT.of hq, atI_nat (j := 2) rfl, ?_⟩
    have hm := B.ml_
    have md := B.md
    -- what is made, and how it goes on
    have go2 : ∀ (v : T) (ms0 : List T) (vs0 ks : List V), ws = vs0 ++ ks → ks.length = n → 0 < n → n ≤ 3 → DR H ms0 vs0 → ms0.length ≤ ms.length → Go t ss (v :: ms0) ((cs x).drop k) → (∀ (r : Addr) (H' : Hp), TupLe H H' → H' r = some (.tup (hdV hk ++ ks)) → Den H' v (.ref r)) →
        spMake C [.ref p, .ref hp, .int n] H (fun _ H1 => (fin Q).nx [some (.ref p), some (.ref q)] H1) E0 := by
      intro v ms0 vs0 ks ew hn n0 n3 d0 hl g mk
      rw [ew] at hm
      have hw := congrArg List.length ew
      rw [List.length_append, hml] at hw
      refine ⟨p, dx, sl, ml, hp, x, k, n, hdV hk, vs0, ks, rfl, B.ob, hhp, hm, hn, n0, n3, by cases hk <;> simp [hdV], by cases hk <;> simp [hdV], by omega, fun r H' g1 g2 g3 => ?_⟩
      have tl := tl_but hm g3
      exact h1 H' ⟨_, _, _, _, _, B.butM g3 g2 (.snoc (t := v) (d0.mono tl) (mk r H' tl g1)), g, by omega, by simp only [List.length_cons]; omega⟩
    generalize hr0 : (cs x).drop k = r0 at go
    cases go with
    | @mksum _ ms _ a b g =>
      cases md with
      | @snoc _ ub _ us2 md2 db =>
      cases md2 with
      | @snoc _ ua _ us1 md1 da =>
      exact go2 (.sum a b) ms us1 [ua, ub] (by simp) rfl (by decide) (by decide) md1 (by simp only [List.length_cons]; omega) (by rw [hr0]; exact g) fun r H' tl g1 => ⟨r, ua, ub, rfl, g1, da.mono tl, db.mono tl⟩
    | @mkless _ ms _ a b g =>
      cases md with
      | @snoc _ ub _ us2 md2 db =>
      cases md2 with
      | @snoc _ ua _ us1 md1 da =>
      exact go2 (.less a b) ms us1 [ua, ub] (by simp) rfl (by decide) (by decide) md1 (by simp only [List.length_cons]; omega) (by rw [hr0]; exact g) fun r H' tl g1 => ⟨r, ua, ub, rfl, g1, da.mono tl, db.mono tl⟩
    | @mklt _ ms _ w a b g =>
      cases md with
      | @snoc _ ub _ us2 md2 db =>
      cases md2 with
      | @snoc _ ua _ us1 md1 da =>
      exact go2 (.lt w a b) ms us1 [ua, ub] (by simp) rfl (by decide) (by decide) md1 (by simp only [List.length_cons]; omega) (by rw [hr0]; exact g) fun r H' tl g1 => ⟨r, ua, ub, rfl, g1, da.mono tl, db.mono tl⟩
    | @mkcho _ ms _ a b c g =>
      cases md with
      | @snoc _ uc _ us3 md3 dc =>
      cases md3 with
      | @snoc _ ub _ us2 md2 db =>
      cases md2 with
      | @snoc _ ua _ us1 md1 da =>
      exact go2 (.cho a b c) ms us1 [ua, ub, uc] (by simp) rfl (by decide) (by decide) md1 (by simp only [List.length_cons]; omega) (by rw [hr0]; exact g) fun r H' tl g1 => ⟨r, ua, ub, uc, rfl, g1, da.mono tl, db.mono tl, dc.mono tl⟩
end S10

set_option Elab.async false
set_option linter.all false
set_option maxRecDepth 100000
set_option maxHeartbeats 4000000
namespace S10
open PySem L2 SW
variable {K : PySem.W.Frag} {C : Addr} {vs : List V} {H H₀ : Hp} {Q : VK} {E : XK}
theorem rd_ri (rc : RC K C) (h : spInit C vs H Q E) : t_ri K C (fin Q) (start ["self", "line"] vs) H := by
  obtain ⟨p, dx, x, rfl, hp, h1⟩ := h
  refine ⟨_, rfl, _, rfl, p, C, dx, [], rfl, hp, rc.cl, rc.nL, by show 0 < 1000; decide, ?_⟩
  have a1 : Ap p H (upd H p (.ins C dx (putF "line" (.str x) []))) := ap_upd
  have g1 : (upd H p (.ins C dx (putF "line" (.str x) []))) p = some (.ins C dx [("line", .str x)]) := upd_same
  generalize upd H p (.ins C dx (putF "line" (.str x) [])) = H1 at a1 g1 ⊢
  refine ⟨_, rfl, p, C, dx, _, rfl, g1, rc.cl, rc.nA, by show 1 < 1000; decide, ?_⟩
  have a2 := ap_trans a1 (ap_upd (H := H1) (o := .ins C dx (putF "at" (.int 0) [("line", .str x)])))
  have g2 : (upd H1 p (.ins C dx (putF "at" (.int 0) [("line", .str x)]))) p = some (.ins C dx [("line", .str x), ("at", .int 0)]) := by rw [upd_same]; simp only [putF, if_neg nLA]
  generalize upd H1 p (.ins C dx (putF "at" (.int 0) [("line", .str x)])) = H2 at a2 g2 ⊢
  refine ⟨szl, fun q hq => ?_⟩
  have s3 := same_new (o := .tup [.str "piece"]) hq
  have g3 : (upd H2 q (.tup [.str "piece"])) q = some (.tup [.str "piece"]) := upd_same
  generalize upd H2 q (.tup [.str "piece"]) = H3 at s3 g3 ⊢
  refine ⟨szl, fun sl hsl => ?_⟩
  have s4 := same_new (o := .lst [.ref q]) hsl
  have g4 : (upd H3 sl (.lst [.ref q])) sl = some (.lst [.ref q]) := upd_same
  generalize upd H3 sl (.lst [.ref q]) = H4 at s4 g4 ⊢
  have s34 := s3.trans s4
  have hp4 := s34 _ _ g2
  refine ⟨_, rfl, p, C, dx, _, rfl, hp4, rc.cl, rc.nS, by show 2 < 1000; decide, ?_⟩
  have a5 : Ap p H4 (upd H4 p (.ins C dx (putF "steps" (.ref sl) [("line", .str x), ("at", .int 0)]))) := ap_upd
  have g5 : (upd H4 p (.ins C dx (putF "steps" (.ref sl) [("line", .str x), ("at", .int 0)]))) p = some (.ins C dx [("line", .str x), ("at", .int 0), ("steps", .ref sl)]) := by rw [upd_same]; simp only [putF, if_neg nLS, if_neg nAS]
  generalize upd H4 p (.ins C dx (putF "steps" (.ref sl) [("line", .str x), ("at", .int 0)])) = H5 at a5 g5 ⊢
  refine ⟨szl, fun ml hml => ?_⟩
  have s6 := same_new (o := .lst []) hml
  have g6 : (upd H5 ml (.lst [])) ml = some (.lst []) := upd_same
  generalize upd H5 ml (.lst []) = H6 at s6 g6 ⊢
  have hp6 := s6 _ _ g5
  refine ⟨_, rfl, p, C, dx, _, rfl, hp6, rc.cl, rc.nM, by show 3 < 1000; decide, ?_⟩
  have np : ∀ {b : Addr} {o : HO}, H4 b = some o → b ≠ p → H6 b = some o := fun e hb => s6 _ _ (by rw [a5 _ hb]; exact e)
  have nsl : sl ≠ p := fun z => by subst z; rw [s3 _ _ g2] at hsl; cases hsl
  have nq : q ≠ p := fun z => by subst z; rw [g2] at hq; cases hq
  have nml : ml ≠ p := fun z => by subst z; rw [g5] at hml; cases hml
  refine h1 sl ml q _ ?_ ?_ ?_ ?_ ?_ ?_ ?_ fun b o hb e => ?_
  · cases e : H sl with
    | none => rfl
    | some o =>
      have := s3 _ _ ((a2 sl nsl).trans e)
      rw [hsl] at this; cases this
  · cases e : H ml with
    | none => rfl
    | some o =>
      have := (a5 ml nml).trans (s34 _ _ ((a2 ml nml).trans e))
      rw [hml] at this; cases this
  · intro z
    subst z
    have := (a5 sl nsl).trans g4
    rw [hml] at this; cases this
  · rw [upd_same]
    simp only [putF, if_neg nLM, if_neg nAM, if_neg nSM]
    rfl
  · rw [upd_ne nsl]; exact np g4 nsl
  · rw [upd_ne nq]; exact np (s4 _ _ g3) nq
  · rw [upd_ne nml]; exact g6
  · rw [upd_ne hb]
    exact np (s34 _ _ ((a2 b hb).trans e)) hb
theorem rd_rd (rc : RC K C) (h : spRead vs H Q E) : t_rd K C (fin Q) (start ["line", "reader"] vs) H := by
  obtain ⟨t, x, rfl, lt, hx, hxl, h1⟩ := h
  have hsl : x.length ≤ sizeLine := by rw [← cs_len, hx, sizeLine_eq]; omega
  refine ⟨_, rfl, fun p dx np ndx nex => ⟨p, dx, x, rfl, upd_same, fun sl ml q H1 nsl nml ne g1 g2 g3 g4 keep => ⟨rfl, ?_⟩⟩⟩
  have s0 : Same H (upd (upd H dx (.own p)) p (.ins C dx [])) := fun b o e => by
    rw [upd_ne (ne_of_none e np), upd_ne (ne_of_none e ndx)]
    exact e
  have s1 : Same H H1 := fun b o e => keep b o (ne_of_none e np) (s0 b o e)
  have B0 : RB C H H1 x p sl ml dx 0 [.piece] [] [.ref q] [] := ⟨s1, np, s0.free nsl, s0.free nml, g1, g2, g4, ne, .snoc (us := []) .nil ⟨q, rfl, g3⟩, .nil, Nat.zero_le _, by rw [hx]; exact hxl⟩
  have G0 : Go t [.piece] [] ((cs x).drop 0) := by
    rw [List.drop_zero, hx, ← List.append_nil (ln t)]
    exact .piece t lt bd_nil .done
  refine ⟨fun m σ H' => ∃ k ss ms us ws, σ = [some (.str x), some (.ref p)] ∧ RB C H H' x p sl ml dx k ss ms us ws ∧ Go t ss ms ((cs x).drop k) ∧ ms.length + ss.length + 5 * ((cs x).length - k) ≤ 6000000 ∧ m = ss.length + 5 * ((cs x).length - k),
    ⟨_, 0, _, _, _, _, rfl, B0, G0, by rw [hx]; simp only [List.length_cons, List.length_nil]; omega, rfl⟩, ?_⟩
  clear B0 G0 g1 g2 g3 g4 keep s1 nsl nml q
  rintro m σ H2 ⟨k, ss, ms, us, ws, rfl, B, go, few, rfl⟩
  refine ⟨_, rfl, p, C, dx, _, _, rfl, B.ob, rc.cl, rc.nS, rf_steps, sl, _, rfl, .inl (SqL.of B.sl_), _, _, rfl, rfl, _, rfl, ?_⟩
  have st := B.st
  cases st with
  | nil =>
    refine iteN rfl ?_
    generalize hr0 : (cs x).drop k = r0 at go
    cases go with
    | done =>
    have md := B.md
    cases md with
    | @snoc _ u _ us1 md1 d =>
    cases md1
    have hk : (cs x).length ≤ k := by
      have := congrArg List.length hr0
      rw [List.length_drop] at this
      simp only [List.length_nil] at this
      omega
    refine ⟨_, rfl, p, C, dx, _, _, rfl, B.ob, rc.cl, rc.nA, rf_atl, _, rfl, x, rfl, hsl, _, _, rfl, rfl, _, rfl, iteN (decide_eq_false (by rw [cs_len] at hk; omega)) ?_⟩
    refine ⟨_, rfl, p, C, dx, _, _, rfl, B.ob, rc.cl, rc.nM, rf_made, .inl ⟨rfl, _, SqL.of B.ml_⟩, ml, _, u, rfl, rfl, B.ml_, pop_at, ?_⟩
    exact h1 u _ (same_old B.same B.n3) (d.mono (tl_lst B.ml_))
  | @snoc s u ss us st su =>
    refine iteY (decide_eq_true (by rw [List.length_append]; simp only [List.length_cons, List.length_nil]; omega)) ?_
    refine ⟨fun σ' H' => ∃ m', m' < (s :: ss).length + 5 * ((cs x).length - k) ∧ ∃ k ss ms us ws, σ' = [some (.str x), some (.ref p)] ∧ RB C H H' x p sl ml dx k ss ms us ws ∧ Go t ss ms ((cs x).drop k) ∧ ms.length + ss.length + 5 * ((cs x).length - k) ≤ 6000000 ∧ m' = ss.length + 5 * ((cs x).length - k), fun _ _ h => h, ?_⟩
    refine ⟨_, rfl, p, dx, _, rfl, B.ob, rf_no, _, rfl, p, C, dx, _, _, rfl, B.ob, rc.cl, rc.nS, rf_steps, .inl ⟨rfl, _, SqL.of B.sl_⟩, sl, _, u, rfl, rfl, B.sl_, pop_at, ?_⟩
    rw [drop_at]
    have tl := tl_lst (o := .lst us) B.sl_
    have B2 := B.setS st
    rw [List.length_cons] at few
    refine ⟨t, p, sl, ml, dx, H, x, k, s, u, ss, ms, us, ws, rfl, su.mono tl, B2, go, by omega, fun H3 nx => ?_⟩
    obtain ⟨k', ss', ms', us', ws', B3, go3, hm, hml⟩ := nx
    refine ⟨ss'.length + 5 * ((cs x).length - k'), by rw [List.length_cons]; omega, k', ss', ms', us', ws', rfl, B3, go3, by omega, rfl⟩
end S10

set_option Elab.async false
set_option linter.all false
set_option maxRecDepth 100000
set_option maxHeartbeats 4000000
namespace L2
open PySem
theorem for_rev {K : PySem.W.Frag} {a : Addr} {xs : List V} {g : TG} {tb : TS} {D : Ends} {σ : St} {H : Hp} (Pv : Nat → St → Hp → Prop) (h0 : Pv 0 σ H) (hl : ∀ i σ H, i ≤ xs.length → Pv i σ H → SqL K H a xs)
    (hs : ∀ i x σ H, i < xs.length → xs[xs.length - 1 - i]? = some x → Pv i σ H → g x σ H fun σ2 H2 => tb { D with nx := Pv (i + 1), ct := Pv (i + 1), bk := D.nx } σ2 H2) (hd : ∀ σ H, Pv xs.length σ H → D.nx σ H) :
    ∃ W : Nat → Nat → St → Hp → Prop, (∃ m, W 0 m σ H) ∧ ∀ i m σ H, W i m σ H →
      ((Itrev K a xs.length).stop i H ∧ D.nx σ H) ∨ ((Itrev K a xs.length).go i H ∧ ∃ N : St → Hp → Prop, (∀ σ' H', N σ' H' → ∃ m', m' < m ∧ W (i + 1) m' σ' H') ∧ ∀ x H', (Itrev K a xs.length).yld i H x H' → g x σ H' fun σ2 H2 => tb { D with nx := N, ct := N, bk := D.nx } σ2 H2) := by
  refine ⟨fun i m σ H => m = xs.length - i ∧ i ≤ xs.length ∧ Pv i σ H, ⟨_, rfl, Nat.zero_le _, h0⟩, ?_⟩
  rintro i m σ H ⟨rfl, hi, pv⟩
  by_cases e : i = xs.length
  · subst e
    exact .inl ⟨rfl, hd _ _ pv⟩
  · have hlt : i < xs.length := by omega
    refine .inr ⟨⟨hlt, xs, xs[xs.length - 1 - i]'(by omega), hl _ _ _ hi pv, rfl, List.getElem?_eq_getElem _⟩, Pv (i + 1), fun σ' H' h => ⟨xs.length - (i + 1), by omega, rfl, hlt, h⟩, ?_⟩
    rintro x H' ⟨rfl, hx⟩
    exact hs i x σ H' hlt (hx xs (hl _ _ _ hi pv)) pv
end L2
namespace SW
open PySem L2
theorem ItF.mono {H H' : Hp} (m : TupLe H H') : ∀ {is : List It2} {us : List V}, ItF H is us → ItF H' is us
  | _, _, .nil => .nil
  | _, _, .cons a r => .cons (a.mono m) (ItF.mono m r)
theorem ItF.length {H : Hp} : ∀ {is : List It2} {us : List V}, ItF H is us → us.length = is.length
  | _, _, .nil => rfl
  | _, _, .cons _ r => by rw [List.length_cons, List.length_cons, ItF.length r]
theorem ItF.append {H : Hp} : ∀ {is js : List It2} {us ws : List V}, ItF H is us → ItF H js ws → ItF H (is ++ js) (us ++ ws)
  | _, _, _, _, .nil, q => q
  | _, _, _, _, .cons a r, q => .cons a (ItF.append r q)
theorem ItF.get {H : Hp} : ∀ {is : List It2} {us : List V} {j : Nat} {u : V}, ItF H is us → us[j]? = some u → ∃ i, is[j]? = some i ∧ ItAt H i u
  | _, _, 0, _, .cons a _, h => by cases h; exact ⟨_, rfl, a⟩
  | _, _, j + 1, _, .cons _ r, h => ItF.get (j := j) r h
theorem itf_str {H : Hp} {s : Str} {is : List It2} {us : List V} (h : ItF H is us) : ItF H (.inl s :: is) (.str s :: us) := .cons (i := .inl s) rfl h
theorem comm_snoc (a : T) : ∀ l : List T, l ≠ [] → comm (l ++ [a]) = comm l ++ [.inl ",", .inr a]
  | [], h => absurd rfl h
  | [b], _ => rfl
  | b :: c :: r, _ => by
    have := comm_snoc a (c :: r) (by simp)
    show .inr b :: .inl "," :: comm ((c :: r) ++ [a]) = .inr b :: .inl "," :: comm (c :: r) ++ [.inl ",", .inr a]
    rw [this]; rfl
theorem denL_get {H : Hp} : ∀ {ts : List T} {us : List V} {j : Nat} {u : V}, DenL H ts us → us[j]? = some u → ∃ t, ts[j]? = some t ∧ Den H t u
  | _, _, 0, _, .cons a _, h => by cases h; exact ⟨_, rfl, a⟩
  | _, _, j + 1, _, .cons _ r, h => denL_get (j := j) r h
def w6 : It2 → Nat
  | .inl _ => 1
  | .inr t => 6 * t.size
def w6s : List It2 → Nat
  | [] => 0
  | i :: r => w6 i + w6s r
theorem w6s_append : ∀ (a b : List It2), w6s (a ++ b) = w6s a + w6s b
  | [], _ => by simp [w6s]
  | i :: r, b => by rw [List.cons_append, w6s, w6s, w6s_append r b, Nat.add_assoc]
theorem w6_secs (t : T) : w6s (secs t) < w6 (.inr t) := by
  cases t <;> simp only [secs, w6s, w6, T.size] <;> omega
theorem len_w6 : ∀ is : List It2, is.length ≤ w6s is
  | [] => Nat.le_refl _
  | .inl _ :: r => by have := len_w6 r; simp only [List.length_cons, w6s, w6]; omega
  | .inr t :: r => by have := len_w6 r; have := t.size_pos; simp only [List.length_cons, w6s, w6]; omega
theorem flat_secs (t : T) : flat (secs t) = ln t := by
  cases t <;> simp [secs, flat, iln, ln]
theorem lt_secs {t : T} (h : LT t) : ∀ u, Sum.inr u ∈ secs t → LT u := by
  intro u hu
  cases t <;> simp only [secs, List.mem_cons, List.not_mem_nil, or_false, reduceCtorEq, false_or, Sum.inr.injEq] at hu
  case sum => exact hu.elim (fun e => e ▸ h.1) fun e => e ▸ h.2
  case less => exact hu.elim (fun e => e ▸ h.1) fun e => e ▸ h.2
  case cho => exact hu.elim (fun e => e ▸ h.1) fun hu => hu.elim (fun e => e ▸ h.2.1) fun e => e ▸ h.2.2
  case lt => exact hu.elim (fun e => e ▸ h.2.1) fun e => e ▸ h.2.2
  case st1 => exact hu ▸ h.2
  case st2 => exact hu.elim (fun e => e ▸ h.2.1) fun e => e ▸ h.2.2
end SW
namespace S10
open PySem L2 SW
variable {K : PySem.W.Frag} {C : Addr} {vs : List V} {H H₀ : Hp} {Q : VK} {E : XK}
theorem rd_wc (h : spCommas vs H Q E) : t_wc K (fin Q) (start ["pieces", "sections", "piece"] vs) H := by
  obtain ⟨q, ts, us, rfl, hq, dl, h2, h1⟩ := h
  have hul := dl.length
  refine ⟨szl, fun sl hsl => ?_⟩
  have s1 := same_new (o := .lst []) hsl
  have g1 : (upd H sl (.lst [])) sl = some (.lst []) := upd_same
  generalize upd H sl (.lst []) = H1 at s1 g1 ⊢
  refine ⟨_, rfl, q, rfl, ⟨_, SqT.of (s1 _ _ hq)⟩, for_tup (K := K) (a := q) (xs := us) (fun i σ H' => i ≤ us.length ∧ Same H H' ∧ ∃ ws j2, σ = [some (.ref q), some (.ref sl), j2] ∧ H' sl = some (.lst ws) ∧ ItF H' (comm (ts.take i)) ws ∧ (ws = [] ↔ i = 0) ∧ ws.length ≤ 2 * i)
    ⟨Nat.zero_le _, s1, [], _, rfl, g1, .nil, ⟨fun _ => rfl, fun _ => rfl⟩, Nat.le_refl _⟩ (fun i σ H' _ h => SqT.of (h.2.1 _ _ hq)) ?_ ?_⟩
  · rintro i u σ H2 hu ⟨hi, s2, ws, j2, rfl, hs2, it2, hn, hl⟩
    obtain ⟨t, ht, dt⟩ := denL_get dl hu
    have hit : i < ts.length := (List.getElem?_eq_some_iff.mp ht).1
    have htake : ts.take (i + 1) = ts.take i ++ [t] := by
      rw [List.take_succ_eq_append_getElem hit]
      rw [List.getElem?_eq_getElem hit] at ht
      rw [Option.some.inj ht]
    refine ⟨_, rfl, sl, _, rfl, .inl (SqL.of hs2), _, _, rfl, rfl, _, rfl, ?_⟩
    -- behind the comma
    have rest : ∀ (ws' : List V) (H3 : Hp), Same H H3 → H3 sl = some (.lst ws') → ItF H3 (comm (ts.take (i + 1))).dropLast ws' → comm (ts.take (i + 1)) = (comm (ts.take (i + 1))).dropLast ++ [.inr t] → ws'.length ≤ 2 * i + 1 →
        (tDrop (tBM K "list" rAppend (tVar 1) (tCons (tVar 2) tNil))) { (fin Q) with nx := fun σ H' => i + 1 ≤ us.length ∧ Same H H' ∧ ∃ ws j2, σ = [some (.ref q), some (.ref sl), j2] ∧ H' sl = some (.lst ws) ∧ ItF H' (comm (ts.take (i + 1))) ws ∧ (ws = [] ↔ i + 1 = 0) ∧ ws.length ≤ 2 * (i + 1), ct := fun σ H' => i + 1 ≤ us.length ∧ Same H H' ∧ ∃ ws j2, σ = [some (.ref q), some (.ref sl), j2] ∧ H' sl = some (.lst ws) ∧ ItF H' (comm (ts.take (i + 1))) ws ∧ (ws = [] ↔ i + 1 = 0) ∧ ws.length ≤ 2 * (i + 1), bk := (tRet (tVar 1)) (fin Q) } [some (.ref q), some (.ref sl), some u] H3 := by
      intro ws' H3 s3 hs3 it3 ec hl3
      refine ⟨_, rfl, .inl ⟨rfl, _, SqL.of hs3⟩, _, rfl, sl, _, _, rfl, rfl, hs3, by rw [sizeLine_eq]; omega, by omega, same_old s3 hsl, ws' ++ [u], _, rfl, upd_same, ?_, ⟨fun z => by simp at z, fun z => by omega⟩, by simp; omega⟩
      have m := tl_lst (o := .lst (ws' ++ [u])) hs3
      rw [ec]
      exact (it3.mono m).append (.cons ((dt.mono (tl_same s3)).mono m) .nil)
    by_cases e0 : i = 0
    · have ews := hn.mpr e0
      subst ews
      refine iteN rfl ?_
      subst e0
      refine rest [] H2 s2 hs2 ?_ ?_ (by simp)
      · rw [htake]; exact .nil
      · rw [htake]; rfl
    · have nws : ws ≠ [] := fun z => e0 (hn.mp z)
      have hne : ts.take i ≠ [] := by
        intro z
        have := congrArg List.length z
        rw [List.length_take] at this
        simp only [List.length_nil] at this
        omega
      have ec := comm_snoc t (ts.take i) hne
      rw [← htake] at ec
      refine iteY (decide_eq_true (by have := List.length_pos_iff.mpr nws; omega)) ?_
      refine ⟨_, rfl, .inl ⟨rfl, _, SqL.of hs2⟩, sl, _, _, rfl, rfl, hs2, by rw [sizeLine_eq]; omega, ?_⟩
      have m := tl_lst (o := .lst (ws ++ [.str ","])) hs2
      refine rest (ws ++ [.str ","]) _ (same_old s2 hsl) upd_same ?_ ?_ (by simp; omega)
      · rw [ec, show comm (ts.take i) ++ ([.inl ",", .inr t] : List It2) = (comm (ts.take i) ++ ([.inl ","] : List It2)) ++ ([.inr t] : List It2) by simp, List.dropLast_concat]
        exact (it2.mono m).append (.cons rfl .nil)
      · rw [ec, show comm (ts.take i) ++ ([.inl ",", .inr t] : List It2) = (comm (ts.take i) ++ ([.inl ","] : List It2)) ++ ([.inr t] : List It2) by simp, List.dropLast_concat]
  · rintro σ H2 ⟨hi, s2, ws, j2, rfl, hs2, it2, hn, hl⟩
    rw [hul, List.take_length] at it2
    exact ⟨_, rfl, h1 sl ws H2 s2 hsl hs2 it2⟩
end S10

set_option Elab.async false
set_option linter.all false
set_option maxRecDepth 100000
set_option maxHeartbeats 4000000
namespace S10
open PySem L2 SW
variable {K : PySem.W.Frag} {C : Addr} {vs : List V} {H H₀ : Hp} {Q : VK} {E : XK}
theorem rd_sc (h : spSecs vs H Q E) : t_sc K (fin Q) (start ["piece", "kind"] vs) H := by
  obtain ⟨t, v, rfl, hd, lt, h1⟩ := h
  cases t with
  | num n =>
    obtain ⟨p, rfl, hp⟩ := hd
    refine ⟨_, rfl, p, _, _, _, rfl, rfl, SqT.of hp, atI_nat (j := 0) rfl, ?_⟩
    refine ⟨_, rfl, rfl, _, rfl, iteY (by decide +kernel) ?_⟩
    exact ⟨_, rfl, p, _, _, _, rfl, rfl, SqT.of hp, atI_nat (j := 1) rfl, n, rfl, num_log lt, szl, fun l hl => h1 l _ _ (same_new hl) hl upd_same (.cons rfl .nil)⟩
  | name x =>
    obtain ⟨p, rfl, hp⟩ := hd
    refine ⟨_, rfl, p, _, _, _, rfl, rfl, SqT.of hp, atI_nat (j := 0) rfl, ?_⟩
    refine ⟨_, rfl, rfl, _, rfl, iteN (by decide +kernel) ?_⟩
    refine ⟨_, rfl, rfl, _, rfl, iteY (by decide +kernel) ?_⟩
    exact ⟨_, rfl, p, _, _, _, rfl, rfl, SqT.of hp, atI_nat (j := 1) rfl, szl, fun l hl => h1 l _ _ (same_new hl) hl upd_same (.cons rfl .nil)⟩
  | sum a b =>
    obtain ⟨p, x, y, rfl, hp, d1, d2⟩ := hd
    refine ⟨_, rfl, p, _, _, _, rfl, rfl, SqT.of hp, atI_nat (j := 0) rfl, ?_⟩
    refine ⟨_, rfl, rfl, _, rfl, iteN (by decide +kernel) ?_⟩
    refine ⟨_, rfl, rfl, _, rfl, iteN (by decide +kernel) ?_⟩
    refine ⟨_, rfl, rfl, _, rfl, iteY (by decide +kernel) ?_⟩
    exact ⟨_, rfl, p, _, _, _, rfl, rfl, SqT.of hp, atI_nat (j := 1) rfl, _, rfl, p, _, _, _, rfl, rfl, SqT.of hp, atI_nat (j := 2) rfl, szl, fun l hl => h1 l _ _ (same_new hl) hl upd_same (.cons rfl (.cons (d1.mono (tl_new hl)) (.cons rfl (.cons (d2.mono (tl_new hl)) (.cons rfl .nil)))))⟩
  | less a b =>
    obtain ⟨p, x, y, rfl, hp, d1, d2⟩ := hd
    refine ⟨_, rfl, p, _, _, _, rfl, rfl, SqT.of hp, atI_nat (j := 0) rfl, ?_⟩
    refine ⟨_, rfl, rfl, _, rfl, iteN (by decide +kernel) ?_⟩
    refine ⟨_, rfl, rfl, _, rfl, iteN (by decide +kernel) ?_⟩
    refine ⟨_, rfl, rfl, _, rfl, iteN (by decide +kernel) ?_⟩
    refine ⟨_, rfl, rfl, _, rfl, iteY (by decide +kernel) ?_⟩
    exact ⟨_, rfl, p, _, _, _, rfl, rfl, SqT.of hp, atI_nat (j := 1) rfl, _, rfl, p, _, _, _, rfl, rfl, SqT.of hp, atI_nat (j := 2) rfl, szl, fun l hl => h1 l _ _ (same_new hl) hl upd_same (.cons rfl (.cons (d1.mono (tl_new hl)) (.cons rfl (.cons (d2.mono (tl_new hl)) (.cons rfl .nil)))))⟩
  | cho a b c =>
    obtain ⟨p, x, y, z, rfl, hp, d1, d2, d3⟩ := hd
    refine ⟨_, rfl, p, _, _, _, rfl, rfl, SqT.of hp, atI_nat (j := 0) rfl, ?_⟩
    refine ⟨_, rfl, rfl, _, rfl, iteN (by decide +kernel) ?_⟩
    refine ⟨_, rfl, rfl, _, rfl, iteN (by decide +kernel) ?_⟩
    refine ⟨_, rfl, rfl, _, rfl, iteN (by decide +kernel) ?_⟩
    refine ⟨_, rfl, rfl, _, rfl, iteN (by decide +kernel) ?_⟩
    refine ⟨_, rfl, rfl, _, rfl, iteY (by decide +kernel) ?_⟩
    exact ⟨_, rfl, p, _, _, _, rfl, rfl, SqT.of hp, atI_nat (j := 1) rfl, _, rfl, p, _, _, _, rfl, rfl, SqT.of hp, atI_nat (j := 2) rfl, _, rfl, p, _, _, _, rfl, rfl, SqT.of hp, atI_nat (j := 3) rfl, szl, fun l hl => h1 l _ _ (same_new hl) hl upd_same (.cons rfl (.cons (d1.mono (tl_new hl)) (.cons rfl (.cons (d2.mono (tl_new hl)) (.cons rfl (.cons (d3.mono (tl_new hl)) (.cons rfl .nil)))))))⟩
  | lt w a b =>
    obtain ⟨p, x, y, rfl, hp, d1, d2⟩ := hd
    refine ⟨_, rfl, p, _, _, _, rfl, rfl, SqT.of hp, atI_nat (j := 0) rfl, ?_⟩
    refine ⟨_, rfl, rfl, _, rfl, iteN (by decide +kernel) ?_⟩
    refine ⟨_, rfl, rfl, _, rfl, iteN (by decide +kernel) ?_⟩
    refine ⟨_, rfl, rfl, _, rfl, iteN (by decide +kernel) ?_⟩
    refine ⟨_, rfl, rfl, _, rfl, iteN (by decide +kernel) ?_⟩
    refine ⟨_, rfl, rfl, _, rfl, iteN (by decide +kernel) ?_⟩
    refine ⟨_, rfl, rfl, _, rfl, iteY (by decide +kernel) ?_⟩
    exact ⟨_, rfl, p, _, _, _, rfl, rfl, SqT.of hp, atI_nat (j := 1) rfl, _, rfl, p, _, _, _, rfl, rfl, SqT.of hp, atI_nat (j := 2) rfl, _, rfl, p, _, _, _, rfl, rfl, SqT.of hp, atI_nat (j := 3) rfl, szl, fun l hl => h1 l _ _ (same_new hl) hl upd_same (.cons rfl (.cons rfl (.cons rfl (.cons (d1.mono (tl_new hl)) (.cons rfl (.cons (d2.mono (tl_new hl)) .nil))))))⟩
  | st0 w =>
    obtain ⟨p, rfl, hp⟩ := hd
    refine ⟨_, rfl, p, _, _, _, rfl, rfl, SqT.of hp, atI_nat (j := 0) rfl, ?_⟩
    refine ⟨_, rfl, rfl, _, rfl, iteN (by decide +kernel) ?_⟩
    refine ⟨_, rfl, rfl, _, rfl, iteN (by decide +kernel) ?_⟩
    refine ⟨_, rfl, rfl, _, rfl, iteN (by decide +kernel) ?_⟩
    refine ⟨_, rfl, rfl, _, rfl, iteN (by decide +kernel) ?_⟩
    refine ⟨_, rfl, rfl, _, rfl, iteN (by decide +kernel) ?_⟩
    refine ⟨_, rfl, rfl, _, rfl, iteN (by decide +kernel) ?_⟩
    refine ⟨_, rfl, p, _, _, _, rfl, rfl, SqT.of hp, atI_nat (j := 1) rfl, szl, fun l1 hl1 => ?_⟩
    have s1 := same_new (o := .lst [.str w, .str "{"]) hl1
    have g1 : (upd H l1 (.lst [.str w, .str "{"])) l1 = some (.lst [.str w, .str "{"]) := upd_same
    generalize upd H l1 (.lst [.str w, .str "{"]) = H1 at s1 g1 ⊢
    refine ⟨_, rfl, _, rfl, p, _, rfl, SqT.of (s1 _ _ hp), cut_not 2 (by decide) (Nat.le_of_ble_eq_true rfl), fun q hq => ?_⟩
    have s2 : Same H1 (upd H1 q (.tup [])) := same_new hq
    have g2 : (upd H1 q (.tup [])) q = some (.tup []) := upd_same
    refine ⟨q, [], [], rfl, g2, .nil, by simp, fun l2 ws2 H3 s3 n3 g3 i3 => ?_⟩
    have s13 : Same H1 H3 := s2.trans s3
    have e3 := i3.length
    refine ⟨l1, l2, _, _, rfl, rfl, s13 _ _ g1, g3, by rw [e3]; simp only [comm, List.length_cons, List.length_nil]; rw [sizeLine_eq]; omega, fun l3 hl3 => ?_⟩
    have s4 := same_new (o := .lst ([.str w, .str "{"] ++ ws2)) hl3
    have g4 : (upd H3 l3 (.lst ([.str w, .str "{"] ++ ws2))) l3 = some (.lst ([.str w, .str "{"] ++ ws2)) := upd_same
    generalize upd H3 l3 (.lst ([.str w, .str "{"] ++ ws2)) = H4 at s4 g4 ⊢
    refine ⟨szl, fun l5 hl5 => ?_⟩
    have s5 := same_new (o := .lst [.str "}"]) hl5
    have g5 : (upd H4 l5 (.lst [.str "}"])) l5 = some (.lst [.str "}"]) := upd_same
    generalize upd H4 l5 (.lst [.str "}"]) = H5 at s5 g5 ⊢
    refine ⟨l3, l5, _, _, rfl, rfl, s5 _ _ g4, g5, by rw [List.length_append, e3]; simp only [comm, List.length_cons, List.length_nil]; rw [sizeLine_eq]; omega, fun l6 hl6 => ?_⟩
    have s6 := same_new (o := .lst ([.str w, .str "{"] ++ ws2 ++ [.str "}"])) hl6
    have sa : Same H _ := s1.trans (s13.trans (s4.trans (s5.trans s6)))
    refine h1 l6 _ _ sa ((s1.trans (s13.trans (s4.trans s5))).free hl6) upd_same ?_
    have i6 := i3.mono (tl_same (s4.trans (s5.trans s6)))
    exact (itf_str (itf_str i6)).append (itf_str .nil)
  | st1 w a =>
    obtain ⟨p, x, rfl, hp, d1⟩ := hd
    refine ⟨_, rfl, p, _, _, _, rfl, rfl, SqT.of hp, atI_nat (j := 0) rfl, ?_⟩
    refine ⟨_, rfl, rfl, _, rfl, iteN (by decide +kernel) ?_⟩
    refine ⟨_, rfl, rfl, _, rfl, iteN (by decide +kernel) ?_⟩
    refine ⟨_, rfl, rfl, _, rfl, iteN (by decide +kernel) ?_⟩
    refine ⟨_, rfl, rfl, _, rfl, iteN (by decide +kernel) ?_⟩
    refine ⟨_, rfl, rfl, _, rfl, iteN (by decide +kernel) ?_⟩
    refine ⟨_, rfl, rfl, _, rfl, iteN (by decide +kernel) ?_⟩
    refine ⟨_, rfl, p, _, _, _, rfl, rfl, SqT.of hp, atI_nat (j := 1) rfl, szl, fun l1 hl1 => ?_⟩
    have s1 := same_new (o := .lst [.str w, .str "{"]) hl1
    have g1 : (upd H l1 (.lst [.str w, .str "{"])) l1 = some (.lst [.str w, .str "{"]) := upd_same
    generalize upd H l1 (.lst [.str w, .str "{"]) = H1 at s1 g1 ⊢
    refine ⟨_, rfl, _, rfl, p, _, rfl, SqT.of (s1 _ _ hp), cut_not 2 (by decide) (Nat.le_of_ble_eq_true rfl), fun q hq => ?_⟩
    have s2 : Same H1 (upd H1 q (.tup [x])) := same_new hq
    have g2 : (upd H1 q (.tup [x])) q = some (.tup [x]) := upd_same
    refine ⟨q, [a], [x], rfl, g2, .cons (d1.mono (tl_same (s1.trans s2))) (.nil), by simp, fun l2 ws2 H3 s3 n3 g3 i3 => ?_⟩
    have s13 : Same H1 H3 := s2.trans s3
    have e3 := i3.length
    refine ⟨l1, l2, _, _, rfl, rfl, s13 _ _ g1, g3, by rw [e3]; simp only [comm, List.length_cons, List.length_nil]; rw [sizeLine_eq]; omega, fun l3 hl3 => ?_⟩
    have s4 := same_new (o := .lst ([.str w, .str "{"] ++ ws2)) hl3
    have g4 : (upd H3 l3 (.lst ([.str w, .str "{"] ++ ws2))) l3 = some (.lst ([.str w, .str "{"] ++ ws2)) := upd_same
    generalize upd H3 l3 (.lst ([.str w, .str "{"] ++ ws2)) = H4 at s4 g4 ⊢
    refine ⟨szl, fun l5 hl5 => ?_⟩
    have s5 := same_new (o := .lst [.str "}"]) hl5
    have g5 : (upd H4 l5 (.lst [.str "}"])) l5 = some (.lst [.str "}"]) := upd_same
    generalize upd H4 l5 (.lst [.str "}"]) = H5 at s5 g5 ⊢
    refine ⟨l3, l5, _, _, rfl, rfl, s5 _ _ g4, g5, by rw [List.length_append, e3]; simp only [comm, List.length_cons, List.length_nil]; rw [sizeLine_eq]; omega, fun l6 hl6 => ?_⟩
    have s6 := same_new (o := .lst ([.str w, .str "{"] ++ ws2 ++ [.str "}"])) hl6
    have sa : Same H _ := s1.trans (s13.trans (s4.trans (s5.trans s6)))
    refine h1 l6 _ _ sa ((s1.trans (s13.trans (s4.trans s5))).free hl6) upd_same ?_
    have i6 := i3.mono (tl_same (s4.trans (s5.trans s6)))
    exact (itf_str (itf_str i6)).append (itf_str .nil)
  | st2 w a b =>
    obtain ⟨p, x, y, rfl, hp, d1, d2⟩ := hd
    refine ⟨_, rfl, p, _, _, _, rfl, rfl, SqT.of hp, atI_nat (j := 0) rfl, ?_⟩
    refine ⟨_, rfl, rfl, _, rfl, iteN (by decide +kernel) ?_⟩
    refine ⟨_, rfl, rfl, _, rfl, iteN (by decide +kernel) ?_⟩
    refine ⟨_, rfl, rfl, _, rfl, iteN (by decide +kernel) ?_⟩
    refine ⟨_, rfl, rfl, _, rfl, iteN (by decide +kernel) ?_⟩
    refine ⟨_, rfl, rfl, _, rfl, iteN (by decide +kernel) ?_⟩
    refine ⟨_, rfl, rfl, _, rfl, iteN (by decide +kernel) ?_⟩
    refine ⟨_, rfl, p, _, _, _, rfl, rfl, SqT.of hp, atI_nat (j := 1) rfl, szl, fun l1 hl1 => ?_⟩
    have s1 := same_new (o := .lst [.str w, .str "{"]) hl1
    have g1 : (upd H l1 (.lst [.str w, .str "{"])) l1 = some (.lst [.str w, .str "{"]) := upd_same
    generalize upd H l1 (.lst [.str w, .str "{"]) = H1 at s1 g1 ⊢
    refine ⟨_, rfl, _, rfl, p, _, rfl, SqT.of (s1 _ _ hp), cut_not 2 (by decide) (Nat.le_of_ble_eq_true rfl), fun q hq => ?_⟩
    have s2 : Same H1 (upd H1 q (.tup [x, y])) := same_new hq
    have g2 : (upd H1 q (.tup [x, y])) q = some (.tup [x, y]) := upd_same
    refine ⟨q, [a, b], [x, y], rfl, g2, .cons (d1.mono (tl_same (s1.trans s2))) (.cons (d2.mono (tl_same (s1.trans s2))) (.nil)), by simp, fun l2 ws2 H3 s3 n3 g3 i3 => ?_⟩
    have s13 : Same H1 H3 := s2.trans s3
    have e3 := i3.length
    refine ⟨l1, l2, _, _, rfl, rfl, s13 _ _ g1, g3, by rw [e3]; simp only [comm, List.length_cons, List.length_nil]; rw [sizeLine_eq]; omega, fun l3 hl3 => ?_⟩
    have s4 := same_new (o := .lst ([.str w, .str "{"] ++ ws2)) hl3
    have g4 : (upd H3 l3 (.lst ([.str w, .str "{"] ++ ws2))) l3 = some (.lst ([.str w, .str "{"] ++ ws2)) := upd_same
    generalize upd H3 l3 (.lst ([.str w, .str "{"] ++ ws2)) = H4 at s4 g4 ⊢
    refine ⟨szl, fun l5 hl5 => ?_⟩
    have s5 := same_new (o := .lst [.str "}"]) hl5
    have g5 : (upd H4 l5 (.lst [.str "}"])) l5 = some (.lst [.str "}"]) := upd_same
    generalize upd H4 l5 (.lst [.str "}"]) = H5 at s5 g5 ⊢
    refine ⟨l3, l5, _, _, rfl, rfl, s5 _ _ g4, g5, by rw [List.length_append, e3]; simp only [comm, List.length_cons, List.length_nil]; rw [sizeLine_eq]; omega, fun l6 hl6 => ?_⟩
    have s6 := same_new (o := .lst ([.str w, .str "{"] ++ ws2 ++ [.str "}"])) hl6
    have sa : Same H _ := s1.trans (s13.trans (s4.trans (s5.trans s6)))
    refine h1 l6 _ _ sa ((s1.trans (s13.trans (s4.trans s5))).free hl6) upd_same ?_
    have i6 := i3.mono (tl_same (s4.trans (s5.trans s6)))
    exact (itf_str (itf_str i6)).append (itf_str .nil)
theorem rd_sh (h : spShown vs H Q E) : t_sh K (fin Q) (start ["piece", "texts", "waiting", "section", "inner"] vs) H := by
  obtain ⟨t, v, rfl, hd, lt, hsz, hl, h1⟩ := h
  refine ⟨szl, fun tl htl => ?_⟩
  have s1 := same_new (o := .lst []) htl
  have g1 : (upd H tl (.lst [])) tl = some (.lst []) := upd_same
  generalize upd H tl (.lst []) = H1 at s1 g1 ⊢
  refine ⟨_, rfl, szl, fun wl hwl => ?_⟩
  have s2 := same_new (o := .lst [v]) hwl
  have g2 : (upd H1 wl (.lst [v])) wl = some (.lst [v]) := upd_same
  have ne : tl ≠ wl := fun z => by subst z; rw [g1] at hwl; cases hwl
  have n2 : H wl = none := s1.free hwl
  generalize upd H1 wl (.lst [v]) = H2 at s2 g2 ⊢
  have s12 := s1.trans s2
  refine ⟨fun m σ H' => ∃ (ws : List Str) (is : List It2) (us : List V) (j3 j4 : Option V), σ = [some v, some (.ref tl), some (.ref wl), j3, j4] ∧ Same H H' ∧ H' tl = some (.lst (ws.map V.str)) ∧ H' wl = some (.lst us) ∧ ItL H' is us ∧ (ws.map cs).flatten ++ flat is = ln t ∧ ws.length + w6s is ≤ 6000 ∧ (∀ u, Sum.inr u ∈ is → LT u) ∧ m = w6s is,
    ⟨_, [], [.inr t], [v], _, _, rfl, s12, s2 _ _ g1, g2, .snoc (us := []) .nil (hd.mono (tl_same s12)), by simp [flat, iln], by simp only [w6s, w6, List.length_nil]; omega, by intro u hu; simp at hu; subst hu; exact lt, rfl⟩, ?_⟩
  clear g2 s12 s2 g1 s1
  rintro m σ H3 ⟨ws, is, us, j3, j4, rfl, s3, ht3, hw3, il, eq, few, lts, rfl⟩
  refine ⟨_, rfl, wl, _, rfl, .inl (SqL.of hw3), _, _, rfl, rfl, _, rfl, ?_⟩
  cases il with
  | nil =>
    refine iteN rfl ?_
    have e : (ws.map cs).flatten = ln t := by simpa [flat] using eq
    have hsum : (ws.map (·.length)).sum = (ln t).length := by
      rw [← e, List.length_flatten, List.map_map]
      exact congrArg List.sum (List.map_congr_left fun w _ => (cs_len w).symm)
    refine ⟨rfl, _, rfl, "", tl, ws, rfl, rfl, SqL.of ht3, by rw [hsum, len_empty]; omega, h1 _ _ s3 (by rw [join_cs, e])⟩
  | @snoc i u is us il iu =>
    refine iteY (decide_eq_true (by rw [List.length_append]; simp only [List.length_cons, List.length_nil]; omega)) ?_
    refine ⟨fun σ' H' => ∃ m', m' < w6s (i :: is) ∧ ∃ (ws : List Str) (is : List It2) (us : List V) (j3 j4 : Option V), σ' = [some v, some (.ref tl), some (.ref wl), j3, j4] ∧ Same H H' ∧ H' tl = some (.lst (ws.map V.str)) ∧ H' wl = some (.lst us) ∧ ItL H' is us ∧ (ws.map cs).flatten ++ flat is = ln t ∧ ws.length + w6s is ≤ 6000 ∧ (∀ u, Sum.inr u ∈ is → LT u) ∧ m' = w6s is, fun _ _ h => h, ?_⟩
    refine ⟨_, rfl, .inl ⟨rfl, _, SqL.of hw3⟩, wl, _, u, rfl, rfl, hw3, pop_at, ?_⟩
    rw [drop_at]
    have m4 := tl_lst (o := .lst us) hw3
    have s4 : Same H (upd H3 wl (.lst us)) := same_old s3 n2
    have ht4 : (upd H3 wl (.lst us)) tl = some (.lst (ws.map V.str)) := by rw [upd_ne ne]; exact ht3
    have hw4 : (upd H3 wl (.lst us)) wl = some (.lst us) := upd_same
    have il4 := il.mono m4
    have iu4 := iu.mono m4
    generalize upd H3 wl (.lst us) = H4 at s4 ht4 hw4 il4 iu4 ⊢
    have hwn := len_w6 is
    rw [w6s] at few
    cases i with
    | inl s =>
      have e : u = .str s := iu4
      subst e
      refine ⟨_, rfl, _, _, _, _, rfl, .str _, kt_str_str, _, rfl, iteT ?_⟩
      refine ⟨_, rfl, .inl ⟨rfl, _, SqL.of ht4⟩, _, rfl, tl, _, _, rfl, rfl, ht4, by rw [List.length_map, sizeLine_eq]; omega, ?_⟩
      have m5 := tl_lst (o := .lst (ws.map V.str ++ [.str s])) ht4
      refine ⟨w6s is, by simp only [w6s, w6]; omega, ws ++ [s], is, us, _, _, rfl, same_old s4 htl, ?_, ?_, il4.mono m5, ?_, ?_, fun u hu => lts u (List.mem_cons_of_mem _ hu), rfl⟩
      · rw [upd_same, List.map_append]; rfl
      · rw [upd_ne ne.symm]; exact hw4
      · rw [← eq]; simp [flat, iln]
      · simp only [w6] at few; simp only [List.length_append, List.length_cons, List.length_nil]; omega
    | inr t2 =>
      have d2 : Den H4 t2 u := iu4
      obtain ⟨p2, ks2, rfl, hp2, _⟩ := d2.open
      have lt2 := lts t2 List.mem_cons_self
      have hws := w6_secs t2
      refine ⟨_, rfl, _, _, _, _, rfl, .tup hp2, kt_tuple_str, _, rfl, iteF ?_⟩
      refine ⟨_, rfl, t2, .ref p2, rfl, d2, lt2, fun l zs H5 s5 n5 h5 f5 => ⟨l, zs, rfl, SqL.of h5, ?_⟩⟩
      have hzl := f5.length
      have hsl := len_w6 (secs t2)
      have nl : l ≠ wl := fun z => by subst z; rw [hw4] at n5; cases n5
      refine for_rev (K := K) (a := l) (xs := zs) (fun k σ H' => k ≤ zs.length ∧ Same H H' ∧ H' l = some (.lst zs) ∧ ItF H' (secs t2) zs ∧ ∃ us' j4, σ = [some v, some (.ref tl), some (.ref wl), some (.ref p2), j4] ∧ H' tl = some (.lst (ws.map V.str)) ∧ H' wl = some (.lst us') ∧ us'.length = us.length + k ∧ ItL H' ((secs t2).drop (zs.length - k) ++ is) us')
        ⟨Nat.zero_le _, s4.trans s5, h5, f5, us, _, rfl, s5 _ _ ht4, s5 _ _ hw4, rfl, by rw [Nat.sub_zero, List.drop_of_length_le (by omega)]; exact il4.mono (tl_same s5)⟩ (fun k σ H' _ h => SqL.of h.2.2.1) ?_ ?_
      · rintro k z σ H6 hk hz ⟨_, s6, h6, f6, us', j4, rfl, ht6, hw6, hl6, il6⟩
        obtain ⟨i6, hi6, at6⟩ := f6.get hz
        refine ⟨_, rfl, .inl ⟨rfl, _, SqL.of hw6⟩, _, rfl, wl, _, _, rfl, rfl, hw6, by have := il.length; rw [hl6, this, sizeLine_eq]; omega, ?_⟩
        have m7 := tl_lst (o := .lst (us' ++ [z])) hw6
        refine ⟨hk, same_old s6 n2, by rw [upd_ne nl]; exact h6, f6.mono m7, us' ++ [z], _, rfl, by rw [upd_ne ne]; exact ht6, upd_same, by simp [hl6]; omega, ?_⟩
        have hd6 : (secs t2).drop (zs.length - (k + 1)) = i6 :: (secs t2).drop (zs.length - k) := by
          obtain ⟨hj, ej⟩ := List.getElem?_eq_some_iff.mp hi6
          rw [show zs.length - (k + 1) = zs.length - 1 - k by omega, show zs.length - k = zs.length - 1 - k + 1 by omega, List.drop_eq_getElem_cons hj, ej]
        rw [hd6]
        exact .snoc (il6.mono m7) (at6.mono m7)
      · rintro σ H6 ⟨_, s6, h6, f6, us', j4, rfl, ht6, hw6, hl6, il6⟩
        rw [Nat.sub_self, List.drop_zero] at il6
        refine ⟨w6s (secs t2 ++ is), by rw [w6s_append, w6s]; omega, ws, secs t2 ++ is, us', _, _, rfl, s6, ht6, hw6, il6, ?_, ?_, ?_, rfl⟩
        · rw [← eq, flat_append, flat_secs]; simp [flat, iln]
        · rw [w6s_append]; omega
        · intro u hu
          rcases List.mem_append.mp hu with z | z
          · exact lt_secs lt2 u z
          · exact lts u (List.mem_cons_of_mem _ z)
end S10

set_option Elab.async false
set_option linter.all false
set_option maxRecDepth 100000
set_option maxHeartbeats 4000000
namespace SW
open PySem L2
theorem num_len {n : Int} (h : -(10 ^ 60) < n ∧ n < 10 ^ 60) : (ln (.num n)).length ≤ 61 := by
  have e0 : ((10 : Int) ^ 60) = ((10 ^ 60 : Nat) : Int) := by norm_cast
  rw [e0] at h
  cases n with
  | ofNat d =>
    have e : ln (.num (Int.ofNat d)) = digs d := num_pos d
    rw [e]
    have := digs_len (k := 59) (m := d) (by have := h.2; exact Int.ofNat_lt.mp this)
    omega
  | negSucc d =>
    have e : ln (.num (Int.negSucc d)) = 45 :: digs (d + 1) := num_neg d
    rw [e]
    have := digs_len (k := 59) (m := d + 1) (by have := h.1; generalize (10 ^ 60 : Nat) = y at *; omega)
    rw [List.length_cons]; omega
theorem ln_len : ∀ {t : T}, LT t → (ln t).length ≤ 300 * t.size
  | .num n, h => by have := num_len h; simp only [T.size]; omega
  | .name w, h => by have := h.few; rw [← cs_len] at this; show (cs w).length ≤ _; simp only [T.size]; omega
  | .sum a b, h => by have := ln_len h.1; have := ln_len h.2; simp only [ln, List.length_append, s40, s43, s41, List.length_cons, List.length_nil, T.size]; omega
  | .less a b, h => by have := ln_len h.1; have := ln_len h.2; simp only [ln, List.length_append, s40, s45, s41, List.length_cons, List.length_nil, T.size]; omega
  | .cho a b c, h => by have := ln_len h.1; have := ln_len h.2.1; have := ln_len h.2.2; simp only [ln, List.length_append, s40, s63, s58, s41, List.length_cons, List.length_nil, T.size]; omega
  | .lt w a b, h => by have := ln_len h.2.1; have := ln_len h.2.2; have := h.1.few; rw [← cs_len] at this; simp only [ln, List.length_append, s91, s61, s93, List.length_cons, List.length_nil, T.size]; omega
  | .st0 w, h => by have := h.few; rw [← cs_len] at this; simp only [ln, List.length_append, s123, s125, List.length_cons, List.length_nil, T.size]; omega
  | .st1 w a, h => by have := ln_len h.2; have := h.1.few; rw [← cs_len] at this; simp only [ln, List.length_append, s123, s125, List.length_cons, List.length_nil, T.size]; omega
  | .st2 w a b, h => by have := ln_len h.2.1; have := ln_len h.2.2; have := h.1.few; rw [← cs_len] at this; simp only [ln, List.length_append, s123, s125, s44, List.length_cons, List.length_nil, T.size]; omega
theorem cut_map (ns : List Int) (lo hi : Option Int) : ∃ ms : List Int, cutV (ns.map V.int) lo hi = ms.map V.int ∧ ms.length ≤ ns.length := by
  refine ⟨(ns.drop (HT.sIx ns.length 0 lo)).take (HT.sIx ns.length ns.length hi - HT.sIx ns.length 0 lo), ?_, ?_⟩
  · unfold cutV
    rw [List.length_map, List.map_take, List.map_drop]
  · rw [List.length_take, List.length_drop]; omega
theorem wd_two {c d : Nat} (h1 : 97 ≤ c ∧ c ≤ 122) (h2 : 97 ≤ d ∧ d ≤ 122) : Wd ((⟨#[c]⟩ : Str) ++ (⟨#[d]⟩ : Str)) := by
  have e : ((⟨#[c]⟩ : Str) ++ (⟨#[d]⟩ : Str)).cps.toList = [c, d] := rfl
  have el : ((⟨#[c]⟩ : Str) ++ (⟨#[d]⟩ : Str)).length = 2 := rfl
  refine ⟨by rw [el]; decide, by rw [el]; decide, fun x hx => ?_⟩
  rw [e] at hx
  simp only [List.mem_cons, List.not_mem_nil, or_false] at hx
  rcases hx with rfl | rfl
  · exact h1
  · exact h2
end SW
namespace S10
open PySem L2 SW
variable {K : PySem.W.Frag} {C : Addr} {vs : List V} {H H₀ : Hp} {Q : VK} {E : XK}
theorem rd_atg (h : spAtG K vs H Q E) : t_atg K (fin Q) (start ["_law_script", "_law_k"] vs) H := by
  obtain ⟨a, ns, i, rfl, ha, hQ⟩ := h
  refine ⟨_, rfl, _, rfl, a, _, rfl, .inl ha, _, _, rfl, rfl, _, rfl, ?_⟩
  refine ite2 (fun hlt => ?_) (fun _ => hQ 0)
  have hlt : (i : Int) < ((ns.map V.int).length : Int) := of_decide_eq_true hlt
  rw [List.length_map] at hlt
  have hi : i < ns.length := by omega
  exact ⟨_, rfl, _, rfl, a, _, _, _, rfl, rfl, ha, atI_nat (v := V.int ns[i]) (by rw [List.getElem?_map, List.getElem?_eq_getElem hi]; rfl), hQ _⟩
theorem rd_law (h : spLaw10 K vs H Q E) : t_law K (fin Q) (start ["_law_script", "_law_piece", "_law_letters", "_law_seed", "_law_word", "_law_line", "_law_due", "_law_found"] vs) H := by
  obtain ⟨a, ns, rfl, ha, hl, hQ⟩ := h
  obtain ⟨ms, em, hms⟩ := cut_map ns (some 1) (some 98)
  refine ⟨_, rfl, _, rfl, _, rfl, a, _, rfl, ha, fun q hq => ?_⟩
  refine ⟨q, ms, rfl, SqL.of (by rw [upd_same, em]), by omega, fun t v H1 s1 d w hsz hnm => ?_⟩
  have sA := (same_new (o := .lst (cutV (ns.map V.int) (some 1) (some 98))) hq).trans s1
  refine ⟨_, rfl, a, ns, 0, rfl, sA.seq ha, fun n3 => ?_⟩
  obtain ⟨c1, hc1, at1⟩ := letter_at n3
  refine ⟨_, rfl, _, rfl, _, _, rfl, rfl, (show (0 : Int) < 26 by decide), _, _, c1, rfl, rfl, by decide +kernel, at1, _, rfl, _, rfl, a, ns, 1, rfl, sA.seq ha, fun n4 => ?_⟩
  obtain ⟨c2, hc2, at2⟩ := letter_at n4
  refine ⟨_, _, rfl, rfl, (show (0 : Int) < 26 by decide), _, _, c2, rfl, rfl, by decide +kernel, at2, _, _, rfl, rfl, (by show 1 + 1 ≤ sizeLine; rw [sizeLine_eq]; decide), ?_⟩
  have hwd := wd_two hc1 hc2
  generalize ((⟨#[c1]⟩ : Str) ++ (⟨#[c2]⟩ : Str)) = wd at hwd ⊢
  refine ⟨_, rfl, _, rfl, szl, fun q1 h1 => ?_⟩
  have s2 := same_new (o := .tup [.str "name", .str wd]) h1
  have g2 : (upd H1 q1 (.tup [.str "name", .str wd])) q1 = some (.tup [.str "name", .str wd]) := upd_same
  generalize upd H1 q1 (.tup [.str "name", .str wd]) = H2 at s2 g2 ⊢
  refine ⟨_, rfl, szl, fun q2 h2 => ?_⟩
  have s3 := same_new (o := .tup [.str "let", .str wd, .ref q1, v]) h2
  have g3 : (upd H2 q2 (.tup [.str "let", .str wd, .ref q1, v])) q2 = some (.tup [.str "let", .str wd, .ref q1, v]) := upd_same
  generalize upd H2 q2 (.tup [.str "let", .str wd, .ref q1, v]) = H3 at s3 g3 ⊢
  have d3 : Den H3 (.lt wd (.name wd) t) (.ref q2) := ⟨q2, .ref q1, v, rfl, g3, ⟨q1, rfl, s3 _ _ g2⟩, d.mono (tl_same (s2.trans s3))⟩
  have hw3 : WT SMain (.lt wd (.name wd) t) := ⟨hwd, hwd, w⟩
  have hz3 : (T.lt wd (.name wd) t).size ≤ 140 := by simp only [T.size]; omega
  generalize T.lt wd (.name wd) t = tt at d3 hw3 hz3
  have lt3 := lt_of (fun _ _ => wd_main) hw3
  have ll3 := ln_len lt3
  refine ⟨_, rfl, tt, .ref q2, rfl, d3, lt3, by omega, by omega, fun x5 H5 s5 e5 => ?_⟩
  refine ⟨_, rfl, tt, .ref q2, rfl, d3.mono (tl_same s5), hw3, by omega, by omega, fun x6 H6 s6 e6 => ?_⟩
  have ex : x5 = x6 := cs_inj (e5.trans e6.symm)
  subst ex
  have s36 := s5.trans s6
  refine ⟨_, rfl, _, _, _, _, rfl, .str _, kt_str_str, _, rfl, iteF ?_⟩
  refine ⟨_, rfl, _, rfl, rfl, _, rfl, iteNS rfl ?_⟩
  refine ⟨_, rfl, tt, x5, rfl, lt3, e6, by omega, fun v7 H7 s7 d7 => ?_⟩
  refine ⟨_, rfl, tt, v7, rfl, d7, by omega, fun H8 s8 => ⟨_, rfl, iteT ?_⟩⟩
  exact ⟨_, rfl, _, rfl, tt, d7.mono (tl_same s8), d3.mono (tl_same (s36.trans (s7.trans s8))), by omega, hQ _⟩
end S10

set_option Elab.async false
set_option linter.all false
set_option maxRecDepth 100000
set_option maxHeartbeats 4000000
namespace K10
open PySem L2 SW
def top (i : Nat) : Stmt := PySem.Challenge.pw_stampword_k10_whole_written_and_read.main.body.getD i (.Pass ⟨0, 0, 0, 0⟩)
structure Adr where
  a__law_any : Addr
  a__law_any_word : Addr
  a__law_whole : Addr
  a__law_inside : Addr
  a__law_at : Addr
  a__law_drawn_piece : Addr
  a__law_drawn_main : Addr
  a__law_is_piece : Addr
  a__law_line_of : Addr
  a_with_commas : Addr
  a_sections_of : Addr
  a_shown : Addr
  a_Reader___init__ : Addr
  a_Reader_refuse : Addr
  a_Reader_skip : Addr
  a_Reader_need : Addr
  a_Reader_run_of : Addr
  a_Reader_read_behind_word : Addr
  a_Reader_read_let : Addr
  a_Reader_read_number : Addr
  a_Reader_read_piece : Addr
  a_Reader_read_between : Addr
  a_Reader_make : Addr
  a_Reader_read_behind_handed : Addr
  a_Reader_take : Addr
  a_read : Addr
  a_Reader : Addr
structure Txt (K : PySem.W.Frag) (mg : Str → Option Value) (a : Adr) : Prop where
  n_abs : mg "abs" = none
  n_bool : mg "bool" = none
  n_isinstance : mg "isinstance" = none
  n_int : mg "int" = none
  n_list : mg "list" = none
  n_len : mg "len" = none
  n_min : mg "min" = none
  n_tuple : mg "tuple" = none
  n_str : mg "str" = none
  n_range : mg "range" = none
  n_reversed : mg "reversed" = none
  g__law_any : mg "_law_any" = some (.ref a.a__law_any)
  g__law_any_word : mg "_law_any_word" = some (.ref a.a__law_any_word)
  g__law_whole : mg "_law_whole" = some (.ref a.a__law_whole)
  g__law_inside : mg "_law_inside" = some (.ref a.a__law_inside)
  g__law_at : mg "_law_at" = some (.ref a.a__law_at)
  g__law_drawn_piece : mg "_law_drawn_piece" = some (.ref a.a__law_drawn_piece)
  g__law_drawn_main : mg "_law_drawn_main" = some (.ref a.a__law_drawn_main)
  g__law_is_piece : mg "_law_is_piece" = some (.ref a.a__law_is_piece)
  g__law_line_of : mg "_law_line_of" = some (.ref a.a__law_line_of)
  g_with_commas : mg "with_commas" = some (.ref a.a_with_commas)
  g_sections_of : mg "sections_of" = some (.ref a.a_sections_of)
  g_shown : mg "shown" = some (.ref a.a_shown)
  g_read : mg "read" = some (.ref a.a_read)
  g_LETTERS : ∃ t, mg "LETTERS" = some (.str "abcdefghijklmnopqrstuvwxyz" t)
  g_FIGURES : ∃ t, mg "FIGURES" = some (.str "0123456789" t)
  g_Reader : mg "Reader" = some (.ref a.a_Reader)
  cl_Reader : Cls K a.a_Reader
seal L2.PE L2.PT L2.PW L2.PA L2.PS L2.PSs L2.PC L2.PG L2.PGs L2.PI L2.PO L2.PPs
section
variable {P : Program} {w : World} {K : PySem.W.Frag} {mg : Str → Option Value} {base : Heap} {a : Adr} {f : Addr} {fd : FuncData}
theorem ok_rf : FnOk P w K mg base CX0 1 f fd ["self", "wanted"] spNo2 := ⟨fun vs H Q E h => h.1, fun A outer s H args us vs Q E _ _ _ _ h => h.2.elim⟩
theorem sc_any : FnScope ["_law_cell", "_law_size"] ["_law_cell"] (defScope (top 20)) := ⟨rfl, rfl, rfl, by decide +kernel, rfl, by decide +kernel, by decide +kernel⟩
theorem ok_any (F : Fun K "_law_any" "_law_any" (top 20) f fd) (T : Txt K mg a) (rc : RC K a.a_Reader) : FnOk P w K mg base CX0 1 f fd ["_law_cell"] spAny := by
  refine F.ok sc_any (fun vs H Q E h => ?_) (fun cdv A outer s H vs Q E hr h => ⟨SW.t_any K, ?_, SW.rd_any h⟩)
  · obtain ⟨_, rfl, _⟩ := h
    rfl
  have nd := sc_any.nd
  have hu := hu_of hr
  have hu0 := hr.units0
  have hu2 := hu2_of hr
  have p0 : ∀ {pos : Pos}, PE ((cxOf CX0 P w K mg base ["_law_cell", "_law_size"] "_law_any" (defScope (top 20)) f cdv A outer s H E).nox) (.Name "_law_cell" pos) (tVar 0) := fun {pos} => pv 0
  have p1 : ∀ {pos : Pos}, PE ((cxOf CX0 P w K mg base ["_law_cell", "_law_size"] "_law_any" (defScope (top 20)) f cdv A outer s H E).nox) (.Name "_law_size" pos) (tVar 1) := fun {pos} => pv 1
  have l1 : Loc (((cxOf CX0 P w K mg base ["_law_cell", "_law_size"] "_law_any" (defScope (top 20)) f cdv A outer s H E).nox)).env.scope "_law_size" := by first | exact Or.inl rfl | exact Or.inr rfl
  have g1 : ∀ {pos : Pos}, PG ((cxOf CX0 P w K mg base ["_law_cell", "_law_size"] "_law_any" (defScope (top 20)) f cdv A outer s H E).nox) (.Name "_law_size" pos) (gName 1) := fun {pos} => pg_name (i := 1) nd rfl l1
  exact (pss_cons (ps_set (i := 1) nd rfl l1 (pe_op op_mod (pe_op op_fdiv p0 pe_int) (pe_op op_pow pe_int pe_int))) (pss_one (ps_ret (pe_op op_mul p1 (pe_ix ix_list (pe_lst (pa_cons pe_int (pa_cons (pe_un un_neg pe_int) pa_nil))) (pe_op op_mod p0 pe_int) (fun _ _ => rfl))))))
theorem sc_aw : FnScope ["_law_cell", "_law_left", "_law_word"] ["_law_cell"] (defScope (top 19)) := ⟨rfl, rfl, rfl, by decide +kernel, rfl, by decide +kernel, by decide +kernel⟩
theorem ok_aw (F : Fun K "_law_any_word" "_law_any_word" (top 19) f fd) (T : Txt K mg a) (rc : RC K a.a_Reader) : FnOk P w K mg base CX0 1 f fd ["_law_cell"] spWord := by
  refine F.ok sc_aw (fun vs H Q E h => ?_) (fun cdv A outer s H vs Q E hr h => ⟨SW.t_aw K, ?_, SW.rd_aw h⟩)
  · obtain ⟨_, rfl, _⟩ := h
    rfl
  have nd := sc_aw.nd
  have hu := hu_of hr
  have hu0 := hr.units0
  have hu2 := hu2_of hr
  have p0 : ∀ {pos : Pos}, PE ((cxOf CX0 P w K mg base ["_law_cell", "_law_left", "_law_word"] "_law_any_word" (defScope (top 19)) f cdv A outer s H E).nox) (.Name "_law_cell" pos) (tVar 0) := fun {pos} => pv 0
  have p1 : ∀ {pos : Pos}, PE ((cxOf CX0 P w K mg base ["_law_cell", "_law_left", "_law_word"] "_law_any_word" (defScope (top 19)) f cdv A outer s H E).nox) (.Name "_law_left" pos) (tVar 1) := fun {pos} => pv 1
  have p2 : ∀ {pos : Pos}, PE ((cxOf CX0 P w K mg base ["_law_cell", "_law_left", "_law_word"] "_law_any_word" (defScope (top 19)) f cdv A outer s H E).nox) (.Name "_law_word" pos) (tVar 2) := fun {pos} => pv 2
  have l1 : Loc (((cxOf CX0 P w K mg base ["_law_cell", "_law_left", "_law_word"] "_law_any_word" (defScope (top 19)) f cdv A outer s H E).nox)).env.scope "_law_left" := by first | exact Or.inl rfl | exact Or.inr rfl
  have g1 : ∀ {pos : Pos}, PG ((cxOf CX0 P w K mg base ["_law_cell", "_law_left", "_law_word"] "_law_any_word" (defScope (top 19)) f cdv A outer s H E).nox) (.Name "_law_left" pos) (gName 1) := fun {pos} => pg_name (i := 1) nd rfl l1
  have l2 : Loc (((cxOf CX0 P w K mg base ["_law_cell", "_law_left", "_law_word"] "_law_any_word" (defScope (top 19)) f cdv A outer s H E).nox)).env.scope "_law_word" := by first | exact Or.inl rfl | exact Or.inr rfl
  have g2 : ∀ {pos : Pos}, PG ((cxOf CX0 P w K mg base ["_law_cell", "_law_left", "_law_word"] "_law_any_word" (defScope (top 19)) f cdv A outer s H E).nox) (.Name "_law_word" pos) (gName 2) := fun {pos} => pg_name (i := 2) nd rfl l2
  have k_abs : Gl ((cxOf CX0 P w K mg base ["_law_cell", "_law_left", "_law_word"] "_law_any_word" (defScope (top 19)) f cdv A outer s H E).nox) "abs" := by rfl
  exact (pss_cons (ps_set (i := 1) nd rfl l1 (pe_op op_mod (pe_callB call_abs k_abs T.n_abs bo_abs (pa_cons p0 pa_nil)) (pe_op op_pow pe_int pe_int))) (pss_cons (ps_set (i := 2) nd rfl l2 pe_str) (pss_cons (ps_while PassesOwn.never (pt_cmpR op_ge p1 pe_int (nomark _)) (pss_cons (ps_set (i := 2) nd rfl l2 (pe_op op_add_str (pe_ix ix_str pe_str (pe_op op_mod p1 pe_int) (fun _ _ => rfl)) p2)) (pss_one (ps_set (i := 1) nd rfl l1 (pe_op op_sub (pe_op op_fdiv p1 pe_int) pe_int))))) (pss_one (ps_ret p2)))))
theorem sc_wh : FnScope ["_law_found"] ["_law_found"] (defScope (top 12)) := ⟨rfl, rfl, rfl, by decide +kernel, rfl, by decide +kernel, by decide +kernel⟩
theorem ok_wh (F : Fun K "_law_whole" "_law_whole" (top 12) f fd) (T : Txt K mg a) (rc : RC K a.a_Reader) : FnOk P w K mg base CX0 1 f fd ["_law_found"] spWhole := by
  refine F.ok sc_wh (fun vs H Q E h => ?_) (fun cdv A outer s H vs Q E hr h => ⟨S1.t_wh K, ?_, S1.rd_wh h⟩)
  · obtain ⟨_, rfl, _⟩ := h
    rfl
  have nd := sc_wh.nd
  have hu := hu_of hr
  have hu0 := hr.units0
  have hu2 := hu2_of hr
  have p0 : ∀ {pos : Pos}, PE ((cxOf CX0 P w K mg base ["_law_found"] "_law_whole" (defScope (top 12)) f cdv A outer s H E).nox) (.Name "_law_found" pos) (tVar 0) := fun {pos} => pv 0
  have k_bool : Gl ((cxOf CX0 P w K mg base ["_law_found"] "_law_whole" (defScope (top 12)) f cdv A outer s H E).nox) "bool" := by rfl
  have k_isinstance : Gl ((cxOf CX0 P w K mg base ["_law_found"] "_law_whole" (defScope (top 12)) f cdv A outer s H E).nox) "isinstance" := by rfl
  have k_int : Gl ((cxOf CX0 P w K mg base ["_law_found"] "_law_whole" (defScope (top 12)) f cdv A outer s H E).nox) "int" := by rfl
  exact (pss_one (ps_ret (pe_and (pe_callB call_isi k_isinstance T.n_isinstance bo_isinstance (pa_cons p0 (pa_cons (pe_bltn (v := .ty "int") k_int T.n_int bo_int rfl) pa_nil))) (pe_one (pe_not (pe_callB call_isi k_isinstance T.n_isinstance bo_isinstance (pa_cons p0 (pa_cons (pe_bltn (v := .ty "bool") k_bool T.n_bool bo_bool rfl) pa_nil))))))))
theorem sc_ins : FnScope ["_law_piece"] ["_law_piece"] (defScope (top 15)) := ⟨rfl, rfl, rfl, by decide +kernel, rfl, by decide +kernel, by decide +kernel⟩
theorem ok_ins (F : Fun K "_law_inside" "_law_inside" (top 15) f fd) (T : Txt K mg a) (rc : RC K a.a_Reader) : FnOk P w K mg base CX0 1 f fd ["_law_piece"] spInside := by
  refine F.ok sc_ins (fun vs H Q E h => ?_) (fun cdv A outer s H vs Q E hr h => ⟨SW.t_ins K, ?_, SW.rd_ins h⟩)
  · obtain ⟨_, _, rfl, _⟩ := h
    rfl
  have nd := sc_ins.nd
  have hu := hu_of hr
  have hu0 := hr.units0
  have hu2 := hu2_of hr
  have p0 : ∀ {pos : Pos}, PE ((cxOf CX0 P w K mg base ["_law_piece"] "_law_inside" (defScope (top 15)) f cdv A outer s H E).nox) (.Name "_law_piece" pos) (tVar 0) := fun {pos} => pv 0
  have k_int : Gl ((cxOf CX0 P w K mg base ["_law_piece"] "_law_inside" (defScope (top 15)) f cdv A outer s H E).nox) "int" := by rfl
  have k_list : Gl ((cxOf CX0 P w K mg base ["_law_piece"] "_law_inside" (defScope (top 15)) f cdv A outer s H E).nox) "list" := by rfl
  exact (pss_cons (ps_if (pt_cmpR op_in_seq (pe_ix ix_tup p0 pe_int (fun _ _ => rfl)) (pe_lst (pa_cons pe_str (pa_cons pe_str pa_nil))) (by with_unfolding_all rfl)) (pss_one (ps_ret (pe_lst pa_nil))) pss_nil) (pss_one (ps_ret (pe_callTy call_list_of k_list T.n_list bo_list (pa_cons (pe_slice sl_tup p0 (po_some (pe_op op_add pe_int (pe_callTy call_int1 k_int T.n_int bo_int (pa_cons (pe_cmpR op_in_seq (pe_ix ix_tup p0 pe_int (fun _ _ => rfl)) (pe_lst (pa_cons pe_str (pa_cons pe_str pa_nil))) (by with_unfolding_all rfl)) pa_nil)))) po_none) pa_nil)))))
theorem sc_atg : FnScope ["_law_script", "_law_k"] ["_law_script", "_law_k"] (defScope (top 13)) := ⟨rfl, rfl, rfl, by decide +kernel, rfl, by decide +kernel, by decide +kernel⟩
theorem ok_atg (F : Fun K "_law_at" "_law_at" (top 13) f fd) (T : Txt K mg a) (rc : RC K a.a_Reader) : FnOk P w K mg base CX0 1 f fd ["_law_script", "_law_k"] (spAtG K) := by
  refine F.ok sc_atg (fun vs H Q E h => ?_) (fun cdv A outer s H vs Q E hr h => ⟨S10.t_atg K, ?_, S10.rd_atg h⟩)
  · obtain ⟨_, _, _, rfl, _⟩ := h
    rfl
  have nd := sc_atg.nd
  have hu := hu_of hr
  have hu0 := hr.units0
  have hu2 := hu2_of hr
  have p0 : ∀ {pos : Pos}, PE ((cxOf CX0 P w K mg base ["_law_script", "_law_k"] "_law_at" (defScope (top 13)) f cdv A outer s H E).nox) (.Name "_law_script" pos) (tVar 0) := fun {pos} => pv 0
  have p1 : ∀ {pos : Pos}, PE ((cxOf CX0 P w K mg base ["_law_script", "_law_k"] "_law_at" (defScope (top 13)) f cdv A outer s H E).nox) (.Name "_law_k" pos) (tVar 1) := fun {pos} => pv 1
  have k_len : Gl ((cxOf CX0 P w K mg base ["_law_script", "_law_k"] "_law_at" (defScope (top 13)) f cdv A outer s H E).nox) "len" := by rfl
  exact (pss_cons (ps_if (pt_cmpR op_lt p1 (pe_callB call_len_seq k_len T.n_len bo_len (pa_cons p0 pa_nil)) (nomark _)) (pss_one (ps_ret (pe_ix ix_list p0 p1 (fun _ _ => rfl)))) pss_nil) (pss_one (ps_ret pe_int)))
theorem sc_dp : FnScope ["_law_cells", "_law_stamps", "_law_pile", "_law_cell", "_law_rest", "_law_way", "_law_word", "_law_inner", "_law_look", "_law_name", "_law_many", "_law_made", "_law_last"] ["_law_cells", "_law_stamps"] (defScope (top 14)) := ⟨rfl, rfl, rfl, by decide +kernel, rfl, by decide +kernel, by decide +kernel⟩
theorem ok_dp (F : Fun K "_law_drawn_piece" "_law_drawn_piece" (top 14) f fd) (T : Txt K mg a) (rc : RC K a.a_Reader)
    {fd__law_any_word : FuncData} (G__law_any_word : FnOk P w K mg base CX0 1 a.a__law_any_word fd__law_any_word ["_law_cell"] spWord) (F__law_any_word : Fun K "_law_any_word" "_law_any_word" (top 19) a.a__law_any_word fd__law_any_word) (b__law_any_word : Binds K fd__law_any_word ["_law_cell"] [])
    {fd__law_any : FuncData} (G__law_any : FnOk P w K mg base CX0 1 a.a__law_any fd__law_any ["_law_cell"] spAny) (F__law_any : Fun K "_law_any" "_law_any" (top 20) a.a__law_any fd__law_any) (b__law_any : Binds K fd__law_any ["_law_cell"] []) : FnOk P w K mg base CX0 2 f fd ["_law_cells", "_law_stamps"] (spDrawn K SMain) := by
  refine F.ok sc_dp (fun vs H Q E h => ?_) (fun cdv A outer s H vs Q E hr h => ⟨SW.t_dp K, ?_, SW.rd_dp h⟩)
  · obtain ⟨_, _, _, _, rfl, _⟩ := h
    rfl
  have nd := sc_dp.nd
  have hu := hu_of hr
  have hu0 := hr.units0
  have hu2 := hu2_of hr
  have p0 : ∀ {pos : Pos}, PE ((cxOf CX0 P w K mg base ["_law_cells", "_law_stamps", "_law_pile", "_law_cell", "_law_rest", "_law_way", "_law_word", "_law_inner", "_law_look", "_law_name", "_law_many", "_law_made", "_law_last"] "_law_drawn_piece" (defScope (top 14)) f cdv A outer s H E).nox) (.Name "_law_cells" pos) (tVar 0) := fun {pos} => pv 0
  have p1 : ∀ {pos : Pos}, PE ((cxOf CX0 P w K mg base ["_law_cells", "_law_stamps", "_law_pile", "_law_cell", "_law_rest", "_law_way", "_law_word", "_law_inner", "_law_look", "_law_name", "_law_many", "_law_made", "_law_last"] "_law_drawn_piece" (defScope (top 14)) f cdv A outer s H E).nox) (.Name "_law_stamps" pos) (tVar 1) := fun {pos} => pv 1
  have p2 : ∀ {pos : Pos}, PE ((cxOf CX0 P w K mg base ["_law_cells", "_law_stamps", "_law_pile", "_law_cell", "_law_rest", "_law_way", "_law_word", "_law_inner", "_law_look", "_law_name", "_law_many", "_law_made", "_law_last"] "_law_drawn_piece" (defScope (top 14)) f cdv A outer s H E).nox) (.Name "_law_pile" pos) (tVar 2) := fun {pos} => pv 2
  have p3 : ∀ {pos : Pos}, PE ((cxOf CX0 P w K mg base ["_law_cells", "_law_stamps", "_law_pile", "_law_cell", "_law_rest", "_law_way", "_law_word", "_law_inner", "_law_look", "_law_name", "_law_many", "_law_made", "_law_last"] "_law_drawn_piece" (defScope (top 14)) f cdv A outer s H E).nox) (.Name "_law_cell" pos) (tVar 3) := fun {pos} => pv 3
  have p4 : ∀ {pos : Pos}, PE ((cxOf CX0 P w K mg base ["_law_cells", "_law_stamps", "_law_pile", "_law_cell", "_law_rest", "_law_way", "_law_word", "_law_inner", "_law_look", "_law_name", "_law_many", "_law_made", "_law_last"] "_law_drawn_piece" (defScope (top 14)) f cdv A outer s H E).nox) (.Name "_law_rest" pos) (tVar 4) := fun {pos} => pv 4
  have p5 : ∀ {pos : Pos}, PE ((cxOf CX0 P w K mg base ["_law_cells", "_law_stamps", "_law_pile", "_law_cell", "_law_rest", "_law_way", "_law_word", "_law_inner", "_law_look", "_law_name", "_law_many", "_law_made", "_law_last"] "_law_drawn_piece" (defScope (top 14)) f cdv A outer s H E).nox) (.Name "_law_way" pos) (tVar 5) := fun {pos} => pv 5
  have p6 : ∀ {pos : Pos}, PE ((cxOf CX0 P w K mg base ["_law_cells", "_law_stamps", "_law_pile", "_law_cell", "_law_rest", "_law_way", "_law_word", "_law_inner", "_law_look", "_law_name", "_law_many", "_law_made", "_law_last"] "_law_drawn_piece" (defScope (top 14)) f cdv A outer s H E).nox) (.Name "_law_word" pos) (tVar 6) := fun {pos} => pv 6
  have p7 : ∀ {pos : Pos}, PE ((cxOf CX0 P w K mg base ["_law_cells", "_law_stamps", "_law_pile", "_law_cell", "_law_rest", "_law_way", "_law_word", "_law_inner", "_law_look", "_law_name", "_law_many", "_law_made", "_law_last"] "_law_drawn_piece" (defScope (top 14)) f cdv A outer s H E).nox) (.Name "_law_inner" pos) (tVar 7) := fun {pos} => pv 7
  have p8 : ∀ {pos : Pos}, PE ((cxOf CX0 P w K mg base ["_law_cells", "_law_stamps", "_law_pile", "_law_cell", "_law_rest", "_law_way", "_law_word", "_law_inner", "_law_look", "_law_name", "_law_many", "_law_made", "_law_last"] "_law_drawn_piece" (defScope (top 14)) f cdv A outer s H E).nox) (.Name "_law_look" pos) (tVar 8) := fun {pos} => pv 8
  have p9 : ∀ {pos : Pos}, PE ((cxOf CX0 P w K mg base ["_law_cells", "_law_stamps", "_law_pile", "_law_cell", "_law_rest", "_law_way", "_law_word", "_law_inner", "_law_look", "_law_name", "_law_many", "_law_made", "_law_last"] "_law_drawn_piece" (defScope (top 14)) f cdv A outer s H E).nox) (.Name "_law_name" pos) (tVar 9) := fun {pos} => pv 9
  have p10 : ∀ {pos : Pos}, PE ((cxOf CX0 P w K mg base ["_law_cells", "_law_stamps", "_law_pile", "_law_cell", "_law_rest", "_law_way", "_law_word", "_law_inner", "_law_look", "_law_name", "_law_many", "_law_made", "_law_last"] "_law_drawn_piece" (defScope (top 14)) f cdv A outer s H E).nox) (.Name "_law_many" pos) (tVar 10) := fun {pos} => pv 10
  have p11 : ∀ {pos : Pos}, PE ((cxOf CX0 P w K mg base ["_law_cells", "_law_stamps", "_law_pile", "_law_cell", "_law_rest", "_law_way", "_law_word", "_law_inner", "_law_look", "_law_name", "_law_many", "_law_made", "_law_last"] "_law_drawn_piece" (defScope (top 14)) f cdv A outer s H E).nox) (.Name "_law_made" pos) (tVar 11) := fun {pos} => pv 11
  have p12 : ∀ {pos : Pos}, PE ((cxOf CX0 P w K mg base ["_law_cells", "_law_stamps", "_law_pile", "_law_cell", "_law_rest", "_law_way", "_law_word", "_law_inner", "_law_look", "_law_name", "_law_many", "_law_made", "_law_last"] "_law_drawn_piece" (defScope (top 14)) f cdv A outer s H E).nox) (.Name "_law_last" pos) (tVar 12) := fun {pos} => pv 12
  have l2 : Loc (((cxOf CX0 P w K mg base ["_law_cells", "_law_stamps", "_law_pile", "_law_cell", "_law_rest", "_law_way", "_law_word", "_law_inner", "_law_look", "_law_name", "_law_many", "_law_made", "_law_last"] "_law_drawn_piece" (defScope (top 14)) f cdv A outer s H E).nox)).env.scope "_law_pile" := by first | exact Or.inl rfl | exact Or.inr rfl
  have g2 : ∀ {pos : Pos}, PG ((cxOf CX0 P w K mg base ["_law_cells", "_law_stamps", "_law_pile", "_law_cell", "_law_rest", "_law_way", "_law_word", "_law_inner", "_law_look", "_law_name", "_law_many", "_law_made", "_law_last"] "_law_drawn_piece" (defScope (top 14)) f cdv A outer s H E).nox) (.Name "_law_pile" pos) (gName 2) := fun {pos} => pg_name (i := 2) nd rfl l2
  have l3 : Loc (((cxOf CX0 P w K mg base ["_law_cells", "_law_stamps", "_law_pile", "_law_cell", "_law_rest", "_law_way", "_law_word", "_law_inner", "_law_look", "_law_name", "_law_many", "_law_made", "_law_last"] "_law_drawn_piece" (defScope (top 14)) f cdv A outer s H E).nox)).env.scope "_law_cell" := by first | exact Or.inl rfl | exact Or.inr rfl
  have g3 : ∀ {pos : Pos}, PG ((cxOf CX0 P w K mg base ["_law_cells", "_law_stamps", "_law_pile", "_law_cell", "_law_rest", "_law_way", "_law_word", "_law_inner", "_law_look", "_law_name", "_law_many", "_law_made", "_law_last"] "_law_drawn_piece" (defScope (top 14)) f cdv A outer s H E).nox) (.Name "_law_cell" pos) (gName 3) := fun {pos} => pg_name (i := 3) nd rfl l3
  have l4 : Loc (((cxOf CX0 P w K mg base ["_law_cells", "_law_stamps", "_law_pile", "_law_cell", "_law_rest", "_law_way", "_law_word", "_law_inner", "_law_look", "_law_name", "_law_many", "_law_made", "_law_last"] "_law_drawn_piece" (defScope (top 14)) f cdv A outer s H E).nox)).env.scope "_law_rest" := by first | exact Or.inl rfl | exact Or.inr rfl
  have g4 : ∀ {pos : Pos}, PG ((cxOf CX0 P w K mg base ["_law_cells", "_law_stamps", "_law_pile", "_law_cell", "_law_rest", "_law_way", "_law_word", "_law_inner", "_law_look", "_law_name", "_law_many", "_law_made", "_law_last"] "_law_drawn_piece" (defScope (top 14)) f cdv A outer s H E).nox) (.Name "_law_rest" pos) (gName 4) := fun {pos} => pg_name (i := 4) nd rfl l4
  have l5 : Loc (((cxOf CX0 P w K mg base ["_law_cells", "_law_stamps", "_law_pile", "_law_cell", "_law_rest", "_law_way", "_law_word", "_law_inner", "_law_look", "_law_name", "_law_many", "_law_made", "_law_last"] "_law_drawn_piece" (defScope (top 14)) f cdv A outer s H E).nox)).env.scope "_law_way" := by first | exact Or.inl rfl | exact Or.inr rfl
  have g5 : ∀ {pos : Pos}, PG ((cxOf CX0 P w K mg base ["_law_cells", "_law_stamps", "_law_pile", "_law_cell", "_law_rest", "_law_way", "_law_word", "_law_inner", "_law_look", "_law_name", "_law_many", "_law_made", "_law_last"] "_law_drawn_piece" (defScope (top 14)) f cdv A outer s H E).nox) (.Name "_law_way" pos) (gName 5) := fun {pos} => pg_name (i := 5) nd rfl l5
  have l6 : Loc (((cxOf CX0 P w K mg base ["_law_cells", "_law_stamps", "_law_pile", "_law_cell", "_law_rest", "_law_way", "_law_word", "_law_inner", "_law_look", "_law_name", "_law_many", "_law_made", "_law_last"] "_law_drawn_piece" (defScope (top 14)) f cdv A outer s H E).nox)).env.scope "_law_word" := by first | exact Or.inl rfl | exact Or.inr rfl
  have g6 : ∀ {pos : Pos}, PG ((cxOf CX0 P w K mg base ["_law_cells", "_law_stamps", "_law_pile", "_law_cell", "_law_rest", "_law_way", "_law_word", "_law_inner", "_law_look", "_law_name", "_law_many", "_law_made", "_law_last"] "_law_drawn_piece" (defScope (top 14)) f cdv A outer s H E).nox) (.Name "_law_word" pos) (gName 6) := fun {pos} => pg_name (i := 6) nd rfl l6
  have l7 : Loc (((cxOf CX0 P w K mg base ["_law_cells", "_law_stamps", "_law_pile", "_law_cell", "_law_rest", "_law_way", "_law_word", "_law_inner", "_law_look", "_law_name", "_law_many", "_law_made", "_law_last"] "_law_drawn_piece" (defScope (top 14)) f cdv A outer s H E).nox)).env.scope "_law_inner" := by first | exact Or.inl rfl | exact Or.inr rfl
  have g7 : ∀ {pos : Pos}, PG ((cxOf CX0 P w K mg base ["_law_cells", "_law_stamps", "_law_pile", "_law_cell", "_law_rest", "_law_way", "_law_word", "_law_inner", "_law_look", "_law_name", "_law_many", "_law_made", "_law_last"] "_law_drawn_piece" (defScope (top 14)) f cdv A outer s H E).nox) (.Name "_law_inner" pos) (gName 7) := fun {pos} => pg_name (i := 7) nd rfl l7
  have l8 : Loc (((cxOf CX0 P w K mg base ["_law_cells", "_law_stamps", "_law_pile", "_law_cell", "_law_rest", "_law_way", "_law_word", "_law_inner", "_law_look", "_law_name", "_law_many", "_law_made", "_law_last"] "_law_drawn_piece" (defScope (top 14)) f cdv A outer s H E).nox)).env.scope "_law_look" := by first | exact Or.inl rfl | exact Or.inr rfl
  have g8 : ∀ {pos : Pos}, PG ((cxOf CX0 P w K mg base ["_law_cells", "_law_stamps", "_law_pile", "_law_cell", "_law_rest", "_law_way", "_law_word", "_law_inner", "_law_look", "_law_name", "_law_many", "_law_made", "_law_last"] "_law_drawn_piece" (defScope (top 14)) f cdv A outer s H E).nox) (.Name "_law_look" pos) (gName 8) := fun {pos} => pg_name (i := 8) nd rfl l8
  have l9 : Loc (((cxOf CX0 P w K mg base ["_law_cells", "_law_stamps", "_law_pile", "_law_cell", "_law_rest", "_law_way", "_law_word", "_law_inner", "_law_look", "_law_name", "_law_many", "_law_made", "_law_last"] "_law_drawn_piece" (defScope (top 14)) f cdv A outer s H E).nox)).env.scope "_law_name" := by first | exact Or.inl rfl | exact Or.inr rfl
  have g9 : ∀ {pos : Pos}, PG ((cxOf CX0 P w K mg base ["_law_cells", "_law_stamps", "_law_pile", "_law_cell", "_law_rest", "_law_way", "_law_word", "_law_inner", "_law_look", "_law_name", "_law_many", "_law_made", "_law_last"] "_law_drawn_piece" (defScope (top 14)) f cdv A outer s H E).nox) (.Name "_law_name" pos) (gName 9) := fun {pos} => pg_name (i := 9) nd rfl l9
  have l10 : Loc (((cxOf CX0 P w K mg base ["_law_cells", "_law_stamps", "_law_pile", "_law_cell", "_law_rest", "_law_way", "_law_word", "_law_inner", "_law_look", "_law_name", "_law_many", "_law_made", "_law_last"] "_law_drawn_piece" (defScope (top 14)) f cdv A outer s H E).nox)).env.scope "_law_many" := by first | exact Or.inl rfl | exact Or.inr rfl
  have g10 : ∀ {pos : Pos}, PG ((cxOf CX0 P w K mg base ["_law_cells", "_law_stamps", "_law_pile", "_law_cell", "_law_rest", "_law_way", "_law_word", "_law_inner", "_law_look", "_law_name", "_law_many", "_law_made", "_law_last"] "_law_drawn_piece" (defScope (top 14)) f cdv A outer s H E).nox) (.Name "_law_many" pos) (gName 10) := fun {pos} => pg_name (i := 10) nd rfl l10
  have l11 : Loc (((cxOf CX0 P w K mg base ["_law_cells", "_law_stamps", "_law_pile", "_law_cell", "_law_rest", "_law_way", "_law_word", "_law_inner", "_law_look", "_law_name", "_law_many", "_law_made", "_law_last"] "_law_drawn_piece" (defScope (top 14)) f cdv A outer s H E).nox)).env.scope "_law_made" := by first | exact Or.inl rfl | exact Or.inr rfl
  have g11 : ∀ {pos : Pos}, PG ((cxOf CX0 P w K mg base ["_law_cells", "_law_stamps", "_law_pile", "_law_cell", "_law_rest", "_law_way", "_law_word", "_law_inner", "_law_look", "_law_name", "_law_many", "_law_made", "_law_last"] "_law_drawn_piece" (defScope (top 14)) f cdv A outer s H E).nox) (.Name "_law_made" pos) (gName 11) := fun {pos} => pg_name (i := 11) nd rfl l11
  have l12 : Loc (((cxOf CX0 P w K mg base ["_law_cells", "_law_stamps", "_law_pile", "_law_cell", "_law_rest", "_law_way", "_law_word", "_law_inner", "_law_look", "_law_name", "_law_many", "_law_made", "_law_last"] "_law_drawn_piece" (defScope (top 14)) f cdv A outer s H E).nox)).env.scope "_law_last" := by first | exact Or.inl rfl | exact Or.inr rfl
  have g12 : ∀ {pos : Pos}, PG ((cxOf CX0 P w K mg base ["_law_cells", "_law_stamps", "_law_pile", "_law_cell", "_law_rest", "_law_way", "_law_word", "_law_inner", "_law_look", "_law_name", "_law_many", "_law_made", "_law_last"] "_law_drawn_piece" (defScope (top 14)) f cdv A outer s H E).nox) (.Name "_law_last" pos) (gName 12) := fun {pos} => pg_name (i := 12) nd rfl l12
  have k_len : Gl ((cxOf CX0 P w K mg base ["_law_cells", "_law_stamps", "_law_pile", "_law_cell", "_law_rest", "_law_way", "_law_word", "_law_inner", "_law_look", "_law_name", "_law_many", "_law_made", "_law_last"] "_law_drawn_piece" (defScope (top 14)) f cdv A outer s H E).nox) "len" := by rfl
  have k_int : Gl ((cxOf CX0 P w K mg base ["_law_cells", "_law_stamps", "_law_pile", "_law_cell", "_law_rest", "_law_way", "_law_word", "_law_inner", "_law_look", "_law_name", "_law_many", "_law_made", "_law_last"] "_law_drawn_piece" (defScope (top 14)) f cdv A outer s H E).nox) "int" := by rfl
  have k_min : Gl ((cxOf CX0 P w K mg base ["_law_cells", "_law_stamps", "_law_pile", "_law_cell", "_law_rest", "_law_way", "_law_word", "_law_inner", "_law_look", "_law_name", "_law_many", "_law_made", "_law_last"] "_law_drawn_piece" (defScope (top 14)) f cdv A outer s H E).nox) "min" := by rfl
  have k_tuple : Gl ((cxOf CX0 P w K mg base ["_law_cells", "_law_stamps", "_law_pile", "_law_cell", "_law_rest", "_law_way", "_law_word", "_law_inner", "_law_look", "_law_name", "_law_many", "_law_made", "_law_last"] "_law_drawn_piece" (defScope (top 14)) f cdv A outer s H E).nox) "tuple" := by rfl
  have k__law_any_word : Gl ((cxOf CX0 P w K mg base ["_law_cells", "_law_stamps", "_law_pile", "_law_cell", "_law_rest", "_law_way", "_law_word", "_law_inner", "_law_look", "_law_name", "_law_many", "_law_made", "_law_last"] "_law_drawn_piece" (defScope (top 14)) f cdv A outer s H E).nox) "_law_any_word" := by rfl
  have k__law_any : Gl ((cxOf CX0 P w K mg base ["_law_cells", "_law_stamps", "_law_pile", "_law_cell", "_law_rest", "_law_way", "_law_word", "_law_inner", "_law_look", "_law_name", "_law_many", "_law_made", "_law_last"] "_law_drawn_piece" (defScope (top 14)) f cdv A outer s H E).nox) "_law_any" := by rfl
  exact (pss_cons (ps_set (i := 2) nd rfl l2 (pe_lst (pa_cons (pe_tup (pa_cons pe_str (pa_cons pe_str pa_nil))) pa_nil))) (pss_cons (ps_for PassesOwn.never rfl (pi_list p0) g3 (pss_cons (ps_set (i := 4) nd rfl l4 (pe_op op_fdiv p3 pe_int)) (pss_cons (ps_set (i := 5) nd rfl l5 (pe_op op_mod p3 pe_int)) (pss_cons (ps_set (i := 6) nd rfl l6 (pe_ix ix_list (pe_lst (pa_cons pe_str (pa_cons pe_str (pa_cons pe_str (pa_cons pe_str pa_nil))))) (pe_op op_mod p4 pe_int) (fun _ _ => rfl))) (pss_cons (ps_if (pt_cmpR op_eq (pe_op op_mod p4 pe_int) pe_int (nomark _)) (pss_one (ps_set (i := 6) nd rfl l6 (pe_op op_add_str (pe_call G__law_any_word (hr.mono (by decide)) k__law_any_word T.g__law_any_word F__law_any_word.kp b__law_any_word .nil pass0 (pa_cons (pe_op op_fdiv p4 pe_int) pa_nil)) pe_str))) pss_nil) (pss_cons (ps_set (i := 7) nd rfl l7 (pe_slice sl_list p2 (po_some (pe_un un_neg pe_int)) po_none)) (pss_one (ps_if (pw_or (pt_cmpR op_eq p5 pe_int (nomark _)) (pw_or1 (pw_and (pt_cmpR op_eq (pe_callB call_len_seq k_len T.n_len bo_len (pa_cons p7 pa_nil)) pe_int (nomark _)) (pw_and1 (pt_chain op_lt op_lt pe_int p5 pe_int))).pt)).pt (pss_one (ps_expr (pe_bm PySem.F.plainAttrs_list PySem.F.slot_list_append PySem.F.type_list_append mt_append p2 (pa_cons (pe_tup (pa_cons pe_str (pa_cons (pe_ix ix_list (pe_lst (pa_cons (pe_op op_sub (pe_op op_mod p4 pe_int) pe_int) (pa_cons (pe_call G__law_any (hr.mono (by decide)) k__law_any T.g__law_any F__law_any.kp b__law_any .nil pass0 (pa_cons p4 pa_nil)) pa_nil))) (pe_callTy call_int1 k_int T.n_int bo_int (pa_cons (pe_cmpR op_eq (pe_op op_mod p4 pe_int) pe_int (nomark _)) pa_nil)) (fun _ _ => rfl)) pa_nil))) pa_nil)))) (pss_one (ps_if (pt_cmpR op_lt p5 pe_int (nomark _)) (pss_one (ps_expr (pe_bm PySem.F.plainAttrs_list PySem.F.slot_list_append PySem.F.type_list_append mt_append p2 (pa_cons (pe_tup (pa_cons pe_str (pa_cons p6 pa_nil))) pa_nil)))) (pss_one (ps_if (pw_and (pt_cmpR op_eq p5 pe_int (nomark _)) (pw_and1 (pt_cmpR op_eq (pe_callB call_len_seq k_len T.n_len bo_len (pa_cons p7 pa_nil)) pe_int (nomark _)))).pt (pss_one (ps_set (i := 2) nd rfl l2 (pe_op op_cat (pe_slice sl_list p2 po_none (po_some (pe_un un_neg pe_int))) (pe_lst (pa_cons (pe_tup (pa_cons pe_str (pa_cons (pe_ix ix_list p7 pe_int (fun _ _ => rfl)) (pa_cons (pe_ix ix_list p7 pe_int (fun _ _ => rfl)) (pa_cons (pe_ix ix_list p7 pe_int (fun _ _ => rfl)) pa_nil))))) pa_nil))))) (pss_one (ps_if (pt_cmpR op_lt p5 pe_int (nomark _)) (pss_one (ps_set (i := 2) nd rfl l2 (pe_op op_cat (pe_slice sl_list p2 po_none (po_some (pe_un un_neg pe_int))) (pe_lst (pa_cons (pe_tup (pa_cons (pe_ix ix_list (pe_lst (pa_cons pe_str (pa_cons pe_str pa_nil))) (pe_op op_mod p5 pe_int) (fun _ _ => rfl)) (pa_cons (pe_ix ix_list p7 (pe_un un_neg pe_int) (fun _ _ => rfl)) (pa_cons (pe_ix ix_list p7 (pe_un un_neg pe_int) (fun _ _ => rfl)) pa_nil)))) pa_nil))))) (pss_one (ps_if (pt_cmpR op_eq p5 pe_int (nomark _)) (pss_cons (ps_set (i := 8) nd rfl l8 (pe_ix ix_list p7 (pe_un un_neg pe_int) (fun _ _ => rfl))) (pss_cons (ps_if (pt_cmpR op_in_seq (pe_ix ix_tup p8 pe_int (fun _ _ => rfl)) (pe_lst (pa_cons pe_str (pa_cons pe_str pa_nil))) (by with_unfolding_all rfl)) (pss_one (ps_set (i := 8) nd rfl l8 (pe_ix ix_tup p8 pe_int (fun _ _ => rfl)))) pss_nil) (pss_cons (ps_if (pw_and (pt_cmpR op_eq (pe_ix ix_tup p8 pe_int (fun _ _ => rfl)) pe_str (nomark _)) (pw_and1 (pt_cmpR op_gt (pe_op op_mod p4 pe_int) pe_int (nomark _)))).pt (pss_one (ps_set (i := 6) nd rfl l6 (pe_ix ix_tup p8 pe_int (fun _ _ => rfl)))) pss_nil) (pss_one (ps_set (i := 2) nd rfl l2 (pe_op op_cat (pe_slice sl_list p2 po_none (po_some (pe_un un_neg pe_int))) (pe_lst (pa_cons (pe_tup (pa_cons pe_str (pa_cons p6 (pa_cons (pe_ix ix_list p7 (pe_un un_neg pe_int) (fun _ _ => rfl)) (pa_cons (pe_ix ix_list p7 (pe_un un_neg pe_int) (fun _ _ => rfl)) pa_nil))))) pa_nil)))))))) (pss_one (ps_if (pt_cmpR (op_neNil hu0) p1 (pe_lst pa_nil) (nomark _)) (pss_cons (ps_asg (pe_ix ix_list p1 (pe_op op_mod p4 (pe_callB call_len_seq k_len T.n_len bo_len (pa_cons p1 pa_nil))) (fun _ _ => rfl)) (pg_tup rfl (pgs_cons g9 (pgs_cons g10 pgs_nil)))) (pss_cons (ps_set (i := 10) nd rfl l10 (pe_callB (call_min2 rfl) k_min T.n_min bo_min (pa_cons p10 (pa_cons (pe_callB call_len_seq k_len T.n_len bo_len (pa_cons p2 pa_nil)) pa_nil)))) (pss_one (ps_if (pt_cmpR op_eq p10 (pe_ix ix_tup (pe_ix ix_list p1 (pe_op op_mod p4 (pe_callB call_len_seq k_len T.n_len bo_len (pa_cons p1 pa_nil))) (fun _ _ => rfl)) pe_int (fun _ _ => rfl)) (nomark _)) (pss_cons (ps_set (i := 11) nd rfl l11 (pe_callTy call_tuple_of k_tuple T.n_tuple bo_tuple (pa_cons (pe_op op_cat (pe_lst (pa_cons pe_str (pa_cons p9 pa_nil))) (pe_slice sl_list p2 (po_some (pe_op op_sub (pe_callB call_len_seq k_len T.n_len bo_len (pa_cons p2 pa_nil)) p10)) po_none)) pa_nil))) (pss_one (ps_set (i := 2) nd rfl l2 (pe_op op_cat (pe_slice sl_list p2 po_none (po_some (pe_op op_sub (pe_callB call_len_seq k_len T.n_len bo_len (pa_cons p2 pa_nil)) p10))) (pe_lst (pa_cons p11 pa_nil)))))) pss_nil)))) pss_nil)))))))))))))))))) (pss_cons (ps_while PassesOwn.never (pt_cmpR op_gt (pe_callB call_len_seq k_len T.n_len bo_len (pa_cons p2 pa_nil)) pe_int (nomark _)) (pss_cons (ps_set (i := 12) nd rfl l12 (pe_bm0 PySem.F.plainAttrs_list PySem.F.slot_list_pop PySem.F.type_list_pop mt_pop p2)) (pss_one (ps_expr (pe_bm PySem.F.plainAttrs_list PySem.F.slot_list_append PySem.F.type_list_append mt_append p2 (pa_cons (pe_tup (pa_cons pe_str (pa_cons (pe_bm0 PySem.F.plainAttrs_list PySem.F.slot_list_pop PySem.F.type_list_pop mt_pop p2) (pa_cons p12 pa_nil)))) pa_nil)))))) (pss_one (ps_ret (pe_ix ix_list p2 pe_int (fun _ _ => rfl)))))))
theorem sc_main : FnScope ["_law_cells"] ["_law_cells"] (defScope (top 16)) := ⟨rfl, rfl, rfl, by decide +kernel, rfl, by decide +kernel, by decide +kernel⟩
theorem ok_main (F : Fun K "_law_drawn_main" "_law_drawn_main" (top 16) f fd) (T : Txt K mg a) (rc : RC K a.a_Reader)
    {fd__law_drawn_piece : FuncData} (G__law_drawn_piece : FnOk P w K mg base CX0 2 a.a__law_drawn_piece fd__law_drawn_piece ["_law_cells", "_law_stamps"] (spDrawn K SMain)) (F__law_drawn_piece : Fun K "_law_drawn_piece" "_law_drawn_piece" (top 14) a.a__law_drawn_piece fd__law_drawn_piece) (b__law_drawn_piece : Binds K fd__law_drawn_piece ["_law_cells", "_law_stamps"] []) : FnOk P w K mg base CX0 3 f fd ["_law_cells"] (spMain K) := by
  refine F.ok sc_main (fun vs H Q E h => ?_) (fun cdv A outer s H vs Q E hr h => ⟨SW.t_main K SMain, ?_, SW.rd_main h⟩)
  · obtain ⟨_, _, rfl, _⟩ := h
    rfl
  have nd := sc_main.nd
  have hu := hu_of hr
  have hu0 := hr.units0
  have hu2 := hu2_of hr
  have p0 : ∀ {pos : Pos}, PE ((cxOf CX0 P w K mg base ["_law_cells"] "_law_drawn_main" (defScope (top 16)) f cdv A outer s H E).nox) (.Name "_law_cells" pos) (tVar 0) := fun {pos} => pv 0
  have k__law_drawn_piece : Gl ((cxOf CX0 P w K mg base ["_law_cells"] "_law_drawn_main" (defScope (top 16)) f cdv A outer s H E).nox) "_law_drawn_piece" := by rfl
  exact (pss_one (ps_ret (pe_call G__law_drawn_piece (hr.mono (by decide)) k__law_drawn_piece T.g__law_drawn_piece F__law_drawn_piece.kp b__law_drawn_piece .nil pass0 (pa_cons p0 (pa_cons (pe_lst (pa_cons (pe_tup (pa_cons pe_str (pa_cons pe_int pa_nil))) (pa_cons (pe_tup (pa_cons pe_str (pa_cons pe_int pa_nil))) (pa_cons (pe_tup (pa_cons pe_str (pa_cons pe_int pa_nil))) (pa_cons (pe_tup (pa_cons pe_str (pa_cons pe_int pa_nil))) pa_nil))))) pa_nil)))))
theorem sc_ip : FnScope ["_law_found", "_law_todo", "_law_part", "_law_sizes"] ["_law_found"] (defScope (top 17)) := ⟨rfl, rfl, rfl, by decide +kernel, rfl, by decide +kernel, by decide +kernel⟩
theorem ok_ip (F : Fun K "_law_is_piece" "_law_is_piece" (top 17) f fd) (T : Txt K mg a) (rc : RC K a.a_Reader)
    {fd__law_whole : FuncData} (G__law_whole : FnOk P w K mg base CX0 1 a.a__law_whole fd__law_whole ["_law_found"] spWhole) (F__law_whole : Fun K "_law_whole" "_law_whole" (top 12) a.a__law_whole fd__law_whole) (b__law_whole : Binds K fd__law_whole ["_law_found"] [])
    {fd__law_inside : FuncData} (G__law_inside : FnOk P w K mg base CX0 1 a.a__law_inside fd__law_inside ["_law_piece"] spInside) (F__law_inside : Fun K "_law_inside" "_law_inside" (top 15) a.a__law_inside fd__law_inside) (b__law_inside : Binds K fd__law_inside ["_law_piece"] []) : FnOk P w K mg base CX0 2 f fd ["_law_found"] spIsPiece := by
  refine F.ok sc_ip (fun vs H Q E h => ?_) (fun cdv A outer s H vs Q E hr h => ⟨S10.t_ip K, ?_, S10.rd_ip h⟩)
  · obtain ⟨_, _, rfl, _⟩ := h
    rfl
  have nd := sc_ip.nd
  have hu := hu_of hr
  have hu0 := hr.units0
  have hu2 := hu2_of hr
  have p0 : ∀ {pos : Pos}, PE ((cxOf CX0 P w K mg base ["_law_found", "_law_todo", "_law_part", "_law_sizes"] "_law_is_piece" (defScope (top 17)) f cdv A outer s H E).nox) (.Name "_law_found" pos) (tVar 0) := fun {pos} => pv 0
  have p1 : ∀ {pos : Pos}, PE ((cxOf CX0 P w K mg base ["_law_found", "_law_todo", "_law_part", "_law_sizes"] "_law_is_piece" (defScope (top 17)) f cdv A outer s H E).nox) (.Name "_law_todo" pos) (tVar 1) := fun {pos} => pv 1
  have p2 : ∀ {pos : Pos}, PE ((cxOf CX0 P w K mg base ["_law_found", "_law_todo", "_law_part", "_law_sizes"] "_law_is_piece" (defScope (top 17)) f cdv A outer s H E).nox) (.Name "_law_part" pos) (tVar 2) := fun {pos} => pv 2
  have p3 : ∀ {pos : Pos}, PE ((cxOf CX0 P w K mg base ["_law_found", "_law_todo", "_law_part", "_law_sizes"] "_law_is_piece" (defScope (top 17)) f cdv A outer s H E).nox) (.Name "_law_sizes" pos) (tVar 3) := fun {pos} => pv 3
  have l1 : Loc (((cxOf CX0 P w K mg base ["_law_found", "_law_todo", "_law_part", "_law_sizes"] "_law_is_piece" (defScope (top 17)) f cdv A outer s H E).nox)).env.scope "_law_todo" := by first | exact Or.inl rfl | exact Or.inr rfl
  have g1 : ∀ {pos : Pos}, PG ((cxOf CX0 P w K mg base ["_law_found", "_law_todo", "_law_part", "_law_sizes"] "_law_is_piece" (defScope (top 17)) f cdv A outer s H E).nox) (.Name "_law_todo" pos) (gName 1) := fun {pos} => pg_name (i := 1) nd rfl l1
  have l2 : Loc (((cxOf CX0 P w K mg base ["_law_found", "_law_todo", "_law_part", "_law_sizes"] "_law_is_piece" (defScope (top 17)) f cdv A outer s H E).nox)).env.scope "_law_part" := by first | exact Or.inl rfl | exact Or.inr rfl
  have g2 : ∀ {pos : Pos}, PG ((cxOf CX0 P w K mg base ["_law_found", "_law_todo", "_law_part", "_law_sizes"] "_law_is_piece" (defScope (top 17)) f cdv A outer s H E).nox) (.Name "_law_part" pos) (gName 2) := fun {pos} => pg_name (i := 2) nd rfl l2
  have l3 : Loc (((cxOf CX0 P w K mg base ["_law_found", "_law_todo", "_law_part", "_law_sizes"] "_law_is_piece" (defScope (top 17)) f cdv A outer s H E).nox)).env.scope "_law_sizes" := by first | exact Or.inl rfl | exact Or.inr rfl
  have g3 : ∀ {pos : Pos}, PG ((cxOf CX0 P w K mg base ["_law_found", "_law_todo", "_law_part", "_law_sizes"] "_law_is_piece" (defScope (top 17)) f cdv A outer s H E).nox) (.Name "_law_sizes" pos) (gName 3) := fun {pos} => pg_name (i := 3) nd rfl l3
  have k_str : Gl ((cxOf CX0 P w K mg base ["_law_found", "_law_todo", "_law_part", "_law_sizes"] "_law_is_piece" (defScope (top 17)) f cdv A outer s H E).nox) "str" := by rfl
  have k_isinstance : Gl ((cxOf CX0 P w K mg base ["_law_found", "_law_todo", "_law_part", "_law_sizes"] "_law_is_piece" (defScope (top 17)) f cdv A outer s H E).nox) "isinstance" := by rfl
  have k_len : Gl ((cxOf CX0 P w K mg base ["_law_found", "_law_todo", "_law_part", "_law_sizes"] "_law_is_piece" (defScope (top 17)) f cdv A outer s H E).nox) "len" := by rfl
  have k_tuple : Gl ((cxOf CX0 P w K mg base ["_law_found", "_law_todo", "_law_part", "_law_sizes"] "_law_is_piece" (defScope (top 17)) f cdv A outer s H E).nox) "tuple" := by rfl
  have k__law_whole : Gl ((cxOf CX0 P w K mg base ["_law_found", "_law_todo", "_law_part", "_law_sizes"] "_law_is_piece" (defScope (top 17)) f cdv A outer s H E).nox) "_law_whole" := by rfl
  have k__law_inside : Gl ((cxOf CX0 P w K mg base ["_law_found", "_law_todo", "_law_part", "_law_sizes"] "_law_is_piece" (defScope (top 17)) f cdv A outer s H E).nox) "_law_inside" := by rfl
  exact (pss_cons (ps_set (i := 1) nd rfl l1 (pe_lst (pa_cons p0 pa_nil))) (pss_cons (ps_while PassesOwn.never (pt_cmpR (op_neNil hu0) p1 (pe_lst pa_nil) (nomark _)) (pss_cons (ps_set (i := 2) nd rfl l2 (pe_bm0 PySem.F.plainAttrs_list PySem.F.slot_list_pop PySem.F.type_list_pop mt_pop p1)) (pss_cons (ps_if (pw_or (pt_not (pt_val (pe_callB call_isi k_isinstance T.n_isinstance bo_isinstance (pa_cons p2 (pa_cons (pe_bltn (v := .ty "tuple") k_tuple T.n_tuple bo_tuple rfl) pa_nil))))) (pw_or (pt_cmpR op_lt (pe_callB call_len_seq k_len T.n_len bo_len (pa_cons p2 pa_nil)) pe_int (nomark _)) (pw_or1 (pt_not (pt_val (pe_callB call_isi k_isinstance T.n_isinstance bo_isinstance (pa_cons (pe_ix ix_tup p2 pe_int (fun _ _ => rfl)) (pa_cons (pe_bltn (v := .ty "str") k_str T.n_str bo_str rfl) pa_nil)))))))).pt (pss_one (ps_ret pe_bl)) pss_nil) (pss_cons (ps_set (i := 3) nd rfl l3 (pe_disp (pps_cons pe_str pe_int (pps_cons pe_str pe_int (pps_cons pe_str pe_int (pps_cons pe_str pe_int (pps_cons pe_str pe_int (pps_cons pe_str pe_int pps_nil)))))) rfl rfl (by intro z; cases z) (by decide))) (pss_cons (ps_if (pw_and (pt_cmpR op_ne (pe_dget2 hu p3 (pe_ix ix_tup p2 pe_int (fun _ _ => rfl)) pe_int ⟨rfl, rfl, rfl, rfl⟩) (pe_callB call_len_seq k_len T.n_len bo_len (pa_cons p2 pa_nil)) (nomark _)) (pw_and1 (pt_cmpR op_ne (pe_ix ix_tup p2 pe_int (fun _ _ => rfl)) pe_str (nomark _)))).pt (pss_one (ps_ret pe_bl)) pss_nil) (pss_cons (ps_if (pt_cmpR op_eq (pe_ix ix_tup p2 pe_int (fun _ _ => rfl)) pe_str (nomark _)) (pss_one (ps_if (pt_not (pt_val (pe_call G__law_whole (hr.mono (by decide)) k__law_whole T.g__law_whole F__law_whole.kp b__law_whole .nil pass0 (pa_cons (pe_ix ix_tup p2 pe_int (fun _ _ => rfl)) pa_nil)))) (pss_one (ps_ret pe_bl)) pss_nil)) (pss_one (ps_if (pw_and (pt_cmpR op_in_seq (pe_ix ix_tup p2 pe_int (fun _ _ => rfl)) (pe_lst (pa_cons pe_str (pa_cons pe_str (pa_cons pe_str pa_nil)))) (by with_unfolding_all rfl)) (pw_and1 (pt_not (pt_val (pe_callB call_isi k_isinstance T.n_isinstance bo_isinstance (pa_cons (pe_ix ix_tup p2 pe_int (fun _ _ => rfl)) (pa_cons (pe_bltn (v := .ty "str") k_str T.n_str bo_str rfl) pa_nil))))))).pt (pss_one (ps_ret pe_bl)) pss_nil))) (pss_one (ps_set (i := 1) nd rfl l1 (pe_op op_cat p1 (pe_call G__law_inside (hr.mono (by decide)) k__law_inside T.g__law_inside F__law_inside.kp b__law_inside .nil pass0 (pa_cons p2 pa_nil))))))))))) (pss_one (ps_ret pe_bl))))
theorem sc_lo : FnScope ["_law_piece", "_law_line", "_law_todo", "_law_part", "_law_k", "_law_signs"] ["_law_piece"] (defScope (top 18)) := ⟨rfl, rfl, rfl, by decide +kernel, rfl, by decide +kernel, by decide +kernel⟩
theorem ok_lo (F : Fun K "_law_line_of" "_law_line_of" (top 18) f fd) (T : Txt K mg a) (rc : RC K a.a_Reader) : FnOk P w K mg base CX0 1 f fd ["_law_piece"] (spLine SMain) := by
  refine F.ok sc_lo (fun vs H Q E h => ?_) (fun cdv A outer s H vs Q E hr h => ⟨S10.t_lo K, ?_, S10.rd_lo h⟩)
  · obtain ⟨_, _, rfl, _⟩ := h
    rfl
  have nd := sc_lo.nd
  have hu := hu_of hr
  have hu0 := hr.units0
  have hu2 := hu2_of hr
  have p0 : ∀ {pos : Pos}, PE ((cxOf CX0 P w K mg base ["_law_piece", "_law_line", "_law_todo", "_law_part", "_law_k", "_law_signs"] "_law_line_of" (defScope (top 18)) f cdv A outer s H E).nox) (.Name "_law_piece" pos) (tVar 0) := fun {pos} => pv 0
  have p1 : ∀ {pos : Pos}, PE ((cxOf CX0 P w K mg base ["_law_piece", "_law_line", "_law_todo", "_law_part", "_law_k", "_law_signs"] "_law_line_of" (defScope (top 18)) f cdv A outer s H E).nox) (.Name "_law_line" pos) (tVar 1) := fun {pos} => pv 1
  have p2 : ∀ {pos : Pos}, PE ((cxOf CX0 P w K mg base ["_law_piece", "_law_line", "_law_todo", "_law_part", "_law_k", "_law_signs"] "_law_line_of" (defScope (top 18)) f cdv A outer s H E).nox) (.Name "_law_todo" pos) (tVar 2) := fun {pos} => pv 2
  have p3 : ∀ {pos : Pos}, PE ((cxOf CX0 P w K mg base ["_law_piece", "_law_line", "_law_todo", "_law_part", "_law_k", "_law_signs"] "_law_line_of" (defScope (top 18)) f cdv A outer s H E).nox) (.Name "_law_part" pos) (tVar 3) := fun {pos} => pv 3
  have p4 : ∀ {pos : Pos}, PE ((cxOf CX0 P w K mg base ["_law_piece", "_law_line", "_law_todo", "_law_part", "_law_k", "_law_signs"] "_law_line_of" (defScope (top 18)) f cdv A outer s H E).nox) (.Name "_law_k" pos) (tVar 4) := fun {pos} => pv 4
  have p5 : ∀ {pos : Pos}, PE ((cxOf CX0 P w K mg base ["_law_piece", "_law_line", "_law_todo", "_law_part", "_law_k", "_law_signs"] "_law_line_of" (defScope (top 18)) f cdv A outer s H E).nox) (.Name "_law_signs" pos) (tVar 5) := fun {pos} => pv 5
  have l1 : Loc (((cxOf CX0 P w K mg base ["_law_piece", "_law_line", "_law_todo", "_law_part", "_law_k", "_law_signs"] "_law_line_of" (defScope (top 18)) f cdv A outer s H E).nox)).env.scope "_law_line" := by first | exact Or.inl rfl | exact Or.inr rfl
  have g1 : ∀ {pos : Pos}, PG ((cxOf CX0 P w K mg base ["_law_piece", "_law_line", "_law_todo", "_law_part", "_law_k", "_law_signs"] "_law_line_of" (defScope (top 18)) f cdv A outer s H E).nox) (.Name "_law_line" pos) (gName 1) := fun {pos} => pg_name (i := 1) nd rfl l1
  have l2 : Loc (((cxOf CX0 P w K mg base ["_law_piece", "_law_line", "_law_todo", "_law_part", "_law_k", "_law_signs"] "_law_line_of" (defScope (top 18)) f cdv A outer s H E).nox)).env.scope "_law_todo" := by first | exact Or.inl rfl | exact Or.inr rfl
  have g2 : ∀ {pos : Pos}, PG ((cxOf CX0 P w K mg base ["_law_piece", "_law_line", "_law_todo", "_law_part", "_law_k", "_law_signs"] "_law_line_of" (defScope (top 18)) f cdv A outer s H E).nox) (.Name "_law_todo" pos) (gName 2) := fun {pos} => pg_name (i := 2) nd rfl l2
  have l3 : Loc (((cxOf CX0 P w K mg base ["_law_piece", "_law_line", "_law_todo", "_law_part", "_law_k", "_law_signs"] "_law_line_of" (defScope (top 18)) f cdv A outer s H E).nox)).env.scope "_law_part" := by first | exact Or.inl rfl | exact Or.inr rfl
  have g3 : ∀ {pos : Pos}, PG ((cxOf CX0 P w K mg base ["_law_piece", "_law_line", "_law_todo", "_law_part", "_law_k", "_law_signs"] "_law_line_of" (defScope (top 18)) f cdv A outer s H E).nox) (.Name "_law_part" pos) (gName 3) := fun {pos} => pg_name (i := 3) nd rfl l3
  have l4 : Loc (((cxOf CX0 P w K mg base ["_law_piece", "_law_line", "_law_todo", "_law_part", "_law_k", "_law_signs"] "_law_line_of" (defScope (top 18)) f cdv A outer s H E).nox)).env.scope "_law_k" := by first | exact Or.inl rfl | exact Or.inr rfl
  have g4 : ∀ {pos : Pos}, PG ((cxOf CX0 P w K mg base ["_law_piece", "_law_line", "_law_todo", "_law_part", "_law_k", "_law_signs"] "_law_line_of" (defScope (top 18)) f cdv A outer s H E).nox) (.Name "_law_k" pos) (gName 4) := fun {pos} => pg_name (i := 4) nd rfl l4
  have l5 : Loc (((cxOf CX0 P w K mg base ["_law_piece", "_law_line", "_law_todo", "_law_part", "_law_k", "_law_signs"] "_law_line_of" (defScope (top 18)) f cdv A outer s H E).nox)).env.scope "_law_signs" := by first | exact Or.inl rfl | exact Or.inr rfl
  have g5 : ∀ {pos : Pos}, PG ((cxOf CX0 P w K mg base ["_law_piece", "_law_line", "_law_todo", "_law_part", "_law_k", "_law_signs"] "_law_line_of" (defScope (top 18)) f cdv A outer s H E).nox) (.Name "_law_signs" pos) (gName 5) := fun {pos} => pg_name (i := 5) nd rfl l5
  have k_str : Gl ((cxOf CX0 P w K mg base ["_law_piece", "_law_line", "_law_todo", "_law_part", "_law_k", "_law_signs"] "_law_line_of" (defScope (top 18)) f cdv A outer s H E).nox) "str" := by rfl
  have k_isinstance : Gl ((cxOf CX0 P w K mg base ["_law_piece", "_law_line", "_law_todo", "_law_part", "_law_k", "_law_signs"] "_law_line_of" (defScope (top 18)) f cdv A outer s H E).nox) "isinstance" := by rfl
  have k_range : Gl ((cxOf CX0 P w K mg base ["_law_piece", "_law_line", "_law_todo", "_law_part", "_law_k", "_law_signs"] "_law_line_of" (defScope (top 18)) f cdv A outer s H E).nox) "range" := by rfl
  have k_len : Gl ((cxOf CX0 P w K mg base ["_law_piece", "_law_line", "_law_todo", "_law_part", "_law_k", "_law_signs"] "_law_line_of" (defScope (top 18)) f cdv A outer s H E).nox) "len" := by rfl
  exact (pss_cons (ps_set (i := 1) nd rfl l1 pe_str) (pss_cons (ps_set (i := 2) nd rfl l2 (pe_lst (pa_cons p0 pa_nil))) (pss_cons (ps_while PassesOwn.never (pt_cmpR (op_neNil hu0) p2 (pe_lst pa_nil) (nomark _)) (pss_cons (ps_set (i := 3) nd rfl l3 (pe_bm0 PySem.F.plainAttrs_list PySem.F.slot_list_pop PySem.F.type_list_pop mt_pop p2)) (pss_one (ps_if (pt_val (pe_callB call_isi k_isinstance T.n_isinstance bo_isinstance (pa_cons p3 (pa_cons (pe_bltn (v := .ty "str") k_str T.n_str bo_str rfl) pa_nil)))) (pss_one (ps_set (i := 1) nd rfl l1 (pe_op op_add_str p1 p3))) (pss_one (ps_if (pt_cmpR op_eq (pe_ix ix_tup p3 pe_int (fun _ _ => rfl)) pe_str (nomark _)) (pss_one (ps_set (i := 1) nd rfl l1 (pe_op op_add_str p1 (pe_callTy call_str_int k_str T.n_str bo_str (pa_cons (pe_ix ix_tup p3 pe_int (fun _ _ => rfl)) pa_nil))))) (pss_one (ps_if (pt_cmpR op_eq (pe_ix ix_tup p3 pe_int (fun _ _ => rfl)) pe_str (nomark _)) (pss_one (ps_set (i := 1) nd rfl l1 (pe_op op_add_str p1 (pe_ix ix_tup p3 pe_int (fun _ _ => rfl))))) (pss_one (ps_if (pt_cmpR op_eq (pe_ix ix_tup p3 pe_int (fun _ _ => rfl)) pe_str (nomark _)) (pss_cons (ps_set (i := 1) nd rfl l1 (pe_op op_add_str (pe_op op_add_str (pe_op op_add_str p1 pe_str) (pe_ix ix_tup p3 pe_int (fun _ _ => rfl))) pe_str)) (pss_one (ps_set (i := 2) nd rfl l2 (pe_op op_cat p2 (pe_lst (pa_cons (pe_ix ix_tup p3 pe_int (fun _ _ => rfl)) (pa_cons pe_str (pa_cons (pe_ix ix_tup p3 pe_int (fun _ _ => rfl)) pa_nil)))))))) (pss_one (ps_if (pt_cmpR op_eq (pe_ix ix_tup p3 pe_int (fun _ _ => rfl)) pe_str (nomark _)) (pss_cons (ps_set (i := 1) nd rfl l1 (pe_op op_add_str (pe_op op_add_str p1 (pe_ix ix_tup p3 pe_int (fun _ _ => rfl))) pe_str)) (pss_cons (ps_expr (pe_bm PySem.F.plainAttrs_list PySem.F.slot_list_append PySem.F.type_list_append mt_append p2 (pa_cons pe_str pa_nil))) (pss_one (ps_for PassesOwn.never rfl (pi_rangeD k_range T.n_range (pa_cons (pe_op op_sub (pe_callB call_len_seq k_len T.n_len bo_len (pa_cons p3 pa_nil)) pe_int) (pa_cons pe_int (pa_cons (pe_un un_neg pe_int) pa_nil)))) g4 (pss_cons (ps_expr (pe_bm PySem.F.plainAttrs_list PySem.F.slot_list_append PySem.F.type_list_append mt_append p2 (pa_cons (pe_ix ix_tup p3 p4 (fun _ _ => rfl)) pa_nil))) (pss_one (ps_if (pt_cmpR op_gt p4 pe_int (nomark _)) (pss_one (ps_expr (pe_bm PySem.F.plainAttrs_list PySem.F.slot_list_append PySem.F.type_list_append mt_append p2 (pa_cons pe_str pa_nil)))) pss_nil))))))) (pss_cons (ps_set (i := 5) nd rfl l5 (pe_disp (pps_cons pe_str pe_str (pps_cons pe_str pe_str (pps_cons pe_str pe_str pps_nil))) rfl rfl (by intro z; cases z) (by decide))) (pss_cons (ps_set (i := 1) nd rfl l1 (pe_op op_add_str p1 pe_str)) (pss_cons (ps_expr (pe_bm PySem.F.plainAttrs_list PySem.F.slot_list_append PySem.F.type_list_append mt_append p2 (pa_cons pe_str pa_nil))) (pss_cons (ps_if (pt_cmpR op_eq (pe_ix ix_tup p3 pe_int (fun _ _ => rfl)) pe_str (nomark _)) (pss_one (ps_set (i := 2) nd rfl l2 (pe_op op_cat p2 (pe_lst (pa_cons (pe_ix ix_tup p3 pe_int (fun _ _ => rfl)) (pa_cons pe_str pa_nil)))))) pss_nil) (pss_one (ps_set (i := 2) nd rfl l2 (pe_op op_cat p2 (pe_lst (pa_cons (pe_ix ix_tup p3 pe_int (fun _ _ => rfl)) (pa_cons (pe_dget hu p5 (pe_ix ix_tup p3 pe_int (fun _ _ => rfl)) (fun _ _ => rfl)) (pa_cons (pe_ix ix_tup p3 pe_int (fun _ _ => rfl)) pa_nil))))))))))))))))))))))) (pss_one (ps_ret p1)))))
theorem sc_wc : FnScope ["pieces", "sections", "piece"] ["pieces"] (defScope (top 6)) := ⟨rfl, rfl, rfl, by decide +kernel, rfl, by decide +kernel, by decide +kernel⟩
theorem ok_wc (F : Fun K "with_commas" "with_commas" (top 6) f fd) (T : Txt K mg a) (rc : RC K a.a_Reader) : FnOk P w K mg base CX0 1 f fd ["pieces"] spCommas := by
  refine F.ok sc_wc (fun vs H Q E h => ?_) (fun cdv A outer s H vs Q E hr h => ⟨S10.t_wc K, ?_, S10.rd_wc h⟩)
  · obtain ⟨_, _, _, rfl, _⟩ := h
    rfl
  have nd := sc_wc.nd
  have hu := hu_of hr
  have hu0 := hr.units0
  have hu2 := hu2_of hr
  have p0 : ∀ {pos : Pos}, PE ((cxOf CX0 P w K mg base ["pieces", "sections", "piece"] "with_commas" (defScope (top 6)) f cdv A outer s H E).nox) (.Name "pieces" pos) (tVar 0) := fun {pos} => pv 0
  have p1 : ∀ {pos : Pos}, PE ((cxOf CX0 P w K mg base ["pieces", "sections", "piece"] "with_commas" (defScope (top 6)) f cdv A outer s H E).nox) (.Name "sections" pos) (tVar 1) := fun {pos} => pv 1
  have p2 : ∀ {pos : Pos}, PE ((cxOf CX0 P w K mg base ["pieces", "sections", "piece"] "with_commas" (defScope (top 6)) f cdv A outer s H E).nox) (.Name "piece" pos) (tVar 2) := fun {pos} => pv 2
  have l1 : Loc (((cxOf CX0 P w K mg base ["pieces", "sections", "piece"] "with_commas" (defScope (top 6)) f cdv A outer s H E).nox)).env.scope "sections" := by first | exact Or.inl rfl | exact Or.inr rfl
  have g1 : ∀ {pos : Pos}, PG ((cxOf CX0 P w K mg base ["pieces", "sections", "piece"] "with_commas" (defScope (top 6)) f cdv A outer s H E).nox) (.Name "sections" pos) (gName 1) := fun {pos} => pg_name (i := 1) nd rfl l1
  have l2 : Loc (((cxOf CX0 P w K mg base ["pieces", "sections", "piece"] "with_commas" (defScope (top 6)) f cdv A outer s H E).nox)).env.scope "piece" := by first | exact Or.inl rfl | exact Or.inr rfl
  have g2 : ∀ {pos : Pos}, PG ((cxOf CX0 P w K mg base ["pieces", "sections", "piece"] "with_commas" (defScope (top 6)) f cdv A outer s H E).nox) (.Name "piece" pos) (gName 2) := fun {pos} => pg_name (i := 2) nd rfl l2
  have k_len : Gl ((cxOf CX0 P w K mg base ["pieces", "sections", "piece"] "with_commas" (defScope (top 6)) f cdv A outer s H E).nox) "len" := by rfl
  exact (pss_cons (ps_set (i := 1) nd rfl l1 (pe_lst pa_nil)) (pss_cons (ps_for PassesOwn.never rfl (pi_tup p0) g2 (pss_cons (ps_if (pt_cmpR op_gt (pe_callB call_len_seq k_len T.n_len bo_len (pa_cons p1 pa_nil)) pe_int (nomark _)) (pss_one (ps_expr (pe_bm PySem.F.plainAttrs_list PySem.F.slot_list_append PySem.F.type_list_append mt_append p1 (pa_cons pe_str pa_nil)))) pss_nil) (pss_one (ps_expr (pe_bm PySem.F.plainAttrs_list PySem.F.slot_list_append PySem.F.type_list_append mt_append p1 (pa_cons p2 pa_nil)))))) (pss_one (ps_ret p1))))
theorem sc_sc : FnScope ["piece", "kind"] ["piece"] (defScope (top 7)) := ⟨rfl, rfl, rfl, by decide +kernel, rfl, by decide +kernel, by decide +kernel⟩
theorem ok_sc (F : Fun K "sections_of" "sections_of" (top 7) f fd) (T : Txt K mg a) (rc : RC K a.a_Reader)
    {fd_with_commas : FuncData} (G_with_commas : FnOk P w K mg base CX0 1 a.a_with_commas fd_with_commas ["pieces"] spCommas) (F_with_commas : Fun K "with_commas" "with_commas" (top 6) a.a_with_commas fd_with_commas) (b_with_commas : Binds K fd_with_commas ["pieces"] []) : FnOk P w K mg base CX0 2 f fd ["piece"] spSecs := by
  refine F.ok sc_sc (fun vs H Q E h => ?_) (fun cdv A outer s H vs Q E hr h => ⟨S10.t_sc K, ?_, S10.rd_sc h⟩)
  · obtain ⟨_, _, rfl, _⟩ := h
    rfl
  have nd := sc_sc.nd
  have hu := hu_of hr
  have hu0 := hr.units0
  have hu2 := hu2_of hr
  have p0 : ∀ {pos : Pos}, PE ((cxOf CX0 P w K mg base ["piece", "kind"] "sections_of" (defScope (top 7)) f cdv A outer s H E).nox) (.Name "piece" pos) (tVar 0) := fun {pos} => pv 0
  have p1 : ∀ {pos : Pos}, PE ((cxOf CX0 P w K mg base ["piece", "kind"] "sections_of" (defScope (top 7)) f cdv A outer s H E).nox) (.Name "kind" pos) (tVar 1) := fun {pos} => pv 1
  have l1 : Loc (((cxOf CX0 P w K mg base ["piece", "kind"] "sections_of" (defScope (top 7)) f cdv A outer s H E).nox)).env.scope "kind" := by first | exact Or.inl rfl | exact Or.inr rfl
  have g1 : ∀ {pos : Pos}, PG ((cxOf CX0 P w K mg base ["piece", "kind"] "sections_of" (defScope (top 7)) f cdv A outer s H E).nox) (.Name "kind" pos) (gName 1) := fun {pos} => pg_name (i := 1) nd rfl l1
  have k_str : Gl ((cxOf CX0 P w K mg base ["piece", "kind"] "sections_of" (defScope (top 7)) f cdv A outer s H E).nox) "str" := by rfl
  have k_with_commas : Gl ((cxOf CX0 P w K mg base ["piece", "kind"] "sections_of" (defScope (top 7)) f cdv A outer s H E).nox) "with_commas" := by rfl
  exact (pss_cons (ps_set (i := 1) nd rfl l1 (pe_ix ix_tup p0 pe_int (fun _ _ => rfl))) (pss_cons (ps_if (pt_cmpR op_eq p1 pe_str (nomark _)) (pss_one (ps_ret (pe_lst (pa_cons (pe_callTy call_str_int k_str T.n_str bo_str (pa_cons (pe_ix ix_tup p0 pe_int (fun _ _ => rfl)) pa_nil)) pa_nil)))) pss_nil) (pss_cons (ps_if (pt_cmpR op_eq p1 pe_str (nomark _)) (pss_one (ps_ret (pe_lst (pa_cons (pe_ix ix_tup p0 pe_int (fun _ _ => rfl)) pa_nil)))) pss_nil) (pss_cons (ps_if (pt_cmpR op_eq p1 pe_str (nomark _)) (pss_one (ps_ret (pe_lst (pa_cons pe_str (pa_cons (pe_ix ix_tup p0 pe_int (fun _ _ => rfl)) (pa_cons pe_str (pa_cons (pe_ix ix_tup p0 pe_int (fun _ _ => rfl)) (pa_cons pe_str pa_nil)))))))) pss_nil) (pss_cons (ps_if (pt_cmpR op_eq p1 pe_str (nomark _)) (pss_one (ps_ret (pe_lst (pa_cons pe_str (pa_cons (pe_ix ix_tup p0 pe_int (fun _ _ => rfl)) (pa_cons pe_str (pa_cons (pe_ix ix_tup p0 pe_int (fun _ _ => rfl)) (pa_cons pe_str pa_nil)))))))) pss_nil) (pss_cons (ps_if (pt_cmpR op_eq p1 pe_str (nomark _)) (pss_one (ps_ret (pe_lst (pa_cons pe_str (pa_cons (pe_ix ix_tup p0 pe_int (fun _ _ => rfl)) (pa_cons pe_str (pa_cons (pe_ix ix_tup p0 pe_int (fun _ _ => rfl)) (pa_cons pe_str (pa_cons (pe_ix ix_tup p0 pe_int (fun _ _ => rfl)) (pa_cons pe_str pa_nil)))))))))) pss_nil) (pss_cons (ps_if (pt_cmpR op_eq p1 pe_str (nomark _)) (pss_one (ps_ret (pe_lst (pa_cons pe_str (pa_cons (pe_ix ix_tup p0 pe_int (fun _ _ => rfl)) (pa_cons pe_str (pa_cons (pe_ix ix_tup p0 pe_int (fun _ _ => rfl)) (pa_cons pe_str (pa_cons (pe_ix ix_tup p0 pe_int (fun _ _ => rfl)) pa_nil))))))))) pss_nil) (pss_one (ps_ret (pe_op op_cat (pe_op op_cat (pe_lst (pa_cons (pe_ix ix_tup p0 pe_int (fun _ _ => rfl)) (pa_cons pe_str pa_nil))) (pe_call G_with_commas (hr.mono (by decide)) k_with_commas T.g_with_commas F_with_commas.kp b_with_commas .nil pass0 (pa_cons (pe_slice sl_tup p0 (po_some pe_int) po_none) pa_nil))) (pe_lst (pa_cons pe_str pa_nil))))))))))))
theorem sc_sh : FnScope ["piece", "texts", "waiting", "section", "inner"] ["piece"] (defScope (top 8)) := ⟨rfl, rfl, rfl, by decide +kernel, rfl, by decide +kernel, by decide +kernel⟩
theorem ok_sh (F : Fun K "shown" "shown" (top 8) f fd) (T : Txt K mg a) (rc : RC K a.a_Reader)
    {fd_sections_of : FuncData} (G_sections_of : FnOk P w K mg base CX0 2 a.a_sections_of fd_sections_of ["piece"] spSecs) (F_sections_of : Fun K "sections_of" "sections_of" (top 7) a.a_sections_of fd_sections_of) (b_sections_of : Binds K fd_sections_of ["piece"] []) : FnOk P w K mg base CX0 3 f fd ["piece"] spShown := by
  refine F.ok sc_sh (fun vs H Q E h => ?_) (fun cdv A outer s H vs Q E hr h => ⟨S10.t_sh K, ?_, S10.rd_sh h⟩)
  · obtain ⟨_, _, rfl, _⟩ := h
    rfl
  have nd := sc_sh.nd
  have hu := hu_of hr
  have hu0 := hr.units0
  have hu2 := hu2_of hr
  have p0 : ∀ {pos : Pos}, PE ((cxOf CX0 P w K mg base ["piece", "texts", "waiting", "section", "inner"] "shown" (defScope (top 8)) f cdv A outer s H E).nox) (.Name "piece" pos) (tVar 0) := fun {pos} => pv 0
  have p1 : ∀ {pos : Pos}, PE ((cxOf CX0 P w K mg base ["piece", "texts", "waiting", "section", "inner"] "shown" (defScope (top 8)) f cdv A outer s H E).nox) (.Name "texts" pos) (tVar 1) := fun {pos} => pv 1
  have p2 : ∀ {pos : Pos}, PE ((cxOf CX0 P w K mg base ["piece", "texts", "waiting", "section", "inner"] "shown" (defScope (top 8)) f cdv A outer s H E).nox) (.Name "waiting" pos) (tVar 2) := fun {pos} => pv 2
  have p3 : ∀ {pos : Pos}, PE ((cxOf CX0 P w K mg base ["piece", "texts", "waiting", "section", "inner"] "shown" (defScope (top 8)) f cdv A outer s H E).nox) (.Name "section" pos) (tVar 3) := fun {pos} => pv 3
  have p4 : ∀ {pos : Pos}, PE ((cxOf CX0 P w K mg base ["piece", "texts", "waiting", "section", "inner"] "shown" (defScope (top 8)) f cdv A outer s H E).nox) (.Name "inner" pos) (tVar 4) := fun {pos} => pv 4
  have l1 : Loc (((cxOf CX0 P w K mg base ["piece", "texts", "waiting", "section", "inner"] "shown" (defScope (top 8)) f cdv A outer s H E).nox)).env.scope "texts" := by first | exact Or.inl rfl | exact Or.inr rfl
  have g1 : ∀ {pos : Pos}, PG ((cxOf CX0 P w K mg base ["piece", "texts", "waiting", "section", "inner"] "shown" (defScope (top 8)) f cdv A outer s H E).nox) (.Name "texts" pos) (gName 1) := fun {pos} => pg_name (i := 1) nd rfl l1
  have l2 : Loc (((cxOf CX0 P w K mg base ["piece", "texts", "waiting", "section", "inner"] "shown" (defScope (top 8)) f cdv A outer s H E).nox)).env.scope "waiting" := by first | exact Or.inl rfl | exact Or.inr rfl
  have g2 : ∀ {pos : Pos}, PG ((cxOf CX0 P w K mg base ["piece", "texts", "waiting", "section", "inner"] "shown" (defScope (top 8)) f cdv A outer s H E).nox) (.Name "waiting" pos) (gName 2) := fun {pos} => pg_name (i := 2) nd rfl l2
  have l3 : Loc (((cxOf CX0 P w K mg base ["piece", "texts", "waiting", "section", "inner"] "shown" (defScope (top 8)) f cdv A outer s H E).nox)).env.scope "section" := by first | exact Or.inl rfl | exact Or.inr rfl
  have g3 : ∀ {pos : Pos}, PG ((cxOf CX0 P w K mg base ["piece", "texts", "waiting", "section", "inner"] "shown" (defScope (top 8)) f cdv A outer s H E).nox) (.Name "section" pos) (gName 3) := fun {pos} => pg_name (i := 3) nd rfl l3
  have l4 : Loc (((cxOf CX0 P w K mg base ["piece", "texts", "waiting", "section", "inner"] "shown" (defScope (top 8)) f cdv A outer s H E).nox)).env.scope "inner" := by first | exact Or.inl rfl | exact Or.inr rfl
  have g4 : ∀ {pos : Pos}, PG ((cxOf CX0 P w K mg base ["piece", "texts", "waiting", "section", "inner"] "shown" (defScope (top 8)) f cdv A outer s H E).nox) (.Name "inner" pos) (gName 4) := fun {pos} => pg_name (i := 4) nd rfl l4
  have k_len : Gl ((cxOf CX0 P w K mg base ["piece", "texts", "waiting", "section", "inner"] "shown" (defScope (top 8)) f cdv A outer s H E).nox) "len" := by rfl
  have k_str : Gl ((cxOf CX0 P w K mg base ["piece", "texts", "waiting", "section", "inner"] "shown" (defScope (top 8)) f cdv A outer s H E).nox) "str" := by rfl
  have k_isinstance : Gl ((cxOf CX0 P w K mg base ["piece", "texts", "waiting", "section", "inner"] "shown" (defScope (top 8)) f cdv A outer s H E).nox) "isinstance" := by rfl
  have k_reversed : Gl ((cxOf CX0 P w K mg base ["piece", "texts", "waiting", "section", "inner"] "shown" (defScope (top 8)) f cdv A outer s H E).nox) "reversed" := by rfl
  have k_sections_of : Gl ((cxOf CX0 P w K mg base ["piece", "texts", "waiting", "section", "inner"] "shown" (defScope (top 8)) f cdv A outer s H E).nox) "sections_of" := by rfl
  exact (pss_cons (ps_set (i := 1) nd rfl l1 (pe_lst pa_nil)) (pss_cons (ps_set (i := 2) nd rfl l2 (pe_lst (pa_cons p0 pa_nil))) (pss_cons (ps_while PassesOwn.never (pt_cmpR op_gt (pe_callB call_len_seq k_len T.n_len bo_len (pa_cons p2 pa_nil)) pe_int (nomark _)) (pss_cons (ps_set (i := 3) nd rfl l3 (pe_bm0 PySem.F.plainAttrs_list PySem.F.slot_list_pop PySem.F.type_list_pop mt_pop p2)) (pss_one (ps_if (pt_val (pe_callB call_isi k_isinstance T.n_isinstance bo_isinstance (pa_cons p3 (pa_cons (pe_bltn (v := .ty "str") k_str T.n_str bo_str rfl) pa_nil)))) (pss_one (ps_expr (pe_bm PySem.F.plainAttrs_list PySem.F.slot_list_append PySem.F.type_list_append mt_append p1 (pa_cons p3 pa_nil)))) (pss_one (ps_for PassesOwn.never rfl (pi_rev k_reversed T.n_reversed (pe_call G_sections_of (hr.mono (by decide)) k_sections_of T.g_sections_of F_sections_of.kp b_sections_of .nil pass0 (pa_cons p3 pa_nil))) g4 (pss_one (ps_expr (pe_bm PySem.F.plainAttrs_list PySem.F.slot_list_append PySem.F.type_list_append mt_append p2 (pa_cons p4 pa_nil)))))))))) (pss_one (ps_ret (pe_bm PySem.F.plainAttrs_str PySem.F.slot_str_join PySem.F.type_str_join mt_join pe_str (pa_cons p1 pa_nil)))))))
theorem sc_ri : FnScope ["self", "line"] ["self", "line"] (defScope (inClass (top 9) 0)) := ⟨rfl, rfl, rfl, by decide +kernel, rfl, by decide +kernel, by decide +kernel⟩
theorem ok_ri (F : Fun K "__init__" "Reader.__init__" (inClass (top 9) 0) f fd) (T : Txt K mg a) (rc : RC K a.a_Reader) : FnOk P w K mg base CX0 1 f fd ["self", "line"] (spInit a.a_Reader) := by
  refine F.ok sc_ri (fun vs H Q E h => ?_) (fun cdv A outer s H vs Q E hr h => ⟨S10.t_ri K a.a_Reader, ?_, S10.rd_ri rc h⟩)
  · obtain ⟨_, _, _, rfl, _⟩ := h
    rfl
  have nd := sc_ri.nd
  have hu := hu_of hr
  have hu0 := hr.units0
  have hu2 := hu2_of hr
  have p0 : ∀ {pos : Pos}, PE ((cxOf CX0 P w K mg base ["self", "line"] "Reader.__init__" (defScope (inClass (top 9) 0)) f cdv A outer s H E).nox) (.Name "self" pos) (tVar 0) := fun {pos} => pv 0
  have p1 : ∀ {pos : Pos}, PE ((cxOf CX0 P w K mg base ["self", "line"] "Reader.__init__" (defScope (inClass (top 9) 0)) f cdv A outer s H E).nox) (.Name "line" pos) (tVar 1) := fun {pos} => pv 1
  exact (pss_cons (ps_fld p0 p1 rfl) (pss_cons (ps_fld p0 pe_int rfl) (pss_cons (ps_fld p0 (pe_lst (pa_cons (pe_tup (pa_cons pe_str pa_nil)) pa_nil)) rfl) (pss_one (ps_fld p0 (pe_lst pa_nil) rfl)))))
theorem sc_sk : FnScope ["self", "sign"] ["self", "sign"] (defScope (inClass (top 9) 2)) := ⟨rfl, rfl, rfl, by decide +kernel, rfl, by decide +kernel, by decide +kernel⟩
theorem ok_sk (F : Fun K "skip" "Reader.skip" (inClass (top 9) 2) f fd) (T : Txt K mg a) (rc : RC K a.a_Reader) : FnOk P w K mg base CX0 1 f fd ["self", "sign"] (spSkip a.a_Reader) := by
  refine F.ok sc_sk (fun vs H Q E h => ?_) (fun cdv A outer s H vs Q E hr h => ⟨S10.t_sk K a.a_Reader, ?_, S10.rd_sk rc h⟩)
  · obtain ⟨_, _, _, _, _, _, _, _, rfl, _⟩ := h
    rfl
  have nd := sc_sk.nd
  have hu := hu_of hr
  have hu0 := hr.units0
  have hu2 := hu2_of hr
  have p0 : ∀ {pos : Pos}, PE ((cxOf CX0 P w K mg base ["self", "sign"] "Reader.skip" (defScope (inClass (top 9) 2)) f cdv A outer s H E).nox) (.Name "self" pos) (tVar 0) := fun {pos} => pv 0
  have p1 : ∀ {pos : Pos}, PE ((cxOf CX0 P w K mg base ["self", "sign"] "Reader.skip" (defScope (inClass (top 9) 2)) f cdv A outer s H E).nox) (.Name "sign" pos) (tVar 1) := fun {pos} => pv 1
  have k_len : Gl ((cxOf CX0 P w K mg base ["self", "sign"] "Reader.skip" (defScope (inClass (top 9) 2)) f cdv A outer s H E).nox) "len" := by rfl
  exact (pss_cons (ps_if (pt_not (pt_val (pe_bm PySem.F.plainAttrs_str PySem.F.slot_str_startswith PySem.F.type_str_startswith mt_starts (pe_fld p0 rfl) (pa_cons p1 (pa_cons (pe_fld p0 rfl) pa_nil))))) (pss_one (ps_ret pe_bl)) pss_nil) (pss_cons (ps_fldaug p0 (pe_callB call_len_str k_len T.n_len bo_len (pa_cons p1 pa_nil)) in_add) (pss_one (ps_ret pe_bl))))
theorem sc_nd : FnScope ["self", "sign"] ["self", "sign"] (defScope (inClass (top 9) 3)) := ⟨rfl, rfl, rfl, by decide +kernel, rfl, by decide +kernel, by decide +kernel⟩
theorem ok_nd (F : Fun K "need" "Reader.need" (inClass (top 9) 3) f fd) (T : Txt K mg a) (rc : RC K a.a_Reader)
    {fd_Reader_skip : FuncData} (G_Reader_skip : FnOk P w K mg base CX0 1 a.a_Reader_skip fd_Reader_skip ["self", "sign"] (spSkip a.a_Reader)) (F_Reader_skip : Fun K "skip" "Reader.skip" (inClass (top 9) 2) a.a_Reader_skip fd_Reader_skip) (b_Reader_skip : Binds K fd_Reader_skip ["self", "sign"] []) (m_Reader_skip : Meth K a.a_Reader "skip" a.a_Reader_skip)
    {fd_Reader_refuse : FuncData} (G_Reader_refuse : FnOk P w K mg base CX0 1 a.a_Reader_refuse fd_Reader_refuse ["self", "wanted"] spNo2) (F_Reader_refuse : Fun K "refuse" "Reader.refuse" (inClass (top 9) 1) a.a_Reader_refuse fd_Reader_refuse) (b_Reader_refuse : Binds K fd_Reader_refuse ["self", "wanted"] []) (m_Reader_refuse : Meth K a.a_Reader "refuse" a.a_Reader_refuse) : FnOk P w K mg base CX0 2 f fd ["self", "sign"] (spNeed a.a_Reader) := by
  refine F.ok sc_nd (fun vs H Q E h => ?_) (fun cdv A outer s H vs Q E hr h => ⟨S10.t_nd K a.a_Reader, ?_, S10.rd_nd h⟩)
  · obtain ⟨_, _, _, _, _, _, _, _, rfl, _⟩ := h
    rfl
  have nd := sc_nd.nd
  have hu := hu_of hr
  have hu0 := hr.units0
  have hu2 := hu2_of hr
  have p0 : ∀ {pos : Pos}, PE ((cxOf CX0 P w K mg base ["self", "sign"] "Reader.need" (defScope (inClass (top 9) 3)) f cdv A outer s H E).nox) (.Name "self" pos) (tVar 0) := fun {pos} => pv 0
  have p1 : ∀ {pos : Pos}, PE ((cxOf CX0 P w K mg base ["self", "sign"] "Reader.need" (defScope (inClass (top 9) 3)) f cdv A outer s H E).nox) (.Name "sign" pos) (tVar 1) := fun {pos} => pv 1
  exact (pss_one (ps_if (pt_not (pt_val (pe_meth p0 T.cl_Reader m_Reader_skip G_Reader_skip (hr.mono (by decide)) b_Reader_skip .nil pass0 (pa_cons p1 pa_nil)))) (pss_one (ps_expr (pe_meth p0 T.cl_Reader m_Reader_refuse G_Reader_refuse (hr.mono (by decide)) b_Reader_refuse .nil pass0 (pa_cons p1 pa_nil)))) pss_nil))
theorem sc_ro : FnScope ["self", "signs", "begin"] ["self", "signs"] (defScope (inClass (top 9) 4)) := ⟨rfl, rfl, rfl, by decide +kernel, rfl, by decide +kernel, by decide +kernel⟩
theorem ok_ro (F : Fun K "run_of" "Reader.run_of" (inClass (top 9) 4) f fd) (T : Txt K mg a) (rc : RC K a.a_Reader) : FnOk P w K mg base CX0 1 f fd ["self", "signs"] (spRun a.a_Reader) := by
  refine F.ok sc_ro (fun vs H Q E h => ?_) (fun cdv A outer s H vs Q E hr h => ⟨S10.t_ro K a.a_Reader, ?_, S10.rd_ro rc h⟩)
  · obtain ⟨_, _, _, _, _, _, _, _, rfl, _⟩ := h
    rfl
  have nd := sc_ro.nd
  have hu := hu_of hr
  have hu0 := hr.units0
  have hu2 := hu2_of hr
  have p0 : ∀ {pos : Pos}, PE ((cxOf CX0 P w K mg base ["self", "signs", "begin"] "Reader.run_of" (defScope (inClass (top 9) 4)) f cdv A outer s H E).nox) (.Name "self" pos) (tVar 0) := fun {pos} => pv 0
  have p1 : ∀ {pos : Pos}, PE ((cxOf CX0 P w K mg base ["self", "signs", "begin"] "Reader.run_of" (defScope (inClass (top 9) 4)) f cdv A outer s H E).nox) (.Name "signs" pos) (tVar 1) := fun {pos} => pv 1
  have p2 : ∀ {pos : Pos}, PE ((cxOf CX0 P w K mg base ["self", "signs", "begin"] "Reader.run_of" (defScope (inClass (top 9) 4)) f cdv A outer s H E).nox) (.Name "begin" pos) (tVar 2) := fun {pos} => pv 2
  have l2 : Loc (((cxOf CX0 P w K mg base ["self", "signs", "begin"] "Reader.run_of" (defScope (inClass (top 9) 4)) f cdv A outer s H E).nox)).env.scope "begin" := by first | exact Or.inl rfl | exact Or.inr rfl
  have g2 : ∀ {pos : Pos}, PG ((cxOf CX0 P w K mg base ["self", "signs", "begin"] "Reader.run_of" (defScope (inClass (top 9) 4)) f cdv A outer s H E).nox) (.Name "begin" pos) (gName 2) := fun {pos} => pg_name (i := 2) nd rfl l2
  have k_len : Gl ((cxOf CX0 P w K mg base ["self", "signs", "begin"] "Reader.run_of" (defScope (inClass (top 9) 4)) f cdv A outer s H E).nox) "len" := by rfl
  exact (pss_cons (ps_set (i := 2) nd rfl l2 (pe_fld p0 rfl)) (pss_cons (ps_while PassesOwn.never (pw_and (pt_cmpR op_lt (pe_fld p0 rfl) (pe_callB call_len_str k_len T.n_len bo_len (pa_cons (pe_fld p0 rfl) pa_nil)) (nomark _)) (pw_and1 (pt_cmpR op_in_str (pe_ix ix_str (pe_fld p0 rfl) (pe_fld p0 rfl) (fun _ _ => rfl)) p1 (by with_unfolding_all rfl)))).pt (pss_one (ps_fldaug p0 pe_int in_add))) (pss_one (ps_ret (pe_slice sl_str (pe_fld p0 rfl) (po_some p2) (po_some (pe_fld p0 rfl)))))))
theorem sc_rb : FnScope ["self", "word"] ["self", "word"] (defScope (inClass (top 9) 6)) := ⟨rfl, rfl, rfl, by decide +kernel, rfl, by decide +kernel, by decide +kernel⟩
theorem ok_rb (F : Fun K "read_behind_word" "Reader.read_behind_word" (inClass (top 9) 6) f fd) (T : Txt K mg a) (rc : RC K a.a_Reader)
    {fd_Reader_skip : FuncData} (G_Reader_skip : FnOk P w K mg base CX0 1 a.a_Reader_skip fd_Reader_skip ["self", "sign"] (spSkip a.a_Reader)) (F_Reader_skip : Fun K "skip" "Reader.skip" (inClass (top 9) 2) a.a_Reader_skip fd_Reader_skip) (b_Reader_skip : Binds K fd_Reader_skip ["self", "sign"] []) (m_Reader_skip : Meth K a.a_Reader "skip" a.a_Reader_skip) : FnOk P w K mg base CX0 2 f fd ["self", "word"] (spWordB a.a_Reader) := by
  refine F.ok sc_rb (fun vs H Q E h => ?_) (fun cdv A outer s H vs Q E hr h => ⟨S10.t_rb K a.a_Reader, ?_, S10.rd_rb rc h⟩)
  · obtain ⟨_, _, _, _, _, _, _, _, _, _, _, _, _, _, _, _, rfl, _⟩ := h
    rfl
  have nd := sc_rb.nd
  have hu := hu_of hr
  have hu0 := hr.units0
  have hu2 := hu2_of hr
  have p0 : ∀ {pos : Pos}, PE ((cxOf CX0 P w K mg base ["self", "word"] "Reader.read_behind_word" (defScope (inClass (top 9) 6)) f cdv A outer s H E).nox) (.Name "self" pos) (tVar 0) := fun {pos} => pv 0
  have p1 : ∀ {pos : Pos}, PE ((cxOf CX0 P w K mg base ["self", "word"] "Reader.read_behind_word" (defScope (inClass (top 9) 6)) f cdv A outer s H E).nox) (.Name "word" pos) (tVar 1) := fun {pos} => pv 1
  exact (pss_one (ps_if (pt_not (pt_val (pe_meth p0 T.cl_Reader m_Reader_skip G_Reader_skip (hr.mono (by decide)) b_Reader_skip .nil pass0 (pa_cons pe_str pa_nil)))) (pss_one (ps_expr (pe_bm PySem.F.plainAttrs_list PySem.F.slot_list_append PySem.F.type_list_append mt_append (pe_fld p0 rfl) (pa_cons (pe_tup (pa_cons pe_str (pa_cons p1 pa_nil))) pa_nil)))) (pss_one (ps_if (pt_val (pe_meth p0 T.cl_Reader m_Reader_skip G_Reader_skip (hr.mono (by decide)) b_Reader_skip .nil pass0 (pa_cons pe_str pa_nil))) (pss_one (ps_expr (pe_bm PySem.F.plainAttrs_list PySem.F.slot_list_append PySem.F.type_list_append mt_append (pe_fld p0 rfl) (pa_cons (pe_tup (pa_cons pe_str (pa_cons p1 pa_nil))) pa_nil)))) (pss_one (ps_expr (pe_bm PySem.F.plainAttrs_list PySem.F.slot_list_extend PySem.F.type_list_extend mt_extend (pe_fld p0 rfl) (pa_cons (pe_lst (pa_cons (pe_tup (pa_cons pe_str (pa_cons p1 (pa_cons pe_int pa_nil)))) (pa_cons (pe_tup (pa_cons pe_str pa_nil)) pa_nil))) pa_nil))))))))
theorem sc_rl : FnScope ["self", "word"] ["self"] (defScope (inClass (top 9) 7)) := ⟨rfl, rfl, rfl, by decide +kernel, rfl, by decide +kernel, by decide +kernel⟩
theorem ok_rl (F : Fun K "read_let" "Reader.read_let" (inClass (top 9) 7) f fd) (T : Txt K mg a) (rc : RC K a.a_Reader)
    {fd_Reader_run_of : FuncData} (G_Reader_run_of : FnOk P w K mg base CX0 1 a.a_Reader_run_of fd_Reader_run_of ["self", "signs"] (spRun a.a_Reader)) (F_Reader_run_of : Fun K "run_of" "Reader.run_of" (inClass (top 9) 4) a.a_Reader_run_of fd_Reader_run_of) (b_Reader_run_of : Binds K fd_Reader_run_of ["self", "signs"] []) (m_Reader_run_of : Meth K a.a_Reader "run_of" a.a_Reader_run_of)
    {fd_Reader_refuse : FuncData} (G_Reader_refuse : FnOk P w K mg base CX0 1 a.a_Reader_refuse fd_Reader_refuse ["self", "wanted"] spNo2) (F_Reader_refuse : Fun K "refuse" "Reader.refuse" (inClass (top 9) 1) a.a_Reader_refuse fd_Reader_refuse) (b_Reader_refuse : Binds K fd_Reader_refuse ["self", "wanted"] []) (m_Reader_refuse : Meth K a.a_Reader "refuse" a.a_Reader_refuse)
    {fd_Reader_need : FuncData} (G_Reader_need : FnOk P w K mg base CX0 2 a.a_Reader_need fd_Reader_need ["self", "sign"] (spNeed a.a_Reader)) (F_Reader_need : Fun K "need" "Reader.need" (inClass (top 9) 3) a.a_Reader_need fd_Reader_need) (b_Reader_need : Binds K fd_Reader_need ["self", "sign"] []) (m_Reader_need : Meth K a.a_Reader "need" a.a_Reader_need) : FnOk P w K mg base CX0 3 f fd ["self"] (spLetR a.a_Reader) := by
  refine F.ok sc_rl (fun vs H Q E h => ?_) (fun cdv A outer s H vs Q E hr h => ⟨S10.t_rl K a.a_Reader, ?_, S10.rd_rl rc h⟩)
  · obtain ⟨_, _, _, _, _, _, _, _, _, _, _, _, _, _, _, _, _, rfl, _⟩ := h
    rfl
  have nd := sc_rl.nd
  have hu := hu_of hr
  have hu0 := hr.units0
  have hu2 := hu2_of hr
  have p0 : ∀ {pos : Pos}, PE ((cxOf CX0 P w K mg base ["self", "word"] "Reader.read_let" (defScope (inClass (top 9) 7)) f cdv A outer s H E).nox) (.Name "self" pos) (tVar 0) := fun {pos} => pv 0
  have p1 : ∀ {pos : Pos}, PE ((cxOf CX0 P w K mg base ["self", "word"] "Reader.read_let" (defScope (inClass (top 9) 7)) f cdv A outer s H E).nox) (.Name "word" pos) (tVar 1) := fun {pos} => pv 1
  have l1 : Loc (((cxOf CX0 P w K mg base ["self", "word"] "Reader.read_let" (defScope (inClass (top 9) 7)) f cdv A outer s H E).nox)).env.scope "word" := by first | exact Or.inl rfl | exact Or.inr rfl
  have g1 : ∀ {pos : Pos}, PG ((cxOf CX0 P w K mg base ["self", "word"] "Reader.read_let" (defScope (inClass (top 9) 7)) f cdv A outer s H E).nox) (.Name "word" pos) (gName 1) := fun {pos} => pg_name (i := 1) nd rfl l1
  have k_LETTERS : Gl ((cxOf CX0 P w K mg base ["self", "word"] "Reader.read_let" (defScope (inClass (top 9) 7)) f cdv A outer s H E).nox) "LETTERS" := by rfl
  obtain ⟨tk_LETTERS, v_LETTERS⟩ := T.g_LETTERS
  exact (pss_cons (ps_set (i := 1) nd rfl l1 (pe_meth p0 T.cl_Reader m_Reader_run_of G_Reader_run_of (hr.mono (by decide)) b_Reader_run_of .nil pass0 (pa_cons (pe_glob (v := .str "abcdefghijklmnopqrstuvwxyz") k_LETTERS v_LETTERS ⟨_, rfl⟩) pa_nil))) (pss_cons (ps_if (pt_cmpR op_eq p1 pe_str (nomark _)) (pss_one (ps_expr (pe_meth p0 T.cl_Reader m_Reader_refuse G_Reader_refuse (hr.mono (by decide)) b_Reader_refuse .nil pass0 (pa_cons pe_str pa_nil)))) pss_nil) (pss_cons (ps_expr (pe_meth p0 T.cl_Reader m_Reader_need G_Reader_need (hr.mono (by decide)) b_Reader_need .nil pass0 (pa_cons pe_str pa_nil))) (pss_one (ps_expr (pe_bm PySem.F.plainAttrs_list PySem.F.slot_list_extend PySem.F.type_list_extend mt_extend (pe_fld p0 rfl) (pa_cons (pe_lst (pa_cons (pe_tup (pa_cons pe_str (pa_cons (pe_tup (pa_cons pe_str (pa_cons p1 pa_nil))) (pa_cons pe_int pa_nil)))) (pa_cons (pe_tup (pa_cons pe_str pa_nil)) (pa_cons (pe_tup (pa_cons pe_str (pa_cons pe_str pa_nil))) (pa_cons (pe_tup (pa_cons pe_str pa_nil)) pa_nil))))) pa_nil)))))))
theorem sc_rn : FnScope ["self", "below", "figures", "number"] ["self"] (defScope (inClass (top 9) 8)) := ⟨rfl, rfl, rfl, by decide +kernel, rfl, by decide +kernel, by decide +kernel⟩
theorem ok_rn (F : Fun K "read_number" "Reader.read_number" (inClass (top 9) 8) f fd) (T : Txt K mg a) (rc : RC K a.a_Reader)
    {fd_Reader_skip : FuncData} (G_Reader_skip : FnOk P w K mg base CX0 1 a.a_Reader_skip fd_Reader_skip ["self", "sign"] (spSkip a.a_Reader)) (F_Reader_skip : Fun K "skip" "Reader.skip" (inClass (top 9) 2) a.a_Reader_skip fd_Reader_skip) (b_Reader_skip : Binds K fd_Reader_skip ["self", "sign"] []) (m_Reader_skip : Meth K a.a_Reader "skip" a.a_Reader_skip)
    {fd_Reader_run_of : FuncData} (G_Reader_run_of : FnOk P w K mg base CX0 1 a.a_Reader_run_of fd_Reader_run_of ["self", "signs"] (spRun a.a_Reader)) (F_Reader_run_of : Fun K "run_of" "Reader.run_of" (inClass (top 9) 4) a.a_Reader_run_of fd_Reader_run_of) (b_Reader_run_of : Binds K fd_Reader_run_of ["self", "signs"] []) (m_Reader_run_of : Meth K a.a_Reader "run_of" a.a_Reader_run_of)
    {fd_Reader_refuse : FuncData} (G_Reader_refuse : FnOk P w K mg base CX0 1 a.a_Reader_refuse fd_Reader_refuse ["self", "wanted"] spNo2) (F_Reader_refuse : Fun K "refuse" "Reader.refuse" (inClass (top 9) 1) a.a_Reader_refuse fd_Reader_refuse) (b_Reader_refuse : Binds K fd_Reader_refuse ["self", "wanted"] []) (m_Reader_refuse : Meth K a.a_Reader "refuse" a.a_Reader_refuse) : FnOk P w K mg base CX0 2 f fd ["self"] (spNumR a.a_Reader) := by
  refine F.ok sc_rn (fun vs H Q E h => ?_) (fun cdv A outer s H vs Q E hr h => ⟨S10.t_rn K a.a_Reader, ?_, S10.rd_rn rc h⟩)
  · obtain ⟨_, _, _, _, _, _, _, _, _, _, _, _, _, _, _, rfl, _⟩ := h
    rfl
  have nd := sc_rn.nd
  have hu := hu_of hr
  have hu0 := hr.units0
  have hu2 := hu2_of hr
  have p0 : ∀ {pos : Pos}, PE ((cxOf CX0 P w K mg base ["self", "below", "figures", "number"] "Reader.read_number" (defScope (inClass (top 9) 8)) f cdv A outer s H E).nox) (.Name "self" pos) (tVar 0) := fun {pos} => pv 0
  have p1 : ∀ {pos : Pos}, PE ((cxOf CX0 P w K mg base ["self", "below", "figures", "number"] "Reader.read_number" (defScope (inClass (top 9) 8)) f cdv A outer s H E).nox) (.Name "below" pos) (tVar 1) := fun {pos} => pv 1
  have p2 : ∀ {pos : Pos}, PE ((cxOf CX0 P w K mg base ["self", "below", "figures", "number"] "Reader.read_number" (defScope (inClass (top 9) 8)) f cdv A outer s H E).nox) (.Name "figures" pos) (tVar 2) := fun {pos} => pv 2
  have p3 : ∀ {pos : Pos}, PE ((cxOf CX0 P w K mg base ["self", "below", "figures", "number"] "Reader.read_number" (defScope (inClass (top 9) 8)) f cdv A outer s H E).nox) (.Name "number" pos) (tVar 3) := fun {pos} => pv 3
  have l1 : Loc (((cxOf CX0 P w K mg base ["self", "below", "figures", "number"] "Reader.read_number" (defScope (inClass (top 9) 8)) f cdv A outer s H E).nox)).env.scope "below" := by first | exact Or.inl rfl | exact Or.inr rfl
  have g1 : ∀ {pos : Pos}, PG ((cxOf CX0 P w K mg base ["self", "below", "figures", "number"] "Reader.read_number" (defScope (inClass (top 9) 8)) f cdv A outer s H E).nox) (.Name "below" pos) (gName 1) := fun {pos} => pg_name (i := 1) nd rfl l1
  have l2 : Loc (((cxOf CX0 P w K mg base ["self", "below", "figures", "number"] "Reader.read_number" (defScope (inClass (top 9) 8)) f cdv A outer s H E).nox)).env.scope "figures" := by first | exact Or.inl rfl | exact Or.inr rfl
  have g2 : ∀ {pos : Pos}, PG ((cxOf CX0 P w K mg base ["self", "below", "figures", "number"] "Reader.read_number" (defScope (inClass (top 9) 8)) f cdv A outer s H E).nox) (.Name "figures" pos) (gName 2) := fun {pos} => pg_name (i := 2) nd rfl l2
  have l3 : Loc (((cxOf CX0 P w K mg base ["self", "below", "figures", "number"] "Reader.read_number" (defScope (inClass (top 9) 8)) f cdv A outer s H E).nox)).env.scope "number" := by first | exact Or.inl rfl | exact Or.inr rfl
  have g3 : ∀ {pos : Pos}, PG ((cxOf CX0 P w K mg base ["self", "below", "figures", "number"] "Reader.read_number" (defScope (inClass (top 9) 8)) f cdv A outer s H E).nox) (.Name "number" pos) (gName 3) := fun {pos} => pg_name (i := 3) nd rfl l3
  have k_int : Gl ((cxOf CX0 P w K mg base ["self", "below", "figures", "number"] "Reader.read_number" (defScope (inClass (top 9) 8)) f cdv A outer s H E).nox) "int" := by rfl
  have k_FIGURES : Gl ((cxOf CX0 P w K mg base ["self", "below", "figures", "number"] "Reader.read_number" (defScope (inClass (top 9) 8)) f cdv A outer s H E).nox) "FIGURES" := by rfl
  obtain ⟨tk_FIGURES, v_FIGURES⟩ := T.g_FIGURES
  exact (pss_cons (ps_set (i := 1) nd rfl l1 (pe_meth p0 T.cl_Reader m_Reader_skip G_Reader_skip (hr.mono (by decide)) b_Reader_skip .nil pass0 (pa_cons pe_str pa_nil))) (pss_cons (ps_set (i := 2) nd rfl l2 (pe_meth p0 T.cl_Reader m_Reader_run_of G_Reader_run_of (hr.mono (by decide)) b_Reader_run_of .nil pass0 (pa_cons (pe_glob (v := .str "0123456789") k_FIGURES v_FIGURES ⟨_, rfl⟩) pa_nil))) (pss_cons (ps_if (pt_cmpR op_eq p2 pe_str (nomark _)) (pss_one (ps_expr (pe_meth p0 T.cl_Reader m_Reader_refuse G_Reader_refuse (hr.mono (by decide)) b_Reader_refuse .nil pass0 (pa_cons pe_str pa_nil)))) pss_nil) (pss_cons (ps_if (pw_and (pt_cmpR op_eq (pe_ix ix_str p2 pe_int (fun _ _ => rfl)) pe_str (nomark _)) (pw_and1 (pw_or (pt_val p1) (pw_or1 (pt_cmpR op_ne p2 pe_str (nomark _)))).pt)).pt (pss_one (ps_expr (pe_meth p0 T.cl_Reader m_Reader_refuse G_Reader_refuse (hr.mono (by decide)) b_Reader_refuse .nil pass0 (pa_cons pe_str pa_nil)))) pss_nil) (pss_cons (ps_set (i := 3) nd rfl l3 (pe_callTy call_intS k_int T.n_int bo_int (pa_cons p2 pa_nil))) (pss_one (ps_expr (pe_bm PySem.F.plainAttrs_list PySem.F.slot_list_append PySem.F.type_list_append mt_append (pe_fld p0 rfl) (pa_cons (pe_tup (pa_cons pe_str (pa_cons (pe_ifExp (pt_val p1) (pe_un un_neg p3) p3) pa_nil))) pa_nil)))))))))
theorem sc_rp : FnScope ["self", "word"] ["self"] (defScope (inClass (top 9) 5)) := ⟨rfl, rfl, rfl, by decide +kernel, rfl, by decide +kernel, by decide +kernel⟩
theorem ok_rp (F : Fun K "read_piece" "Reader.read_piece" (inClass (top 9) 5) f fd) (T : Txt K mg a) (rc : RC K a.a_Reader)
    {fd_Reader_run_of : FuncData} (G_Reader_run_of : FnOk P w K mg base CX0 1 a.a_Reader_run_of fd_Reader_run_of ["self", "signs"] (spRun a.a_Reader)) (F_Reader_run_of : Fun K "run_of" "Reader.run_of" (inClass (top 9) 4) a.a_Reader_run_of fd_Reader_run_of) (b_Reader_run_of : Binds K fd_Reader_run_of ["self", "signs"] []) (m_Reader_run_of : Meth K a.a_Reader "run_of" a.a_Reader_run_of)
    {fd_Reader_read_behind_word : FuncData} (G_Reader_read_behind_word : FnOk P w K mg base CX0 2 a.a_Reader_read_behind_word fd_Reader_read_behind_word ["self", "word"] (spWordB a.a_Reader)) (F_Reader_read_behind_word : Fun K "read_behind_word" "Reader.read_behind_word" (inClass (top 9) 6) a.a_Reader_read_behind_word fd_Reader_read_behind_word) (b_Reader_read_behind_word : Binds K fd_Reader_read_behind_word ["self", "word"] []) (m_Reader_read_behind_word : Meth K a.a_Reader "read_behind_word" a.a_Reader_read_behind_word)
    {fd_Reader_skip : FuncData} (G_Reader_skip : FnOk P w K mg base CX0 1 a.a_Reader_skip fd_Reader_skip ["self", "sign"] (spSkip a.a_Reader)) (F_Reader_skip : Fun K "skip" "Reader.skip" (inClass (top 9) 2) a.a_Reader_skip fd_Reader_skip) (b_Reader_skip : Binds K fd_Reader_skip ["self", "sign"] []) (m_Reader_skip : Meth K a.a_Reader "skip" a.a_Reader_skip)
    {fd_Reader_read_let : FuncData} (G_Reader_read_let : FnOk P w K mg base CX0 3 a.a_Reader_read_let fd_Reader_read_let ["self"] (spLetR a.a_Reader)) (F_Reader_read_let : Fun K "read_let" "Reader.read_let" (inClass (top 9) 7) a.a_Reader_read_let fd_Reader_read_let) (b_Reader_read_let : Binds K fd_Reader_read_let ["self"] []) (m_Reader_read_let : Meth K a.a_Reader "read_let" a.a_Reader_read_let)
    {fd_Reader_read_number : FuncData} (G_Reader_read_number : FnOk P w K mg base CX0 2 a.a_Reader_read_number fd_Reader_read_number ["self"] (spNumR a.a_Reader)) (F_Reader_read_number : Fun K "read_number" "Reader.read_number" (inClass (top 9) 8) a.a_Reader_read_number fd_Reader_read_number) (b_Reader_read_number : Binds K fd_Reader_read_number ["self"] []) (m_Reader_read_number : Meth K a.a_Reader "read_number" a.a_Reader_read_number) : FnOk P w K mg base CX0 4 f fd ["self"] (spPiece a.a_Reader) := by
  refine F.ok sc_rp (fun vs H Q E h => ?_) (fun cdv A outer s H vs Q E hr h => ⟨S10.t_rp K a.a_Reader, ?_, S10.rd_rp rc h⟩)
  · obtain ⟨_, _, _, _, _, _, _, _, _, _, _, _, rfl, _⟩ := h
    rfl
  have nd := sc_rp.nd
  have hu := hu_of hr
  have hu0 := hr.units0
  have hu2 := hu2_of hr
  have p0 : ∀ {pos : Pos}, PE ((cxOf CX0 P w K mg base ["self", "word"] "Reader.read_piece" (defScope (inClass (top 9) 5)) f cdv A outer s H E).nox) (.Name "self" pos) (tVar 0) := fun {pos} => pv 0
  have p1 : ∀ {pos : Pos}, PE ((cxOf CX0 P w K mg base ["self", "word"] "Reader.read_piece" (defScope (inClass (top 9) 5)) f cdv A outer s H E).nox) (.Name "word" pos) (tVar 1) := fun {pos} => pv 1
  have l1 : Loc (((cxOf CX0 P w K mg base ["self", "word"] "Reader.read_piece" (defScope (inClass (top 9) 5)) f cdv A outer s H E).nox)).env.scope "word" := by first | exact Or.inl rfl | exact Or.inr rfl
  have g1 : ∀ {pos : Pos}, PG ((cxOf CX0 P w K mg base ["self", "word"] "Reader.read_piece" (defScope (inClass (top 9) 5)) f cdv A outer s H E).nox) (.Name "word" pos) (gName 1) := fun {pos} => pg_name (i := 1) nd rfl l1
  have k_LETTERS : Gl ((cxOf CX0 P w K mg base ["self", "word"] "Reader.read_piece" (defScope (inClass (top 9) 5)) f cdv A outer s H E).nox) "LETTERS" := by rfl
  obtain ⟨tk_LETTERS, v_LETTERS⟩ := T.g_LETTERS
  exact (pss_cons (ps_set (i := 1) nd rfl l1 (pe_meth p0 T.cl_Reader m_Reader_run_of G_Reader_run_of (hr.mono (by decide)) b_Reader_run_of .nil pass0 (pa_cons (pe_glob (v := .str "abcdefghijklmnopqrstuvwxyz") k_LETTERS v_LETTERS ⟨_, rfl⟩) pa_nil))) (pss_one (ps_if (pt_cmpR op_ne p1 pe_str (nomark _)) (pss_one (ps_expr (pe_meth p0 T.cl_Reader m_Reader_read_behind_word G_Reader_read_behind_word (hr.mono (by decide)) b_Reader_read_behind_word .nil pass0 (pa_cons p1 pa_nil)))) (pss_one (ps_if (pt_val (pe_meth p0 T.cl_Reader m_Reader_skip G_Reader_skip (hr.mono (by decide)) b_Reader_skip .nil pass0 (pa_cons pe_str pa_nil))) (pss_one (ps_expr (pe_bm PySem.F.plainAttrs_list PySem.F.slot_list_extend PySem.F.type_list_extend mt_extend (pe_fld p0 rfl) (pa_cons (pe_lst (pa_cons (pe_tup (pa_cons pe_str pa_nil)) (pa_cons (pe_tup (pa_cons pe_str pa_nil)) pa_nil))) pa_nil)))) (pss_one (ps_if (pt_val (pe_meth p0 T.cl_Reader m_Reader_skip G_Reader_skip (hr.mono (by decide)) b_Reader_skip .nil pass0 (pa_cons pe_str pa_nil))) (pss_one (ps_expr (pe_meth0 p0 T.cl_Reader m_Reader_read_let G_Reader_read_let (hr.mono (by decide)) b_Reader_read_let .nil pass0))) (pss_one (ps_expr (pe_meth0 p0 T.cl_Reader m_Reader_read_number G_Reader_read_number (hr.mono (by decide)) b_Reader_read_number .nil pass0))))))))))
theorem sc_rw : FnScope ["self"] ["self"] (defScope (inClass (top 9) 9)) := ⟨rfl, rfl, rfl, by decide +kernel, rfl, by decide +kernel, by decide +kernel⟩
theorem ok_rw (F : Fun K "read_between" "Reader.read_between" (inClass (top 9) 9) f fd) (T : Txt K mg a) (rc : RC K a.a_Reader)
    {fd_Reader_skip : FuncData} (G_Reader_skip : FnOk P w K mg base CX0 1 a.a_Reader_skip fd_Reader_skip ["self", "sign"] (spSkip a.a_Reader)) (F_Reader_skip : Fun K "skip" "Reader.skip" (inClass (top 9) 2) a.a_Reader_skip fd_Reader_skip) (b_Reader_skip : Binds K fd_Reader_skip ["self", "sign"] []) (m_Reader_skip : Meth K a.a_Reader "skip" a.a_Reader_skip)
    {fd_Reader_need : FuncData} (G_Reader_need : FnOk P w K mg base CX0 2 a.a_Reader_need fd_Reader_need ["self", "sign"] (spNeed a.a_Reader)) (F_Reader_need : Fun K "need" "Reader.need" (inClass (top 9) 3) a.a_Reader_need fd_Reader_need) (b_Reader_need : Binds K fd_Reader_need ["self", "sign"] []) (m_Reader_need : Meth K a.a_Reader "need" a.a_Reader_need) : FnOk P w K mg base CX0 3 f fd ["self"] (spBetw a.a_Reader) := by
  refine F.ok sc_rw (fun vs H Q E h => ?_) (fun cdv A outer s H vs Q E hr h => ⟨S10.t_rw K a.a_Reader, ?_, S10.rd_rw rc h⟩)
  · obtain ⟨_, _, _, _, _, _, _, _, _, _, _, _, rfl, _⟩ := h
    rfl
  have nd := sc_rw.nd
  have hu := hu_of hr
  have hu0 := hr.units0
  have hu2 := hu2_of hr
  have p0 : ∀ {pos : Pos}, PE ((cxOf CX0 P w K mg base ["self"] "Reader.read_between" (defScope (inClass (top 9) 9)) f cdv A outer s H E).nox) (.Name "self" pos) (tVar 0) := fun {pos} => pv 0
  exact (pss_one (ps_if (pt_val (pe_meth p0 T.cl_Reader m_Reader_skip G_Reader_skip (hr.mono (by decide)) b_Reader_skip .nil pass0 (pa_cons pe_str pa_nil))) (pss_one (ps_expr (pe_bm PySem.F.plainAttrs_list PySem.F.slot_list_extend PySem.F.type_list_extend mt_extend (pe_fld p0 rfl) (pa_cons (pe_lst (pa_cons (pe_tup (pa_cons pe_str (pa_cons (pe_tup (pa_cons pe_str pa_nil)) (pa_cons pe_int pa_nil)))) (pa_cons (pe_tup (pa_cons pe_str (pa_cons pe_str pa_nil))) (pa_cons (pe_tup (pa_cons pe_str pa_nil)) pa_nil)))) pa_nil)))) (pss_one (ps_if (pt_val (pe_meth p0 T.cl_Reader m_Reader_skip G_Reader_skip (hr.mono (by decide)) b_Reader_skip .nil pass0 (pa_cons pe_str pa_nil))) (pss_one (ps_expr (pe_bm PySem.F.plainAttrs_list PySem.F.slot_list_extend PySem.F.type_list_extend mt_extend (pe_fld p0 rfl) (pa_cons (pe_lst (pa_cons (pe_tup (pa_cons pe_str (pa_cons (pe_tup (pa_cons pe_str pa_nil)) (pa_cons pe_int pa_nil)))) (pa_cons (pe_tup (pa_cons pe_str (pa_cons pe_str pa_nil))) (pa_cons (pe_tup (pa_cons pe_str pa_nil)) pa_nil)))) pa_nil)))) (pss_cons (ps_expr (pe_meth p0 T.cl_Reader m_Reader_need G_Reader_need (hr.mono (by decide)) b_Reader_need .nil pass0 (pa_cons pe_str pa_nil))) (pss_one (ps_expr (pe_bm PySem.F.plainAttrs_list PySem.F.slot_list_extend PySem.F.type_list_extend mt_extend (pe_fld p0 rfl) (pa_cons (pe_lst (pa_cons (pe_tup (pa_cons pe_str (pa_cons (pe_tup (pa_cons pe_str pa_nil)) (pa_cons pe_int pa_nil)))) (pa_cons (pe_tup (pa_cons pe_str (pa_cons pe_str pa_nil))) (pa_cons (pe_tup (pa_cons pe_str pa_nil)) (pa_cons (pe_tup (pa_cons pe_str (pa_cons pe_str pa_nil))) (pa_cons (pe_tup (pa_cons pe_str pa_nil)) pa_nil)))))) pa_nil)))))))))
theorem sc_mk : FnScope ["self", "head", "many", "inner"] ["self", "head", "many"] (defScope (inClass (top 9) 11)) := ⟨rfl, rfl, rfl, by decide +kernel, rfl, by decide +kernel, by decide +kernel⟩
theorem ok_mk (F : Fun K "make" "Reader.make" (inClass (top 9) 11) f fd) (T : Txt K mg a) (rc : RC K a.a_Reader) : FnOk P w K mg base CX0 1 f fd ["self", "head", "many"] (spMake a.a_Reader) := by
  refine F.ok sc_mk (fun vs H Q E h => ?_) (fun cdv A outer s H vs Q E hr h => ⟨S10.t_mk K a.a_Reader, ?_, S10.rd_mk rc h⟩)
  · obtain ⟨_, _, _, _, _, _, _, _, _, _, _, rfl, _⟩ := h
    rfl
  have nd := sc_mk.nd
  have hu := hu_of hr
  have hu0 := hr.units0
  have hu2 := hu2_of hr
  have p0 : ∀ {pos : Pos}, PE ((cxOf CX0 P w K mg base ["self", "head", "many", "inner"] "Reader.make" (defScope (inClass (top 9) 11)) f cdv A outer s H E).nox) (.Name "self" pos) (tVar 0) := fun {pos} => pv 0
  have p1 : ∀ {pos : Pos}, PE ((cxOf CX0 P w K mg base ["self", "head", "many", "inner"] "Reader.make" (defScope (inClass (top 9) 11)) f cdv A outer s H E).nox) (.Name "head" pos) (tVar 1) := fun {pos} => pv 1
  have p2 : ∀ {pos : Pos}, PE ((cxOf CX0 P w K mg base ["self", "head", "many", "inner"] "Reader.make" (defScope (inClass (top 9) 11)) f cdv A outer s H E).nox) (.Name "many" pos) (tVar 2) := fun {pos} => pv 2
  have p3 : ∀ {pos : Pos}, PE ((cxOf CX0 P w K mg base ["self", "head", "many", "inner"] "Reader.make" (defScope (inClass (top 9) 11)) f cdv A outer s H E).nox) (.Name "inner" pos) (tVar 3) := fun {pos} => pv 3
  have l3 : Loc (((cxOf CX0 P w K mg base ["self", "head", "many", "inner"] "Reader.make" (defScope (inClass (top 9) 11)) f cdv A outer s H E).nox)).env.scope "inner" := by first | exact Or.inl rfl | exact Or.inr rfl
  have g3 : ∀ {pos : Pos}, PG ((cxOf CX0 P w K mg base ["self", "head", "many", "inner"] "Reader.make" (defScope (inClass (top 9) 11)) f cdv A outer s H E).nox) (.Name "inner" pos) (gName 3) := fun {pos} => pg_name (i := 3) nd rfl l3
  have k_len : Gl ((cxOf CX0 P w K mg base ["self", "head", "many", "inner"] "Reader.make" (defScope (inClass (top 9) 11)) f cdv A outer s H E).nox) "len" := by rfl
  have k_tuple : Gl ((cxOf CX0 P w K mg base ["self", "head", "many", "inner"] "Reader.make" (defScope (inClass (top 9) 11)) f cdv A outer s H E).nox) "tuple" := by rfl
  have k_reversed : Gl ((cxOf CX0 P w K mg base ["self", "head", "many", "inner"] "Reader.make" (defScope (inClass (top 9) 11)) f cdv A outer s H E).nox) "reversed" := by rfl
  exact (pss_cons (ps_set (i := 3) nd rfl l3 (pe_lst pa_nil)) (pss_cons (ps_while PassesOwn.never (pt_cmpR op_lt (pe_callB call_len_seq k_len T.n_len bo_len (pa_cons p3 pa_nil)) p2 (nomark _)) (pss_one (ps_expr (pe_bm PySem.F.plainAttrs_list PySem.F.slot_list_append PySem.F.type_list_append mt_append p3 (pa_cons (pe_bm0 PySem.F.plainAttrs_list PySem.F.slot_list_pop PySem.F.type_list_pop mt_pop (pe_fld p0 rfl)) pa_nil))))) (pss_one (ps_expr (pe_bm PySem.F.plainAttrs_list PySem.F.slot_list_append PySem.F.type_list_append mt_append (pe_fld p0 rfl) (pa_cons (pe_op op_catA p1 (pe_revT rfl k_tuple T.n_tuple k_reversed T.n_reversed p3)) pa_nil))))))
theorem sc_rh : FnScope ["self", "word", "many"] ["self", "word", "many"] (defScope (inClass (top 9) 10)) := ⟨rfl, rfl, rfl, by decide +kernel, rfl, by decide +kernel, by decide +kernel⟩
theorem ok_rh (F : Fun K "read_behind_handed" "Reader.read_behind_handed" (inClass (top 9) 10) f fd) (T : Txt K mg a) (rc : RC K a.a_Reader)
    {fd_Reader_skip : FuncData} (G_Reader_skip : FnOk P w K mg base CX0 1 a.a_Reader_skip fd_Reader_skip ["self", "sign"] (spSkip a.a_Reader)) (F_Reader_skip : Fun K "skip" "Reader.skip" (inClass (top 9) 2) a.a_Reader_skip fd_Reader_skip) (b_Reader_skip : Binds K fd_Reader_skip ["self", "sign"] []) (m_Reader_skip : Meth K a.a_Reader "skip" a.a_Reader_skip)
    {fd_Reader_need : FuncData} (G_Reader_need : FnOk P w K mg base CX0 2 a.a_Reader_need fd_Reader_need ["self", "sign"] (spNeed a.a_Reader)) (F_Reader_need : Fun K "need" "Reader.need" (inClass (top 9) 3) a.a_Reader_need fd_Reader_need) (b_Reader_need : Binds K fd_Reader_need ["self", "sign"] []) (m_Reader_need : Meth K a.a_Reader "need" a.a_Reader_need)
    {fd_Reader_make : FuncData} (G_Reader_make : FnOk P w K mg base CX0 1 a.a_Reader_make fd_Reader_make ["self", "head", "many"] (spMake a.a_Reader)) (F_Reader_make : Fun K "make" "Reader.make" (inClass (top 9) 11) a.a_Reader_make fd_Reader_make) (b_Reader_make : Binds K fd_Reader_make ["self", "head", "many"] []) (m_Reader_make : Meth K a.a_Reader "make" a.a_Reader_make) : FnOk P w K mg base CX0 3 f fd ["self", "word", "many"] (spHand a.a_Reader) := by
  refine F.ok sc_rh (fun vs H Q E h => ?_) (fun cdv A outer s H vs Q E hr h => ⟨S10.t_rh K a.a_Reader, ?_, S10.rd_rh rc h⟩)
  · obtain ⟨_, _, _, _, _, _, _, _, _, _, _, _, _, _, rfl, _⟩ := h
    rfl
  have nd := sc_rh.nd
  have hu := hu_of hr
  have hu0 := hr.units0
  have hu2 := hu2_of hr
  have p0 : ∀ {pos : Pos}, PE ((cxOf CX0 P w K mg base ["self", "word", "many"] "Reader.read_behind_handed" (defScope (inClass (top 9) 10)) f cdv A outer s H E).nox) (.Name "self" pos) (tVar 0) := fun {pos} => pv 0
  have p1 : ∀ {pos : Pos}, PE ((cxOf CX0 P w K mg base ["self", "word", "many"] "Reader.read_behind_handed" (defScope (inClass (top 9) 10)) f cdv A outer s H E).nox) (.Name "word" pos) (tVar 1) := fun {pos} => pv 1
  have p2 : ∀ {pos : Pos}, PE ((cxOf CX0 P w K mg base ["self", "word", "many"] "Reader.read_behind_handed" (defScope (inClass (top 9) 10)) f cdv A outer s H E).nox) (.Name "many" pos) (tVar 2) := fun {pos} => pv 2
  exact (pss_one (ps_if (pt_val (pe_meth p0 T.cl_Reader m_Reader_skip G_Reader_skip (hr.mono (by decide)) b_Reader_skip .nil pass0 (pa_cons pe_str pa_nil))) (pss_one (ps_expr (pe_bm PySem.F.plainAttrs_list PySem.F.slot_list_extend PySem.F.type_list_extend mt_extend (pe_fld p0 rfl) (pa_cons (pe_lst (pa_cons (pe_tup (pa_cons pe_str (pa_cons p1 (pa_cons (pe_op op_add p2 pe_int) pa_nil)))) (pa_cons (pe_tup (pa_cons pe_str pa_nil)) pa_nil))) pa_nil)))) (pss_cons (ps_expr (pe_meth p0 T.cl_Reader m_Reader_need G_Reader_need (hr.mono (by decide)) b_Reader_need .nil pass0 (pa_cons pe_str pa_nil))) (pss_one (ps_expr (pe_meth p0 T.cl_Reader m_Reader_make G_Reader_make (hr.mono (by decide)) b_Reader_make .nil pass0 (pa_cons (pe_tup (pa_cons pe_str (pa_cons p1 pa_nil))) (pa_cons p2 pa_nil))))))))
theorem sc_tk : FnScope ["self", "step"] ["self", "step"] (defScope (inClass (top 9) 12)) := ⟨rfl, rfl, rfl, by decide +kernel, rfl, by decide +kernel, by decide +kernel⟩
theorem ok_tk (F : Fun K "take" "Reader.take" (inClass (top 9) 12) f fd) (T : Txt K mg a) (rc : RC K a.a_Reader)
    {fd_Reader_read_piece : FuncData} (G_Reader_read_piece : FnOk P w K mg base CX0 4 a.a_Reader_read_piece fd_Reader_read_piece ["self"] (spPiece a.a_Reader)) (F_Reader_read_piece : Fun K "read_piece" "Reader.read_piece" (inClass (top 9) 5) a.a_Reader_read_piece fd_Reader_read_piece) (b_Reader_read_piece : Binds K fd_Reader_read_piece ["self"] []) (m_Reader_read_piece : Meth K a.a_Reader "read_piece" a.a_Reader_read_piece)
    {fd_Reader_read_between : FuncData} (G_Reader_read_between : FnOk P w K mg base CX0 3 a.a_Reader_read_between fd_Reader_read_between ["self"] (spBetw a.a_Reader)) (F_Reader_read_between : Fun K "read_between" "Reader.read_between" (inClass (top 9) 9) a.a_Reader_read_between fd_Reader_read_between) (b_Reader_read_between : Binds K fd_Reader_read_between ["self"] []) (m_Reader_read_between : Meth K a.a_Reader "read_between" a.a_Reader_read_between)
    {fd_Reader_read_behind_handed : FuncData} (G_Reader_read_behind_handed : FnOk P w K mg base CX0 3 a.a_Reader_read_behind_handed fd_Reader_read_behind_handed ["self", "word", "many"] (spHand a.a_Reader)) (F_Reader_read_behind_handed : Fun K "read_behind_handed" "Reader.read_behind_handed" (inClass (top 9) 10) a.a_Reader_read_behind_handed fd_Reader_read_behind_handed) (b_Reader_read_behind_handed : Binds K fd_Reader_read_behind_handed ["self", "word", "many"] []) (m_Reader_read_behind_handed : Meth K a.a_Reader "read_behind_handed" a.a_Reader_read_behind_handed)
    {fd_Reader_need : FuncData} (G_Reader_need : FnOk P w K mg base CX0 2 a.a_Reader_need fd_Reader_need ["self", "sign"] (spNeed a.a_Reader)) (F_Reader_need : Fun K "need" "Reader.need" (inClass (top 9) 3) a.a_Reader_need fd_Reader_need) (b_Reader_need : Binds K fd_Reader_need ["self", "sign"] []) (m_Reader_need : Meth K a.a_Reader "need" a.a_Reader_need)
    {fd_Reader_make : FuncData} (G_Reader_make : FnOk P w K mg base CX0 1 a.a_Reader_make fd_Reader_make ["self", "head", "many"] (spMake a.a_Reader)) (F_Reader_make : Fun K "make" "Reader.make" (inClass (top 9) 11) a.a_Reader_make fd_Reader_make) (b_Reader_make : Binds K fd_Reader_make ["self", "head", "many"] []) (m_Reader_make : Meth K a.a_Reader "make" a.a_Reader_make) : FnOk P w K mg base CX0 5 f fd ["self", "step"] (spTake a.a_Reader) := by
  refine F.ok sc_tk (fun vs H Q E h => ?_) (fun cdv A outer s H vs Q E hr h => ⟨S10.t_tk K a.a_Reader, ?_, S10.rd_tk h⟩)
  · obtain ⟨_, _, _, _, _, _, _, _, _, _, _, _, _, _, rfl, _⟩ := h
    rfl
  have nd := sc_tk.nd
  have hu := hu_of hr
  have hu0 := hr.units0
  have hu2 := hu2_of hr
  have p0 : ∀ {pos : Pos}, PE ((cxOf CX0 P w K mg base ["self", "step"] "Reader.take" (defScope (inClass (top 9) 12)) f cdv A outer s H E).nox) (.Name "self" pos) (tVar 0) := fun {pos} => pv 0
  have p1 : ∀ {pos : Pos}, PE ((cxOf CX0 P w K mg base ["self", "step"] "Reader.take" (defScope (inClass (top 9) 12)) f cdv A outer s H E).nox) (.Name "step" pos) (tVar 1) := fun {pos} => pv 1
  exact (pss_one (ps_if (pt_cmpR op_eq (pe_ix ix_tup p1 pe_int (fun _ _ => rfl)) pe_str (nomark _)) (pss_one (ps_expr (pe_meth0 p0 T.cl_Reader m_Reader_read_piece G_Reader_read_piece (hr.mono (by decide)) b_Reader_read_piece .nil pass0))) (pss_one (ps_if (pt_cmpR op_eq (pe_ix ix_tup p1 pe_int (fun _ _ => rfl)) pe_str (nomark _)) (pss_one (ps_expr (pe_meth0 p0 T.cl_Reader m_Reader_read_between G_Reader_read_between (hr.mono (by decide)) b_Reader_read_between .nil pass0))) (pss_one (ps_if (pt_cmpR op_eq (pe_ix ix_tup p1 pe_int (fun _ _ => rfl)) pe_str (nomark _)) (pss_one (ps_expr (pe_meth p0 T.cl_Reader m_Reader_read_behind_handed G_Reader_read_behind_handed (hr.mono (by decide)) b_Reader_read_behind_handed .nil pass0 (pa_cons (pe_ix ix_tup p1 pe_int (fun _ _ => rfl)) (pa_cons (pe_ix ix_tup p1 pe_int (fun _ _ => rfl)) pa_nil))))) (pss_one (ps_if (pt_cmpR op_eq (pe_ix ix_tup p1 pe_int (fun _ _ => rfl)) pe_str (nomark _)) (pss_one (ps_expr (pe_meth p0 T.cl_Reader m_Reader_need G_Reader_need (hr.mono (by decide)) b_Reader_need .nil pass0 (pa_cons (pe_ix ix_tup p1 pe_int (fun _ _ => rfl)) pa_nil)))) (pss_one (ps_expr (pe_meth p0 T.cl_Reader m_Reader_make G_Reader_make (hr.mono (by decide)) b_Reader_make .nil pass0 (pa_cons (pe_ix ix_tup p1 pe_int (fun _ _ => rfl)) (pa_cons (pe_ix ix_tup p1 pe_int (fun _ _ => rfl)) pa_nil)))))))))))))
theorem sc_rd : FnScope ["line", "reader"] ["line"] (defScope (top 10)) := ⟨rfl, rfl, rfl, by decide +kernel, rfl, by decide +kernel, by decide +kernel⟩
theorem ok_rd (F : Fun K "read" "read" (top 10) f fd) (T : Txt K mg a) (rc : RC K a.a_Reader)
    {fd_Reader___init__ : FuncData} (G_Reader___init__ : FnOk P w K mg base CX0 1 a.a_Reader___init__ fd_Reader___init__ ["self", "line"] (spInit a.a_Reader)) (F_Reader___init__ : Fun K "__init__" "Reader.__init__" (inClass (top 9) 0) a.a_Reader___init__ fd_Reader___init__) (b_Reader___init__ : Binds K fd_Reader___init__ ["self", "line"] []) (M_Reader : Mk K a.a_Reader a.a_Reader___init__)
    {fd_Reader_take : FuncData} (G_Reader_take : FnOk P w K mg base CX0 5 a.a_Reader_take fd_Reader_take ["self", "step"] (spTake a.a_Reader)) (F_Reader_take : Fun K "take" "Reader.take" (inClass (top 9) 12) a.a_Reader_take fd_Reader_take) (b_Reader_take : Binds K fd_Reader_take ["self", "step"] []) (m_Reader_take : Meth K a.a_Reader "take" a.a_Reader_take)
    {fd_Reader_refuse : FuncData} (G_Reader_refuse : FnOk P w K mg base CX0 1 a.a_Reader_refuse fd_Reader_refuse ["self", "wanted"] spNo2) (F_Reader_refuse : Fun K "refuse" "Reader.refuse" (inClass (top 9) 1) a.a_Reader_refuse fd_Reader_refuse) (b_Reader_refuse : Binds K fd_Reader_refuse ["self", "wanted"] []) (m_Reader_refuse : Meth K a.a_Reader "refuse" a.a_Reader_refuse) : FnOk P w K mg base CX0 6 f fd ["line"] spRead := by
  refine F.ok sc_rd (fun vs H Q E h => ?_) (fun cdv A outer s H vs Q E hr h => ⟨S10.t_rd K a.a_Reader, ?_, S10.rd_rd rc h⟩)
  · obtain ⟨_, _, rfl, _⟩ := h
    rfl
  have nd := sc_rd.nd
  have hu := hu_of hr
  have hu0 := hr.units0
  have hu2 := hu2_of hr
  have p0 : ∀ {pos : Pos}, PE ((cxOf CX0 P w K mg base ["line", "reader"] "read" (defScope (top 10)) f cdv A outer s H E).nox) (.Name "line" pos) (tVar 0) := fun {pos} => pv 0
  have p1 : ∀ {pos : Pos}, PE ((cxOf CX0 P w K mg base ["line", "reader"] "read" (defScope (top 10)) f cdv A outer s H E).nox) (.Name "reader" pos) (tVar 1) := fun {pos} => pv 1
  have l1 : Loc (((cxOf CX0 P w K mg base ["line", "reader"] "read" (defScope (top 10)) f cdv A outer s H E).nox)).env.scope "reader" := by first | exact Or.inl rfl | exact Or.inr rfl
  have g1 : ∀ {pos : Pos}, PG ((cxOf CX0 P w K mg base ["line", "reader"] "read" (defScope (top 10)) f cdv A outer s H E).nox) (.Name "reader" pos) (gName 1) := fun {pos} => pg_name (i := 1) nd rfl l1
  have k_len : Gl ((cxOf CX0 P w K mg base ["line", "reader"] "read" (defScope (top 10)) f cdv A outer s H E).nox) "len" := by rfl
  have k_Reader : Gl ((cxOf CX0 P w K mg base ["line", "reader"] "read" (defScope (top 10)) f cdv A outer s H E).nox) "Reader" := by rfl
  exact (pss_cons (ps_set (i := 1) nd rfl l1 (pe_make M_Reader G_Reader___init__ (hr.mono (by decide)) k_Reader T.g_Reader b_Reader___init__ .nil pass0 (pa_cons p0 pa_nil))) (pss_cons (ps_while PassesOwn.never (pt_cmpR op_gt (pe_callB call_len_seq k_len T.n_len bo_len (pa_cons (pe_fld p1 rfl) pa_nil)) pe_int (nomark _)) (pss_one (ps_expr (pe_meth p1 T.cl_Reader m_Reader_take G_Reader_take (hr.mono (by decide)) b_Reader_take .nil pass0 (pa_cons (pe_bm0 PySem.F.plainAttrs_list PySem.F.slot_list_pop PySem.F.type_list_pop mt_pop (pe_fld p1 rfl)) pa_nil))))) (pss_cons (ps_if (pt_cmpR op_lt (pe_fld p1 rfl) (pe_callB call_len_str k_len T.n_len bo_len (pa_cons p0 pa_nil)) (nomark _)) (pss_one (ps_expr (pe_meth p1 T.cl_Reader m_Reader_refuse G_Reader_refuse (hr.mono (by decide)) b_Reader_refuse .nil pass0 (pa_cons pe_str pa_nil)))) pss_nil) (pss_one (ps_ret (pe_bm0 PySem.F.plainAttrs_list PySem.F.slot_list_pop PySem.F.type_list_pop mt_pop (pe_fld p1 rfl)))))))
theorem sc_law : FnScope ["_law_script", "_law_piece", "_law_letters", "_law_seed", "_law_word", "_law_line", "_law_due", "_law_found"] ["_law_script"] (defScope (top 21)) := ⟨rfl, rfl, rfl, by decide +kernel, rfl, by decide +kernel, by decide +kernel⟩
theorem ok_law (F : Fun K "law" "law" (top 21) f fd) (T : Txt K mg a) (rc : RC K a.a_Reader)
    {fd__law_drawn_main : FuncData} (G__law_drawn_main : FnOk P w K mg base CX0 3 a.a__law_drawn_main fd__law_drawn_main ["_law_cells"] (spMain K)) (F__law_drawn_main : Fun K "_law_drawn_main" "_law_drawn_main" (top 16) a.a__law_drawn_main fd__law_drawn_main) (b__law_drawn_main : Binds K fd__law_drawn_main ["_law_cells"] [])
    {fd__law_at : FuncData} (G__law_at : FnOk P w K mg base CX0 1 a.a__law_at fd__law_at ["_law_script", "_law_k"] (spAtG K)) (F__law_at : Fun K "_law_at" "_law_at" (top 13) a.a__law_at fd__law_at) (b__law_at : Binds K fd__law_at ["_law_script", "_law_k"] [])
    {fd_shown : FuncData} (G_shown : FnOk P w K mg base CX0 3 a.a_shown fd_shown ["piece"] spShown) (F_shown : Fun K "shown" "shown" (top 8) a.a_shown fd_shown) (b_shown : Binds K fd_shown ["piece"] [])
    {fd__law_line_of : FuncData} (G__law_line_of : FnOk P w K mg base CX0 1 a.a__law_line_of fd__law_line_of ["_law_piece"] (spLine SMain)) (F__law_line_of : Fun K "_law_line_of" "_law_line_of" (top 18) a.a__law_line_of fd__law_line_of) (b__law_line_of : Binds K fd__law_line_of ["_law_piece"] [])
    {fd_read : FuncData} (G_read : FnOk P w K mg base CX0 6 a.a_read fd_read ["line"] spRead) (F_read : Fun K "read" "read" (top 10) a.a_read fd_read) (b_read : Binds K fd_read ["line"] [])
    {fd__law_is_piece : FuncData} (G__law_is_piece : FnOk P w K mg base CX0 2 a.a__law_is_piece fd__law_is_piece ["_law_found"] spIsPiece) (F__law_is_piece : Fun K "_law_is_piece" "_law_is_piece" (top 17) a.a__law_is_piece fd__law_is_piece) (b__law_is_piece : Binds K fd__law_is_piece ["_law_found"] []) : FnOk P w K mg base CX0 7 f fd ["_law_script"] (spLaw10 K) := by
  refine F.ok sc_law (fun vs H Q E h => ?_) (fun cdv A outer s H vs Q E hr h => ⟨S10.t_law K, ?_, S10.rd_law h⟩)
  · obtain ⟨_, _, rfl, _⟩ := h
    rfl
  have nd := sc_law.nd
  have hu := hu_of hr
  have hu0 := hr.units0
  have hu2 := hu2_of hr
  have p0 : ∀ {pos : Pos}, PE ((cxOf CX0 P w K mg base ["_law_script", "_law_piece", "_law_letters", "_law_seed", "_law_word", "_law_line", "_law_due", "_law_found"] "law" (defScope (top 21)) f cdv A outer s H E).nox) (.Name "_law_script" pos) (tVar 0) := fun {pos} => pv 0
  have p1 : ∀ {pos : Pos}, PE ((cxOf CX0 P w K mg base ["_law_script", "_law_piece", "_law_letters", "_law_seed", "_law_word", "_law_line", "_law_due", "_law_found"] "law" (defScope (top 21)) f cdv A outer s H E).nox) (.Name "_law_piece" pos) (tVar 1) := fun {pos} => pv 1
  have p2 : ∀ {pos : Pos}, PE ((cxOf CX0 P w K mg base ["_law_script", "_law_piece", "_law_letters", "_law_seed", "_law_word", "_law_line", "_law_due", "_law_found"] "law" (defScope (top 21)) f cdv A outer s H E).nox) (.Name "_law_letters" pos) (tVar 2) := fun {pos} => pv 2
  have p3 : ∀ {pos : Pos}, PE ((cxOf CX0 P w K mg base ["_law_script", "_law_piece", "_law_letters", "_law_seed", "_law_word", "_law_line", "_law_due", "_law_found"] "law" (defScope (top 21)) f cdv A outer s H E).nox) (.Name "_law_seed" pos) (tVar 3) := fun {pos} => pv 3
  have p4 : ∀ {pos : Pos}, PE ((cxOf CX0 P w K mg base ["_law_script", "_law_piece", "_law_letters", "_law_seed", "_law_word", "_law_line", "_law_due", "_law_found"] "law" (defScope (top 21)) f cdv A outer s H E).nox) (.Name "_law_word" pos) (tVar 4) := fun {pos} => pv 4
  have p5 : ∀ {pos : Pos}, PE ((cxOf CX0 P w K mg base ["_law_script", "_law_piece", "_law_letters", "_law_seed", "_law_word", "_law_line", "_law_due", "_law_found"] "law" (defScope (top 21)) f cdv A outer s H E).nox) (.Name "_law_line" pos) (tVar 5) := fun {pos} => pv 5
  have p6 : ∀ {pos : Pos}, PE ((cxOf CX0 P w K mg base ["_law_script", "_law_piece", "_law_letters", "_law_seed", "_law_word", "_law_line", "_law_due", "_law_found"] "law" (defScope (top 21)) f cdv A outer s H E).nox) (.Name "_law_due" pos) (tVar 6) := fun {pos} => pv 6
  have p7 : ∀ {pos : Pos}, PE ((cxOf CX0 P w K mg base ["_law_script", "_law_piece", "_law_letters", "_law_seed", "_law_word", "_law_line", "_law_due", "_law_found"] "law" (defScope (top 21)) f cdv A outer s H E).nox) (.Name "_law_found" pos) (tVar 7) := fun {pos} => pv 7
  have l1 : Loc (((cxOf CX0 P w K mg base ["_law_script", "_law_piece", "_law_letters", "_law_seed", "_law_word", "_law_line", "_law_due", "_law_found"] "law" (defScope (top 21)) f cdv A outer s H E).nox)).env.scope "_law_piece" := by first | exact Or.inl rfl | exact Or.inr rfl
  have g1 : ∀ {pos : Pos}, PG ((cxOf CX0 P w K mg base ["_law_script", "_law_piece", "_law_letters", "_law_seed", "_law_word", "_law_line", "_law_due", "_law_found"] "law" (defScope (top 21)) f cdv A outer s H E).nox) (.Name "_law_piece" pos) (gName 1) := fun {pos} => pg_name (i := 1) nd rfl l1
  have l2 : Loc (((cxOf CX0 P w K mg base ["_law_script", "_law_piece", "_law_letters", "_law_seed", "_law_word", "_law_line", "_law_due", "_law_found"] "law" (defScope (top 21)) f cdv A outer s H E).nox)).env.scope "_law_letters" := by first | exact Or.inl rfl | exact Or.inr rfl
  have g2 : ∀ {pos : Pos}, PG ((cxOf CX0 P w K mg base ["_law_script", "_law_piece", "_law_letters", "_law_seed", "_law_word", "_law_line", "_law_due", "_law_found"] "law" (defScope (top 21)) f cdv A outer s H E).nox) (.Name "_law_letters" pos) (gName 2) := fun {pos} => pg_name (i := 2) nd rfl l2
  have l3 : Loc (((cxOf CX0 P w K mg base ["_law_script", "_law_piece", "_law_letters", "_law_seed", "_law_word", "_law_line", "_law_due", "_law_found"] "law" (defScope (top 21)) f cdv A outer s H E).nox)).env.scope "_law_seed" := by first | exact Or.inl rfl | exact Or.inr rfl
  have g3 : ∀ {pos : Pos}, PG ((cxOf CX0 P w K mg base ["_law_script", "_law_piece", "_law_letters", "_law_seed", "_law_word", "_law_line", "_law_due", "_law_found"] "law" (defScope (top 21)) f cdv A outer s H E).nox) (.Name "_law_seed" pos) (gName 3) := fun {pos} => pg_name (i := 3) nd rfl l3
  have l4 : Loc (((cxOf CX0 P w K mg base ["_law_script", "_law_piece", "_law_letters", "_law_seed", "_law_word", "_law_line", "_law_due", "_law_found"] "law" (defScope (top 21)) f cdv A outer s H E).nox)).env.scope "_law_word" := by first | exact Or.inl rfl | exact Or.inr rfl
  have g4 : ∀ {pos : Pos}, PG ((cxOf CX0 P w K mg base ["_law_script", "_law_piece", "_law_letters", "_law_seed", "_law_word", "_law_line", "_law_due", "_law_found"] "law" (defScope (top 21)) f cdv A outer s H E).nox) (.Name "_law_word" pos) (gName 4) := fun {pos} => pg_name (i := 4) nd rfl l4
  have l5 : Loc (((cxOf CX0 P w K mg base ["_law_script", "_law_piece", "_law_letters", "_law_seed", "_law_word", "_law_line", "_law_due", "_law_found"] "law" (defScope (top 21)) f cdv A outer s H E).nox)).env.scope "_law_line" := by first | exact Or.inl rfl | exact Or.inr rfl
  have g5 : ∀ {pos : Pos}, PG ((cxOf CX0 P w K mg base ["_law_script", "_law_piece", "_law_letters", "_law_seed", "_law_word", "_law_line", "_law_due", "_law_found"] "law" (defScope (top 21)) f cdv A outer s H E).nox) (.Name "_law_line" pos) (gName 5) := fun {pos} => pg_name (i := 5) nd rfl l5
  have l6 : Loc (((cxOf CX0 P w K mg base ["_law_script", "_law_piece", "_law_letters", "_law_seed", "_law_word", "_law_line", "_law_due", "_law_found"] "law" (defScope (top 21)) f cdv A outer s H E).nox)).env.scope "_law_due" := by first | exact Or.inl rfl | exact Or.inr rfl
  have g6 : ∀ {pos : Pos}, PG ((cxOf CX0 P w K mg base ["_law_script", "_law_piece", "_law_letters", "_law_seed", "_law_word", "_law_line", "_law_due", "_law_found"] "law" (defScope (top 21)) f cdv A outer s H E).nox) (.Name "_law_due" pos) (gName 6) := fun {pos} => pg_name (i := 6) nd rfl l6
  have l7 : Loc (((cxOf CX0 P w K mg base ["_law_script", "_law_piece", "_law_letters", "_law_seed", "_law_word", "_law_line", "_law_due", "_law_found"] "law" (defScope (top 21)) f cdv A outer s H E).nox)).env.scope "_law_found" := by first | exact Or.inl rfl | exact Or.inr rfl
  have g7 : ∀ {pos : Pos}, PG ((cxOf CX0 P w K mg base ["_law_script", "_law_piece", "_law_letters", "_law_seed", "_law_word", "_law_line", "_law_due", "_law_found"] "law" (defScope (top 21)) f cdv A outer s H E).nox) (.Name "_law_found" pos) (gName 7) := fun {pos} => pg_name (i := 7) nd rfl l7
  have k_str : Gl ((cxOf CX0 P w K mg base ["_law_script", "_law_piece", "_law_letters", "_law_seed", "_law_word", "_law_line", "_law_due", "_law_found"] "law" (defScope (top 21)) f cdv A outer s H E).nox) "str" := by rfl
  have k_isinstance : Gl ((cxOf CX0 P w K mg base ["_law_script", "_law_piece", "_law_letters", "_law_seed", "_law_word", "_law_line", "_law_due", "_law_found"] "law" (defScope (top 21)) f cdv A outer s H E).nox) "isinstance" := by rfl
  have k__law_drawn_main : Gl ((cxOf CX0 P w K mg base ["_law_script", "_law_piece", "_law_letters", "_law_seed", "_law_word", "_law_line", "_law_due", "_law_found"] "law" (defScope (top 21)) f cdv A outer s H E).nox) "_law_drawn_main" := by rfl
  have k__law_at : Gl ((cxOf CX0 P w K mg base ["_law_script", "_law_piece", "_law_letters", "_law_seed", "_law_word", "_law_line", "_law_due", "_law_found"] "law" (defScope (top 21)) f cdv A outer s H E).nox) "_law_at" := by rfl
  have k_shown : Gl ((cxOf CX0 P w K mg base ["_law_script", "_law_piece", "_law_letters", "_law_seed", "_law_word", "_law_line", "_law_due", "_law_found"] "law" (defScope (top 21)) f cdv A outer s H E).nox) "shown" := by rfl
  have k__law_line_of : Gl ((cxOf CX0 P w K mg base ["_law_script", "_law_piece", "_law_letters", "_law_seed", "_law_word", "_law_line", "_law_due", "_law_found"] "law" (defScope (top 21)) f cdv A outer s H E).nox) "_law_line_of" := by rfl
  have k_read : Gl ((cxOf CX0 P w K mg base ["_law_script", "_law_piece", "_law_letters", "_law_seed", "_law_word", "_law_line", "_law_due", "_law_found"] "law" (defScope (top 21)) f cdv A outer s H E).nox) "read" := by rfl
  have k__law_is_piece : Gl ((cxOf CX0 P w K mg base ["_law_script", "_law_piece", "_law_letters", "_law_seed", "_law_word", "_law_line", "_law_due", "_law_found"] "law" (defScope (top 21)) f cdv A outer s H E).nox) "_law_is_piece" := by rfl
  exact (pss_cons (ps_set (i := 1) nd rfl l1 (pe_call G__law_drawn_main (hr.mono (by decide)) k__law_drawn_main T.g__law_drawn_main F__law_drawn_main.kp b__law_drawn_main .nil pass0 (pa_cons (pe_slice sl_list p0 (po_some pe_int) (po_some pe_int)) pa_nil))) (pss_cons (ps_set (i := 2) nd rfl l2 pe_str) (pss_cons (ps_set (i := 3) nd rfl l3 (pe_call G__law_at (hr.mono (by decide)) k__law_at T.g__law_at F__law_at.kp b__law_at .nil pass0 (pa_cons p0 (pa_cons pe_int pa_nil)))) (pss_cons (ps_set (i := 4) nd rfl l4 (pe_op op_add_str (pe_ix ix_str p2 (pe_op op_mod p3 pe_int) (fun _ _ => rfl)) (pe_ix ix_str p2 (pe_op op_mod (pe_call G__law_at (hr.mono (by decide)) k__law_at T.g__law_at F__law_at.kp b__law_at .nil pass0 (pa_cons p0 (pa_cons pe_int pa_nil))) pe_int) (fun _ _ => rfl)))) (pss_cons (ps_set (i := 1) nd rfl l1 (pe_tup (pa_cons pe_str (pa_cons p4 (pa_cons (pe_tup (pa_cons pe_str (pa_cons p4 pa_nil))) (pa_cons p1 pa_nil)))))) (pss_cons (ps_set (i := 5) nd rfl l5 (pe_call G_shown (hr.mono (by decide)) k_shown T.g_shown F_shown.kp b_shown .nil pass0 (pa_cons p1 pa_nil))) (pss_cons (ps_set (i := 6) nd rfl l6 (pe_call G__law_line_of (hr.mono (by decide)) k__law_line_of T.g__law_line_of F__law_line_of.kp b__law_line_of .nil pass0 (pa_cons p1 pa_nil))) (pss_cons (ps_if (pw_or (pt_not (pt_val (pe_callB call_isi k_isinstance T.n_isinstance bo_isinstance (pa_cons p5 (pa_cons (pe_bltn (v := .ty "str") k_str T.n_str bo_str rfl) pa_nil))))) (pw_or1 (pt_cmpR op_ne p5 p6 (nomark _)))).pt (pss_one (ps_ret pe_bl)) pss_nil) (pss_cons (ps_set (i := 7) nd rfl l7 (pe_call G_read (hr.mono (by decide)) k_read T.g_read F_read.kp b_read .nil pass0 (pa_cons p6 pa_nil))) (pss_one (ps_ret (pe_and (pe_call G__law_is_piece (hr.mono (by decide)) k__law_is_piece T.g__law_is_piece F__law_is_piece.kp b__law_is_piece .nil pass0 (pa_cons p7 pa_nil)) (pe_one (pe_cmpR (op_eqDen hu2) p7 p1 (nomark _)))))))))))))))
end
end K10

set_option Elab.async false
set_option linter.all false
set_option maxRecDepth 100000
set_option maxHeartbeats 4000000
namespace K10
open PySem L2 SW
theorem all_mk {l : PySem.W.OpenLaw} {w : World} {K : PySem.W.Frag} {h : Heap} {mg : Str → Option Value} {fa : Addr} (X : K.In h) (G : h.Ns mainGlobals mg) (hfa : mg "law" = some (.ref fa))
    {f0 : Addr} {od0 an0 : Option Addr} {sl0 : Array (Option Value)} {oc0 kV0 dc0 pm0 cd0 ct0 : Value}
    {f1 : Addr} {od1 an1 : Option Addr} {sl1 : Array (Option Value)} {oc1 kV1 dc1 pm1 cd1 ct1 : Value}
    {f2 : Addr} {od2 an2 : Option Addr} {sl2 : Array (Option Value)} {oc2 kV2 dc2 pm2 cd2 ct2 : Value}
    {f3 : Addr} {od3 an3 : Option Addr} {sl3 : Array (Option Value)} {oc3 kV3 dc3 pm3 cd3 ct3 : Value}
    {f4 : Addr} {od4 an4 : Option Addr} {sl4 : Array (Option Value)} {oc4 kV4 dc4 pm4 cd4 ct4 : Value}
    {f5 : Addr} {od5 an5 : Option Addr} {sl5 : Array (Option Value)} {oc5 kV5 dc5 pm5 cd5 ct5 : Value}
    {f6 : Addr} {od6 an6 : Option Addr} {sl6 : Array (Option Value)} {oc6 kV6 dc6 pm6 cd6 ct6 : Value}
    {f7 : Addr} {od7 an7 : Option Addr} {sl7 : Array (Option Value)} {oc7 kV7 dc7 pm7 cd7 ct7 : Value}
    {f8 : Addr} {od8 an8 : Option Addr} {sl8 : Array (Option Value)} {oc8 kV8 dc8 pm8 cd8 ct8 : Value}
    {f9 : Addr} {od9 an9 : Option Addr} {sl9 : Array (Option Value)} {oc9 kV9 dc9 pm9 cd9 ct9 : Value}
    {f10 : Addr} {od10 an10 : Option Addr} {sl10 : Array (Option Value)} {oc10 kV10 dc10 pm10 cd10 ct10 : Value}
    {f11 : Addr} {od11 an11 : Option Addr} {sl11 : Array (Option Value)} {oc11 kV11 dc11 pm11 cd11 ct11 : Value}
    {f12 : Addr} {od12 an12 : Option Addr} {sl12 : Array (Option Value)} {oc12 kV12 dc12 pm12 cd12 ct12 : Value}
    {f13 : Addr} {od13 an13 : Option Addr} {sl13 : Array (Option Value)} {oc13 kV13 dc13 pm13 cd13 ct13 : Value}
    {f14 : Addr} {od14 an14 : Option Addr} {sl14 : Array (Option Value)} {oc14 kV14 dc14 pm14 cd14 ct14 : Value}
    {f15 : Addr} {od15 an15 : Option Addr} {sl15 : Array (Option Value)} {oc15 kV15 dc15 pm15 cd15 ct15 : Value}
    {f16 : Addr} {od16 an16 : Option Addr} {sl16 : Array (Option Value)} {oc16 kV16 dc16 pm16 cd16 ct16 : Value}
    {f17 : Addr} {od17 an17 : Option Addr} {sl17 : Array (Option Value)} {oc17 kV17 dc17 pm17 cd17 ct17 : Value}
    {f18 : Addr} {od18 an18 : Option Addr} {sl18 : Array (Option Value)} {oc18 kV18 dc18 pm18 cd18 ct18 : Value}
    {f19 : Addr} {od19 an19 : Option Addr} {sl19 : Array (Option Value)} {oc19 kV19 dc19 pm19 cd19 ct19 : Value}
    {f20 : Addr} {od20 an20 : Option Addr} {sl20 : Array (Option Value)} {oc20 kV20 dc20 pm20 cd20 ct20 : Value}
    {f21 : Addr} {od21 an21 : Option Addr} {sl21 : Array (Option Value)} {oc21 kV21 dc21 pm21 cd21 ct21 : Value}
    {f22 : Addr} {od22 an22 : Option Addr} {sl22 : Array (Option Value)} {oc22 kV22 dc22 pm22 cd22 ct22 : Value}
    {f23 : Addr} {od23 an23 : Option Addr} {sl23 : Array (Option Value)} {oc23 kV23 dc23 pm23 cd23 ct23 : Value}
    {f24 : Addr} {od24 an24 : Option Addr} {sl24 : Array (Option Value)} {oc24 kV24 dc24 pm24 cd24 ct24 : Value}
    {f25 : Addr} {od25 an25 : Option Addr} {sl25 : Array (Option Value)} {oc25 kV25 dc25 pm25 cd25 ct25 : Value}
    {f26 : Addr} {od26 an26 : Option Addr} {sl26 : Array (Option Value)} {oc26 kV26 dc26 pm26 cd26 ct26 : Value}
    {C : Addr} {tk0 : Tok} {tk1 : Tok}
    (aC : PySem.W.nsIn K mainGlobals "Reader" = some (some (.ref C)))
    (a0 : PySem.W.nsIn K mainGlobals "_law_any" = some (some (.ref f0)))
    (l0 : K.lookup f0 = some ⟨oc0, od0, .func (PySem.W.fnOf "_law_any" "_law_any" (defArgs (top 20)) (defBody (top 20)) (defScope (top 20)) .none kV0 dc0 pm0 an0 cd0 ct0), sl0⟩)
    (c0 : PySem.W.codeIn K cd0 "_law_any" = true)
    (k0 : PySem.W.keepIn K (.ref f0) = true)
    (a1 : PySem.W.nsIn K mainGlobals "_law_any_word" = some (some (.ref f1)))
    (l1 : K.lookup f1 = some ⟨oc1, od1, .func (PySem.W.fnOf "_law_any_word" "_law_any_word" (defArgs (top 19)) (defBody (top 19)) (defScope (top 19)) .none kV1 dc1 pm1 an1 cd1 ct1), sl1⟩)
    (c1 : PySem.W.codeIn K cd1 "_law_any_word" = true)
    (k1 : PySem.W.keepIn K (.ref f1) = true)
    (a2 : PySem.W.nsIn K mainGlobals "_law_whole" = some (some (.ref f2)))
    (l2 : K.lookup f2 = some ⟨oc2, od2, .func (PySem.W.fnOf "_law_whole" "_law_whole" (defArgs (top 12)) (defBody (top 12)) (defScope (top 12)) .none kV2 dc2 pm2 an2 cd2 ct2), sl2⟩)
    (c2 : PySem.W.codeIn K cd2 "_law_whole" = true)
    (k2 : PySem.W.keepIn K (.ref f2) = true)
    (a3 : PySem.W.nsIn K mainGlobals "_law_inside" = some (some (.ref f3)))
    (l3 : K.lookup f3 = some ⟨oc3, od3, .func (PySem.W.fnOf "_law_inside" "_law_inside" (defArgs (top 15)) (defBody (top 15)) (defScope (top 15)) .none kV3 dc3 pm3 an3 cd3 ct3), sl3⟩)
    (c3 : PySem.W.codeIn K cd3 "_law_inside" = true)
    (k3 : PySem.W.keepIn K (.ref f3) = true)
    (a4 : PySem.W.nsIn K mainGlobals "_law_at" = some (some (.ref f4)))
    (l4 : K.lookup f4 = some ⟨oc4, od4, .func (PySem.W.fnOf "_law_at" "_law_at" (defArgs (top 13)) (defBody (top 13)) (defScope (top 13)) .none kV4 dc4 pm4 an4 cd4 ct4), sl4⟩)
    (c4 : PySem.W.codeIn K cd4 "_law_at" = true)
    (k4 : PySem.W.keepIn K (.ref f4) = true)
    (a5 : PySem.W.nsIn K mainGlobals "_law_drawn_piece" = some (some (.ref f5)))
    (l5 : K.lookup f5 = some ⟨oc5, od5, .func (PySem.W.fnOf "_law_drawn_piece" "_law_drawn_piece" (defArgs (top 14)) (defBody (top 14)) (defScope (top 14)) .none kV5 dc5 pm5 an5 cd5 ct5), sl5⟩)
    (c5 : PySem.W.codeIn K cd5 "_law_drawn_piece" = true)
    (k5 : PySem.W.keepIn K (.ref f5) = true)
    (a6 : PySem.W.nsIn K mainGlobals "_law_drawn_main" = some (some (.ref f6)))
    (l6 : K.lookup f6 = some ⟨oc6, od6, .func (PySem.W.fnOf "_law_drawn_main" "_law_drawn_main" (defArgs (top 16)) (defBody (top 16)) (defScope (top 16)) .none kV6 dc6 pm6 an6 cd6 ct6), sl6⟩)
    (c6 : PySem.W.codeIn K cd6 "_law_drawn_main" = true)
    (k6 : PySem.W.keepIn K (.ref f6) = true)
    (a7 : PySem.W.nsIn K mainGlobals "_law_is_piece" = some (some (.ref f7)))
    (l7 : K.lookup f7 = some ⟨oc7, od7, .func (PySem.W.fnOf "_law_is_piece" "_law_is_piece" (defArgs (top 17)) (defBody (top 17)) (defScope (top 17)) .none kV7 dc7 pm7 an7 cd7 ct7), sl7⟩)
    (c7 : PySem.W.codeIn K cd7 "_law_is_piece" = true)
    (k7 : PySem.W.keepIn K (.ref f7) = true)
    (a8 : PySem.W.nsIn K mainGlobals "_law_line_of" = some (some (.ref f8)))
    (l8 : K.lookup f8 = some ⟨oc8, od8, .func (PySem.W.fnOf "_law_line_of" "_law_line_of" (defArgs (top 18)) (defBody (top 18)) (defScope (top 18)) .none kV8 dc8 pm8 an8 cd8 ct8), sl8⟩)
    (c8 : PySem.W.codeIn K cd8 "_law_line_of" = true)
    (k8 : PySem.W.keepIn K (.ref f8) = true)
    (a9 : PySem.W.nsIn K mainGlobals "with_commas" = some (some (.ref f9)))
    (l9 : K.lookup f9 = some ⟨oc9, od9, .func (PySem.W.fnOf "with_commas" "with_commas" (defArgs (top 6)) (defBody (top 6)) (defScope (top 6)) .none kV9 dc9 pm9 an9 cd9 ct9), sl9⟩)
    (c9 : PySem.W.codeIn K cd9 "with_commas" = true)
    (k9 : PySem.W.keepIn K (.ref f9) = true)
    (a10 : PySem.W.nsIn K mainGlobals "sections_of" = some (some (.ref f10)))
    (l10 : K.lookup f10 = some ⟨oc10, od10, .func (PySem.W.fnOf "sections_of" "sections_of" (defArgs (top 7)) (defBody (top 7)) (defScope (top 7)) .none kV10 dc10 pm10 an10 cd10 ct10), sl10⟩)
    (c10 : PySem.W.codeIn K cd10 "sections_of" = true)
    (k10 : PySem.W.keepIn K (.ref f10) = true)
    (a11 : PySem.W.nsIn K mainGlobals "shown" = some (some (.ref f11)))
    (l11 : K.lookup f11 = some ⟨oc11, od11, .func (PySem.W.fnOf "shown" "shown" (defArgs (top 8)) (defBody (top 8)) (defScope (top 8)) .none kV11 dc11 pm11 an11 cd11 ct11), sl11⟩)
    (c11 : PySem.W.codeIn K cd11 "shown" = true)
    (k11 : PySem.W.keepIn K (.ref f11) = true)
    (a12 : PySem.W.findIn K (.ref C) "__init__" = some (some (.ref f12)))
    (i12 : PySem.W.isFn K (.ref f12) = true)
    (l12 : K.lookup f12 = some ⟨oc12, od12, .func (PySem.W.fnOf "__init__" "Reader.__init__" (defArgs (inClass (top 9) 0)) (defBody (inClass (top 9) 0)) (defScope (inClass (top 9) 0)) .none kV12 dc12 pm12 an12 cd12 ct12), sl12⟩)
    (c12 : PySem.W.codeIn K cd12 "Reader.__init__" = true)
    (k12 : PySem.W.keepIn K (.ref f12) = true)
    (a13 : PySem.W.findIn K (.ref C) "refuse" = some (some (.ref f13)))
    (i13 : PySem.W.isFn K (.ref f13) = true)
    (l13 : K.lookup f13 = some ⟨oc13, od13, .func (PySem.W.fnOf "refuse" "Reader.refuse" (defArgs (inClass (top 9) 1)) (defBody (inClass (top 9) 1)) (defScope (inClass (top 9) 1)) .none kV13 dc13 pm13 an13 cd13 ct13), sl13⟩)
    (c13 : PySem.W.codeIn K cd13 "Reader.refuse" = true)
    (k13 : PySem.W.keepIn K (.ref f13) = true)
    (a14 : PySem.W.findIn K (.ref C) "skip" = some (some (.ref f14)))
    (i14 : PySem.W.isFn K (.ref f14) = true)
    (l14 : K.lookup f14 = some ⟨oc14, od14, .func (PySem.W.fnOf "skip" "Reader.skip" (defArgs (inClass (top 9) 2)) (defBody (inClass (top 9) 2)) (defScope (inClass (top 9) 2)) .none kV14 dc14 pm14 an14 cd14 ct14), sl14⟩)
    (c14 : PySem.W.codeIn K cd14 "Reader.skip" = true)
    (k14 : PySem.W.keepIn K (.ref f14) = true)
    (a15 : PySem.W.findIn K (.ref C) "need" = some (some (.ref f15)))
    (i15 : PySem.W.isFn K (.ref f15) = true)
    (l15 : K.lookup f15 = some ⟨oc15, od15, .func (PySem.W.fnOf "need" "Reader.need" (defArgs (inClass (top 9) 3)) (defBody (inClass (top 9) 3)) (defScope (inClass (top 9) 3)) .none kV15 dc15 pm15 an15 cd15 ct15), sl15⟩)
    (c15 : PySem.W.codeIn K cd15 "Reader.need" = true)
    (k15 : PySem.W.keepIn K (.ref f15) = true)
    (a16 : PySem.W.findIn K (.ref C) "run_of" = some (some (.ref f16)))
    (i16 : PySem.W.isFn K (.ref f16) = true)
    (l16 : K.lookup f16 = some ⟨oc16, od16, .func (PySem.W.fnOf "run_of" "Reader.run_of" (defArgs (inClass (top 9) 4)) (defBody (inClass (top 9) 4)) (defScope (inClass (top 9) 4)) .none kV16 dc16 pm16 an16 cd16 ct16), sl16⟩)
    (c16 : PySem.W.codeIn K cd16 "Reader.run_of" = true)
    (k16 : PySem.W.keepIn K (.ref f16) = true)
    (a17 : PySem.W.findIn K (.ref C) "read_behind_word" = some (some (.ref f17)))
    (i17 : PySem.W.isFn K (.ref f17) = true)
    (l17 : K.lookup f17 = some ⟨oc17, od17, .func (PySem.W.fnOf "read_behind_word" "Reader.read_behind_word" (defArgs (inClass (top 9) 6)) (defBody (inClass (top 9) 6)) (defScope (inClass (top 9) 6)) .none kV17 dc17 pm17 an17 cd17 ct17), sl17⟩)
    (c17 : PySem.W.codeIn K cd17 "Reader.read_behind_word" = true)
    (k17 : PySem.W.keepIn K (.ref f17) = true)
    (a18 : PySem.W.findIn K (.ref C) "read_let" = some (some (.ref f18)))
    (i18 : PySem.W.isFn K (.ref f18) = true)
    (l18 : K.lookup f18 = some ⟨oc18, od18, .func (PySem.W.fnOf "read_let" "Reader.read_let" (defArgs (inClass (top 9) 7)) (defBody (inClass (top 9) 7)) (defScope (inClass (top 9) 7)) .none kV18 dc18 pm18 an18 cd18 ct18), sl18⟩)
    (c18 : PySem.W.codeIn K cd18 "Reader.read_let" = true)
    (k18 : PySem.W.keepIn K (.ref f18) = true)
    (a19 : PySem.W.findIn K (.ref C) "read_number" = some (some (.ref f19)))
    (i19 : PySem.W.isFn K (.ref f19) = true)
    (l19 : K.lookup f19 = some ⟨oc19, od19, .func (PySem.W.fnOf "read_number" "Reader.read_number" (defArgs (inClass (top 9) 8)) (defBody (inClass (top 9) 8)) (defScope (inClass (top 9) 8)) .none kV19 dc19 pm19 an19 cd19 ct19), sl19⟩)
    (c19 : PySem.W.codeIn K cd19 "Reader.read_number" = true)
    (k19 : PySem.W.keepIn K (.ref f19) = true)
    (a20 : PySem.W.findIn K (.ref C) "read_piece" = some (some (.ref f20)))
    (i20 : PySem.W.isFn K (.ref f20) = true)
    (l20 : K.lookup f20 = some ⟨oc20, od20, .func (PySem.W.fnOf "read_piece" "Reader.read_piece" (defArgs (inClass (top 9) 5)) (defBody (inClass (top 9) 5)) (defScope (inClass (top 9) 5)) .none kV20 dc20 pm20 an20 cd20 ct20), sl20⟩)
    (c20 : PySem.W.codeIn K cd20 "Reader.read_piece" = true)
    (k20 : PySem.W.keepIn K (.ref f20) = true)
    (a21 : PySem.W.findIn K (.ref C) "read_between" = some (some (.ref f21)))
    (i21 : PySem.W.isFn K (.ref f21) = true)
    (l21 : K.lookup f21 = some ⟨oc21, od21, .func (PySem.W.fnOf "read_between" "Reader.read_between" (defArgs (inClass (top 9) 9)) (defBody (inClass (top 9) 9)) (defScope (inClass (top 9) 9)) .none kV21 dc21 pm21 an21 cd21 ct21), sl21⟩)
    (c21 : PySem.W.codeIn K cd21 "Reader.read_between" = true)
    (k21 : PySem.W.keepIn K (.ref f21) = true)
    (a22 : PySem.W.findIn K (.ref C) "make" = some (some (.ref f22)))
    (i22 : PySem.W.isFn K (.ref f22) = true)
    (l22 : K.lookup f22 = some ⟨oc22, od22, .func (PySem.W.fnOf "make" "Reader.make" (defArgs (inClass (top 9) 11)) (defBody (inClass (top 9) 11)) (defScope (inClass (top 9) 11)) .none kV22 dc22 pm22 an22 cd22 ct22), sl22⟩)
    (c22 : PySem.W.codeIn K cd22 "Reader.make" = true)
    (k22 : PySem.W.keepIn K (.ref f22) = true)
    (a23 : PySem.W.findIn K (.ref C) "read_behind_handed" = some (some (.ref f23)))
    (i23 : PySem.W.isFn K (.ref f23) = true)
    (l23 : K.lookup f23 = some ⟨oc23, od23, .func (PySem.W.fnOf "read_behind_handed" "Reader.read_behind_handed" (defArgs (inClass (top 9) 10)) (defBody (inClass (top 9) 10)) (defScope (inClass (top 9) 10)) .none kV23 dc23 pm23 an23 cd23 ct23), sl23⟩)
    (c23 : PySem.W.codeIn K cd23 "Reader.read_behind_handed" = true)
    (k23 : PySem.W.keepIn K (.ref f23) = true)
    (a24 : PySem.W.findIn K (.ref C) "take" = some (some (.ref f24)))
    (i24 : PySem.W.isFn K (.ref f24) = true)
    (l24 : K.lookup f24 = some ⟨oc24, od24, .func (PySem.W.fnOf "take" "Reader.take" (defArgs (inClass (top 9) 12)) (defBody (inClass (top 9) 12)) (defScope (inClass (top 9) 12)) .none kV24 dc24 pm24 an24 cd24 ct24), sl24⟩)
    (c24 : PySem.W.codeIn K cd24 "Reader.take" = true)
    (k24 : PySem.W.keepIn K (.ref f24) = true)
    (a25 : PySem.W.nsIn K mainGlobals "read" = some (some (.ref f25)))
    (l25 : K.lookup f25 = some ⟨oc25, od25, .func (PySem.W.fnOf "read" "read" (defArgs (top 10)) (defBody (top 10)) (defScope (top 10)) .none kV25 dc25 pm25 an25 cd25 ct25), sl25⟩)
    (c25 : PySem.W.codeIn K cd25 "read" = true)
    (k25 : PySem.W.keepIn K (.ref f25) = true)
    (a26 : PySem.W.nsIn K mainGlobals "law" = some (some (.ref f26)))
    (l26 : K.lookup f26 = some ⟨oc26, od26, .func (PySem.W.fnOf "law" "law" (defArgs (top 21)) (defBody (top 21)) (defScope (top 21)) .none kV26 dc26 pm26 an26 cd26 ct26), sl26⟩)
    (c26 : PySem.W.codeIn K cd26 "law" = true)
    (k26 : PySem.W.keepIn K (.ref f26) = true)
    (z0 : PySem.W.nsIn K mainGlobals "abs" = some none)
    (z1 : PySem.W.nsIn K mainGlobals "bool" = some none)
    (z2 : PySem.W.nsIn K mainGlobals "isinstance" = some none)
    (z3 : PySem.W.nsIn K mainGlobals "int" = some none)
    (z4 : PySem.W.nsIn K mainGlobals "list" = some none)
    (z5 : PySem.W.nsIn K mainGlobals "len" = some none)
    (z6 : PySem.W.nsIn K mainGlobals "min" = some none)
    (z7 : PySem.W.nsIn K mainGlobals "tuple" = some none)
    (z8 : PySem.W.nsIn K mainGlobals "str" = some none)
    (z9 : PySem.W.nsIn K mainGlobals "range" = some none)
    (z10 : PySem.W.nsIn K mainGlobals "reversed" = some none)
    (y0 : PySem.W.nsIn K mainGlobals "LETTERS" = some (some (.str "abcdefghijklmnopqrstuvwxyz" tk0)))
    (y1 : PySem.W.nsIn K mainGlobals "FIGURES" = some (some (.str "0123456789" tk1)))
    (pg : PySem.W.plainGet K C Str.empty = true)
    (hd : PySem.W.hasDictIn K C = true)
    (po : PySem.W.plainOver K C = true)
    (sa : PySem.W.findIn K (.ref C) "__setattr__" = some (some (.builtin "object.__setattr__")))
    (mk : PySem.W.makesIn K C = true)
    (kc : PySem.W.keepIn K (.ref C) = true)
    (nL : PySem.W.findIn K (.ref C) "line" = some none)
    (nA : PySem.W.findIn K (.ref C) "at" = some none)
    (nS : PySem.W.findIn K (.ref C) "steps" = some none)
    (nM : PySem.W.findIn K (.ref C) "made" = some none) :
    ∃ fd : FuncData, (∀ (s : Shared) (v : Value), BindsTo s fd ⟨[v], []⟩ [("_law_script", v)]) ∧ ∀ base : Heap, K.In base → base.Ns mainGlobals mg → FnOk l.prog w K mg base CX0 7 fa fd ["_law_script"] (spLaw10 K) := by
  have e := hfa.symm.trans (PySem.W.mg_of X G a26)
  cases e
  have T : Txt K mg ⟨f0, f1, f2, f3, f4, f5, f6, f7, f8, f9, f10, f11, f12, f13, f14, f15, f16, f17, f18, f19, f20, f21, f22, f23, f24, f25, C⟩ := ⟨PySem.W.mg_none_of X G z0, PySem.W.mg_none_of X G z1, PySem.W.mg_none_of X G z2, PySem.W.mg_none_of X G z3, PySem.W.mg_none_of X G z4, PySem.W.mg_none_of X G z5, PySem.W.mg_none_of X G z6, PySem.W.mg_none_of X G z7, PySem.W.mg_none_of X G z8, PySem.W.mg_none_of X G z9, PySem.W.mg_none_of X G z10, PySem.W.mg_of X G a0, PySem.W.mg_of X G a1, PySem.W.mg_of X G a2, PySem.W.mg_of X G a3, PySem.W.mg_of X G a4, PySem.W.mg_of X G a5, PySem.W.mg_of X G a6, PySem.W.mg_of X G a7, PySem.W.mg_of X G a8, PySem.W.mg_of X G a9, PySem.W.mg_of X G a10, PySem.W.mg_of X G a11, PySem.W.mg_of X G a25, ⟨_, PySem.W.mg_of X G y0⟩, ⟨_, PySem.W.mg_of X G y1⟩, PySem.W.mg_of X G aC, ⟨pg, hd, po, sa⟩⟩
  have rc : RC K C := ⟨⟨pg, hd, po, sa⟩, nL, nA, nS, nM⟩
  have F0 := fun_mk (st := top 20) l0 c0 k0
  have b0 := F0.binds (ps := ["_law_cell"]) fun _ _ _ _ _ _ us hl => match us, hl with | [_], _ => rfl
  have F1 := fun_mk (st := top 19) l1 c1 k1
  have b1 := F1.binds (ps := ["_law_cell"]) fun _ _ _ _ _ _ us hl => match us, hl with | [_], _ => rfl
  have F2 := fun_mk (st := top 12) l2 c2 k2
  have b2 := F2.binds (ps := ["_law_found"]) fun _ _ _ _ _ _ us hl => match us, hl with | [_], _ => rfl
  have F3 := fun_mk (st := top 15) l3 c3 k3
  have b3 := F3.binds (ps := ["_law_piece"]) fun _ _ _ _ _ _ us hl => match us, hl with | [_], _ => rfl
  have F4 := fun_mk (st := top 13) l4 c4 k4
  have b4 := F4.binds (ps := ["_law_script", "_law_k"]) fun _ _ _ _ _ _ us hl => match us, hl with | [_, _], _ => rfl
  have F5 := fun_mk (st := top 14) l5 c5 k5
  have b5 := F5.binds (ps := ["_law_cells", "_law_stamps"]) fun _ _ _ _ _ _ us hl => match us, hl with | [_, _], _ => rfl
  have F6 := fun_mk (st := top 16) l6 c6 k6
  have b6 := F6.binds (ps := ["_law_cells"]) fun _ _ _ _ _ _ us hl => match us, hl with | [_], _ => rfl
  have F7 := fun_mk (st := top 17) l7 c7 k7
  have b7 := F7.binds (ps := ["_law_found"]) fun _ _ _ _ _ _ us hl => match us, hl with | [_], _ => rfl
  have F8 := fun_mk (st := top 18) l8 c8 k8
  have b8 := F8.binds (ps := ["_law_piece"]) fun _ _ _ _ _ _ us hl => match us, hl with | [_], _ => rfl
  have F9 := fun_mk (st := top 6) l9 c9 k9
  have b9 := F9.binds (ps := ["pieces"]) fun _ _ _ _ _ _ us hl => match us, hl with | [_], _ => rfl
  have F10 := fun_mk (st := top 7) l10 c10 k10
  have b10 := F10.binds (ps := ["piece"]) fun _ _ _ _ _ _ us hl => match us, hl with | [_], _ => rfl
  have F11 := fun_mk (st := top 8) l11 c11 k11
  have b11 := F11.binds (ps := ["piece"]) fun _ _ _ _ _ _ us hl => match us, hl with | [_], _ => rfl
  have F12 := fun_mk (st := inClass (top 9) 0) l12 c12 k12
  have b12 := F12.binds (ps := ["self", "line"]) fun _ _ _ _ _ _ us hl => match us, hl with | [_, _], _ => rfl
  have F13 := fun_mk (st := inClass (top 9) 1) l13 c13 k13
  have b13 := F13.binds (ps := ["self", "wanted"]) fun _ _ _ _ _ _ us hl => match us, hl with | [_, _], _ => rfl
  have F14 := fun_mk (st := inClass (top 9) 2) l14 c14 k14
  have b14 := F14.binds (ps := ["self", "sign"]) fun _ _ _ _ _ _ us hl => match us, hl with | [_, _], _ => rfl
  have F15 := fun_mk (st := inClass (top 9) 3) l15 c15 k15
  have b15 := F15.binds (ps := ["self", "sign"]) fun _ _ _ _ _ _ us hl => match us, hl with | [_, _], _ => rfl
  have F16 := fun_mk (st := inClass (top 9) 4) l16 c16 k16
  have b16 := F16.binds (ps := ["self", "signs"]) fun _ _ _ _ _ _ us hl => match us, hl with | [_, _], _ => rfl
  have F17 := fun_mk (st := inClass (top 9) 6) l17 c17 k17
  have b17 := F17.binds (ps := ["self", "word"]) fun _ _ _ _ _ _ us hl => match us, hl with | [_, _], _ => rfl
  have F18 := fun_mk (st := inClass (top 9) 7) l18 c18 k18
  have b18 := F18.binds (ps := ["self"]) fun _ _ _ _ _ _ us hl => match us, hl with | [_], _ => rfl
  have F19 := fun_mk (st := inClass (top 9) 8) l19 c19 k19
  have b19 := F19.binds (ps := ["self"]) fun _ _ _ _ _ _ us hl => match us, hl with | [_], _ => rfl
  have F20 := fun_mk (st := inClass (top 9) 5) l20 c20 k20
  have b20 := F20.binds (ps := ["self"]) fun _ _ _ _ _ _ us hl => match us, hl with | [_], _ => rfl
  have F21 := fun_mk (st := inClass (top 9) 9) l21 c21 k21
  have b21 := F21.binds (ps := ["self"]) fun _ _ _ _ _ _ us hl => match us, hl with | [_], _ => rfl
  have F22 := fun_mk (st := inClass (top 9) 11) l22 c22 k22
  have b22 := F22.binds (ps := ["self", "head", "many"]) fun _ _ _ _ _ _ us hl => match us, hl with | [_, _, _], _ => rfl
  have F23 := fun_mk (st := inClass (top 9) 10) l23 c23 k23
  have b23 := F23.binds (ps := ["self", "word", "many"]) fun _ _ _ _ _ _ us hl => match us, hl with | [_, _, _], _ => rfl
  have F24 := fun_mk (st := inClass (top 9) 12) l24 c24 k24
  have b24 := F24.binds (ps := ["self", "step"]) fun _ _ _ _ _ _ us hl => match us, hl with | [_, _], _ => rfl
  have F25 := fun_mk (st := top 10) l25 c25 k25
  have b25 := F25.binds (ps := ["line"]) fun _ _ _ _ _ _ us hl => match us, hl with | [_], _ => rfl
  have F26 := fun_mk (st := top 21) l26 c26 k26
  have g0 : ∀ base : Heap, FnOk l.prog w K mg base CX0 1 f0 _ ["_law_cell"] spAny := fun base => ok_any F0 T rc 
  have g1 : ∀ base : Heap, FnOk l.prog w K mg base CX0 1 f1 _ ["_law_cell"] spWord := fun base => ok_aw F1 T rc 
  have g2 : ∀ base : Heap, FnOk l.prog w K mg base CX0 1 f2 _ ["_law_found"] spWhole := fun base => ok_wh F2 T rc 
  have g3 : ∀ base : Heap, FnOk l.prog w K mg base CX0 1 f3 _ ["_law_piece"] spInside := fun base => ok_ins F3 T rc 
  have g4 : ∀ base : Heap, FnOk l.prog w K mg base CX0 1 f4 _ ["_law_script", "_law_k"] (spAtG K) := fun base => ok_atg F4 T rc 
  have g5 : ∀ base : Heap, FnOk l.prog w K mg base CX0 2 f5 _ ["_law_cells", "_law_stamps"] (spDrawn K SMain) := fun base => ok_dp F5 T rc (g1 base) F1 b1 (g0 base) F0 b0
  have g6 : ∀ base : Heap, FnOk l.prog w K mg base CX0 3 f6 _ ["_law_cells"] (spMain K) := fun base => ok_main F6 T rc (g5 base) F5 b5
  have g7 : ∀ base : Heap, FnOk l.prog w K mg base CX0 2 f7 _ ["_law_found"] spIsPiece := fun base => ok_ip F7 T rc (g2 base) F2 b2 (g3 base) F3 b3
  have g8 : ∀ base : Heap, FnOk l.prog w K mg base CX0 1 f8 _ ["_law_piece"] (spLine SMain) := fun base => ok_lo F8 T rc 
  have g9 : ∀ base : Heap, FnOk l.prog w K mg base CX0 1 f9 _ ["pieces"] spCommas := fun base => ok_wc F9 T rc 
  have g10 : ∀ base : Heap, FnOk l.prog w K mg base CX0 2 f10 _ ["piece"] spSecs := fun base => ok_sc F10 T rc (g9 base) F9 b9
  have g11 : ∀ base : Heap, FnOk l.prog w K mg base CX0 3 f11 _ ["piece"] spShown := fun base => ok_sh F11 T rc (g10 base) F10 b10
  have g12 : ∀ base : Heap, FnOk l.prog w K mg base CX0 1 f12 _ ["self", "line"] (spInit C) := fun base => ok_ri F12 T rc 
  have g13 : ∀ base : Heap, FnOk l.prog w K mg base CX0 1 f13 _ ["self", "wanted"] spNo2 := fun base => (ok_rf (fd := PySem.W.fnOf "refuse" "Reader.refuse" (defArgs (inClass (top 9) 1)) (defBody (inClass (top 9) 1)) (defScope (inClass (top 9) 1)) .none kV13 dc13 pm13 an13 cd13 ct13))
  have g14 : ∀ base : Heap, FnOk l.prog w K mg base CX0 1 f14 _ ["self", "sign"] (spSkip C) := fun base => ok_sk F14 T rc 
  have g15 : ∀ base : Heap, FnOk l.prog w K mg base CX0 2 f15 _ ["self", "sign"] (spNeed C) := fun base => ok_nd F15 T rc (g14 base) F14 b14 ⟨a14, i14, k14⟩ (g13 base) F13 b13 ⟨a13, i13, k13⟩
  have g16 : ∀ base : Heap, FnOk l.prog w K mg base CX0 1 f16 _ ["self", "signs"] (spRun C) := fun base => ok_ro F16 T rc 
  have g17 : ∀ base : Heap, FnOk l.prog w K mg base CX0 2 f17 _ ["self", "word"] (spWordB C) := fun base => ok_rb F17 T rc (g14 base) F14 b14 ⟨a14, i14, k14⟩
  have g18 : ∀ base : Heap, FnOk l.prog w K mg base CX0 3 f18 _ ["self"] (spLetR C) := fun base => ok_rl F18 T rc (g16 base) F16 b16 ⟨a16, i16, k16⟩ (g13 base) F13 b13 ⟨a13, i13, k13⟩ (g15 base) F15 b15 ⟨a15, i15, k15⟩
  have g19 : ∀ base : Heap, FnOk l.prog w K mg base CX0 2 f19 _ ["self"] (spNumR C) := fun base => ok_rn F19 T rc (g14 base) F14 b14 ⟨a14, i14, k14⟩ (g16 base) F16 b16 ⟨a16, i16, k16⟩ (g13 base) F13 b13 ⟨a13, i13, k13⟩
  have g20 : ∀ base : Heap, FnOk l.prog w K mg base CX0 4 f20 _ ["self"] (spPiece C) := fun base => ok_rp F20 T rc (g16 base) F16 b16 ⟨a16, i16, k16⟩ (g17 base) F17 b17 ⟨a17, i17, k17⟩ (g14 base) F14 b14 ⟨a14, i14, k14⟩ (g18 base) F18 b18 ⟨a18, i18, k18⟩ (g19 base) F19 b19 ⟨a19, i19, k19⟩
  have g21 : ∀ base : Heap, FnOk l.prog w K mg base CX0 3 f21 _ ["self"] (spBetw C) := fun base => ok_rw F21 T rc (g14 base) F14 b14 ⟨a14, i14, k14⟩ (g15 base) F15 b15 ⟨a15, i15, k15⟩
  have g22 : ∀ base : Heap, FnOk l.prog w K mg base CX0 1 f22 _ ["self", "head", "many"] (spMake C) := fun base => ok_mk F22 T rc 
  have g23 : ∀ base : Heap, FnOk l.prog w K mg base CX0 3 f23 _ ["self", "word", "many"] (spHand C) := fun base => ok_rh F23 T rc (g14 base) F14 b14 ⟨a14, i14, k14⟩ (g15 base) F15 b15 ⟨a15, i15, k15⟩ (g22 base) F22 b22 ⟨a22, i22, k22⟩
  have g24 : ∀ base : Heap, FnOk l.prog w K mg base CX0 5 f24 _ ["self", "step"] (spTake C) := fun base => ok_tk F24 T rc (g20 base) F20 b20 ⟨a20, i20, k20⟩ (g21 base) F21 b21 ⟨a21, i21, k21⟩ (g23 base) F23 b23 ⟨a23, i23, k23⟩ (g15 base) F15 b15 ⟨a15, i15, k15⟩ (g22 base) F22 b22 ⟨a22, i22, k22⟩
  have g25 : ∀ base : Heap, FnOk l.prog w K mg base CX0 6 f25 _ ["line"] spRead := fun base => ok_rd F25 T rc (g12 base) F12 b12 ⟨mk, a12, i12, kc⟩ (g24 base) F24 b24 ⟨a24, i24, k24⟩ (g13 base) F13 b13 ⟨a13, i13, k13⟩
  exact ⟨PySem.W.fnOf "law" "law" (defArgs (top 21)) (defBody (top 21)) (defScope (top 21)) .none kV26 dc26 pm26 an26 cd26 ct26, fun s v => .of_eq rfl, fun base _ _ => ok_law F26 T rc (g6 base) F6 b6 (g4 base) F4 b4 (g11 base) F11 b11 (g8 base) F8 b8 (g25 base) F25 b25 (g7 base) F7 b7⟩
theorem walk {l : PySem.W.OpenLaw} {q : Program} {loose : List Str} {XP : (Str → Option Value) → Heap → Prop} {YP : World → Heap → Prop} {d : DefRec} {K : Params → PySem.W.Frag} (hn : l.most = some 63) (hdf : d.params.defaults = [])
    (hY : ∀ (w : World) (h : Heap), YP w h → (K w.params).In h)
    (F : ∀ (w : World) (mg : Str → Option Value) (fa : Addr) (h : Heap), (K w.params).In h → h.Ns mainGlobals mg → mg d.name = some (.ref fa) →
      ∃ fd : FuncData, (∀ (s : Shared) (u : Value), BindsTo s fd ⟨[u], []⟩ [("_law_script", u)]) ∧ ∀ base : Heap, (K w.params).In base → base.Ns mainGlobals mg → FnOk l.prog w (K w.params) mg base CX0 7 fa fd ["_law_script"] (spLaw10 (K w.params))) :
    PySem.W.WalkO q loose XP YP l.row.toRowW d [] (fun f vs => PySem.call f vs) :=
  L2.walk_of (n := 63) (k := 7) (x := "_law_script") (CX := fun _ => CX0) (sp := fun w => spLaw10 (K w.params)) hn (by decide) hdf ⟨rfl, by decide, by decide⟩ hY F (fun _ _ a ns hl _ hS => ⟨a, ns, rfl, hS, hl, fun _ => rfl⟩) fun _ _ _ _ _ z => z
end K10
open PySem PySem.W PyProof.Rows
set_option maxRecDepth 100000 in
set_option maxHeartbeats 0 in
theorem PySem.Challenge.cw_stampword_k10_whole_written_and_read_holds : PySem.Challenge.rw_stampword_k10_whole_written_and_read.Holds := by
  w_on; o_law; k_head; (case hw => w_witness2)
  k_fill
  refine K10.walk (l := PySem.Challenge.rw_stampword_k10_whole_written_and_read) rfl rfl (fun w h Y => PySem.W.kIn_of Y) ?F
  case F =>
    intro w mg fa h KX G hmg
    refine' K10.all_mk KX G hmg ?aC ?a0 ?l0 ?c0 ?k0 ?a1 ?l1 ?c1 ?k1 ?a2 ?l2 ?c2 ?k2 ?a3 ?l3 ?c3 ?k3 ?a4 ?l4 ?c4 ?k4 ?a5 ?l5 ?c5 ?k5 ?a6 ?l6 ?c6 ?k6 ?a7 ?l7 ?c7 ?k7 ?a8 ?l8 ?c8 ?k8 ?a9 ?l9 ?c9 ?k9 ?a10 ?l10 ?c10 ?k10 ?a11 ?l11 ?c11 ?k11 ?a12 ?i12 ?l12 ?c12 ?k12 ?a13 ?i13 ?l13 ?c13 ?k13 ?a14 ?i14 ?l14 ?c14 ?k14 ?a15 ?i15 ?l15 ?c15 ?k15 ?a16 ?i16 ?l16 ?c16 ?k16 ?a17 ?i17 ?l17 ?c17 ?k17 ?a18 ?i18 ?l18 ?c18 ?k18 ?a19 ?i19 ?l19 ?c19 ?k19 ?a20 ?i20 ?l20 ?c20 ?k20 ?a21 ?i21 ?l21 ?c21 ?k21 ?a22 ?i22 ?l22 ?c22 ?k22 ?a23 ?i23 ?l23 ?c23 ?k23 ?a24 ?i24 ?l24 ?c24 ?k24 ?a25 ?l25 ?c25 ?k25 ?a26 ?l26 ?c26 ?k26 ?z0 ?z1 ?z2 ?z3 ?z4 ?z5 ?z6 ?z7 ?z8 ?z9 ?z10 ?y0 ?y1 ?pg ?hd ?po ?sa ?mk ?kc ?nL ?nA ?nS ?nM
    (case aC => k_is)
    (case a0 => k_is)
    (case l0 => k_is)
    (case c0 => k_is)
    (case k0 => k_is)
    (case a1 => k_is)
    (case l1 => k_is)
    (case c1 => k_is)
    (case k1 => k_is)
    (case a2 => k_is)
    (case l2 => k_is)
    (case c2 => k_is)
    (case k2 => k_is)
    (case a3 => k_is)
    (case l3 => k_is)
    (case c3 => k_is)
    (case k3 => k_is)
    (case a4 => k_is)
    (case l4 => k_is)
    (case c4 => k_is)
    (case k4 => k_is)
    (case a5 => k_is)
    (case l5 => k_is)
    (case c5 => k_is)
    (case k5 => k_is)
    (case a6 => k_is)
    (case l6 => k_is)
    (case c6 => k_is)
    (case k6 => k_is)
    (case a7 => k_is)
    (case l7 => k_is)
    (case c7 => k_is)
    (case k7 => k_is)
    (case a8 => k_is)
    (case l8 => k_is)
    (case c8 => k_is)
    (case k8 => k_is)
    (case a9 => k_is)
    (case l9 => k_is)
    (case c9 => k_is)
    (case k9 => k_is)
    (case a10 => k_is)
    (case l10 => k_is)
    (case c10 => k_is)
    (case k10 => k_is)
    (case a11 => k_is)
    (case l11 => k_is)
    (case c11 => k_is)
    (case k11 => k_is)
    (case a12 => k_is)
    (case i12 => k_is)
    (case l12 => k_is)
    (case c12 => k_is)
    (case k12 => k_is)
    (case a13 => k_is)
    (case i13 => k_is)
    (case l13 => k_is)
    (case c13 => k_is)
    (case k13 => k_is)
    (case a14 => k_is)
    (case i14 => k_is)
    (case l14 => k_is)
    (case c14 => k_is)
    (case k14 => k_is)
    (case a15 => k_is)
    (case i15 => k_is)
    (case l15 => k_is)
    (case c15 => k_is)
    (case k15 => k_is)
    (case a16 => k_is)
    (case i16 => k_is)
    (case l16 => k_is)
    (case c16 => k_is)
    (case k16 => k_is)
    (case a17 => k_is)
    (case i17 => k_is)
    (case l17 => k_is)
    (case c17 => k_is)
    (case k17 => k_is)
    (case a18 => k_is)
    (case i18 => k_is)
    (case l18 => k_is)
    (case c18 => k_is)
    (case k18 => k_is)
    (case a19 => k_is)
    (case i19 => k_is)
    (case l19 => k_is)
    (case c19 => k_is)
    (case k19 => k_is)
    (case a20 => k_is)
    (case i20 => k_is)
    (case l20 => k_is)
    (case c20 => k_is)
    (case k20 => k_is)
    (case a21 => k_is)
    (case i21 => k_is)
    (case l21 => k_is)
    (case c21 => k_is)
    (case k21 => k_is)
    (case a22 => k_is)
    (case i22 => k_is)
    (case l22 => k_is)
    (case c22 => k_is)
    (case k22 => k_is)
    (case a23 => k_is)
    (case i23 => k_is)
    (case l23 => k_is)
    (case c23 => k_is)
    (case k23 => k_is)
    (case a24 => k_is)
    (case i24 => k_is)
    (case l24 => k_is)
    (case c24 => k_is)
    (case k24 => k_is)
    (case a25 => k_is)
    (case l25 => k_is)
    (case c25 => k_is)
    (case k25 => k_is)
    (case a26 => k_is)
    (case l26 => k_is)
    (case c26 => k_is)
    (case k26 => k_is)
    (case z0 => k_is)
    (case z1 => k_is)
    (case z2 => k_is)
    (case z3 => k_is)
    (case z4 => k_is)
    (case z5 => k_is)
    (case z6 => k_is)
    (case z7 => k_is)
    (case z8 => k_is)
    (case z9 => k_is)
    (case z10 => k_is)
    (case y0 => k_is)
    (case y1 => k_is)
    (case pg => k_is)
    (case hd => k_is)
    (case po => k_is)
    (case sa => k_is)
    (case mk => k_is)
    (case kc => k_is)
    (case nL => k_is)
    (case nA => k_is)
    (case nS => k_is)
    (case nM => k_is)
#print axioms PySem.Challenge.cw_stampword_k10_whole_written_and_read_holds

