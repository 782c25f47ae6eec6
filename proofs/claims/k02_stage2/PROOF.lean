import PyProof.Rows.All
import Wide.All
import OpenK.AllK
import Wide.FinOn
import Lean
import PyProof.EqAt
import PyProof.EqKinds
import PyProof.TupleCall
import PySem.Challenge.RW_stampword_k02_outside_names
set_option Elab.async false
set_option linter.all false
set_option maxRecDepth 100000
/-! THE HAND LAYER, for ints, bools, texts, own classes, LISTS and tuples (index, slices, in, append, pop ..), calls, loops. Paste it whole ahead of your own text; what your proof does not reach may be deleted. -/
namespace L2
open PySem PySem.Spec PyProof.Rows

/-- a key: an int or a str -/
abbrev Key := Sum Int Str
def keyIs : Key → Value → Bool
  | .inl k, v => Value.isInt k v
  | .inr x, v => Value.isStrOf x v
def keyH (w : World) : Key → Int
  | .inl k => hashInt k
  | .inr x => hashStr w x
theorem keyIs_shape : ∀ {k : Key} {v : Value}, keyIs k v = true → (∃ i t, k = Sum.inl i ∧ v = Value.int i t) ∨ (∃ x t, k = Sum.inr x ∧ v = Value.str x t)
  | .inl i, v, h => by
    obtain ⟨t, e⟩ := Value.isInt_shape (k := i) (v := v) h
    exact .inl ⟨i, t, rfl, e⟩
  | .inr x, v, h => by
    obtain ⟨t, e⟩ := Value.isStrOf_shape (x := x) (v := v) h
    exact .inr ⟨x, t, rfl, e⟩
theorem keyIs_int (i : Int) (t : Tok) : keyIs (.inl i) (.int i t) = true := by simp [keyIs, Value.isInt]
theorem keyIs_str (x : Str) (t : Tok) : keyIs (.inr x) (.str x t) = true := by simp [keyIs, Value.isStrOf]
theorem key_ll (a b : Int) : decide ((Sum.inl a : Key) = Sum.inl b) = (a == b) := by
  by_cases e : a = b
  · subst e; simp
  · have h : ¬ (Sum.inl a : Key) = Sum.inl b := fun q => e (Sum.inl.inj q)
    rw [decide_eq_false h]
    exact (beq_eq_false_iff_ne.mpr e).symm
theorem key_rr (a b : Str) : decide ((Sum.inr a : Key) = Sum.inr b) = decide (a = b) := by
  by_cases e : a = b
  · subst e; simp
  · have h : ¬ (Sum.inr a : Key) = Sum.inr b := fun q => e (Sum.inr.inj q)
    rw [decide_eq_false h, decide_eq_false e]
theorem key_lr (a : Int) (b : Str) : decide ((Sum.inl a : Key) = Sum.inr b) = false := decide_eq_false (fun q => nomatch q)
theorem key_rl (a : Str) (b : Int) : decide ((Sum.inr a : Key) = Sum.inl b) = false := decide_eq_false (fun q => nomatch q)

def mixKind (prog : Program) (w : World) : PySem.KeyKind prog w Key where
  is := keyIs
  hash := keyH w
  inj := fun v a b ha hb => by
    rcases keyIs_shape ha with ⟨i, t, rfl, rfl⟩ | ⟨x, t, rfl, rfl⟩
    · rcases keyIs_shape hb with ⟨j, u, rfl, e⟩ | ⟨y, u, rfl, e⟩
      · injection e with e1 _; rw [e1]
      · exact nomatch e
    · rcases keyIs_shape hb with ⟨j, u, rfl, e⟩ | ⟨y, u, rfl, e⟩
      · exact nomatch e
      · injection e with e1 _; rw [e1]
  byValue := fun k v h => by
    rcases keyIs_shape h with ⟨i, t, rfl, rfl⟩ | ⟨x, t, rfl, rfl⟩ <;> rfl
  pyHash := fun hv h => by
    rcases keyIs_shape hv with ⟨i, t, rfl, rfl⟩ | ⟨x, t, rfl, rfl⟩
    · exact wpAny_pyHash_int h
    · exact wpAny_pyHash_str h
  eqBool := fun hu hv h => by
    rcases keyIs_shape hu with ⟨i, t, rfl, rfl⟩ | ⟨x, t, rfl, rfl⟩
    · rcases keyIs_shape hv with ⟨j, u, rfl, rfl⟩ | ⟨y, u, rfl, rfl⟩
      · rw [key_ll] at h; exact wpAny_eqBool_int h
      · rw [key_lr] at h; exact SeqAt.EqAt.int_str i t y u _ _ _ _ h
    · rcases keyIs_shape hv with ⟨j, u, rfl, rfl⟩ | ⟨y, u, rfl, rfl⟩
      · rw [key_rl] at h; exact SeqAt.EqAt.str_int x t j u _ _ _ _ h
      · rw [key_rr] at h; exact wpAny_eqBool_str h
  «strs» := fun k x t v h => by
    rcases keyIs_shape h with ⟨i, u, rfl, e⟩ | ⟨y, u, rfl, e⟩
    · exact nomatch e
    · injection e with e1 _
      subst e1
      cases v <;> rfl

theorem mixKind_is (prog : Program) (w : World) (k : Key) (v : Value) : (mixKind prog w).is k v = keyIs k v := rfl
theorem mixKind_int (prog : Program) (w : World) (i : Int) (t : Tok) : (mixKind prog w).is (.inl i) (.int i t) = true := keyIs_int i t
theorem mixKind_str (prog : Program) (w : World) (x : Str) (t : Tok) : (mixKind prog w).is (.inr x) (.str x t) = true := keyIs_str x t
end L2

namespace L2
open PySem PySem.Spec PyProof.Rows

/-- a value, without the heap -/
inductive V where
  | non | bl (b : Bool) | int (i : Int) | str (x : Str) | byt (b : Array UInt8) | flt (b : UInt64) | ref (a : Addr) | ty (n : String)
  deriving DecidableEq

def RelV : V → Value → Prop
  | .non, u => u = Value.none
  | .bl b, u => u = Value.bool b
  | .int i, u => ∃ t, u = Value.int i t
  | .str x, u => ∃ t, u = Value.str x t
  | .byt b, u => ∃ t, u = Value.bytes b t
  | .flt b, u => ∃ t, u = Value.float b t
  | .ref a, u => u = Value.ref a
  | .ty n, u => u = Value.type n

abbrev Vals : List V → List Value → Prop := Paired RelV
theorem Vals.length {xs : List V} {us : List Value} (r : Vals xs us) : xs.length = us.length := Paired.length r
theorem Vals.get : ∀ {xs : List V} {us : List Value} {i : Nat} {x : V}, Vals xs us → xs[i]? = some x → ∃ u, us[i]? = some u ∧ RelV x u
  | _, _, _, _, .nil, e => by simp at e
  | _, _, 0, _, .cons r _, e => by simp at e; subst e; exact ⟨_, rfl, r⟩
  | _, _, i + 1, x, .cons _ t, e => by
    obtain ⟨u, h1, h2⟩ := Vals.get (i := i) (x := x) t (by simpa using e)
    exact ⟨u, by simpa using h1, h2⟩
theorem Vals.set {x : V} {u : Value} (r : RelV x u) : ∀ {xs : List V} {us : List Value} (i : Nat), Vals xs us → Vals (xs.set i x) (us.set i u)
  | _, _, _, .nil => .nil
  | _, _, 0, .cons _ t => .cons r t
  | _, _, i + 1, .cons q t => .cons q (Vals.set r i t)
theorem Vals.append : ∀ {xs ys : List V} {us ws : List Value}, Vals xs us → Vals ys ws → Vals (xs ++ ys) (us ++ ws)
  | _, _, _, _, .nil, s => s
  | _, _, _, _, .cons r t, s => .cons r (Vals.append t s)
theorem Vals.take : ∀ {xs : List V} {us : List Value} (n : Nat), Vals xs us → Vals (xs.take n) (us.take n)
  | _, _, 0, _ => .nil
  | _, _, _ + 1, .nil => .nil
  | _, _, n + 1, .cons r t => .cons r (Vals.take n t)
theorem Vals.drop : ∀ {xs : List V} {us : List Value} (n : Nat), Vals xs us → Vals (xs.drop n) (us.drop n)
  | _, _, 0, r => r
  | _, _, _ + 1, .nil => .nil
  | _, _, n + 1, .cons _ t => Vals.drop n t
theorem Vals.none_of : ∀ {xs : List V} {us : List Value} {i : Nat}, Vals xs us → xs[i]? = none → us[i]? = none := fun {xs us i} r e => by
  have h1 := r.length
  have h2 : xs.length ≤ i := List.getElem?_eq_none_iff.mp e
  exact List.getElem?_eq_none_iff.mpr (by omega)

def RelO : Option V → Option Value → Prop
  | some v, some u => RelV v u
  | none, none => True
  | _, _ => False
def KV {κ : Type} : List (κ × V) → List (κ × Value) → Prop := Paired fun (p : κ × V) (q : κ × Value) => p.1 = q.1 ∧ RelV p.2 q.2

/-- a key of a dict (00_mix): an int or a text -/
def kV : Key → V
  | .inl i => .int i
  | .inr x => .str x

/-- what stands at a tracked address -/
inductive HO where
  /-- a list -/
  | lst (xs : List V)
  /-- a tuple (never changes) -/
  | tup (xs : List V)
  /-- a dict whose keys are ints and texts; one whose keys are tuples of ints and texts (the empty one is both) -/
  | dK (kvs : List (Key × V)) | dT (kvs : List (List Key × V))
  /-- a set of ints: its members, its size -/
  | set (S : Int → Bool) (n : Nat)
  /-- an instance of the class at C, its dict at dx, its attributes -/
  | ins (C dx : Addr) (fs : List (Str × V))
  /-- the dict of the instance at x -/
  | own (x : Addr)
  /-- the dict of an exception -/
  | xd (fs : List (Str × V))
  /-- a bound method, f of x -/
  | met (f x : Addr)
  /-- a range object lo, lo + 1, .. below hi -/
  | rng (lo hi : Int)
  /-- a thing that is known to the object (the script; a dict while a loop walks it): read, never written while it is so -/
  | frz (o : Obj) (u : HO)
  /-- a code object's table -/
  | tbl (ps : Array Value)
  /-- any other thing, by what is true of its one object (a def of one's own: SetO a S n := HO.ext fun h => ..) -/
  | ext (φ : Heap → Prop)

abbrev Hp := Addr → Option HO
def upd (H : Hp) (a : Addr) (o : HO) : Hp := fun b => if b = a then some o else H b
theorem upd_same {H : Hp} {a : Addr} {o : HO} : upd H a o a = some o := by unfold upd; rw [if_pos rfl]
theorem upd_ne {H : Hp} {a b : Addr} {o : HO} (h : b ≠ a) : upd H a o b = H b := by unfold upd; rw [if_neg h]
theorem upd_upd {H : Hp} {a : Addr} {o u : HO} : upd (upd H a o) a u = upd H a u := by
  funext b; unfold upd; split <;> rfl
/-- two objects of different content stand apart -/
theorem ne_of {H : Hp} {a b : Addr} {o u : HO} (h : H a = some o) (h' : H b = some u) (d : o ≠ u) : a ≠ b := by
  intro e; subst e; rw [h] at h'; exact d (Option.some.inj h')
theorem ne_of_none {H : Hp} {a b : Addr} {o : HO} (h : H a = some o) (h' : H b = none) : a ≠ b := by
  intro e; subst e; rw [h] at h'; cases h'

section
variable (P : Program) (w : World)
def ObjOk (H : Hp) (h : Heap) (a : Addr) : HO → Prop
  | .lst xs => xs.length ≤ sizeLine ∧ ∃ (its : List Value) (n : Nat), Vals xs its ∧ h.get? a = some { cls := .type "list", data := .seq its.toArray n }
  | .tup xs => xs.length ≤ sizeLine ∧ ∃ its : List Value, Vals xs its ∧ IsTup h a its.toArray
  | .dK kvs => kvs.length ≤ sizeLine ∧ (a == sysModules) = false ∧ ∃ vs, KV kvs vs ∧ h.DictOf (mixKind P w) a vs
  | .dT kvs => kvs.length ≤ sizeLine ∧ (a == sysModules) = false ∧ ∃ xs : List (List Key × Addr × Value),
      Paired (fun (p : List Key × V) (q : List Key × Addr × Value) => p.1 = q.1 ∧ H q.2.1 = some (.tup (p.1.map kV)) ∧ RelV p.2 q.2.2) kvs xs ∧
      ∃ o es ep, h.get? a = some o ∧ o.ExactDict ∧ o.data = .dict es ep ∧ es.toList = xs.map (entryOfKey (tupleKind (mixKind P w))) ∧ (xs.map (·.1)).Nodup
  | .set S n => h.SetOf (intKind P w) a S n
  | .ins C dx fs => H dx = some (.own a) ∧ fs.length ≤ 1000 ∧ dx ≠ a ∧ h.get? a = some (PySem.W.instObj C dx) ∧
      ∃ mA, h.Ns1 dx mA ∧ (∀ f, RelO (fs.lookup f) (mA f)) ∧ PySem.Within mA (fs.map (·.1))
  | .own _ => ∃ o, h.get? a = some o
  | .xd fs => ∃ mA, h.Ns1 a mA ∧ ∀ f, RelO (fs.lookup f) (mA f)
  | .rng lo hi => ∃ t u v, h.get? a = some { cls := .type "range", data := .fields #[.int lo t, .int hi u, .int 1 v] }
  | .frz o u => h.get? a = some o ∧ ObjOk H h a u
  | .tbl ps => h.get? a = some { cls := .none, data := .fields ps }
  | .met f x => h.get? a = some (PySem.W.methodObj (.ref f) (.ref x))
  | .ext φ => φ h ∧ (∃ o, h.get? a = some o) ∧ ∀ h1 h2 : Heap, φ h1 → (∀ o, h1.get? a = some o → h2.get? a = some o) → φ h2
/-- the abstract heap is held -/
def HOk (H : Hp) (h : Heap) : Prop := ∀ a o, H a = some o → ObjOk P w H h a o
end

section
variable {P : Program} {w : World} {H H' : Hp} {h h' : Heap} {a : Addr} {o : HO}
theorem ObjOk.lt (x : ObjOk P w H h a o) : a < h.objs.size := by
  cases o with
  | lst xs => obtain ⟨_, _, _, _, e⟩ := x; exact Heap.lt_size e
  | tup xs => obtain ⟨_, _, _, p⟩ := x; exact p.lt
  | dK kvs => obtain ⟨_, _, _, _, o, _, _, e, _⟩ := x; exact Heap.lt_size e
  | dT kvs => obtain ⟨_, _, _, _, o, _, _, e, _⟩ := x; exact Heap.lt_size e
  | set S n => obtain ⟨o, _, _, _, e, _⟩ := x; exact Heap.lt_size e
  | ins C dx fs => obtain ⟨_, _, _, e, _⟩ := x; exact Heap.lt_size e
  | own y => obtain ⟨_, e⟩ := x; exact Heap.lt_size e
  | xd fs => obtain ⟨_, ⟨_, _, _, e, _⟩, _⟩ := x; exact Heap.lt_size e
  | rng lo hi => obtain ⟨_, _, _, e⟩ := x; exact Heap.lt_size e
  | frz ob u => obtain ⟨e, _⟩ := x; exact Heap.lt_size e
  | tbl ps => exact Heap.lt_size (show h.get? a = some _ from x)
  | met f y => exact Heap.lt_size (show h.get? a = some _ from x)
  | ext φ => obtain ⟨_, ⟨_, e⟩, _⟩ := x; exact Heap.lt_size e
theorem Paired.mapP {α β : Type} {F G : α → β → Prop} : ∀ {l₁ : List α} {l₂ : List β}, Paired F l₁ l₂ → (∀ a b, F a b → G a b) → Paired G l₁ l₂
  | _, _, .nil, _ => .nil
  | _, _, .cons r t, f => .cons (f _ _ r) (Paired.mapP t f)
theorem Paired.imp' {α β : Type} {F G : α → β → Prop} (f : ∀ a b, F a b → G a b) {l₁ : List α} {l₂ : List β} (r : Paired F l₁ l₂) : Paired G l₁ l₂ := Paired.mapP r f
/-- what an object's description leans on: its own object, its own dict, the tuples -/
theorem ObjOk.stay (x : ObjOk P w H h a o) (k : ∀ b u, (b = a ∨ H b = some (.own a)) → h.get? b = some u → h'.get? b = some u)
    (ho : ∀ b, H b = some (.own a) → H' b = some (.own a)) (ht : ∀ b xs, H b = some (.tup xs) → H' b = some (.tup xs)) : ObjOk P w H' h' a o := by
  induction o with
  | lst xs => obtain ⟨z, its, n, r, e⟩ := x; exact ⟨z, its, n, r, k _ _ (.inl rfl) e⟩
  | tup xs => obtain ⟨z, its, r, ob, e, c⟩ := x; exact ⟨z, its, r, ob, k _ _ (.inl rfl) e, c⟩
  | dK kvs => obtain ⟨z, y, vs, r, ob, es, ep, e, c⟩ := x; exact ⟨z, y, vs, r, ob, es, ep, k _ _ (.inl rfl) e, c⟩
  | dT kvs =>
    obtain ⟨z, y, xs, r, ob, es, ep, e, c⟩ := x
    exact ⟨z, y, xs, Paired.mapP r fun p q z => ⟨z.1, ht _ _ z.2.1, z.2.2⟩, ob, es, ep, k _ _ (.inl rfl) e, c⟩
  | set S n => obtain ⟨ob, es, ep, t, e, c⟩ := x; exact ⟨ob, es, ep, t, k _ _ (.inl rfl) e, c⟩
  | ins C dx fs =>
    obtain ⟨d, z, ne, e, mA, ⟨od, es, ep, e2, c⟩, r⟩ := x
    exact ⟨ho _ d, z, ne, k _ _ (.inl rfl) e, mA, ⟨od, es, ep, k _ _ (.inr d) e2, c⟩, r⟩
  | own y => obtain ⟨ob, e⟩ := x; exact ⟨ob, k _ _ (.inl rfl) e⟩
  | xd fs => obtain ⟨mA, ⟨od, es, ep, e, c⟩, r⟩ := x; exact ⟨mA, ⟨od, es, ep, k _ _ (.inl rfl) e, c⟩, r⟩
  | rng lo hi => obtain ⟨t, u, v, e⟩ := x; exact ⟨t, u, v, k _ _ (.inl rfl) e⟩
  | frz ob u ih => obtain ⟨e, q⟩ := x; exact ⟨k _ _ (.inl rfl) e, ih q⟩
  | tbl ps =>
    have e : h.get? a = some { cls := .none, data := .fields ps } := x
    show h'.get? a = some { cls := .none, data := .fields ps }
    exact k a _ (.inl rfl) e
  | met f y =>
    have e : h.get? a = some (PySem.W.methodObj (.ref f) (.ref y)) := x
    show h'.get? a = some (PySem.W.methodObj (.ref f) (.ref y))
    exact k a _ (.inl rfl) e
  | ext φ => obtain ⟨p, ⟨o, e⟩, st⟩ := x; exact ⟨st _ _ p fun o q => k _ _ (.inl rfl) q, ⟨o, k _ _ (.inl rfl) e⟩, st⟩
theorem HOk.lt (x : HOk P w H h) (e : H a = some o) : a < h.objs.size := (x a o e).lt
theorem HOk.fresh (x : HOk P w H h) (e : h.objs.size ≤ a) : H a = none := by
  cases q : H a with
  | none => rfl
  | some u => exact absurd (Nat.lt_of_lt_of_le (x.lt q) e) (Nat.lt_irrefl _)
/-- every object of the heap is kept -/
theorem HOk.kept (x : HOk P w H h) (k : ∀ b u, h.get? b = some u → h'.get? b = some u) : HOk P w H h' := fun a o e =>
  (x a o e).stay (fun b u _ q => k b u q) (fun _ q => q) fun _ _ q => q
/-- a new object is laid and tracked -/
theorem HOk.laid (x : HOk P w H h) (k : ∀ b u, h.get? b = some u → h'.get? b = some u) (hp : h.objs.size ≤ a) (new : ObjOk P w (upd H a o) h' a o) : HOk P w (upd H a o) h' := fun b u e => by
  have hn := x.fresh hp
  by_cases hb : b = a
  · subst hb; rw [upd_same] at e; cases e; exact new
  · rw [upd_ne hb] at e
    exact (x b u e).stay (fun c v _ q => k c v q) (fun c q => by rw [upd_ne (ne_of_none q hn)]; exact q) fun c xs q => by rw [upd_ne (ne_of_none q hn)]; exact q
end

/-- what may be read as u: it is u, or a known u -/
def Rd (H : Hp) (a : Addr) (u : HO) : Prop := H a = some u ∨ ∃ o, H a = some (.frz o u)
theorem Rd.of {H : Hp} {a : Addr} {u : HO} (h : H a = some u) : Rd H a u := .inl h
theorem Rd.ok {P : Program} {w : World} {H : Hp} {h : Heap} {a : Addr} {u : HO} (r : Rd H a u) (x : HOk P w H h) : ObjOk P w H h a u := by
  rcases r with r | ⟨o, r⟩
  · exact x a u r
  · obtain ⟨_, q⟩ := x a _ r
    exact q
/-- what may be written -/
def Mut : Option HO → Prop
  | some (.lst _) => True
  | some (.dK _) => True
  | some (.dT _) => True
  | some (.set _ _) => True
  | some (.ins _ _ _) => True
  | some (.ext _) => True
  | _ => False
section
variable {P : Program} {w : World} {H : Hp} {h h' : Heap} {x e : Addr} {o' : HO}
/-- the object at e is changed: x itself, or the dict of the instance x -/
theorem HOk.write (ok : HOk P w H h) (mu : Mut (H x)) (he : e = x ∨ H e = some (.own x)) (k : ∀ b u, b ≠ e → h.get? b = some u → h'.get? b = some u) (heo : ∃ u, h'.get? e = some u)
    (new : ObjOk P w (upd H x o') h' x o') : HOk P w (upd H x o') h' := fun b u q => by
  have nown : ∀ c y, H c = some (.own y) → c ≠ x := fun c y r z => by subst z; rw [r] at mu; exact mu
  have ntup : ∀ c xs, H c = some (.tup xs) → c ≠ x := fun c xs r z => by subst z; rw [r] at mu; exact mu
  by_cases hb : b = x
  · subst hb; rw [upd_same] at q; cases q; exact new
  · rw [upd_ne hb] at q
    by_cases hbe : b = e
    · have q' : H b = some (.own x) := by
        rcases he with z | z
        · exact absurd (hbe.trans z) hb
        · rw [hbe]; exact z
      rw [q] at q'; cases q'
      obtain ⟨v, hv⟩ := heo
      exact ⟨v, by rw [hbe]; exact hv⟩
    · refine (ok b u q).stay (fun c v hc r => k c v ?_ r) (fun c r => by rw [upd_ne (nown c b r)]; exact r) fun c xs r => by rw [upd_ne (ntup c xs r)]; exact r
      rcases hc with rfl | hc
      · exact hbe
      · rintro rfl
        rcases he with z | z
        · exact nown c b hc z
        · rw [hc] at z; cases z; exact hb rfl
end

/-! ### kept unless tracked; of the frames at fs (the callers') the slots may change (an exception that passes writes there); of the records at ex (iterators) nothing is said -/
structure Un (fs ex : List Addr) (H H' : Hp) (h h' : Heap) : Prop where
  keep : ∀ b o, h.get? b = some o → H b = none → b ∉ fs → b ∉ ex → h'.get? b = some o
  slot : ∀ b o, h.get? b = some o → H b = none → b ∈ fs → b ∉ ex → ∃ sl, h'.get? b = some { o with slots := sl }
  free : ∀ b o, h.get? b = some o → H b = none → b ∉ ex → H' b = none
  there : ∀ b o, h.get? b = some o → b ∉ ex → ∃ o', h'.get? b = some o'
  tups : ∀ b xs, H b = some (.tup xs) → H' b = some (.tup xs)
  frzs : ∀ b o u, H b = some (.frz o u) → H' b = some (.frz o u)
  tbls : ∀ b ps, H b = some (.tbl ps) → ∃ more, H' b = some (.tbl (ps ++ more))
section
variable {fs fs' ex ex' : List Addr} {H H1 H2 : Hp} {h h1 h2 h' : Heap} {a x e : Addr} {o : HO}
theorem Un.any (u : Un fs ex H H1 h h1) {b : Addr} {ob : Obj} (q : h.get? b = some ob) (n : H b = none) (hx : b ∉ ex) : ∃ sl, h1.get? b = some { ob with slots := sl } := by
  by_cases hb : b ∈ fs
  · exact u.slot b ob q n hb hx
  · exact ⟨ob.slots, u.keep b ob q n hb hx⟩
theorem Un.trans (a : Un fs ex H H1 h h1) (b : Un fs ex H1 H2 h1 h2) : Un fs ex H H2 h h2 where
  keep := fun c ob q n hc hx => b.keep c ob (a.keep c ob q n hc hx) (a.free c ob q n hx) hc hx
  slot := fun c ob q n hc hx => by
    obtain ⟨sl, e1⟩ := a.slot c ob q n hc hx
    obtain ⟨sl', e2⟩ := b.slot c _ e1 (a.free c ob q n hx) hc hx
    exact ⟨sl', e2⟩
  free := fun c ob q n hx => by
    obtain ⟨o', e1⟩ := a.there c ob q hx
    exact b.free c o' e1 (a.free c ob q n hx) hx
  there := fun c ob q hx => by
    obtain ⟨o', e1⟩ := a.there c ob q hx
    exact b.there c o' e1 hx
  tups := fun c xs q => b.tups c xs (a.tups c xs q)
  frzs := fun c ob xs q => b.frzs c ob xs (a.frzs c ob xs q)
  tbls := fun c ps q => by
    obtain ⟨m1, e1⟩ := a.tbls c ps q
    obtain ⟨m2, e2⟩ := b.tbls c _ e1
    exact ⟨m1 ++ m2, by rw [e2, Array.append_assoc]⟩
theorem Un.kept (k : ∀ b u, h.get? b = some u → h'.get? b = some u) : Un fs ex H H h h' :=
  ⟨fun b ob q _ _ _ => k b ob q, fun b ob q _ _ _ => ⟨ob.slots, k b ob q⟩, fun _ _ _ n _ => n, fun b ob q _ => ⟨ob, k b ob q⟩, fun _ _ q => q, fun _ _ _ q => q, fun _ ps q => ⟨#[], by rw [q]; simp⟩⟩
theorem Un.refl : Un fs ex H H h h := Un.kept fun _ _ q => q
theorem Un.laid (k : ∀ b u, h.get? b = some u → h'.get? b = some u) (hp : h.objs.size ≤ a) (hn : H a = none) : Un fs ex H (upd H a o) h h' where
  keep := fun b u q _ _ _ => k b u q
  slot := fun b u q _ _ _ => ⟨u.slots, k b u q⟩
  free := fun b u q n _ => by rw [upd_ne (Nat.ne_of_lt (Nat.lt_of_lt_of_le (Heap.lt_size q) hp))]; exact n
  there := fun b u q _ => ⟨u, k b u q⟩
  tups := fun b xs q => by rw [upd_ne (ne_of_none q hn)]; exact q
  frzs := fun b u xs q => by rw [upd_ne (ne_of_none q hn)]; exact q
  tbls := fun b ps q => ⟨#[], by rw [upd_ne (ne_of_none q hn), q]; simp⟩
theorem Un.write (mu : Mut (H x)) (he : e = x ∨ H e = some (.own x)) (k : ∀ b u, b ≠ e → h.get? b = some u → h'.get? b = some u) (heo : ∃ u, h'.get? e = some u) : Un fs ex H (upd H x o) h h' := by
  have hx : ∀ b, H b = none → b ≠ x := fun b n z => by subst z; rw [n] at mu; exact mu
  have hb : ∀ b, H b = none → b ≠ e := fun b n z => by
    subst z
    rcases he with r | r
    · exact hx b n r
    · rw [n] at r; cases r
  have hm : ∀ b u, H b = some u → ¬ Mut (some u) → b ≠ x := fun b u q nm z => by subst z; rw [q] at mu; exact nm mu
  refine ⟨fun b u q n _ _ => k b u (hb b n) q, fun b u q n _ _ => ⟨u.slots, k b u (hb b n) q⟩, fun b u q n _ => by rw [upd_ne (hx b n)]; exact n, fun b u q _ => ?_,
    fun b xs q => by rw [upd_ne (hm b _ q fun z => z)]; exact q, fun b u xs q => by rw [upd_ne (hm b _ q fun z => z)]; exact q, fun b ps q => ⟨#[], by rw [upd_ne (hm b _ q fun z => z), q]; simp⟩⟩
  by_cases hbe : b = e
  · subst hbe; exact heo
  · exact ⟨u, k b u hbe q⟩
theorem Un.mono (u : Un fs ex H H1 h h1) (hs : ∀ b ∈ fs, b ∈ fs') (hx : ∀ b ∈ ex, b ∈ ex') : Un fs' ex' H H1 h h1 :=
  ⟨fun b ob q n hb he => u.keep b ob q n (fun z => hb (hs b z)) fun z => he (hx b z), fun _ _ q n _ he => u.any q n fun z => he (hx _ z), fun b ob q n he => u.free b ob q n fun z => he (hx b z), fun b ob q he => u.there b ob q fun z => he (hx b z), u.tups, u.frzs, u.tbls⟩
end

/-! ### the heap without what is tracked -/
def trk (h : Heap) (H : Hp) : List Addr := (List.range h.objs.size).filter fun a => (H a).isSome
def hidT (h : Heap) (H : Hp) : Heap := PySem.W.hideAll h (trk h H)
theorem hidT_size (h : Heap) (H : Hp) : (hidT h H).objs.size = h.objs.size := PySem.W.hideAll_size _ _
theorem hidT_get {h : Heap} {H : Hp} {b : Addr} {o : Obj} (e : h.get? b = some o) (n : H b = none) : (hidT h H).get? b = some o :=
  PySem.W.hideAll_get _ e fun hm => by
    have q : (H b).isSome = true := (List.mem_filter.mp hm).2
    rw [n] at q; simp at q
theorem of_hidT {h : Heap} {H : Hp} {b : Addr} {o : Obj} (e : (hidT h H).get? b = some o) : h.get? b = some o ∧ H b = none := by
  have e' : h.get? b = some o := PySem.W.of_hideAll (trk h H) e
  refine ⟨e', ?_⟩
  cases q : H b with
  | none => rfl
  | some x =>
    have hm : b ∈ trk h H := List.mem_filter.mpr ⟨List.mem_range.mpr (Heap.lt_size e'), by simp [q]⟩
    have z : (hidT h H).get? b = none := PySem.W.hideAll_none (trk h H) hm
    rw [z] at e; cases e

/-! ### OpenK's ledger, filled with every new object but one -/
def allNews (g h : Heap) (L : Addr) : List (Addr × Obj) := (List.range h.objs.size).filterMap fun a => if a = L ∨ (g.get? a).isSome = true then none else (h.get? a).map fun o => (a, o)
theorem mem_allNews {g h : Heap} {L a : Addr} {o : Obj} (h1 : a ≠ L) (h2 : g.get? a = none) (h3 : h.get? a = some o) : (a, o) ∈ allNews g h L :=
  List.mem_filterMap.mpr ⟨a, List.mem_range.mpr (Heap.lt_size h3), by simp [h1, h2, h3]⟩
theorem of_mem_allNews {g h : Heap} {L : Addr} {p : Addr × Obj} (hp : p ∈ allNews g h L) : p.1 ≠ L ∧ g.get? p.1 = none ∧ h.get? p.1 = some p.2 := by
  obtain ⟨b, _, e⟩ := List.mem_filterMap.mp hp
  split at e
  · cases e
  · rename_i hn
    cases q : h.get? b with
    | none => rw [q] at e; simp at e
    | some u =>
      rw [q] at e
      simp only [Option.map_some, Option.some.injEq] at e
      subst e
      refine ⟨fun z => hn (.inl z), ?_, q⟩
      show g.get? b = none
      cases r : g.get? b with
      | none => rfl
      | some v => exact (hn (.inr (by simp [r]))).elim
def rest (g h : Heap) (L d : Addr) : List (Addr × Obj) := (allNews g h L).filter fun p => decide (p.1 ≠ d)
theorem rest_ne {g h : Heap} {L d : Addr} : ∀ p ∈ rest g h L d, p.1 ≠ d := fun p hp => of_decide_eq_true (List.mem_filter.mp hp).2
theorem mem_rest {g h : Heap} {L d a : Addr} {o : Obj} (h1 : a ≠ L) (h2 : g.get? a = none) (h3 : h.get? a = some o) (h4 : a ≠ d) : (a, o) ∈ rest g h L d :=
  List.mem_filter.mpr ⟨mem_allNews h1 h2 h3, decide_eq_true h4⟩
theorem news_all {g h : Heap} {L : Addr} : News g L h (allNews g h L) := fun p hp => let ⟨a, b, c⟩ := of_mem_allNews hp; ⟨c, a, b⟩
theorem news_at {g h : Heap} {L d : Addr} {o : Obj} (h1 : d ≠ L) (h2 : g.get? d = none) (h3 : h.get? d = some o) : News g L h ((d, o) :: rest g h L d) := fun p hp => by
  rcases List.mem_cons.mp hp with rfl | hp
  · exact ⟨h3, h1, h2⟩
  · exact news_all p (List.mem_filter.mp hp).1
/-- behind a rule that changed d alone: all else but the frame is kept -/
theorem kept_of_news {g h h' : Heap} {L d : Addr} {m : Str → Option Value} (k : ∀ b o, g.get? b = some o → h.get? b = some o) (F : Fr g L h' m) (N : News g L h' (rest g h L d)) :
    ∀ b o, b ≠ L → b ≠ d → h.get? b = some o → h'.get? b = some o := fun b o h1 h2 e => by
  cases q : g.get? b with
  | some u =>
    have := k b u q
    rw [e] at this; cases this
    exact F.keep b _ q
  | none => exact (N (b, o) (mem_rest h1 q e h2)).1
end L2

namespace L2
open PySem PySem.Spec PyProof.Rows

/-- the module's facts, over the base: the heap at the law's entry without what is tracked there -/
structure Mod (K : PySem.W.Frag) (mg : Str → Option Value) (base : Heap) : Prop where
  kin : K.In base
  glob : base.Ns mainGlobals mg
  blt : ∃ mb, base.Ns builtinsNs mb ∧ ∀ x : Str, x ≠ "__name__" → mb x = bootBuiltins x
  nolimit : base.NoLimit

/-- the context: a def's body (or a comprehension's block) running. base: fixed through the whole law; s₀, H₀: the entry; outer: the frames whose slots others may change (a def's callers); stack: all frames that run;
   ex: iterators that were made ahead of the entry and are walked here (a comprehension's); fn: the names whose cells were made at the entry (a def: all; a comprehension's block: its own); calm: not within an except suite; pn: pins that every state bears; xe: what is wanted of an exception that leaves the code -/
structure Cx where
  prog : Program
  w : World
  K : PySem.W.Frag
  mg : Str → Option Value
  base : Heap
  A : Around
  N : List Str
  s₀ : Shared
  H₀ : Hp
  env : Env
  outer : List Env
  stack : List Env
  ex : List Addr
  fn : Str → Bool
  calm : Bool
  pn : List (Addr × Obj)
  xe : Value → Shared → Prop
/-- the callers' frames -/
def frs (l : List Env) : List Addr := l.filterMap (·.frame)
abbrev Cx.fs (X : Cx) : List Addr := frs X.outer

def Vis (sc : Scope) (x : Str) : Prop := sc.names.lookup x = some .local ∨ sc.names.lookup x = some .cell ∨ sc.names.lookup x = some .free
def Loc (sc : Scope) (x : Str) : Prop := sc.names.lookup x = some .local ∨ sc.names.lookup x = some .cell
def Look (env : Env) (h : Heap) (m : Str → Option Value) (x : Str) (u : Value) : Prop :=
  (env.kindOf x = some .local ∧ m x = some u) ∨ ((env.kindOf x = some .cell ∨ env.kindOf x = some .free) ∧ ∃ c, env.cells.lookup x = some c ∧ h.IsCell c (some u))

structure Cx.Ok (X : Cx) : Prop where
  mod : Mod X.K X.mg X.base
  kind : X.env.scope.kind = .function
  glob : X.env.globals = mainGlobals
  blt : X.env.builtins = builtinsNs
  above : X.s₀.heap.objs.size ≤ X.env.locals
  inj : ∀ x y c, X.env.cells.lookup x = some c → X.env.cells.lookup y = some c → x = y
  has : ∀ x, (X.env.kindOf x = some .cell ∨ X.env.kindOf x = some .free) → ∃ c, X.env.cells.lookup x = some c
  cab : ∀ x c, X.fn x = true → X.env.cells.lookup x = some c → X.s₀.heap.objs.size ≤ c
  hd : X.calm = true → X.A.handled = none
  frames : X.A.frames = some X.stack
  stk : X.stack = X.outer ∨ (X.stack = X.env :: X.outer ∧ X.env.frame = some X.env.locals)
  exf : ∀ b ∈ X.ex, b ≠ X.env.locals ∧ ∀ x c, X.env.cells.lookup x = some c → c ≠ b
  bs : ∀ b o, X.base.get? b = some o → X.s₀.heap.get? b = some o ∧ X.H₀ b = none
  bsz : X.base.objs.size ≤ X.s₀.heap.objs.size
  noex : ∀ b o, X.base.get? b = some o → b ∉ X.ex
  exfs : ∀ b ∈ X.ex, b ∉ X.fs
  funs : X.s₀.heap.FunFrames X.base X.outer
  frf : ∀ b ∈ X.fs, X.H₀ b = none

structure Inv (X : Cx) (pins : List (Addr × Obj)) (σ : List (Option V)) (H : Hp) (s : Shared) : Prop where
  ok : X.Ok
  os : s.os = X.s₀.os
  bare : AllBare s.gens
  base : Un X.fs X.ex X.H₀ H X.s₀.heap s.heap
  loc : ∃ m, s.heap.Ns X.env.locals m ∧ ∀ (i : Nat) (x : Str) (v : V), X.N[i]? = some x → σ[i]? = some (some v) → Vis X.env.scope x → ∃ u, RelV v u ∧ Look X.env s.heap m x u
  cell : ∀ x c, X.env.cells.lookup x = some c → ∃ v, s.heap.IsCell c v
  free : H X.env.locals = none
  freeC : ∀ x c, X.env.cells.lookup x = some c → H c = none
  pin : ∀ p ∈ X.pn ++ pins, s.heap.get? p.1 = some p.2 ∧ H p.1 = none ∧ p.1 ≠ X.env.locals ∧ p.1 ∉ X.fs ∧ ∀ v, p.2.data ≠ .cell v
  hok : HOk X.prog X.w H s.heap
  len : σ.length = X.N.length

section
variable {X : Cx} {pins : List (Addr × Obj)} {σ : List (Option V)} {H H' : Hp} {s : Shared} {h' : Heap}

theorem Cx.Ok.nofr (ok : X.Ok) {b : Addr} {o : Obj} (e : X.base.get? b = some o) : b ∉ X.fs := fun hb => by
  have := (ok.funs.mem hb).1
  rw [e] at this; cases this
theorem Inv.bs (I : Inv X pins σ H s) : ∀ b o, X.base.get? b = some o → s.heap.get? b = some o ∧ H b = none := fun b o e =>
  ⟨I.base.keep b o (I.ok.bs b o e).1 (I.ok.bs b o e).2 (I.ok.nofr e) (I.ok.noex b o e), I.base.free b o (I.ok.bs b o e).1 (I.ok.bs b o e).2 (I.ok.noex b o e)⟩
theorem Inv.bk (I : Inv X pins σ H s) : ∀ b o, X.base.get? b = some o → s.heap.get? b = some o := fun b o e => (I.bs b o e).1
theorem Inv.mod (I : Inv X pins σ H s) : Mod X.K X.mg X.base := I.ok.mod
theorem Inv.kIn (I : Inv X pins σ H s) : X.K.In s.heap := I.ok.mod.kin.keeps I.bk
theorem Inv.nolimit (I : Inv X pins σ H s) : s.heap.NoLimit := I.ok.mod.nolimit.keeps I.bk
/-- the frame over the base: for OpenK's rules (K.In X.base is I.mod.kin) -/
theorem Inv.fr (I : Inv X pins σ H s) : ∃ m, Fr X.base X.env.locals s.heap m :=
  let ⟨m, hn, _⟩ := I.loc
  ⟨m, hn, I.bk, Nat.le_trans I.ok.bsz I.ok.above⟩
theorem Inv.lt (I : Inv X pins σ H s) : X.env.locals < s.heap.objs.size := let ⟨_, hn, _⟩ := I.loc; hn.lt
theorem Inv.sz (I : Inv X pins σ H s) : X.s₀.heap.objs.size ≤ s.heap.objs.size := Nat.le_trans I.ok.above (Nat.le_of_lt I.lt)
theorem Inv.nofs (I : Inv X pins σ H s) {a : Addr} (h : s.heap.objs.size ≤ a) : a ∉ X.fs := fun hb => by
  obtain ⟨_, o, ho, _⟩ := I.ok.funs.mem hb
  exact absurd (Nat.lt_of_lt_of_le (Heap.lt_size ho) (Nat.le_trans I.sz h)) (Nat.lt_irrefl _)
theorem Inv.cne (I : Inv X pins σ H s) : ∀ x c, X.env.cells.lookup x = some c → c ≠ X.env.locals := fun x c e z => by
  obtain ⟨v, o, ho, hd⟩ := I.cell x c e
  obtain ⟨m, ⟨o', es, ep, ho', hd', _⟩, _⟩ := I.loc
  rw [z, ho'] at ho; cases ho; rw [hd'] at hd; cases hd
theorem Inv.funs (I : Inv X pins σ H s) : s.heap.FunFrames X.base X.outer := by
  have all : ∀ (l : List Env), (∀ b ∈ frs l, b ∈ X.fs) → X.s₀.heap.FunFrames X.base l → s.heap.FunFrames X.base l := by
    intro l
    induction l with
    | nil => intro _ _; trivial
    | cons env r ih =>
      intro hs hl
      obtain ⟨hk, ⟨L, o, hf, hn, ho, hd⟩, hr⟩ := hl
      have hL : L ∈ X.fs := hs L (by unfold frs; rw [List.filterMap_cons, hf]; exact List.mem_cons_self)
      obtain ⟨sl, e⟩ := I.base.slot L o ho (I.ok.frf L hL) hL fun z => I.ok.exfs L z hL
      exact ⟨hk, ⟨L, _, hf, hn, e, hd⟩, ih (fun b hb => hs b (by unfold frs; rw [List.filterMap_cons, hf]; exact List.mem_cons_of_mem _ hb)) hr⟩
  exact all X.outer (fun _ hb => hb) I.ok.funs

/-- the frames that run, for a call -/
theorem Inv.stack (I : Inv X pins σ H s) : s.heap.FunFrames X.base X.stack := by
  rcases I.ok.stk with e | ⟨e, hf⟩
  · rw [e]; exact I.funs
  · rw [e]
    obtain ⟨m, hn, _⟩ := I.loc
    refine .cons (by rw [I.ok.kind]; decide) hf hn ?_ I.funs
    exact Heap.get?_none_of_le (Nat.le_trans I.ok.bsz I.ok.above)
theorem Inv.stkSub (I : Inv X pins σ H s) : ∀ b ∈ frs X.stack, b ∈ X.env.locals :: X.fs := fun b hb => by
  rcases I.ok.stk with e | ⟨e, hf⟩
  · rw [e] at hb; exact List.mem_cons_of_mem _ hb
  · rw [e] at hb
    unfold frs at hb
    rw [List.filterMap_cons, hf] at hb
    exact hb
theorem Inv.stkFree (I : Inv X pins σ H s) : ∀ b ∈ frs X.stack, H b = none := fun b hb => by
  rcases List.mem_cons.mp (I.stkSub b hb) with e | hb
  · rw [e]; exact I.free
  · obtain ⟨_, o, ho, _⟩ := I.ok.funs.mem hb
    exact I.base.free b o ho (I.ok.frf b hb) fun z => I.ok.exfs b z hb

/-- THE STEP: the untracked objects but the frame and the records at ch are kept (the callers' frames up to slots), the frame's map is kept, the new abstract heap is held -/
theorem Inv.step {g' : Array GenState} {t' : Nat} {d' : Drawn} {ch : List Addr} (I : Inv X pins σ H s)
    (hch : ∀ b ∈ ch, (b ∈ X.ex ∨ X.s₀.heap.objs.size ≤ b) ∧ b ≠ X.env.locals ∧ (∀ x c, X.env.cells.lookup x = some c → c ≠ b) ∧ ∀ p ∈ X.pn ++ pins, p.1 ≠ b)
    (keep : ∀ b o, b ≠ X.env.locals → b ∉ X.fs → b ∉ ch → s.heap.get? b = some o → H b = none → h'.get? b = some o)
    (slot : ∀ b o, b ≠ X.env.locals → b ∈ X.fs → b ∉ ch → s.heap.get? b = some o → H b = none → ∃ sl, h'.get? b = some { o with slots := sl }) (free : ∀ b o, b ∉ ch → s.heap.get? b = some o → H b = none → H' b = none)
    (there : ∀ b o, b ∉ ch → s.heap.get? b = some o → ∃ o', h'.get? b = some o')
    (tups : ∀ b xs, H b = some (.tup xs) → H' b = some (.tup xs)) (frzs : ∀ b o u, H b = some (.frz o u) → H' b = some (.frz o u)) (tbls : ∀ b ps, H b = some (.tbl ps) → ∃ more, H' b = some (.tbl (ps ++ more)))
    (ns : ∀ m, s.heap.Ns X.env.locals m → h'.Ns X.env.locals m) (hok : HOk X.prog X.w H' h') (hg : AllBare g') :
    Inv X pins σ H' { s with heap := h', gens := g', drawn := d', toks := t' } := by
  have neL : ∀ b o, X.s₀.heap.get? b = some o → b ≠ X.env.locals := fun b o e => Nat.ne_of_lt (Nat.lt_of_lt_of_le (Heap.lt_size e) I.ok.above)
  have neC : ∀ b o, X.s₀.heap.get? b = some o → b ∉ X.ex → b ∉ ch := fun b o e hx hb => by
    rcases (hch b hb).1 with z | z
    · exact hx z
    · exact absurd (Nat.lt_of_lt_of_le (Heap.lt_size e) z) (Nat.lt_irrefl _)
  have cellK : ∀ x c, X.env.cells.lookup x = some c → ∀ v, s.heap.IsCell c v → h'.IsCell c v := fun x c e v ⟨o, ho, hd⟩ => by
    have nch : c ∉ ch := fun z => (hch c z).2.2.1 x c e rfl
    by_cases hc : c ∈ X.fs
    · obtain ⟨sl, q⟩ := slot c o (I.cne x c e) hc nch ho (I.freeC x c e)
      exact ⟨_, q, hd⟩
    · exact ⟨o, keep c o (I.cne x c e) hc nch ho (I.freeC x c e), hd⟩
  refine ⟨I.ok, I.os, hg, ⟨fun b o e n hb hx => ?_, fun b o e n hb hx => ?_, fun b o e n hx => ?_, fun b o e hx => ?_, fun b xs e => tups b xs (I.base.tups b xs e), fun b o xs e => frzs b o xs (I.base.frzs b o xs e), fun b ps e => ?_⟩, ?_, fun x c e => ?_, ?_, fun x c e => ?_, fun p hp => ?_, hok, I.len⟩
  · exact keep b o (neL b o e) hb (neC b o e hx) (I.base.keep b o e n hb hx) (I.base.free b o e n hx)
  · obtain ⟨sl, e1⟩ := I.base.slot b o e n hb hx
    obtain ⟨sl', e2⟩ := slot b _ (neL b o e) hb (neC b o e hx) e1 (I.base.free b o e n hx)
    exact ⟨sl', e2⟩
  · obtain ⟨o', e1⟩ := I.base.there b o e hx
    exact free b o' (neC b o e hx) e1 (I.base.free b o e n hx)
  · obtain ⟨o', e1⟩ := I.base.there b o e hx
    exact there b o' (neC b o e hx) e1
  · obtain ⟨m1, e1⟩ := I.base.tbls b ps e
    obtain ⟨m2, e2⟩ := tbls b _ e1
    exact ⟨m1 ++ m2, by rw [e2, Array.append_assoc]⟩
  · obtain ⟨m, hn, hl⟩ := I.loc
    refine ⟨m, ns m hn, fun i x v e1 e2 e3 => ?_⟩
    obtain ⟨u, r, l⟩ := hl i x v e1 e2 e3
    refine ⟨u, r, ?_⟩
    rcases l with l | ⟨k, c, e, z⟩
    · exact .inl l
    · exact .inr ⟨k, c, e, cellK x c e _ z⟩
  · obtain ⟨v, z⟩ := I.cell x c e
    exact ⟨v, cellK x c e v z⟩
  · obtain ⟨m, ⟨o, _, _, ho, _⟩, _⟩ := I.loc
    exact free _ o (fun z => (hch _ z).2.1 rfl) ho I.free
  · obtain ⟨v, o, ho, hd⟩ := I.cell x c e
    exact free c o (fun z => (hch c z).2.2.1 x c e rfl) ho (I.freeC x c e)
  · obtain ⟨e, n, ne, nf, d⟩ := I.pin p hp
    have nch : p.1 ∉ ch := fun z => (hch p.1 z).2.2.2 p hp rfl
    exact ⟨keep p.1 p.2 ne nf nch e n, free p.1 p.2 nch e n, ne, nf, d⟩
/-- .. where the frame's own object is kept too -/
theorem Inv.un {t' : Nat} (I : Inv X pins σ H s) (u : Un X.fs [] H H' s.heap h') (hok : HOk X.prog X.w H' h') : Inv X pins σ H' { s with heap := h', toks := t' } := by
  obtain ⟨m, ⟨o, es, ep, ho, r⟩, _⟩ := id I.loc
  obtain ⟨sl, hL⟩ := u.any ho I.free (by simp)
  exact I.step (g' := s.gens) (d' := s.drawn) (ch := []) (fun _ z => nomatch z) (fun b o _ hb _ e n => u.keep b o e n hb (by simp)) (fun b o _ hb _ e n => u.slot b o e n hb (by simp)) (fun b o _ e n => u.free b o e n (by simp)) (fun b o _ e => u.there b o e (by simp)) u.tups u.frzs u.tbls (fun m' hm => by
    obtain ⟨o', es', ep', ho', r'⟩ := hm
    rw [ho] at ho'; cases ho'
    exact ⟨_, es', ep', hL, r'⟩) hok I.bare
/-- behind a call (or a comprehension's block): the slots of this frame may have changed too, the records at ch may have turned -/
theorem Inv.call {g' : Array GenState} {t' : Nat} {d' : Drawn} {ch : List Addr} (I : Inv X pins σ H s) (u : Un (frs X.stack) ch H H' s.heap h') (hok : HOk X.prog X.w H' h') (hg : AllBare g')
    (hch : ∀ b ∈ ch, (b ∈ X.ex ∨ X.s₀.heap.objs.size ≤ b) ∧ b ≠ X.env.locals ∧ (∀ x c, X.env.cells.lookup x = some c → c ≠ b) ∧ ∀ p ∈ X.pn ++ pins, p.1 ≠ b) :
    Inv X pins σ H' { s with heap := h', gens := g', drawn := d', toks := t' } := by
  obtain ⟨m, ⟨o, es, ep, ho, r⟩, _⟩ := id I.loc
  obtain ⟨sl, hL⟩ := u.any ho I.free fun z => (hch _ z).2.1 rfl
  exact I.step (ch := ch) hch (fun b o hL hb hc e n => u.keep b o e n (fun z => (List.mem_cons.mp (I.stkSub b z)).elim hL hb) hc) (fun b o _ _ hc e n => u.any e n hc) (fun b o hc e n => u.free b o e n hc) (fun b o hc e => u.there b o e hc) u.tups u.frzs u.tbls (fun m' hm => by
    obtain ⟨o', es', ep', ho', r'⟩ := hm
    rw [ho] at ho'; cases ho'
    exact ⟨_, es', ep', hL, r'⟩) hok hg
/-- an untracked record of ours (an iterator) has turned -/
theorem Inv.turned {t' : Nat} {it : Addr} (I : Inv X pins σ H s) (k : ∀ b o, b ≠ it → s.heap.get? b = some o → h'.get? b = some o) (hn : H it = none) (hL : it ≠ X.env.locals)
    (h1 : it ∈ X.ex ∨ X.s₀.heap.objs.size ≤ it) (h2 : ∀ x c, X.env.cells.lookup x = some c → c ≠ it) (h3 : ∀ p ∈ X.pn ++ pins, p.1 ≠ it) : Inv X pins σ H { s with heap := h', toks := t' } := by
  have nit : ∀ b u, H b = some u → b ≠ it := fun b u e z => by rw [z, hn] at e; cases e
  refine I.step (g' := s.gens) (d' := s.drawn) (ch := [it]) (fun b hb => ?_) (fun b o _ _ hc e _ => k b o (fun z => hc (by simp [z])) e) (fun b o _ _ hc e _ => ⟨o.slots, k b o (fun z => hc (by simp [z])) e⟩) (fun _ _ _ _ n => n)
    (fun b o hc e => ⟨o, k b o (fun z => hc (by simp [z])) e⟩) (fun _ _ e => e) (fun _ _ _ e => e) (fun b ps e => ⟨#[], by rw [e]; simp⟩) (fun m hm => ?_) (fun b u e => ?_) I.bare
  · have e : b = it := by simpa using hb
    subst e
    exact ⟨h1, hL, h2, h3⟩
  · obtain ⟨o, es, ep, ho, r⟩ := hm
    exact ⟨o, es, ep, k _ o (Ne.symm hL) ho, r⟩
  · refine (I.hok b u e).stay (fun c v hc q => k c v ?_ q) (fun _ q => q) fun _ _ q => q
    rcases hc with z | z
    · rw [z]; exact nit b u e
    · exact nit c _ z
theorem Inv.tok (I : Inv X pins σ H s) (t : Nat) : Inv X pins σ H { s with toks := t } := I.un (h' := s.heap) (t' := t) Un.refl I.hok
/-- all objects kept -/
theorem Inv.kept {t' : Nat} (I : Inv X pins σ H s) (k : ∀ b u, s.heap.get? b = some u → h'.get? b = some u) : Inv X pins σ H { s with heap := h', toks := t' } := I.un (Un.kept k) (I.hok.kept k)
/-- a new object laid and tracked -/
theorem Inv.laid {a : Addr} {o : HO} {t' : Nat} (I : Inv X pins σ H s) (k : ∀ b u, s.heap.get? b = some u → h'.get? b = some u) (hp : s.heap.objs.size ≤ a) (new : ObjOk X.prog X.w (upd H a o) h' a o) :
    Inv X pins σ (upd H a o) { s with heap := h', toks := t' } := I.un (Un.laid k hp (I.hok.fresh hp)) (I.hok.laid k hp new)
/-- an object written -/
theorem Inv.write {x e : Addr} {o : HO} {t' : Nat} (I : Inv X pins σ H s) (mu : Mut (H x)) (he : e = x ∨ H e = some (.own x)) (k : ∀ b u, b ≠ e → s.heap.get? b = some u → h'.get? b = some u) (heo : ∃ u, h'.get? e = some u)
    (new : ObjOk X.prog X.w (upd H x o) h' x o) : Inv X pins σ (upd H x o) { s with heap := h', toks := t' } := I.un (Un.write mu he k heo) (I.hok.write mu he k heo new)
/-- forgetting slots, pins -/
theorem Inv.weak {σ' : List (Option V)} (I : Inv X pins σ H s) (hl : σ'.length = σ.length) (w : ∀ (i : Nat) v, σ'[i]? = some (some v) → σ[i]? = some (some v)) : Inv X pins σ' H s :=
  ⟨I.ok, I.os, I.bare, I.base, let ⟨m, hn, hl'⟩ := I.loc; ⟨m, hn, fun i x v e1 e2 e3 => hl' i x v e1 (w i v e2) e3⟩, I.cell, I.free, I.freeC, I.pin, I.hok, hl.trans I.len⟩
theorem Inv.pins_of {pins' : List (Addr × Obj)} (I : Inv X pins σ H s) (h : ∀ p ∈ pins', s.heap.get? p.1 = some p.2 ∧ H p.1 = none ∧ p.1 ≠ X.env.locals ∧ p.1 ∉ X.fs ∧ ∀ v, p.2.data ≠ .cell v) : Inv X pins' σ H s :=
  ⟨I.ok, I.os, I.bare, I.base, I.loc, I.cell, I.free, I.freeC, fun p hp => (List.mem_append.mp hp).elim (fun z => I.pin p (List.mem_append_left _ z)) (h p), I.hok, I.len⟩

theorem nodup_ix {N : List Str} (hN : N.Nodup) {i j : Nat} {x : Str} (a : N[i]? = some x) (b : N[j]? = some x) : i = j := by
  obtain ⟨h1, e1⟩ := List.getElem?_eq_some_iff.mp a
  obtain ⟨h2, e2⟩ := List.getElem?_eq_some_iff.mp b
  exact (List.getElem_inj hN).mp (e1.trans e2.symm)

/-- a name is stored; what changed -/
theorem store_ok2 {M : Model} {A : Around} {E : Value → Shared → Prop} {i : Nat} {x : Str} {v : V} {u : Value} {Q : Unit → Shared → Prop} (I : Inv X pins σ H s) (hN : X.N.Nodup) (hi : X.N[i]? = some x) (hx : Loc X.env.scope x) (r : RelV v u)
    (h : ∀ s', Inv X pins (σ.set i (some v)) H s' → (∃ a, Heap.SameBut a s.heap s'.heap ∧ (a = X.env.locals ∨ X.env.cells.lookup x = some a)) → Q () s') (hf : X.fn x = true ∨ X.env.scope.names.lookup x = some .local := by first | exact .inl rfl | exact .inr rfl | assumption) : wpAny M A (storeName X.env x u) Q E s := by
  obtain ⟨m, hn, hl⟩ := id I.loc
  have hcls : (X.env.scope.kind == .class || (X.env.scope.kind == .module && X.env.locals != X.env.globals)) = false := by rw [I.ok.kind]; rfl
  have hiσ : i < σ.length := by rw [I.len]; exact (List.getElem?_eq_some_iff.mp hi).1
  have cne := I.cne
  have tracked : ∀ {a : Addr} {h' : Heap}, (∃ o, s.heap.get? a = some o ∧ H a = none) → Heap.SameBut a s.heap h' → HOk X.prog X.w H h' := fun {a h'} ha hs b ob e => by
    obtain ⟨_, _, hfree⟩ := ha
    refine (I.hok b ob e).stay (fun c w' hc q => (hs.2 c ?_).trans q) (fun _ q => q) fun _ _ q => q
    rintro rfl
    rcases hc with rfl | hc
    · rw [hfree] at e; cases e
    · rw [hfree] at hc; cases hc
  rcases hx with hk | hk
  · refine wpAny_storeName_local hk hn (fun h' hn' hs => ?_) hcls
    obtain ⟨oL, _, _, hoL, _⟩ := id hn
    refine h _ ⟨I.ok, I.os, I.bare, ⟨fun b o e n hb hx => ?_, fun b o e n hb hx => ?_, I.base.free, fun b o e hx => ?_, I.base.tups, I.base.frzs, I.base.tbls⟩, ⟨_, hn', fun j y v' e1 e2 e3 => ?_⟩, fun y c e => ?_, I.free, I.freeC, fun p hp => ?_, tracked ⟨oL, hoL, I.free⟩ hs, by simpa using I.len⟩ ⟨_, hs, .inl rfl⟩
    · exact (hs.2 b (Nat.ne_of_lt (Nat.lt_of_lt_of_le (Heap.lt_size e) I.ok.above))).trans (I.base.keep b o e n hb hx)
    · obtain ⟨sl, e1⟩ := I.base.slot b o e n hb hx
      exact ⟨sl, (hs.2 b (Nat.ne_of_lt (Nat.lt_of_lt_of_le (Heap.lt_size e) I.ok.above))).trans e1⟩
    · obtain ⟨o', e1⟩ := I.base.there b o e hx
      exact ⟨o', (hs.2 b (Nat.ne_of_lt (Nat.lt_of_lt_of_le (Heap.lt_size e) I.ok.above))).trans e1⟩
    · by_cases hj : j = i
      · subst hj
        rw [hi] at e1; cases e1
        rw [List.getElem?_set_self hiσ] at e2
        cases e2
        exact ⟨u, r, .inl ⟨hk, by simp⟩⟩
      · rw [List.getElem?_set_ne (Ne.symm hj)] at e2
        obtain ⟨u', r', q⟩ := hl j y v' e1 e2 e3
        refine ⟨u', r', ?_⟩
        rcases q with ⟨k, e⟩ | ⟨k, c, e, z⟩
        · refine .inl ⟨k, ?_⟩
          have : y ≠ x := fun e => hj (nodup_ix hN e1 (e ▸ hi))
          simp [this, e]
        · exact .inr ⟨k, c, e, z.sameBut hs (cne y c e)⟩
    · obtain ⟨w', z⟩ := I.cell y c e
      exact ⟨w', z.sameBut hs (cne y c e)⟩
    · obtain ⟨e, n, ne, nf, d⟩ := I.pin p hp
      exact ⟨(hs.2 p.1 ne).trans e, n, ne, nf, d⟩
  · have hfn : X.fn x = true := by
      rcases hf with z | z
      · exact z
      · rw [z] at hk; cases hk
    obtain ⟨c, hc⟩ := I.ok.has x (.inl hk)
    obtain ⟨w', z⟩ := I.cell x c hc
    refine wpAny_storeName_cell I.ok.kind hk hc z (fun h' hc' hs => ?_)
    obtain ⟨oc, hoc, hocd⟩ := id z
    refine h { s with heap := h' } ⟨I.ok, I.os, I.bare, ⟨fun b o e n hb hx => ?_, fun b o e n hb hx => ?_, I.base.free, fun b o e hx => ?_, I.base.tups, I.base.frzs, I.base.tbls⟩, ⟨m, hn.sameBut hs (Ne.symm (cne x c hc)), fun j y v' e1 e2 e3 => ?_⟩, fun y c' e => ?_, I.free, I.freeC, fun p hp => ?_, tracked ⟨oc, hoc, I.freeC x c hc⟩ hs, by simpa using I.len⟩ ⟨c, hs, .inr hc⟩
    · exact (hs.2 b (Nat.ne_of_lt (Nat.lt_of_lt_of_le (Heap.lt_size e) (I.ok.cab x c hfn hc)))).trans (I.base.keep b o e n hb hx)
    · obtain ⟨sl, e1⟩ := I.base.slot b o e n hb hx
      exact ⟨sl, (hs.2 b (Nat.ne_of_lt (Nat.lt_of_lt_of_le (Heap.lt_size e) (I.ok.cab x c hfn hc)))).trans e1⟩
    · obtain ⟨o', e1⟩ := I.base.there b o e hx
      exact ⟨o', (hs.2 b (Nat.ne_of_lt (Nat.lt_of_lt_of_le (Heap.lt_size e) (I.ok.cab x c hfn hc)))).trans e1⟩
    · by_cases hj : j = i
      · subst hj
        rw [hi] at e1; cases e1
        rw [List.getElem?_set_self hiσ] at e2
        cases e2
        exact ⟨u, r, .inr ⟨.inl hk, c, hc, hc'⟩⟩
      · rw [List.getElem?_set_ne (Ne.symm hj)] at e2
        obtain ⟨u', r', q⟩ := hl j y v' e1 e2 e3
        refine ⟨u', r', ?_⟩
        rcases q with q | ⟨k, c', e, z'⟩
        · exact .inl q
        · refine .inr ⟨k, c', e, z'.sameBut hs ?_⟩
          rintro rfl
          exact hj (nodup_ix hN e1 (I.ok.inj _ _ _ e hc ▸ hi))
    · by_cases hcc : c' = c
      · subst hcc; exact ⟨_, hc'⟩
      · obtain ⟨w2, z2⟩ := I.cell y c' e
        exact ⟨w2, z2.sameBut hs hcc⟩
    · obtain ⟨e, n, ne, nf, d⟩ := I.pin p hp
      refine ⟨(hs.2 p.1 ?_).trans e, n, ne, nf, d⟩
      intro q
      rw [q, hoc] at e
      have q' : oc = p.2 := Option.some.inj e
      exact d w' (by rw [← q']; exact hocd)
theorem store_ok {M : Model} {A : Around} {E : Value → Shared → Prop} {i : Nat} {x : Str} {v : V} {u : Value} {Q : Unit → Shared → Prop} (I : Inv X pins σ H s) (hN : X.N.Nodup) (hi : X.N[i]? = some x) (hx : Loc X.env.scope x) (r : RelV v u)
    (h : ∀ s', Inv X pins (σ.set i (some v)) H s' → Q () s') (hf : X.fn x = true ∨ X.env.scope.names.lookup x = some .local := by first | exact .inl rfl | exact .inr rfl | assumption) : wpAny M A (storeName X.env x u) Q E s :=
  store_ok2 I hN hi hx r (fun s' I' _ => h s' I') hf
/-- behind a call or a block, the state as it is -/
theorem Inv.call' {s' : Shared} {ch : List Addr} (I : Inv X pins σ H s) (ho : s'.os = s.os) (u : Un (frs X.stack) ch H H' s.heap s'.heap) (hok : HOk X.prog X.w H' s'.heap) (hg : AllBare s'.gens)
    (hch : ∀ b ∈ ch, (b ∈ X.ex ∨ X.s₀.heap.objs.size ≤ b) ∧ b ≠ X.env.locals ∧ (∀ x c, X.env.cells.lookup x = some c → c ≠ b) ∧ ∀ p ∈ X.pn ++ pins, p.1 ≠ b) : Inv X pins σ H' s' := by
  obtain ⟨h', g', d', t', o'⟩ := s'
  have e : o' = s.os := ho
  subst e
  exact I.call (g' := g') (t' := t') (d' := d') u hok hg hch
end

/-! ### the judgements -/
/-- an exception: its class, its own dict's address (where it has one), the abstract heap behind it -/
abbrev XK := Value → Option Addr → Hp → Prop
abbrev St := List (Option V)
abbrev VK := V → Hp → Prop
/-- an expression's reading; a test's; an argument list's -/
abbrev TE := St → Hp → VK → Prop
abbrev TT := St → Hp → (Bool → Hp → Prop) → Prop
abbrev TA := St → Hp → (List V → Hp → Prop) → Prop
/-- what is wanted behind a statement -/
structure Ends where
  nx : St → Hp → Prop
  rt : VK
  bk : St → Hp → Prop := fun _ _ => False
  ct : St → Hp → Prop := fun _ _ => False
abbrev TS := Ends → St → Hp → Prop

def EP (X : Cx) (pins : List (Addr × Obj)) (σ : St) (Q : VK) (u : Value) (s' : Shared) : Prop := ∃ v H', Inv X pins σ H' s' ∧ RelV v u ∧ Q v H'
def TP (X : Cx) (pins : List (Addr × Obj)) (σ : St) (Q : Bool → Hp → Prop) (b : Bool) (s' : Shared) : Prop := ∃ H', Inv X pins σ H' s' ∧ Q b H'
def AP (X : Cx) (pins : List (Addr × Obj)) (σ : St) (Q : List V → Hp → Prop) (us : List Value) (s' : Shared) : Prop := ∃ vs H', Inv X pins σ H' s' ∧ Vals vs us ∧ Q vs H'
def SP (X : Cx) (pins : List (Addr × Obj)) (D : Ends) (f : Flow) (s' : Shared) : Prop :=
  match f with
  | .next => ∃ σ' H', Inv X pins σ' H' s' ∧ D.nx σ' H'
  | .brk => ∃ σ' H', Inv X pins σ' H' s' ∧ D.bk σ' H'
  | .cont => ∃ σ' H', Inv X pins σ' H' s' ∧ D.ct σ' H'
  | .ret u => ∃ v σ' H', Inv X pins σ' H' s' ∧ RelV v u ∧ D.rt v H'

def PE (X : Cx) (e : Expr) (t : TE) : Prop :=
  ∀ (pins : List (Addr × Obj)) (s : Shared) (σ : St) (H : Hp) (Q : VK), Inv X pins σ H s → t σ H Q → wpAny (model X.prog X.w) X.A (eval e X.env) (EP X pins σ Q) X.xe s
def PT (X : Cx) (e : Expr) (t : TT) : Prop :=
  ∀ (pins : List (Addr × Obj)) (s : Shared) (σ : St) (H : Hp) (Q : Bool → Hp → Prop), Inv X pins σ H s → t σ H Q → wpAny (model X.prog X.w) X.A (isTrue e X.env (eval e X.env)) (TP X pins σ Q) X.xe s
/-- a test whatever its 'whole' is (and, or) -/
def PW (X : Cx) (e : Expr) (t : TT) : Prop :=
  ∀ (whole : Sem Value) (pins : List (Addr × Obj)) (s : Shared) (σ : St) (H : Hp) (Q : Bool → Hp → Prop), Inv X pins σ H s → t σ H Q → wpAny (model X.prog X.w) X.A (isTrue e X.env whole) (TP X pins σ Q) X.xe s
theorem PW.pt {X : Cx} {e : Expr} {t : TT} (h : PW X e t) : PT X e t := h _
/-- an argument list (no star), from the left -/
def PA (X : Cx) (es : List Expr) (t : TA) : Prop :=
  ∀ (pos : Pos) (pins : List (Addr × Obj)) (s : Shared) (σ : St) (H : Hp) (Q : List V → Hp → Prop), Inv X pins σ H s → t σ H Q → wpAny (model X.prog X.w) X.A (spliced (backTo pos (starEach es X.env))) (AP X pins σ Q) X.xe s
def PS (X : Cx) (st : Stmt) (t : TS) : Prop :=
  ∀ (pins : List (Addr × Obj)) (s : Shared) (σ : St) (H : Hp) (D : Ends), Inv X pins σ H s → t D σ H → wpAny (model X.prog X.w) X.A (exec st X.env) (SP X pins D) X.xe s
def PSs (X : Cx) (st : List Stmt) (t : TS) : Prop :=
  ∀ (pins : List (Addr × Obj)) (s : Shared) (σ : St) (H : Hp) (D : Ends), Inv X pins σ H s → t D σ H → wpAny (model X.prog X.w) X.A (execs st X.env) (SP X pins D) X.xe s
/-- weaken the end -/
theorem thn {α : Type} {t : Sem α} {Q Q' : α → Shared → Prop} {M : Model} {A : Around} {E : Value → Shared → Prop} {s : Shared} (h : wpAny M A t Q E s) (hQ : ∀ a s, Q a s → Q' a s) : wpAny M A t Q' E s := wpAny_mono h hQ fun _ _ x => x
end L2

namespace L2
open PySem PySem.Spec PyProof.Rows
section
variable {X : Cx}

/-- two expressions in a row -/
theorem bin {a b : Expr} {ta tb : TE} (ha : PE X a ta) (hb : PE X b tb) {pins : List (Addr × Obj)} {s : Shared} {σ : St} {H : Hp} {R : V → V → Hp → Prop} (I : Inv X pins σ H s) (h : ta σ H fun x H1 => tb σ H1 fun y H2 => R x y H2)
    {α : Type} {Q : α → Shared → Prop} {f : Value → Value → Sem α}
    (hf : ∀ v u s2 x y H2, Inv X pins σ H2 s2 → RelV x v → RelV y u → R x y H2 → wpAny (model X.prog X.w) X.A (f v u) Q X.xe s2) :
    wpAny (model X.prog X.w) X.A (eval a X.env) (fun v s₁ => wpAny (model X.prog X.w) X.A (eval b X.env) (fun u s₂ => wpAny (model X.prog X.w) X.A (f v u) Q X.xe s₂) X.xe s₁) X.xe s := by
  refine thn (ha pins s σ H _ I h) fun v s1 ⟨x, H1, I1, r1, q1⟩ => ?_
  refine thn (hb pins s1 σ H1 _ I1 q1) fun u s2 ⟨y, H2, I2, r2, q2⟩ => ?_
  exact hf v u s2 x y H2 I2 r1 r2 q2

/-! ### names and constants -/
def tVar (i : Nat) : TE := fun σ H Q => ∃ v, σ[i]? = some (some v) ∧ Q v H
def tC (v : V) : TE := fun _ H Q => Q v H
theorem pe_var {i : Nat} {x : Str} {pos : Pos} (hN : X.N[i]? = some x) (hv : Vis X.env.scope x) (hd : (x == ("__debug__" : Str)) = false := by decide) (hcd : (x == ("__classdict__" : Str)) = false := by decide) : PE X (.Name x pos) (tVar i) := by
  intro pins s σ H Q I h
  obtain ⟨v, e, h⟩ := h
  obtain ⟨m, hn, hl⟩ := I.loc
  obtain ⟨u, r, l⟩ := hl i x v hN e hv
  have fin : EP X pins σ Q u s := ⟨v, H, I, r, h⟩
  rcases l with ⟨hk, hm⟩ | ⟨hk, c, hc, hcell⟩
  · exact wpAny_Name (wpAny_loadName_local I.ok.kind hk hn hm fin) hd
  · rcases hk with hk | hk
    · exact wpAny_Name (wpAny_loadName_cell I.ok.kind hk hc hcell fin) hd
    · exact wpAny_Name (wpAny_loadName_free I.ok.kind hk hc hcell fin hcd) hd
theorem pe_int {i j pos} : PE X (.Constant (.int i) j pos) (tC (.int i)) := fun _ _ _ H _ I h => wpAny_Constant_int ⟨.int i, H, I.tok _, ⟨_, rfl⟩, h⟩
theorem pe_bl {b j pos} : PE X (.Constant (.bool b) j pos) (tC (.bl b)) := fun _ _ _ H _ I h => Constant_bool ⟨.bl b, H, I, rfl, h⟩
theorem pe_non {j pos} : PE X (.Constant .none j pos) (tC .non) := fun _ _ _ H _ I h => Constant_none ⟨.non, H, I, rfl, h⟩
theorem pe_str {x j pos} : PE X (.Constant (.str x) j pos) (tC (.str x)) := fun _ _ _ H _ I h => Calls.Constant_str ⟨.str x, H, I.tok _, ⟨_, rfl⟩, h⟩

/-- a global name of the def -/
def Gl (X : Cx) (x : Str) : Prop := X.env.kindOf x = some .globalImplicit
theorem ld_glob {E : Value → Shared → Prop} {pins : List (Addr × Obj)} {s : Shared} {σ : St} {H : Hp} {x : Str} {u : Value} {pos : Pos} {Q : Value → Shared → Prop} (I : Inv X pins σ H s) (hg : Gl X x) (hm : X.mg x = some u) (h : Q u s)
    (hd : (x == ("__debug__" : Str)) = false := by decide) : wpAny (model X.prog X.w) X.A (eval (.Name x pos) X.env) Q E s :=
  Calls.Name_function_global I.ok.kind hg (Calls.loadGlobal_global (by rw [I.ok.glob]; exact I.mod.glob.keeps I.bk) hm h) hd
theorem ld_blt {E : Value → Shared → Prop} {pins : List (Addr × Obj)} {s : Shared} {σ : St} {H : Hp} {x : Str} {u : Value} {pos : Pos} {Q : Value → Shared → Prop} (I : Inv X pins σ H s) (hg : Gl X x) (hm : X.mg x = none) (hv : bootBuiltins x = some u) (h : Q u s)
    (hn : x ≠ "__name__" := by decide) (hd : (x == ("__debug__" : Str)) = false := by decide) : wpAny (model X.prog X.w) X.A (eval (.Name x pos) X.env) Q E s := by
  obtain ⟨mb, h1, h2⟩ := I.mod.blt
  exact Calls.Name_function_global I.ok.kind hg (Calls.loadGlobal_builtin (by rw [I.ok.glob]; exact I.mod.glob.keeps I.bk) hm (by rw [I.ok.blt]; exact h1.keeps I.bk) ((h2 x hn).trans hv) h) hd
/-- a module's constant, a class, a function, as a value -/
theorem pe_glob {x : Str} {v : V} {u : Value} {pos : Pos} (hg : Gl X x) (hm : X.mg x = some u) (r : RelV v u) (hd : (x == ("__debug__" : Str)) = false := by decide) : PE X (.Name x pos) (tC v) :=
  fun _ _ _ H _ I h => ld_glob I hg hm ⟨v, H, I, r, h⟩ hd
theorem pe_bltn {x : Str} {v : V} {u : Value} {pos : Pos} (hg : Gl X x) (hm : X.mg x = none) (hv : bootBuiltins x = some u) (r : RelV v u) (hn : x ≠ "__name__" := by decide) (hd : (x == ("__debug__" : Str)) = false := by decide) : PE X (.Name x pos) (tC v) :=
  fun _ _ _ H _ I h => ld_blt I hg hm hv ⟨v, H, I, r, h⟩ hn hd

/-! ### arithmetic -/
/-- two ints -/
def t2I (ta tb : TE) (k : Int → Int → Hp → Prop) : St → Hp → Prop := fun σ H => ta σ H fun x H1 => tb σ H1 fun y H2 => ∃ i j, x = .int i ∧ y = .int j ∧ k i j H2
def tAdd (ta tb : TE) : TE := fun σ H Q => t2I ta tb (fun i j H2 => Q (.int (i + j)) H2) σ H
def tSub (ta tb : TE) : TE := fun σ H Q => t2I ta tb (fun i j H2 => Q (.int (i - j)) H2) σ H
/-- the left factor below 2^64 -/
def tMul (ta tb : TE) : TE := fun σ H Q => t2I ta tb (fun i j H2 => (-(2 ^ 64) < i ∧ i < 2 ^ 64) ∧ Q (.int (i * j)) H2) σ H
variable {a b : Expr} {ta tb : TE} {pos : Pos}
theorem pe_add (ha : PE X a ta) (hb : PE X b tb) : PE X (.BinOp a .Add b pos) (tAdd ta tb) := by
  intro pins s σ H Q I h
  refine wpAny_BinOp (bin ha hb I h fun v u s2 x y H2 I2 rx ry q => ?_)
  obtain ⟨i, j, rfl, rfl, q⟩ := q
  obtain ⟨t, rfl⟩ := rx
  obtain ⟨t', rfl⟩ := ry
  exact add_int ⟨.int _, H2, I2.tok _, ⟨_, rfl⟩, q⟩
theorem pe_sub (ha : PE X a ta) (hb : PE X b tb) : PE X (.BinOp a .Sub b pos) (tSub ta tb) := by
  intro pins s σ H Q I h
  refine wpAny_BinOp (bin ha hb I h fun v u s2 x y H2 I2 rx ry q => ?_)
  obtain ⟨i, j, rfl, rfl, q⟩ := q
  obtain ⟨t, rfl⟩ := rx
  obtain ⟨t', rfl⟩ := ry
  exact sub_int ⟨.int _, H2, I2.tok _, ⟨_, rfl⟩, q⟩
theorem pe_mul (ha : PE X a ta) (hb : PE X b tb) : PE X (.BinOp a .Mult b pos) (tMul ta tb) := by
  intro pins s σ H Q I h
  refine wpAny_BinOp (bin ha hb I h fun v u s2 x y H2 I2 rx ry q => ?_)
  obtain ⟨i, j, rfl, rfl, ⟨q1, q2⟩, q⟩ := q
  obtain ⟨t, rfl⟩ := rx
  obtain ⟨t', rfl⟩ := ry
  exact mul_int ⟨.int _, H2, I2.tok _, ⟨_, rfl⟩, q⟩ (.of_left (intBits_le_64 q1 q2))

/-! ### comparisons -/
def PC (X : Cx) (op : CmpOp) (a b : Expr) (t : TE) : Prop :=
  ∀ (pins : List (Addr × Obj)) (s : Shared) (σ : St) (H : Hp) (Q : VK), Inv X pins σ H s → t σ H Q →
    wpAny (model X.prog X.w) X.A (eval a X.env) (fun v s₁ => wpAny (model X.prog X.w) X.A (eval b X.env) (fun u s₂ => wpAny (model X.prog X.w) X.A (compareOp op v u) (EP X pins σ Q) X.xe s₂) X.xe s₁) X.xe s
theorem nobehind (b : Expr) {op : CmpOp} (h : op ≠ .In) (h2 : op ≠ .NotIn) : behindInMarks op b = false := by
  have e1 : (op == CmpOp.In) = false := by cases op <;> first | rfl | exact absurd rfl h
  have e2 : (op == CmpOp.NotIn) = false := by cases op <;> first | rfl | exact absurd rfl h2
  cases b <;> simp [behindInMarks, e1, e2]
def tCmp (p : Int → Int → Bool) (ta tb : TE) : TE := fun σ H Q => t2I ta tb (fun i j H2 => Q (.bl (p i j)) H2) σ H
abbrev tLt : TE → TE → TE := tCmp fun i j => decide (i < j)
abbrev tLe : TE → TE → TE := tCmp fun i j => decide (i ≤ j)
abbrev tGt : TE → TE → TE := tCmp fun i j => decide (j < i)
abbrev tGe : TE → TE → TE := tCmp fun i j => decide (j ≤ i)
abbrev tEqI : TE → TE → TE := tCmp fun i j => decide (i = j)
abbrev tNeI : TE → TE → TE := tCmp fun i j => !decide (i = j)
/-- a comparison of two ints, by its rule -/
theorem pc_int {op : CmpOp} {p : Int → Int → Bool} (ha : PE X a ta) (hb : PE X b tb)
    (rule : ∀ (i j : Int) (t u : Tok) (Q : Value → Shared → Prop) (s : Shared), Q (.bool (p i j)) s → wpAny (model X.prog X.w) X.A (compareOp op (.int i t) (.int j u)) Q X.xe s) : PC X op a b (tCmp p ta tb) := by
  intro pins s σ H Q I h
  refine bin ha hb I h fun v u s2 x y H2 I2 rx ry q => ?_
  obtain ⟨i, j, rfl, rfl, q⟩ := q
  obtain ⟨t, rfl⟩ := rx
  obtain ⟨t', rfl⟩ := ry
  exact rule i j t t' _ s2 ⟨.bl _, H2, I2, rfl, q⟩
theorem pc_lt (ha : PE X a ta) (hb : PE X b tb) : PC X .Lt a b (tLt ta tb) := pc_int ha hb fun _ _ _ _ _ _ h => lt_int h
theorem pc_le (ha : PE X a ta) (hb : PE X b tb) : PC X .LtE a b (tLe ta tb) := pc_int ha hb fun _ _ _ _ _ _ h => le_int h
theorem pc_gt (ha : PE X a ta) (hb : PE X b tb) : PC X .Gt a b (tGt ta tb) := pc_int ha hb fun _ _ _ _ _ _ h => gt_int h
theorem pc_ge (ha : PE X a ta) (hb : PE X b tb) : PC X .GtE a b (tGe ta tb) := pc_int ha hb fun _ _ _ _ _ _ h => ge_int h
theorem pc_eqI (ha : PE X a ta) (hb : PE X b tb) : PC X .Eq a b (tEqI ta tb) := pc_int ha hb fun _ _ _ _ _ _ h => eq_int (by rw [Bool.beq_eq_decide_eq]; exact h)
theorem pc_neI (ha : PE X a ta) (hb : PE X b tb) : PC X .NotEq a b (tNeI ta tb) := pc_int ha hb fun _ _ _ _ _ _ h => ne_int (by rw [bne, Bool.beq_eq_decide_eq]; exact h)
/-- is None -/
def tIsN (ta : TE) : TE := fun σ H Q => ta σ H fun x H1 => Q (.bl (decide (x = .non))) H1
def tNotN (ta : TE) : TE := fun σ H Q => ta σ H fun x H1 => Q (.bl (!decide (x = .non))) H1
theorem RelV.none_iff {x : V} {v : Value} (r : RelV x v) : (v == Value.none) = decide (x = .non) := by
  cases x with
  | non => cases r; rfl
  | bl _ => cases r; rfl
  | int _ => obtain ⟨t, rfl⟩ := r; rfl
  | str _ => obtain ⟨t, rfl⟩ := r; rfl
  | byt _ => obtain ⟨t, rfl⟩ := r; rfl
  | flt _ => obtain ⟨t, rfl⟩ := r; rfl
  | ref _ => cases r; rfl
  | ty _ => cases r; rfl
theorem pc_isN {j pos'} (ha : PE X a ta) : PC X .Is a (.Constant .none j pos') (tIsN ta) := by
  intro pins s σ H Q I h
  refine thn (ha pins s σ H _ I h) fun v s1 ⟨x, H1, I1, r1, q1⟩ => ?_
  exact Constant_none (is_none_gen ⟨.bl _, H1, I1, by rw [r1.none_iff]; rfl, q1⟩)
theorem pc_notN {j pos'} (ha : PE X a ta) : PC X .IsNot a (.Constant .none j pos') (tNotN ta) := by
  intro pins s σ H Q I h
  refine thn (ha pins s σ H _ I h) fun v s1 ⟨x, H1, I1, r1, q1⟩ => ?_
  exact Constant_none (isnot_none_gen ⟨.bl _, H1, I1, by rw [r1.none_iff]; rfl, q1⟩)
/-- a comparison as a value, as a test -/
def tB (t : TE) : TT := fun σ H Q => t σ H fun x H1 => ∃ c, x = .bl c ∧ Q c H1
theorem pe_cmp {op : CmpOp} {t : TE} (h : PC X op a b t) (h1 : behindInMarks op b = false := by first | exact nobehind _ (by decide) (by decide) | rfl) : PE X (.Compare a [op] [b] pos) t := fun pins s σ H Q I hw => wpAny_Compare1 (h pins s σ H Q I hw) h1
theorem pt_cmp {op : CmpOp} {t : TE} (h : PC X op a b t) (h1 : behindInMarks op b = false := by first | exact nobehind _ (by decide) (by decide) | rfl) : PT X (.Compare a [op] [b] pos) (tB t) := by
  intro pins s σ H Q I hw
  refine wpAny_isTrue_Compare1 (thn (h pins s σ H _ I hw) fun v s1 h1 => thn h1 fun u s2 h2 => thn h2 fun c s3 ⟨x, H1, I1, r1, q1⟩ => ?_) h1
  obtain ⟨d, rfl, q⟩ := q1
  cases r1
  exact wpAny_truthy_bool ⟨H1, I1, q⟩
/-- an expression whose value is a bool, as a test -/
theorem pt_val {e : Expr} {t : TE} (h : PE X e t) (he : ∀ whole, isTrue e X.env whole = (do let v ← whole; standAt e.pos; holding [v] (truthy v)) := by intro _; rfl) : PT X e (tB t) := by
  intro pins s σ H Q I hw
  refine isTrue_plain (thn (h pins s σ H _ I hw) fun v s1 ⟨x, H1, I1, r1, q1⟩ => ?_) (he _)
  obtain ⟨d, rfl, q⟩ := q1
  cases r1
  exact wpAny_truthy_bool ⟨H1, I1, q⟩

/-! ### and, or, not -/
variable {tA tB' : TT} {rest : List Expr}
def tAnd (t u : TT) : TT := fun σ H Q => t σ H fun c H1 => if c = true then u σ H1 Q else Q false H1
def tOr (t u : TT) : TT := fun σ H Q => t σ H fun c H1 => if c = true then Q true H1 else u σ H1 Q
def tNot (t : TT) : TT := fun σ H Q => t σ H fun c H1 => Q (!c) H1
theorem pw_and1 (ha : PT X a tA) : PW X (.BoolOp .And [a] pos) tA := by
  intro wh pins s σ H Q I h
  refine isTrue_and (thn (ha pins s σ H Q I h) fun c s1 e => ?_)
  cases c with
  | true => exact isTrue_and_nil e
  | false => exact e
theorem pw_or1 (ha : PT X a tA) : PW X (.BoolOp .Or [a] pos) tA := by
  intro wh pins s σ H Q I h
  refine isTrue_or (thn (ha pins s σ H Q I h) fun c s1 e => ?_)
  cases c with
  | false => exact isTrue_or_nil e
  | true => exact e
theorem pw_and (ha : PT X a tA) (hb : PW X (.BoolOp .And (b :: rest) pos) tB') : PW X (.BoolOp .And (a :: b :: rest) pos) (tAnd tA tB') := by
  intro wh pins s σ H Q I h
  refine isTrue_and (thn (ha pins s σ H _ I h) fun c s1 ⟨H1, I1, q1⟩ => ?_)
  cases c with
  | true => exact hb wh pins s1 σ H1 Q I1 q1
  | false => exact ⟨H1, I1, q1⟩
theorem pw_or (ha : PT X a tA) (hb : PW X (.BoolOp .Or (b :: rest) pos) tB') : PW X (.BoolOp .Or (a :: b :: rest) pos) (tOr tA tB') := by
  intro wh pins s σ H Q I h
  refine isTrue_or (thn (ha pins s σ H _ I h) fun c s1 ⟨H1, I1, q1⟩ => ?_)
  cases c with
  | true => exact ⟨H1, I1, q1⟩
  | false => exact hb wh pins s1 σ H1 Q I1 q1
theorem pt_not (ha : PT X a tA) : PT X (.UnaryOp .Not a pos) (tNot tA) := by
  intro pins s σ H Q I h
  exact isTrue_not (ha pins s σ H (fun c H1 => Q (!c) H1) I h)
/-- .. as values (bools) -/
def tAndV (ta tb : TE) : TE := fun σ H Q => ta σ H fun x H1 => ∃ c, x = .bl c ∧ if c = true then tb σ H1 Q else Q (.bl false) H1
def tOrV (ta tb : TE) : TE := fun σ H Q => ta σ H fun x H1 => ∃ c, x = .bl c ∧ if c = true then Q (.bl true) H1 else tb σ H1 Q
def tNotV (ta : TE) : TE := fun σ H Q => ta σ H fun x H1 => ∃ c, x = .bl c ∧ Q (.bl (!c)) H1
theorem pe_one {op} {t : TE} (h : PE X a t) : PE X (.BoolOp op [a] pos) t := fun pins s σ H Q I hw => BoolOp_one (h pins s σ H Q I hw)
theorem pe_and (ha : PE X a ta) (hb : PE X (.BoolOp .And (b :: rest) pos) tb) : PE X (.BoolOp .And (a :: b :: rest) pos) (tAndV ta tb) := by
  intro pins s σ H Q I h
  refine BoolOp_and (thn (ha pins s σ H _ I h) fun v s1 ⟨x, H1, I1, r1, q1⟩ => ?_)
  obtain ⟨c, rfl, q1⟩ := q1
  cases r1
  refine wpAny_truthy_bool ?_
  cases c with
  | true => exact hb pins s1 σ H1 Q I1 q1
  | false => exact ⟨.bl false, H1, I1, rfl, q1⟩
theorem pe_or (ha : PE X a ta) (hb : PE X (.BoolOp .Or (b :: rest) pos) tb) : PE X (.BoolOp .Or (a :: b :: rest) pos) (tOrV ta tb) := by
  intro pins s σ H Q I h
  refine BoolOp_or (thn (ha pins s σ H _ I h) fun v s1 ⟨x, H1, I1, r1, q1⟩ => ?_)
  obtain ⟨c, rfl, q1⟩ := q1
  cases r1
  refine wpAny_truthy_bool ?_
  cases c with
  | false => exact hb pins s1 σ H1 Q I1 q1
  | true => exact ⟨.bl true, H1, I1, rfl, q1⟩
theorem pe_not (ha : PE X a ta) : PE X (.UnaryOp .Not a pos) (tNotV ta) := by
  intro pins s σ H Q I h
  refine UnaryOp_ (thn (ha pins s σ H _ I h) fun v s1 ⟨x, H1, I1, r1, q1⟩ => ?_)
  obtain ⟨c, rfl, q1⟩ := q1
  cases r1
  exact not_of (wpAny_truthy_bool ⟨.bl (!c), H1, I1, rfl, q1⟩)
/-- a if t else b -/
def tIf (t : TT) (ta tb : TE) : TE := fun σ H Q => t σ H fun c H1 => if c = true then ta σ H1 Q else tb σ H1 Q
theorem pe_ifExp {c : Expr} (hc : PT X c tA) (ha : PE X a ta) (hb : PE X b tb) : PE X (.IfExp c a b pos) (tIf tA ta tb) := by
  intro pins s σ H Q I h
  refine wpAny_IfExp (thn (hc pins s σ H _ I h) fun d s1 ⟨H1, I1, q1⟩ => ?_)
  cases d with
  | true => exact ha pins s1 σ H1 Q I1 q1
  | false => exact hb pins s1 σ H1 Q I1 q1
end
end L2

namespace L2
open PySem PySem.Spec PyProof.Rows

/-! ### a list, a tuple that is read: tracked, frozen, or an object of the module -/
def SqL (K : PySem.W.Frag) (H : Hp) (a : Addr) (xs : List V) : Prop :=
  Rd H a (.lst xs) ∨
    ∃ (o : Obj) (its : Array Value) (n : Nat), K.lookup a = some o ∧ o.cls = .type "list" ∧ o.dict = none ∧ o.data = .seq its n ∧ its.size ≤ sizeLine ∧ Vals xs its.toList
def SqT (K : PySem.W.Frag) (H : Hp) (a : Addr) (xs : List V) : Prop :=
  Rd H a (.tup xs) ∨
    ∃ (o : Obj) (its : Array Value) (n : Nat), K.lookup a = some o ∧ o.cls = .type "tuple" ∧ o.data = .seq its n ∧ its.size ≤ sizeLine ∧ Vals xs its.toList
def absV : Value → Option V
  | .none => some .non
  | .bool b => some (.bl b)
  | .int i _ => some (.int i)
  | .str x _ => some (.str x)
  | .bytes b _ => some (.byt b)
  | .float b _ => some (.flt b)
  | .ref a => some (.ref a)
  | .type n => some (.ty n)
  | _ => none
theorem RelV.abs {x : V} {u : Value} (r : RelV x u) : absV u = some x := by
  cases x with
  | non => cases r; rfl
  | bl _ => cases r; rfl
  | int _ => obtain ⟨t, rfl⟩ := r; rfl
  | str _ => obtain ⟨t, rfl⟩ := r; rfl
  | byt _ => obtain ⟨t, rfl⟩ := r; rfl
  | flt _ => obtain ⟨t, rfl⟩ := r; rfl
  | ref _ => cases r; rfl
  | ty _ => cases r; rfl
theorem RelV.inj {x y : V} {u : Value} (r : RelV x u) (q : RelV y u) : x = y := Option.some.inj (r.abs.symm.trans q.abs)
theorem Vals.inj : ∀ {xs ys : List V} {us : List Value}, Vals xs us → Vals ys us → xs = ys
  | _, _, _, .nil, .nil => rfl
  | _, _, _, .cons r t, .cons r' t' => by rw [r.inj r', Vals.inj t t']
section
variable {X : Cx} {pins : List (Addr × Obj)} {σ : St} {H : Hp} {s : Shared} {a : Addr} {xs ys : List V}
theorem SqL.of {K : PySem.W.Frag} (h : H a = some (.lst xs)) : SqL K H a xs := .inl (.inl h)
theorem SqT.of {K : PySem.W.Frag} (h : H a = some (.tup xs)) : SqT K H a xs := .inl (.inl h)
theorem Inv.list (I : Inv X pins σ H s) (h : SqL X.K H a xs) : ∃ its : List Value, Vals xs its ∧ PlainL s.heap a its.toArray ∧ xs.length ≤ sizeLine := by
  rcases h with h | ⟨o, its, n, hk, hc, hd, hs, hz, r⟩
  · obtain ⟨z, its, n, r, e⟩ := h.ok I.hok
    exact ⟨its, r, ⟨_, n, e, rfl, rfl, rfl⟩, z⟩
  · refine ⟨its.toList, r, ⟨o, n, I.kIn a o hk, hc, hd, by simpa using hs⟩, ?_⟩
    have e := r.length
    simp only [Array.length_toList] at e
    omega
theorem Inv.tuple (I : Inv X pins σ H s) (h : SqT X.K H a xs) : ∃ its : List Value, Vals xs its ∧ IsTup s.heap a its.toArray ∧ xs.length ≤ sizeLine := by
  rcases h with h | ⟨o, its, n, hk, hc, hs, hz, r⟩
  · obtain ⟨z, its, r, p⟩ := h.ok I.hok
    exact ⟨its, r, p, z⟩
  · refine ⟨its.toList, r, ⟨o, I.kIn a o hk, hc, n, by simpa using hs⟩, ?_⟩
    have e := r.length
    simp only [Array.length_toList] at e
    omega
theorem Inv.list_inj (I : Inv X pins σ H s) (h : SqL X.K H a xs) (h' : SqL X.K H a ys) : xs = ys := by
  obtain ⟨its, r, ⟨o, n, e, _, _, d⟩, _⟩ := I.list h
  obtain ⟨its', r', ⟨o', n', e', _, _, d'⟩, _⟩ := I.list h'
  rw [e] at e'; cases e'
  rw [d] at d'
  injection d' with d1 _
  have : its = its' := by simpa using congrArg Array.toList d1
  subst this
  exact r.inj r'
theorem Inv.tuple_inj (I : Inv X pins σ H s) (h : SqT X.K H a xs) (h' : SqT X.K H a ys) : xs = ys := by
  obtain ⟨its, r, ⟨o, e, _, n, d⟩, _⟩ := I.tuple h
  obtain ⟨its', r', ⟨o', e', _, n', d'⟩, _⟩ := I.tuple h'
  rw [e] at e'; cases e'
  rw [d] at d'
  injection d' with d1 _
  have : its = its' := by simpa using congrArg Array.toList d1
  subst this
  exact r.inj r'
end

/-! ### another wish about exceptions -/
abbrev Cx.wish (X : Cx) (E : Value → Shared → Prop) : Cx := { X with xe := E }
/-- no exception leaves -/
abbrev Cx.nox (X : Cx) : Cx := X.wish fun _ _ => False
theorem Cx.Ok.wish {X : Cx} (ok : X.Ok) (E : Value → Shared → Prop) : (X.wish E).Ok :=
  ⟨ok.mod, ok.kind, ok.glob, ok.blt, ok.above, ok.inj, ok.has, ok.cab, ok.hd, ok.frames, ok.stk, ok.exf, ok.bs, ok.bsz, ok.noex, ok.exfs, ok.funs, ok.frf⟩
theorem Cx.Ok.unwish {X : Cx} {E : Value → Shared → Prop} (ok : (X.wish E).Ok) : X.Ok :=
  ⟨ok.mod, ok.kind, ok.glob, ok.blt, ok.above, ok.inj, ok.has, ok.cab, ok.hd, ok.frames, ok.stk, ok.exf, ok.bs, ok.bsz, ok.noex, ok.exfs, ok.funs, ok.frf⟩
section
variable {X : Cx} {pins : List (Addr × Obj)} {σ : St} {H : Hp} {s : Shared} {E : Value → Shared → Prop}
theorem Inv.wish (I : Inv X pins σ H s) (E : Value → Shared → Prop) : Inv (X.wish E) pins σ H s := ⟨I.ok.wish E, I.os, I.bare, I.base, I.loc, I.cell, I.free, I.freeC, I.pin, I.hok, I.len⟩
theorem Inv.unwish (I : Inv (X.wish E) pins σ H s) : Inv X pins σ H s := ⟨I.ok.unwish, I.os, I.bare, I.base, I.loc, I.cell, I.free, I.freeC, I.pin, I.hok, I.len⟩
theorem SP.unwish {D : Ends} {f : Flow} {s' : Shared} (h : SP (X.wish E) pins D f s') : SP X pins D f s' := by
  cases f with
  | next => obtain ⟨σ', H', I, q⟩ := h; exact ⟨σ', H', I.unwish, q⟩
  | brk => obtain ⟨σ', H', I, q⟩ := h; exact ⟨σ', H', I.unwish, q⟩
  | cont => obtain ⟨σ', H', I, q⟩ := h; exact ⟨σ', H', I.unwish, q⟩
  | ret u => obtain ⟨v, σ', H', I, r, q⟩ := h; exact ⟨v, σ', H', I.unwish, r, q⟩
theorem PE.nox {e : Expr} {t : TE} (h : PE X.nox e t) : PE X e t := fun pins s σ H Q I hw =>
  wpAny_mono (h pins s σ H Q (I.wish _) hw) (fun _ _ ⟨v, H', I', r, q⟩ => ⟨v, H', I'.unwish, r, q⟩) fun _ _ z => False.elim z
theorem PT.nox {e : Expr} {t : TT} (h : PT X.nox e t) : PT X e t := fun pins s σ H Q I hw =>
  wpAny_mono (h pins s σ H Q (I.wish _) hw) (fun _ _ ⟨H', I', q⟩ => ⟨H', I'.unwish, q⟩) fun _ _ z => False.elim z
theorem PSs.nox {st : List Stmt} {t : TS} (h : PSs X.nox st t) : PSs X st t := fun pins s σ H D I hw =>
  wpAny_mono (h pins s σ H D (I.wish _) hw) (fun _ _ q => q.unwish) fun _ _ z => False.elim z
end

/-! ### blocks and small statements -/
section
variable {X : Cx} {st : Stmt} {rest : List Stmt} {t u : TS} {e : Expr} {te : TE} {pos : Pos}
def tNext : TS := fun D σ H => D.nx σ H
def tSeq (t u : TS) : TS := fun D σ H => t { D with nx := u D } σ H
theorem pss_nil : PSs X [] tNext := fun _ _ σ H _ I h => wpAny_execs_nil ⟨σ, H, I, h⟩
theorem pss_cons (h1 : PS X st t) (h2 : PSs X rest u) : PSs X (st :: rest) (tSeq t u) := by
  intro pins s σ H D I h
  refine wpAny_execs_cons (thn (h1 pins s σ H { D with nx := u D } I h) fun f s1 q => ?_)
  cases f with
  | next =>
    obtain ⟨σ', H', I', q⟩ := q
    exact h2 pins s1 σ' H' D I' q
  | ret v => exact q
  | brk => exact q
  | cont => exact q
theorem pss_one (h1 : PS X st t) : PSs X [st] t := by
  intro pins s σ H D I h
  refine wpAny_execs_cons (thn (h1 pins s σ H D I h) fun f s1 q => ?_)
  cases f with
  | next => exact wpAny_execs_nil q
  | ret v => exact q
  | brk => exact q
  | cont => exact q
def tBreak : TS := fun D σ H => D.bk σ H
def tCont : TS := fun D σ H => D.ct σ H
theorem ps_pass : PS X (.Pass pos) tNext := fun _ _ σ H _ I h => wpAny_Pass ⟨σ, H, I, h⟩
theorem ps_break : PS X (.Break pos) tBreak := fun _ _ σ H _ I h => wpAny_Break ⟨σ, H, I, h⟩
theorem ps_continue : PS X (.Continue pos) tCont := fun _ _ σ H _ I h => wpAny_Continue ⟨σ, H, I, h⟩
/-- in a def's body nothing is shown -/
theorem Inv.quiet {pins : List (Addr × Obj)} {σ : St} {H : Hp} {s : Shared} (I : Inv X pins σ H s) : interactive X.env = false := by simp [interactive, I.ok.kind]
/-- a docstring -/
theorem ps_doc {x j pos pos'} : PS X (.Expr (.Constant (.str x) j pos) pos') tNext := fun _ s σ H _ I h => wpAny_Expr (Calls.Constant_str (show SP X _ _ .next { s with toks := s.toks + 1 } from ⟨σ, H, I.tok _, h⟩)) I.quiet
/-- an expression whose value is dropped -/
def tDrop (te : TE) : TS := fun D σ H => te σ H fun _ H1 => D.nx σ H1
theorem ps_expr (he : PE X e te) (hs : swapsWith e none pos.line X.env = pure false := by rfl) : PS X (.Expr e pos) (tDrop te) := by
  intro pins s σ H D I h
  exact wpAny_Expr_any (thn (he pins s σ H _ I h) fun v s1 ⟨x, H1, I1, r1, q1⟩ => ⟨σ, H1, I1, q1⟩) I.quiet hs
def tRet (te : TE) : TS := fun D σ H => te σ H D.rt
theorem ps_ret (he : PE X e te) : PS X (.Return (some e) pos) (tRet te) := by
  intro pins s σ H D I h
  exact wpAny_Return_some (thn (he pins s σ H _ I h) fun v s1 ⟨x, H1, I1, r1, q1⟩ => ⟨x, σ, H1, I1, r1, q1⟩)
def tRetN : TS := fun D _ H => D.rt .non H
theorem ps_retN : PS X (.Return none pos) tRetN := fun _ _ σ H _ I h => wpAny_Return_none ⟨.non, σ, H, I, rfl, h⟩
def tIfS (c : TT) (t u : TS) : TS := fun D σ H => c σ H fun b H1 => if b = true then t D σ H1 else u D σ H1
theorem ps_if {c : Expr} {a b : List Stmt} {tc : TT} (hc : PT X c tc) (ha : PSs X a t) (hb : PSs X b u) : PS X (.If c a b pos) (tIfS tc t u) := by
  intro pins s σ H D I h
  refine wpAny_If (thn (hc pins s σ H _ I h) fun d s1 ⟨H1, I1, q1⟩ => ?_)
  cases d with
  | true => exact ha pins s1 σ H1 D I1 q1
  | false => exact hb pins s1 σ H1 D I1 q1
/-- code that the proof never comes to -/
def tNever : TS := fun _ _ _ => False
theorem ps_never : PS X st tNever := fun _ _ _ _ _ _ h => h.elim
theorem pss_never {sts : List Stmt} : PSs X sts tNever := fun _ _ _ _ _ _ h => h.elim
end

/-! ### targets -/
abbrev TG := V → St → Hp → (St → Hp → Prop) → Prop
abbrev TGs := List V → St → Hp → (St → Hp → Prop) → Prop
def PG (X : Cx) (target : Expr) (t : TG) : Prop :=
  ∀ (pins : List (Addr × Obj)) (s : Shared) (σ : St) (H : Hp) (v : V) (u : Value) (Q : St → Hp → Prop), Inv X pins σ H s → RelV v u → t v σ H Q →
    wpAny (model X.prog X.w) X.A (assign target X.env u) (fun _ s' => ∃ σ' H', Inv X pins σ' H' s' ∧ Q σ' H') X.xe s
/-- several targets, one after another -/
def PGs (X : Cx) (ts : List Expr) (t : TGs) : Prop :=
  ∀ (pins : List (Addr × Obj)) (s : Shared) (σ : St) (H : Hp) (vs : List V) (us : List Value) (Q : St → Hp → Prop), Inv X pins σ H s → Vals vs us → t vs σ H Q →
    wpAny (model X.prog X.w) X.A (assignInOrder ((assignEach ts X.env).map (·.2)) us) (fun _ s' => ∃ σ' H', Inv X pins σ' H' s' ∧ Q σ' H') X.xe s
/-- o[i] = v, by values -/
abbrev TSet := V → V → V → Hp → (Hp → Prop) → Prop
def PSet (X : Cx) (t : TSet) : Prop :=
  ∀ (pins : List (Addr × Obj)) (s : Shared) (σ : St) (H : Hp) (o i v : V) (ov iv u : Value) (Q : Hp → Prop), Inv X pins σ H s → RelV o ov → RelV i iv → RelV v u → t o i v H Q →
    wpAny (model X.prog X.w) X.A (setItem ov iv u) (fun _ s' => ∃ H', Inv X pins σ H' s' ∧ Q H') X.xe s
/-- a op= b, by values -/
abbrev TIp := V → V → Hp → VK → Prop
def PIp (X : Cx) (op : Operator) (t : TIp) : Prop :=
  ∀ (pins : List (Addr × Obj)) (s : Shared) (σ : St) (H : Hp) (x y : V) (v u : Value) (Q : VK), Inv X pins σ H s → RelV x v → RelV y u → t x y H Q →
    wpAny (model X.prog X.w) X.A (inplaceOp op v u) (EP X pins σ Q) X.xe s
section
variable {X : Cx} {pos : Pos}
def gName (i : Nat) : TG := fun v σ H Q => Q (σ.set i (some v)) H
theorem pg_name {i : Nat} {x : Str} (hN : X.N.Nodup) (hi : X.N[i]? = some x) (hx : Loc X.env.scope x) (hf : X.fn x = true ∨ X.env.scope.names.lookup x = some .local := by first | exact .inl rfl | exact .inr rfl | assumption) : PG X (.Name x pos) (gName i) := by
  intro pins s σ H v u Q I r h
  exact wpAny_assign_Name (store_ok I hN hi hx r (fun s' I' => ⟨_, H, I', h⟩) hf)
def gNil : TGs := fun vs σ H Q => vs = [] ∧ Q σ H
def gCons (t : TG) (u : TGs) : TGs := fun vs σ H Q => ∃ v r, vs = v :: r ∧ t v σ H fun σ' H' => u r σ' H' Q
theorem pgs_nil : PGs X [] gNil := by
  intro pins s σ H vs us Q I r h
  obtain ⟨e, h⟩ := h
  subst e
  cases r
  exact assignInOrder_nil ⟨σ, H, I, h⟩
theorem pgs_cons {e : Expr} {es : List Expr} {t : TG} {u : TGs} (h1 : PG X e t) (h2 : PGs X es u)
    (hs : (assignEach (e :: es) X.env).map (·.2) = assign e X.env :: (assignEach es X.env).map (·.2) := by rfl) : PGs X (e :: es) (gCons t u) := by
  intro pins s σ H vs us Q I r h
  obtain ⟨v, vr, e1, h⟩ := h
  subst e1
  cases r with
  | cons r rr =>
    rw [hs]
    refine assignInOrder_cons (thn (h1 pins s σ H _ _ _ I r h) fun _ s1 ⟨σ1, H1, I1, q1⟩ => ?_)
    exact h2 pins s1 σ1 H1 _ _ Q I1 rr q1
/-- (a, b, ..) = a tuple of that length -/
def gTup (K : PySem.W.Frag) (n : Nat) (t : TGs) : TG := fun v σ H Q => ∃ a xs, v = .ref a ∧ SqT K H a xs ∧ xs.length = n ∧ t xs σ H Q
theorem pg_tup {es : List Expr} {k : Nat} {t : TGs} {n : Nat} (hc : X.calm = true) (h : PGs X es t)
    (hn : (assignEach es X.env).length = n := by rfl) (hst : (assignEach es X.env).findIdx? (·.1) = none := by rfl) : PG X (.Tuple es k pos) (gTup X.K n t) := by
  intro pins s σ H v u Q I r hw
  obtain ⟨a, xs, e1, hq, hl, hw⟩ := hw
  subst e1
  cases r
  obtain ⟨its, rv, ht, hz⟩ := I.tuple hq
  refine assign_Tuple_tuple (I.ok.hd hc) ht (by simp [hn, ← hl, rv.length]) hst fun h' hx => ?_
  have I1 : Inv X pins σ H { s with heap := h' } := I.kept (t' := s.toks) fun b o e => hx b o (Nat.ne_of_lt (Heap.lt_size e)) e
  exact h pins _ σ H xs _ Q I1 (by simpa using rv) hw
/-- o[i] = .. -/
def gSub (to ti : TE) (t : TSet) : TG := fun v σ H Q => to σ H fun o H1 => ti σ H1 fun i H2 => t o i v H2 fun H3 => Q σ H3
theorem pg_sub {o i : Expr} {to ti : TE} {t : TSet} (ho : PE X o to) (hi : PE X i ti) (hs : PSet X t)
    (ha : ∀ v, assign (.Subscript o i pos) X.env v = (do
      let ov ← holding [v] (eval o X.env)
      let iv ← holding [v, ov] (eval i X.env)
      standAt pos
      holding [v, ov, iv] (setItem ov iv v)
      release [v, ov, iv] []) := by intro _; rfl) : PG X (.Subscript o i pos) (gSub to ti t) := by
  intro pins s σ H v u Q I r h
  rw [ha]
  refine wpAny_bind (wpAny_holding (thn (ho pins s σ H _ I h) fun ov s1 ⟨x, H1, I1, r1, q1⟩ => ?_))
  refine wpAny_bind (wpAny_holding (thn (hi pins s1 σ H1 _ I1 q1) fun iv s2 ⟨y, H2, I2, r2, q2⟩ => ?_))
  refine wpAny_bind (wpAny_standAt (wpAny_bind (wpAny_holding (thn (hs pins s2 σ H2 x y v ov iv u _ I2 r1 r2 r q2) fun _ s3 ⟨H3, I3, q3⟩ => ?_))))
  exact wpAny_release ⟨σ, H3, I3, q3⟩
/-- target = value -/
def tAsg (te : TE) (g : TG) : TS := fun D σ H => te σ H fun x H1 => g x σ H1 D.nx
theorem ps_asg {tg e : Expr} {te : TE} {g : TG} (he : PE X e te) (hg : PG X tg g) (hs : swapsWithSole [tg] e pos.line X.env = pure false := by rfl) (hw : swappedStores [tg] e X.env = pure none := by rfl)
    (h1 : (assignEach [tg] X.env).map (·.2) = [assign tg X.env] := by rfl) : PS X (.Assign [tg] e pos) (tAsg te g) := by
  intro pins s σ H D I h
  refine wpAny_Assign_stores (thn (he pins s σ H _ I h) fun v s1 ⟨x, H1, I1, r1, q1⟩ => ?_) hs hw
  rw [h1]
  exact thn (hg pins s1 σ H1 x v _ I1 r1 q1) fun _ s2 q => q
/-- name = value -/
theorem ps_set {i : Nat} {x : Str} {e : Expr} {te : TE} {pos' : Pos} (hN : X.N.Nodup) (hi : X.N[i]? = some x) (hx : Loc X.env.scope x) (he : PE X e te) (hs : swapsWith e (some (.Name x pos')) pos.line X.env = pure false := by rfl) (hf : X.fn x = true ∨ X.env.scope.names.lookup x = some .local := by first | exact .inl rfl | exact .inr rfl | assumption) :
    PS X (.Assign [.Name x pos'] e pos) (tAsg te (gName i)) := by
  intro pins s σ H D I h
  refine wpAny_Assign_Name (thn (he pins s σ H _ I h) fun v s1 ⟨y, H1, I1, r1, q1⟩ => ?_) hs
  exact store_ok I1 hN hi hx r1 (fun s2 I2 => ⟨_, H1, I2, q1⟩) hf
/-- a, b = x, y with plain local names: stored from the right; the pair itself is not tracked (the opening rows as in PyProof/Rows/TupAssign.lean:23) -/
def tPar (i j : Nat) (ta : TA) : TS := fun D σ H => ta σ H fun vs H1 => ∃ v w, vs = [v, w] ∧ D.nx ((σ.set i (some v)).set j (some w)) H1
theorem ps_par {i j : Nat} {x y : Str} {a b : Expr} {ta : TA} {px py pt : Pos} {kt k2 pt2} (hc : X.calm = true) (hN : X.N.Nodup) (hi : X.N[i]? = some x) (hj : X.N[j]? = some y) (hij : i ≠ j)
    (hx : X.env.scope.names.lookup x = some .local) (hy : X.env.scope.names.lookup y = some .local) (ha : PA X [a, b] ta)
    (hw : swappedStores [.Tuple [.Name x px, .Name y py] kt pt] (.Tuple [a, b] k2 pt2) X.env = pure (some [x, y]))
    (hs : swapsWithSole [.Tuple [.Name x px, .Name y py] kt pt] (.Tuple [a, b] k2 pt2) pos.line X.env = pure false := by rfl) :
    PS X (.Assign [.Tuple [.Name x px, .Name y py] kt pt] (.Tuple [a, b] k2 pt2) pos) (tPar i j ta) := by
  intro pins s σ H D I h
  rw [exec_Assign_arm]
  refine wpAny_bind (wpAny_standAt ?_)
  rw [hs]
  refine wpAny_bind (wpAny_pure ?_)
  rw [if_neg (by decide)]
  refine wpAny_bind (Tuple_ (thn (ha _ pins s σ H _ I h) fun us s1 ⟨vs, H1, I1, r1, q1⟩ => ?_))
  obtain ⟨v, w, e1, q1⟩ := q1
  subst e1
  obtain ⟨u1, u2, rfl, rv, rw'⟩ : ∃ u1 u2, us = [u1, u2] ∧ RelV v u1 ∧ RelV w u2 := by
    cases r1 with
    | cons p q =>
      cases q with
      | cons p' q' =>
        cases q'
        exact ⟨_, _, rfl, p, p'⟩
  refine wpAny_newObj_type ?_ (by show 2 ≤ sizeLine; decide)
  have I2 : Inv X pins σ H1 { s1 with heap := s1.heap.push { cls := .type "tuple", data := .seq [u1, u2].toArray } } := I1.kept (t' := s1.toks) fun b o e => Heap.get?_push_of_some _ e
  rw [hw]
  refine wpAny_bind (wpAny_pure ?_)
  show wpAny (model X.prog X.w) X.A (do rule "assign.swapped-stores"; let items ← unpackItems (.ref s1.heap.objs.size) 2 none; assignInOrder [fun v => bindName X.env y v, fun v => bindName X.env x v] items.reverse; pure Flow.next) _ _ _
  refine wpAny_bind (wpAny_rule (wpAny_bind (unpackItems_tuple (items := #[u1, u2]) (I.ok.hd hc) (IsTup.new s1.heap _) fun h' hx' => ?_)))
  have I3 := I2.kept (h' := h') (t' := s1.toks) fun b o e => hx' b o (Nat.ne_of_lt (Heap.lt_size e)) e
  show wpAny _ _ (assignInOrder [fun v => bindName X.env y v, fun v => bindName X.env x v] [u2, u1] >>= fun _ => pure Flow.next) _ _ _
  refine wpAny_bind (assignInOrder_cons (wpAny_bindName (store_ok I3 hN hj (.inl hy) rw' (fun s2 I4 => ?_) (.inr hy))))
  refine assignInOrder_cons (wpAny_bindName (store_ok I4 hN hi (.inl hx) rv (fun s3 I5 => assignInOrder_nil (wpAny_pure ?_)) (.inr hx)))
  rw [List.set_comm _ _ (Ne.symm hij)] at I5
  exact ⟨_, H1, I5, q1⟩
/-- name op= e -/
def tAug (i : Nat) (te : TE) (ti : TIp) : TS := fun D σ H => ∃ x, σ[i]? = some (some x) ∧ te σ H fun y H1 => ti x y H1 fun z H2 => D.nx (σ.set i (some z)) H2
theorem ps_aug {i : Nat} {x : Str} {e : Expr} {te : TE} {op : Operator} {ti : TIp} {pos' : Pos} (hN : X.N.Nodup) (hi : X.N[i]? = some x) (hx : Loc X.env.scope x) (he : PE X e te) (ho : PIp X op ti) (hf : X.fn x = true ∨ X.env.scope.names.lookup x = some .local := by first | exact .inl rfl | exact .inr rfl | assumption) :
    PS X (.AugAssign (.Name x pos') op e pos) (tAug i te ti) := by
  intro pins s σ H D I h
  obtain ⟨v, e1, h⟩ := h
  obtain ⟨m, hn, hl⟩ := I.loc
  have vis : Vis X.env.scope x := by rcases hx with k | k; exact .inl k; exact .inr (.inl k)
  obtain ⟨u, r, l⟩ := hl i x v hi e1 vis
  refine wpAny_AugAssign_Name ?_
  have go : wpAny (model X.prog X.w) X.A (eval e X.env) (fun w s₂ => wpAny (model X.prog X.w) X.A (inplaceOp op u w) (fun r s₃ => wpAny (model X.prog X.w) X.A (storeName X.env x r) (fun _ => SP X pins D .next) X.xe s₃) X.xe s₂) X.xe s := by
    refine thn (he pins s σ H _ I h) fun w s1 ⟨y, H1, I1, r1, q1⟩ => ?_
    refine thn (ho pins s1 σ H1 v y u w _ I1 r r1 q1) fun z s2 ⟨zv, H2, I2, r2, q2⟩ => ?_
    exact store_ok I2 hN hi hx r2 (fun s3 I3 => ⟨_, H2, I3, q2⟩) hf
  rcases l with ⟨hk, hm⟩ | ⟨hk, c, hc, hcell⟩
  · exact wpAny_loadName_local I.ok.kind hk hn hm go
  · rcases hk with hk | hk
    · exact wpAny_loadName_cell I.ok.kind hk hc hcell go
    · rcases hx with k | k
      · have : X.env.scope.names.lookup x = some .free := hk
        rw [k] at this; cases this
      · have : X.env.scope.names.lookup x = some .free := hk
        rw [k] at this; cases this
/-- o[i] op= e -/
def tAugS (to ti te : TE) (tget : V → V → Hp → VK → Prop) (tip : TIp) (tset : TSet) : TS := fun D σ H => to σ H fun o H1 => ti σ H1 fun i H2 => tget o i H2 fun x H3 => te σ H3 fun y H4 => tip x y H4 fun z H5 => tset o i z H5 fun H6 => D.nx σ H6
/-- o[i], by values -/
def PGet (X : Cx) (t : V → V → Hp → VK → Prop) : Prop :=
  ∀ (pins : List (Addr × Obj)) (s : Shared) (σ : St) (H : Hp) (o i : V) (ov iv : Value) (Q : VK), Inv X pins σ H s → RelV o ov → RelV i iv → t o i H Q →
    wpAny (model X.prog X.w) X.A (getItem ov iv) (EP X pins σ Q) X.xe s
theorem ps_augS {o i e : Expr} {to ti te : TE} {tget : V → V → Hp → VK → Prop} {tip : TIp} {tset : TSet} {op : Operator} {tpos : Pos} (ho : PE X o to) (hi : PE X i ti) (hg : PGet X tget) (he : PE X e te) (hp : PIp X op tip) (hs : PSet X tset)
    (ha : ∀ ov iv new, augStore i ov iv new = (do holding [new, ov, iv] (setItem ov iv new); release [new, ov, iv] []; pure .next) := by intros; rfl) : PS X (.AugAssign (.Subscript o i tpos) op e pos) (tAugS to ti te tget tip tset) := by
  intro pins s σ H D I h
  refine wpAny_AugAssign_SubscriptAny (thn (ho pins s σ H _ I h) fun ov s1 ⟨x1, H1, I1, r1, q1⟩ => ?_) ha
  refine thn (hi pins s1 σ H1 _ I1 q1) fun iv s2 ⟨x2, H2, I2, r2, q2⟩ => ?_
  refine thn (hg pins s2 σ H2 x1 x2 ov iv _ I2 r1 r2 q2) fun old s3 ⟨x3, H3, I3, r3, q3⟩ => ?_
  refine thn (he pins s3 σ H3 _ I3 q3) fun v s4 ⟨x4, H4, I4, r4, q4⟩ => ?_
  refine thn (hp pins s4 σ H4 x3 x4 old v _ I4 r3 r4 q4) fun new s5 ⟨x5, H5, I5, r5, q5⟩ => ?_
  exact thn (hs pins s5 σ H5 x1 x2 x5 ov iv new _ I5 r1 r2 r5 q5) fun _ s6 ⟨H6, I6, q6⟩ => ⟨σ, H6, I6, q6⟩
/-- ints -/
def ipI (f : Int → Int → Int) : TIp := fun x y H Q => ∃ i j, x = .int i ∧ y = .int j ∧ Q (.int (f i j)) H
theorem ip_add : PIp X .Add (ipI fun i j => i + j) := by
  intro pins s σ H x y v u Q I r1 r2 h
  obtain ⟨i, j, e1, e2, q⟩ := h
  subst e1; subst e2
  obtain ⟨t, rfl⟩ := r1
  obtain ⟨t', rfl⟩ := r2
  exact iadd_int ⟨.int _, H, I.tok _, ⟨_, rfl⟩, q⟩
theorem ip_sub : PIp X .Sub (ipI fun i j => i - j) := by
  intro pins s σ H x y v u Q I r1 r2 h
  obtain ⟨i, j, e1, e2, q⟩ := h
  subst e1; subst e2
  obtain ⟨t, rfl⟩ := r1
  obtain ⟨t', rfl⟩ := r2
  exact isub_int ⟨.int _, H, I.tok _, ⟨_, rfl⟩, q⟩
end

/-! ### while -/
section
variable {X : Cx} {pos : Pos}
/-- the invariant W with its measure -/
def tWhile (c : TT) (tb : TS) : TS := fun D σ H => ∃ W : Nat → St → Hp → Prop, (∃ m, W m σ H) ∧ ∀ m σ H, W m σ H →
  c σ H fun b H1 => if b = true then ∃ N : St → Hp → Prop, (∀ σ' H', N σ' H' → ∃ m', m' < m ∧ W m' σ' H') ∧ tb { D with nx := N, ct := N, bk := D.nx } σ H1 else D.nx σ H1
theorem ps_while {c : Expr} {body : List Stmt} {tc : TT} {tb : TS} (hp : PassesOwn (model X.prog X.w) X.A X.env X.xe) (hc : PT X c tc) (hb : PSs X body tb) : PS X (.While c body [] pos) (tWhile tc tb) := by
  intro pins s σ H D I h
  obtain ⟨W, ⟨m0, w0⟩, turn⟩ := h
  refine wpAny_While (codeAny_whileLoop (fun n s' => ∃ σ' H', Inv X pins σ' H' s' ∧ W n σ' H') ?_ m0 ⟨σ, H, I, w0⟩)
  rintro n s1 ⟨σ1, H1, I1, w1⟩
  refine wpAny_passesOwn hp (thn (hc pins s1 σ1 H1 _ I1 (turn n σ1 H1 w1)) fun b s2 ⟨H2, I2, q2⟩ => ?_)
  cases b with
  | true =>
    obtain ⟨N, hN, q2⟩ := q2
    rw [if_pos rfl]
    refine wpAny_passesOwn hp (thn (hb pins s2 σ1 H2 _ I2 q2) fun f s3 q3 => ?_)
    cases f with
    | next =>
      obtain ⟨σ3, H3, I3, n3⟩ := q3
      obtain ⟨m', hm, w3⟩ := hN σ3 H3 n3
      exact ⟨m', hm, σ3, H3, I3, w3⟩
    | cont =>
      obtain ⟨σ3, H3, I3, n3⟩ := q3
      obtain ⟨m', hm, w3⟩ := hN σ3 H3 n3
      exact ⟨m', hm, σ3, H3, I3, w3⟩
    | brk => exact q3
    | ret v => exact q3
  | false =>
    rw [if_neg Bool.false_ne_true]
    exact wpAny_execs_nil ⟨σ1, H2, I2, q2⟩
end

/-! ### what a loop or a comprehension walks -/
/-- at turn i: it yields x (the heap may grow), or it stops -/
structure It where
  go : Nat → Hp → Prop
  yld : Nat → Hp → V → Hp → Prop
  stop : Nat → Hp → Prop
/-- the iterator's own objects may turn: they are not the frame's, not pinned, younger than the entry (or a comprehension's own) -/
def FpOk (X : Cx) (pins : List (Addr × Obj)) (H : Hp) (b : Addr) : Prop :=
  H b = none ∧ b ≠ X.env.locals ∧ b ∉ X.fs ∧ (b ∈ X.ex ∨ X.s₀.heap.objs.size ≤ b) ∧ (∀ x c, X.env.cells.lookup x = some c → c ≠ b) ∧ ∀ p ∈ X.pn ++ pins, p.1 ≠ b
theorem Inv.fpOk {X : Cx} {pins : List (Addr × Obj)} {σ : St} {H H' : Hp} {s : Shared} {b : Addr} (I : Inv X pins σ H s) (hb : s.heap.objs.size ≤ b) (hn : H' b = none) : FpOk X pins H' b := by
  refine ⟨hn, Nat.ne_of_gt (Nat.lt_of_lt_of_le I.lt hb), I.nofs hb, .inr (Nat.le_trans I.sz hb), fun x c e z => ?_, fun p hp z => ?_⟩
  · obtain ⟨v, q⟩ := I.cell x c e
    exact absurd (Nat.lt_of_lt_of_le q.lt (by rw [z]; exact hb)) (Nat.lt_irrefl _)
  · exact absurd (Nat.lt_of_lt_of_le (Heap.lt_size (I.pin p hp).1) (by rw [z]; exact hb)) (Nat.lt_irrefl _)
structure Turn (P : Program) (w : World) (K : PySem.W.Frag) (tg : Expr) (J : It) (fp : List Addr) (it : Addr) (tn : Nat → Heap → Prop) : Prop where
  mem : it ∈ fp
  obj : ∀ i h, tn i h → ∀ b ∈ fp, ∃ o, h.get? b = some o ∧ ∀ v, o.data ≠ .cell v
  keep : ∀ i h h', tn i h → (∀ b ∈ fp, ∀ o, h.get? b = some o → h'.get? b = some o) → tn i h'
  item : ∀ (X : Cx), X.prog = P → X.w = w → X.K = K → X.calm = true → ∀ (i : Nat) (pins : List (Addr × Obj)) (s : Shared) (σ : St) (H : Hp) (E : Value → Shared → Prop), Inv X pins σ H s → (∀ b ∈ fp, FpOk X pins H b) → tn i s.heap → J.go i H →
    wpAny (model P w) X.A (pyNext (.ref it)) (fun r s1 => ∃ u, r = some u ∧
      wpAny (model P w) X.A (letOwnedTupleGo tg (.ref it) u) (fun _ s2 => ∃ x H', Inv X pins σ H' s2 ∧ RelV x u ∧ J.yld i H x H' ∧ tn (i + 1) s2.heap ∧ ∀ b ∈ fp, H' b = none) E s1) E s
  done : ∀ (X : Cx), X.prog = P → X.w = w → X.K = K → X.calm = true → ∀ (i : Nat) (pins : List (Addr × Obj)) (s : Shared) (σ : St) (H : Hp) (E : Value → Shared → Prop), Inv X pins σ H s → (∀ b ∈ fp, FpOk X pins H b) → tn i s.heap → J.stop i H →
    wpAny (model P w) X.A (pyNext (.ref it)) (fun r s1 => r = none ∧ Inv X pins σ H s1) E s
  self : ∀ (A : Around) (i : Nat) (s : Shared) (Q : Value → Shared → Prop) (E : Value → Shared → Prop), tn i s.heap → Q (.ref it) s → wpAny (model P w) A (pyIter (.ref it)) Q E s
abbrev TI := St → Hp → (It → Hp → Prop) → Prop
/-- an iterator has come -/
def PIE (X : Cx) (pins : List (Addr × Obj)) (σ : St) (tg : Expr) (R : It → Hp → Prop) (itv : Value) (s2 : Shared) : Prop :=
  ∃ (it : Addr) (fp : List Addr) (tn : Nat → Heap → Prop) (J : It) (H' : Hp), itv = .ref it ∧ Inv X pins σ H' s2 ∧ Turn X.prog X.w X.K tg J fp it tn ∧ tn 0 s2.heap ∧ (∀ b ∈ fp, FpOk X pins H' b) ∧ R J H'
def PI (X : Cx) (tg iter : Expr) (wi : TI) : Prop :=
  ∀ (pins : List (Addr × Obj)) (s : Shared) (σ : St) (H : Hp) (R : It → Hp → Prop), Inv X pins σ H s → wi σ H R →
    wpAny (model X.prog X.w) X.A (eval iter X.env) (fun v s1 => wpAny (model X.prog X.w) X.A (pyIter v) (PIE X pins σ tg R) X.xe s1) X.xe s

/-- the step ahead of the store is nothing for an iterator that keeps no tuple -/
theorem go_of {M : Model} {A : Around} {E : Value → Shared → Prop} {s : Shared} {tg : Expr} {it : Addr} {u : Value} {o : Obj} {n : String} {vs : Array Value} {Q : Unit → Shared → Prop} (ho : s.heap.get? it = some o) (hc : o.cls = .type n) (hd : o.data = .fields vs)
    (hn : ["enumerate", "zip", "dict_itemiterator", "dict_reverseitemiterator", "odict_iterator", "itertools.zip_longest", "itertools.pairwise"].contains n = false) (hQ : Q () s) : wpAny M A (letOwnedTupleGo tg (.ref it) u) Q E s := by
  unfold letOwnedTupleGo
  cases tg <;> first
    | exact wpAny_pure hQ
    | (cases u <;> first
        | exact wpAny_pure hQ
        | (refine wpAny_bind (wpAny_load ho ?_)
           rw [hc, hd]
           show wpAny M A (if (["enumerate", "zip", "dict_itemiterator", "dict_reverseitemiterator", "odict_iterator", "itertools.zip_longest", "itertools.pairwise"].contains n && vs[0]? == some (rawInt _)) = true then _ else _) Q E s
           rw [if_neg (by intro h; rw [hn, Bool.false_and] at h; cases h)]
           exact wpAny_pure hQ))

/-- the list at a, as it stands at each turn (a loop may append to it) -/
def Itl (K : PySem.W.Frag) (a : Addr) : It :=
  ⟨fun i H => ∃ xs x, SqL K H a xs ∧ xs[i]? = some x, fun i H x H' => H' = H ∧ ∀ xs, SqL K H a xs → xs[i]? = some x, fun i H => ∃ xs, SqL K H a xs ∧ xs.length ≤ i⟩
def Itt (K : PySem.W.Frag) (a : Addr) : It :=
  ⟨fun i H => ∃ xs x, SqT K H a xs ∧ xs[i]? = some x, fun i H x H' => H' = H ∧ ∀ xs, SqT K H a xs → xs[i]? = some x, fun i H => ∃ xs, SqT K H a xs ∧ xs.length ≤ i⟩
/-- lo, lo + 1, .. (n of them) -/
def Itr (lo : Int) (n : Nat) : It := ⟨fun i _ => i < n, fun i H x H' => H' = H ∧ x = .int (lo + i), fun i _ => n ≤ i⟩
theorem turn_list {P : Program} {w : World} {K : PySem.W.Frag} {tg : Expr} (a it : Addr) : Turn P w K tg (Itl K a) [it] it (fun i h => h.IsListIter it a i) where
  mem := by simp
  obj := fun i h st b hb => by
    have e : b = it := by simpa using hb
    subst e
    obtain ⟨o, e, c, d⟩ := st
    exact ⟨o, e, fun v z => by rw [d] at z; cases z⟩
  keep := fun i h h' st k => st.at fun o e => k it (by simp) o e
  item := by
    intro X hP hw hK hc i pins s σ H E I hf st hg
    subst hP hw hK
    obtain ⟨xs, x, hq, hx⟩ := hg
    obtain ⟨its, rv, p, hz⟩ := I.list hq
    obtain ⟨u, hu, ru⟩ := rv.get hx
    obtain ⟨f0, f1, f2, f3, f4, f5⟩ := hf it (by simp)
    refine wpAny_pyNext_list_item st p.isList (x := u) (by simpa using hu) fun h' st' sb => ?_
    have I1 : Inv X pins σ H { s with heap := h' } := I.turned (t' := s.toks) (fun b o hb e => (sb.2 b hb).trans e) f0 f1 f3 f4 f5
    obtain ⟨o, e, c, d⟩ := id st'
    exact ⟨u, rfl, go_of (s := { s with heap := h' }) e c d (by decide) ⟨x, H, I1, ru, ⟨rfl, fun ys hy => by rw [I.list_inj hy hq]; exact hx⟩, st', fun b hb => (hf b hb).1⟩⟩
  done := by
    intro X hP hw hK hc i pins s σ H E I hf st hg
    subst hP hw hK
    obtain ⟨xs, hq, hx⟩ := hg
    obtain ⟨its, rv, p, hz⟩ := I.list hq
    obtain ⟨f0, f1, f2, f3, f4, f5⟩ := hf it (by simp)
    have hl := rv.length
    exact wpAny_pyNext_list_end (I.ok.hd hc) st p.isList (by simp; omega) fun h' eb => ⟨rfl, I.turned (t' := s.toks) (fun b o hb e => eb b o hb e) f0 f1 f3 f4 f5⟩
  self := fun _ _ _ _ _ st h => wpAny_pyIter_listiter st h
theorem turn_tuple {P : Program} {w : World} {K : PySem.W.Frag} {tg : Expr} (a it : Addr) : Turn P w K tg (Itt K a) [it] it (fun i h => h.IsTupleIter it a i) where
  mem := by simp
  obj := fun i h st b hb => by
    have e : b = it := by simpa using hb
    subst e
    obtain ⟨o, e, c, d⟩ := st
    exact ⟨o, e, fun v z => by rw [d] at z; cases z⟩
  keep := fun i h h' st k => st.at fun o e => k it (by simp) o e
  item := by
    intro X hP hw hK hc i pins s σ H E I hf st hg
    subst hP hw hK
    obtain ⟨xs, x, hq, hx⟩ := hg
    obtain ⟨its, rv, p, hz⟩ := I.tuple hq
    obtain ⟨u, hu, ru⟩ := rv.get hx
    obtain ⟨f0, f1, f2, f3, f4, f5⟩ := hf it (by simp)
    refine wpAny_pyNext_tuple_item st (show s.heap.IsTuple a its.toArray from p) (x := u) (by simpa using hu) fun h' st' sb => ?_
    have I1 : Inv X pins σ H { s with heap := h' } := I.turned (t' := s.toks) (fun b o hb e => (sb.2 b hb).trans e) f0 f1 f3 f4 f5
    obtain ⟨o, e, c, d⟩ := id st'
    exact ⟨u, rfl, go_of (s := { s with heap := h' }) e c d (by decide) ⟨x, H, I1, ru, ⟨rfl, fun ys hy => by rw [I.tuple_inj hy hq]; exact hx⟩, st', fun b hb => (hf b hb).1⟩⟩
  done := by
    intro X hP hw hK hc i pins s σ H E I hf st hg
    subst hP hw hK
    obtain ⟨xs, hq, hx⟩ := hg
    obtain ⟨its, rv, p, hz⟩ := I.tuple hq
    obtain ⟨f0, f1, f2, f3, f4, f5⟩ := hf it (by simp)
    have hl := rv.length
    exact wpAny_pyNext_tuple_end (I.ok.hd hc) st (show s.heap.IsTuple a its.toArray from p) (by simp; omega) fun h' eb => ⟨rfl, I.turned (t' := s.toks) (fun b o hb e => eb b o hb e) f0 f1 f3 f4 f5⟩
  self := fun _ _ _ _ _ st h => wpAny_pyIter_tupleiter st h
theorem turn_range {P : Program} {w : World} {K : PySem.W.Frag} {tg : Expr} (it : Addr) (lo : Int) (n : Nat) : Turn P w K tg (Itr lo n) [it] it (fun i h => IsRangeIter h it (lo + (i : Nat) * 1) ((n : Int) - (i : Nat)) 1) where
  mem := by simp
  obj := fun i h st b hb => by
    have e : b = it := by simpa using hb
    subst e
    exact ⟨_, st, fun v z => by
      have z' : Data.fields _ = Data.cell v := z
      cases z'⟩
  keep := fun i h h' st k => k it (by simp) _ st
  item := by
    intro X hP hw hK hc i pins s σ H E I hf st hg
    subst hP hw hK
    obtain ⟨f0, f1, f2, f3, f4, f5⟩ := hf it (by simp)
    have W := Walks.range (prog := X.prog) (w := X.w) (I.ok.hd hc) it lo 1 n
    refine W.item i s _ _ hg st fun v h' tk hv st' kk => ?_
    obtain ⟨t, rfl⟩ := hv
    have I1 : Inv X pins σ H { s with heap := h', toks := tk } := I.turned (fun b o hb e => kk b o (by simpa using hb) e) f0 f1 f3 f4 f5
    refine ⟨_, rfl, go_of (s := { s with heap := h', toks := tk }) (n := "range_iterator") st' rfl rfl (by decide) ⟨.int (lo + i), H, I1, ⟨t, ?_⟩, ⟨rfl, rfl⟩, st', fun b hb => (hf b hb).1⟩⟩
    rw [Int.mul_one]
  done := by
    intro X hP hw hK hc i pins s σ H E I hf st hg
    subst hP hw hK
    obtain ⟨f0, f1, f2, f3, f4, f5⟩ := hf it (by simp)
    exact wpAny_pyNext_range_end (I.ok.hd hc) st (by have : n ≤ i := hg; omega) fun h' eb => ⟨rfl, I.turned (t' := s.toks) (fun b o hb e => eb b o hb e) f0 f1 f3 f4 f5⟩
  self := fun _ _ _ _ _ st h => wpAny_pyIter_rangeiter st h
end L2

namespace L2
open PySem PySem.Spec PyProof.Rows
section
variable {X : Cx} {tg : Expr}
def iList (K : PySem.W.Frag) (tl : TE) : TI := fun σ H R => tl σ H fun x H1 => ∃ a, x = .ref a ∧ (∃ xs, SqL K H1 a xs) ∧ R (Itl K a) H1
def iTup (K : PySem.W.Frag) (tl : TE) : TI := fun σ H R => tl σ H fun x H1 => ∃ a, x = .ref a ∧ (∃ xs, SqT K H1 a xs) ∧ R (Itt K a) H1
theorem pi_list {l : Expr} {tl : TE} (hl : PE X l tl) : PI X tg l (iList X.K tl) := by
  intro pins s σ H R I h
  refine thn (hl pins s σ H _ I h) fun v s1 ⟨x, H1, I1, r1, q1⟩ => ?_
  obtain ⟨a, e, ⟨xs, hq⟩, q⟩ := q1
  subst e
  cases r1
  obtain ⟨its, rv, p, hz⟩ := I1.list hq
  refine wpAny_pyIter_list p.isList ?_
  refine ⟨s1.heap.objs.size, [s1.heap.objs.size], _, _, H1, rfl, I1.kept (t' := s1.toks) fun b o e => Heap.get?_push_of_some _ e, turn_list a _, ⟨_, Heap.get?_push_size _ rfl, rfl, rfl⟩, fun b hb => ?_, q⟩
  have e : b = s1.heap.objs.size := by simpa using hb
  subst e
  exact I1.fpOk (Nat.le_refl _) (I1.hok.fresh (Nat.le_refl _))
theorem pi_tup {l : Expr} {tl : TE} (hl : PE X l tl) : PI X tg l (iTup X.K tl) := by
  intro pins s σ H R I h
  refine thn (hl pins s σ H _ I h) fun v s1 ⟨x, H1, I1, r1, q1⟩ => ?_
  obtain ⟨a, e, ⟨xs, hq⟩, q⟩ := q1
  subst e
  cases r1
  obtain ⟨its, rv, p, hz⟩ := I1.tuple hq
  refine wpAny_pyIter_tuple (show s1.heap.IsTuple a its.toArray from p) ?_
  refine ⟨s1.heap.objs.size, [s1.heap.objs.size], _, _, H1, rfl, I1.kept (t' := s1.toks) fun b o e => Heap.get?_push_of_some _ e, turn_tuple a _, ⟨_, Heap.get?_push_size _ rfl, rfl, rfl⟩, fun b hb => ?_, q⟩
  have e : b = s1.heap.objs.size := by simpa using hb
  subst e
  exact I1.fpOk (Nat.le_refl _) (I1.hok.fresh (Nat.le_refl _))
/-- a range object just made, walked -/
theorem range_it {pins : List (Addr × Obj)} {σ : St} {H : Hp} {s : Shared} {R : It → Hp → Prop} {E : Value → Shared → Prop} {lo hi : Int} {t u v : Tok} {tk : Nat} (I : Inv X pins σ H s) (h1 : -(2 ^ 62) ≤ lo) (h2 : lo < 2 ^ 62) (h3 : -(2 ^ 62) ≤ hi) (h4 : hi < 2 ^ 62)
    (q : R (Itr lo (hi - lo).toNat) H) : wpAny (model X.prog X.w) X.A (pyIter (.ref s.heap.objs.size)) (PIE X pins σ tg R) E { s with heap := s.heap.push { cls := .type "range", data := .fields #[.int lo t, .int hi u, .int 1 v] }, toks := tk } := by
  refine wpAny_pyIter_range (IsRange.new ..) (small_one h1 h2 h3 h4) ?_
  have I1 : Inv X pins σ H { s with heap := s.heap.push { cls := .type "range", data := .fields #[.int lo t, .int hi u, .int 1 v] }, toks := tk } := I.kept fun b o e => Heap.get?_push_of_some _ e
  refine ⟨(s.heap.push { cls := .type "range", data := .fields #[.int lo t, .int hi u, .int 1 v] }).objs.size, [(s.heap.push { cls := .type "range", data := .fields #[.int lo t, .int hi u, .int 1 v] }).objs.size], _, _, H, rfl,
    I1.kept (t' := tk) fun b o e => Heap.get?_push_of_some _ e, turn_range _ lo (hi - lo).toNat, ?_, fun b hb => ?_, q⟩
  · have e1 : lo + ((0 : Nat) : Int) * 1 = lo := by simp
    have e2 : (((hi - lo).toNat : Nat) : Int) - ((0 : Nat) : Int) = Builtin.Range.rangeSize lo hi 1 := by rw [rangeSize_one]; split <;> omega
    show IsRangeIter _ _ (lo + ((0 : Nat) : Int) * 1) ((((hi - lo).toNat : Nat) : Int) - ((0 : Nat) : Int)) 1
    rw [e1, e2]
    exact Heap.get?_push_size _ rfl
  · have e : b = (s.heap.push { cls := .type "range", data := .fields #[.int lo t, .int hi u, .int 1 v] }).objs.size := by simpa using hb
    subst e
    exact I1.fpOk (Nat.le_refl _) (I1.hok.fresh (Nat.le_refl _))
def iRng1 (ta : TA) : TI := fun σ H R => ta σ H fun vs H1 => ∃ j : Int, vs = [.int j] ∧ -(2 ^ 62) ≤ j ∧ j < 2 ^ 62 ∧ R (Itr 0 j.toNat) H1
def iRng2 (ta : TA) : TI := fun σ H R => ta σ H fun vs H1 => ∃ i j : Int, vs = [.int i, .int j] ∧ (-(2 ^ 62) ≤ i ∧ i < 2 ^ 62 ∧ -(2 ^ 62) ≤ j ∧ j < 2 ^ 62) ∧ R (Itr i (j - i).toNat) H1
theorem pi_range1 {a : Expr} {ta : TA} {p pos : Pos} (hg : Gl X "range") (hm : X.mg "range" = none) (ha : PA X [a] ta) (hs : starEach [a] X.env = [(false, eval a X.env)] := by rfl) : PI X tg (.Call (.Name "range" p) [a] [] pos) (iRng1 ta) := by
  intro pins s σ H R I h
  refine Call_ (ld_blt I hg hm boot_range (PyProof.Rows.callWith_type1 (thn (ha pos pins s σ H _ I h) fun us s1 ⟨vs, H1, I1, r1, q1⟩ => ?_) hs rfl))
  obtain ⟨j, e, q1, q2, q⟩ := q1
  subst e
  cases r1 with
  | cons r rr =>
    cases rr
    obtain ⟨t, rfl⟩ := r
    exact call_range_1 (range_it I1 (by omega) (by omega) q1 q2 (by simpa using q))
theorem pi_range2 {a b : Expr} {ta : TA} {p pos : Pos} (hg : Gl X "range") (hm : X.mg "range" = none) (ha : PA X [a, b] ta) (hs : starEach [a, b] X.env = [(false, eval a X.env), (false, eval b X.env)] := by rfl) (hs2 : starEach [b] X.env = [(false, eval b X.env)] := by rfl) :
    PI X tg (.Call (.Name "range" p) [a, b] [] pos) (iRng2 ta) := by
  intro pins s σ H R I h
  refine Call_ (ld_blt I hg hm boot_range (PyProof.Rows.callWith_type1 (thn (ha pos pins s σ H _ I h) fun us s1 ⟨vs, H1, I1, r1, q1⟩ => ?_) (by rw [hs, hs2]) (by rw [hs2]; rfl)))
  obtain ⟨i, j, e, ⟨q1, q2, q3, q4⟩, q⟩ := q1
  subst e
  cases r1 with
  | cons r rr =>
    cases rr with
    | cons r' rr =>
      cases rr
      obtain ⟨t, rfl⟩ := r
      obtain ⟨t', rfl⟩ := r'
      exact call_range_2 (range_it I1 q1 q2 q3 q4 q)

/-! ### for -/
/-- W: the invariant by the turn and a measure; N: what the body is to reach -/
def tFor (wi : TI) (g : TG) (tb : TS) : TS := fun D σ H => wi σ H fun J H1 => ∃ W : Nat → Nat → St → Hp → Prop, (∃ m, W 0 m σ H1) ∧ ∀ i m σ H, W i m σ H →
  (J.stop i H ∧ D.nx σ H) ∨ (J.go i H ∧ ∃ N : St → Hp → Prop, (∀ σ' H', N σ' H' → ∃ m', m' < m ∧ W (i + 1) m' σ' H') ∧ ∀ x H', J.yld i H x H' → g x σ H' fun σ2 H2 => tb { D with nx := N, ct := N, bk := D.nx } σ2 H2)
/-- the records at fp as they stand -/
def pinsAt (fp : List Addr) (h : Heap) : List (Addr × Obj) := fp.filterMap fun b => (h.get? b).map fun o => (b, o)
theorem mem_pinsAt {fp : List Addr} {h : Heap} {b : Addr} {o : Obj} (hb : b ∈ fp) (e : h.get? b = some o) : (b, o) ∈ pinsAt fp h := List.mem_filterMap.mpr ⟨b, hb, by rw [e]; rfl⟩
theorem of_pinsAt {fp : List Addr} {h : Heap} {p : Addr × Obj} (hp : p ∈ pinsAt fp h) : p.1 ∈ fp ∧ h.get? p.1 = some p.2 := by
  obtain ⟨b, hb, e⟩ := List.mem_filterMap.mp hp
  cases q : h.get? b with
  | none => rw [q] at e; cases e
  | some o =>
    rw [q] at e
    have e' : (b, o) = p := Option.some.inj e
    subst e'
    exact ⟨hb, q⟩
theorem Inv.pinned {pins : List (Addr × Obj)} {σ : St} {H : Hp} {s : Shared} {fp : List Addr} (I : Inv X pins σ H s) (hf : ∀ b ∈ fp, FpOk X pins H b) (ho : ∀ b ∈ fp, ∃ o, s.heap.get? b = some o ∧ ∀ v, o.data ≠ .cell v) : Inv X (pins ++ pinsAt fp s.heap) σ H s :=
  I.pins_of fun p hp => (List.mem_append.mp hp).elim (fun z => I.pin p (List.mem_append_right _ z)) fun z => by
    obtain ⟨hb, e⟩ := of_pinsAt z
    obtain ⟨f0, f1, f2, _⟩ := hf p.1 hb
    obtain ⟨o, e', d⟩ := ho p.1 hb
    rw [e] at e'; cases e'
    exact ⟨e, f0, f1, f2, d⟩
theorem Inv.unpinned {pins pl : List (Addr × Obj)} {σ : St} {H : Hp} {s : Shared} (I : Inv X (pins ++ pl) σ H s) : Inv X pins σ H s := I.pins_of fun p hp => I.pin p (List.mem_append_right _ (List.mem_append_left _ hp))
theorem ps_for {iter : Expr} {body : List Stmt} {wi : TI} {g : TG} {tb : TS} {pos : Pos} (hp : PassesOwn (model X.prog X.w) X.A X.env X.xe) (hc : X.calm = true) (hi : PI X tg iter wi) (hg : PG X tg g) (hb : PSs X body tb)
    (hs : ∀ x, foldedSetIterable iter X.env x = pure x := by intro _; rfl) : PS X (.For tg iter body [] pos) (tFor wi g tb) := by
  intro pins s σ H D I h
  refine wpAny_For (thn (hi pins s σ H _ I h) fun v s1 h1 => thn h1 fun itv s2 h2 => ?_) hs
  obtain ⟨it, fp, tn, J, H2, e, I2, T, st2, f2, W, ⟨m0, w0⟩, turn⟩ := h2
  subst e
  -- what stays true of the iterator's objects through the loop
  have stat : ∀ {H' : Hp}, (∀ b ∈ fp, H' b = none) → ∀ b ∈ fp, FpOk X pins H' b := fun hn b hb => ⟨hn b hb, (f2 b hb).2⟩
  refine codeAny_forLoop_any (fun n s' => ∃ i σ' H', Inv X pins σ' H' s' ∧ tn i s'.heap ∧ (∀ b ∈ fp, H' b = none) ∧ W i n σ' H') ?_ m0 ⟨0, σ, H2, I2, st2, fun b hb => (f2 b hb).1, w0⟩
  rintro n s3 ⟨i, σ3, H3, I3, st3, fr3, w3⟩
  rcases turn i n σ3 H3 w3 with ⟨stop, qn⟩ | ⟨go, N, hN, step⟩
  · refine wpAny_passesOwn hp (thn (T.done X rfl rfl rfl hc i pins s3 σ3 H3 X.xe I3 (stat fr3) st3 stop) fun r s4 ⟨hr, I4⟩ => ?_)
    subst hr
    exact wpAny_execs_nil ⟨σ3, H3, I4, qn⟩
  · refine wpAny_passesOwn hp (thn (T.item X rfl rfl rfl hc i pins s3 σ3 H3 X.xe I3 (stat fr3) st3 go) fun r s4 ⟨u, hr, h4⟩ => ?_)
    subst hr
    refine wpAny_passesOwn hp (thn h4 fun _ s5 ⟨x, H5, I5, r5, y5, st5, fr5⟩ => ?_)
    have I5' := I5.pinned (stat fr5) (T.obj _ _ st5)
    refine wpAny_passesOwn hp (thn (hg _ s5 σ3 H5 x u _ I5' r5 (step x H5 y5)) fun _ s6 ⟨σ6, H6, I6, q6⟩ => ?_)
    refine wpAny_passesOwn hp (thn (hb _ s6 σ6 H6 _ I6 q6) fun f s7 q7 => ?_)
    have again : ∀ {σ7 : St} {H7 : Hp}, Inv X (pins ++ pinsAt fp s5.heap) σ7 H7 s7 → N σ7 H7 → ∃ m, m < n ∧ ∃ i σ' H', Inv X pins σ' H' s7 ∧ tn i s7.heap ∧ (∀ b ∈ fp, H' b = none) ∧ W i m σ' H' := fun {σ7 H7} I7 n7 => by
      obtain ⟨m', hm, w7⟩ := hN σ7 H7 n7
      refine ⟨m', hm, i + 1, σ7, H7, I7.unpinned, T.keep _ _ _ st5 fun b hb o e => (I7.pin (b, o) (List.mem_append_right _ (List.mem_append_right _ (mem_pinsAt hb e)))).1, fun b hb => ?_, w7⟩
      obtain ⟨o, e, d⟩ := T.obj _ _ st5 b hb
      exact (I7.pin (b, o) (List.mem_append_right _ (List.mem_append_right _ (mem_pinsAt hb e)))).2.1
    cases f with
    | next => obtain ⟨σ7, H7, I7, n7⟩ := q7; exact again I7 n7
    | cont => obtain ⟨σ7, H7, I7, n7⟩ := q7; exact again I7 n7
    | brk => obtain ⟨σ7, H7, I7, q7⟩ := q7; exact ⟨σ7, H7, I7.unpinned, q7⟩
    | ret v => obtain ⟨x7, σ7, H7, I7, r7, q7⟩ := q7; exact ⟨x7, σ7, H7, I7.unpinned, r7, q7⟩
end

/-! ### the forms one uses -/
/-- over a list that the body leaves as it is -/
theorem for_list {K : PySem.W.Frag} {a : Addr} {xs : List V} {g : TG} {tb : TS} {D : Ends} {σ : St} {H : Hp} (Pv : Nat → St → Hp → Prop) (h0 : Pv 0 σ H) (hl : ∀ i σ H, i ≤ xs.length → Pv i σ H → SqL K H a xs)
    (hs : ∀ i x σ H, xs[i]? = some x → Pv i σ H → g x σ H fun σ2 H2 => tb { D with nx := Pv (i + 1), ct := Pv (i + 1), bk := D.nx } σ2 H2) (hd : ∀ σ H, Pv xs.length σ H → D.nx σ H) :
    ∃ W : Nat → Nat → St → Hp → Prop, (∃ m, W 0 m σ H) ∧ ∀ i m σ H, W i m σ H →
      ((Itl K a).stop i H ∧ D.nx σ H) ∨ ((Itl K a).go i H ∧ ∃ N : St → Hp → Prop, (∀ σ' H', N σ' H' → ∃ m', m' < m ∧ W (i + 1) m' σ' H') ∧ ∀ x H', (Itl K a).yld i H x H' → g x σ H' fun σ2 H2 => tb { D with nx := N, ct := N, bk := D.nx } σ2 H2) := by
  refine ⟨fun i m σ H => m = xs.length - i ∧ i ≤ xs.length ∧ Pv i σ H, ⟨xs.length, by simp, Nat.zero_le _, h0⟩, ?_⟩
  rintro i m σ H ⟨rfl, hi, p⟩
  have q := hl i σ H hi p
  by_cases hlt : i < xs.length
  · refine .inr ⟨⟨xs, xs[i], q, by simp [hlt]⟩, Pv (i + 1), fun σ' H' p' => ⟨xs.length - (i + 1), by omega, rfl, hlt, p'⟩, fun x H' y => ?_⟩
    obtain ⟨e, y⟩ := y
    subst e
    exact hs i x σ _ (y xs q) p
  · have e : i = xs.length := by omega
    subst e
    exact .inl ⟨⟨xs, q, Nat.le_refl _⟩, hd σ H p⟩
theorem for_tup {K : PySem.W.Frag} {a : Addr} {xs : List V} {g : TG} {tb : TS} {D : Ends} {σ : St} {H : Hp} (Pv : Nat → St → Hp → Prop) (h0 : Pv 0 σ H) (hl : ∀ i σ H, i ≤ xs.length → Pv i σ H → SqT K H a xs)
    (hs : ∀ i x σ H, xs[i]? = some x → Pv i σ H → g x σ H fun σ2 H2 => tb { D with nx := Pv (i + 1), ct := Pv (i + 1), bk := D.nx } σ2 H2) (hd : ∀ σ H, Pv xs.length σ H → D.nx σ H) :
    ∃ W : Nat → Nat → St → Hp → Prop, (∃ m, W 0 m σ H) ∧ ∀ i m σ H, W i m σ H →
      ((Itt K a).stop i H ∧ D.nx σ H) ∨ ((Itt K a).go i H ∧ ∃ N : St → Hp → Prop, (∀ σ' H', N σ' H' → ∃ m', m' < m ∧ W (i + 1) m' σ' H') ∧ ∀ x H', (Itt K a).yld i H x H' → g x σ H' fun σ2 H2 => tb { D with nx := N, ct := N, bk := D.nx } σ2 H2) := by
  refine ⟨fun i m σ H => m = xs.length - i ∧ i ≤ xs.length ∧ Pv i σ H, ⟨xs.length, by simp, Nat.zero_le _, h0⟩, ?_⟩
  rintro i m σ H ⟨rfl, hi, p⟩
  have q := hl i σ H hi p
  by_cases hlt : i < xs.length
  · refine .inr ⟨⟨xs, xs[i], q, by simp [hlt]⟩, Pv (i + 1), fun σ' H' p' => ⟨xs.length - (i + 1), by omega, rfl, hlt, p'⟩, fun x H' y => ?_⟩
    obtain ⟨e, y⟩ := y
    subst e
    exact hs i x σ _ (y xs q) p
  · have e : i = xs.length := by omega
    subst e
    exact .inl ⟨⟨xs, q, Nat.le_refl _⟩, hd σ H p⟩
theorem for_range {lo : Int} {n : Nat} {g : TG} {tb : TS} {D : Ends} {σ : St} {H : Hp} (Pv : Nat → St → Hp → Prop) (h0 : Pv 0 σ H)
    (hs : ∀ i σ H, i < n → Pv i σ H → g (.int (lo + i)) σ H fun σ2 H2 => tb { D with nx := Pv (i + 1), ct := Pv (i + 1), bk := D.nx } σ2 H2) (hd : ∀ σ H, Pv n σ H → D.nx σ H) :
    ∃ W : Nat → Nat → St → Hp → Prop, (∃ m, W 0 m σ H) ∧ ∀ i m σ H, W i m σ H →
      ((Itr lo n).stop i H ∧ D.nx σ H) ∨ ((Itr lo n).go i H ∧ ∃ N : St → Hp → Prop, (∀ σ' H', N σ' H' → ∃ m', m' < m ∧ W (i + 1) m' σ' H') ∧ ∀ x H', (Itr lo n).yld i H x H' → g x σ H' fun σ2 H2 => tb { D with nx := N, ct := N, bk := D.nx } σ2 H2) := by
  refine ⟨fun i m σ H => m = n - i ∧ i ≤ n ∧ Pv i σ H, ⟨n, by simp, Nat.zero_le _, h0⟩, ?_⟩
  rintro i m σ H ⟨rfl, hi, p⟩
  by_cases hlt : i < n
  · refine .inr ⟨hlt, Pv (i + 1), fun σ' H' p' => ⟨n - (i + 1), by omega, rfl, hlt, p'⟩, fun x H' y => ?_⟩
    obtain ⟨e, y⟩ := y
    subst e y
    exact hs i σ _ hlt p
  · have e : i = n := by omega
    subst e
    exact .inl ⟨Nat.le_refl _, hd σ H p⟩
/-- while, by a word and a measure of the state -/
theorem while_by {c : TT} {tb : TS} {D : Ends} {σ : St} {H : Hp} (Pv : St → Hp → Prop) (μ : St → Hp → Nat) (h0 : Pv σ H)
    (hs : ∀ σ H, Pv σ H → c σ H fun b H1 => if b = true then tb { D with nx := fun σ' H' => Pv σ' H' ∧ μ σ' H' < μ σ H, ct := fun σ' H' => Pv σ' H' ∧ μ σ' H' < μ σ H, bk := D.nx } σ H1 else D.nx σ H1)
    (mono : ∀ σ H Q Q', (∀ b H1, Q b H1 → Q' b H1) → c σ H Q → c σ H Q') : tWhile c tb D σ H := by
  refine ⟨fun m σ H => m = μ σ H ∧ Pv σ H, ⟨_, rfl, h0⟩, ?_⟩
  rintro m σ H ⟨rfl, p⟩
  refine mono σ H _ _ (fun b H1 q => ?_) (hs σ H p)
  cases b with
  | true => exact ⟨_, fun σ' H' ⟨p', l⟩ => ⟨_, l, rfl, p'⟩, q⟩
  | false => exact q
end L2

namespace L2
open PySem PySem.Spec PyProof.Rows

abbrev R2 := V → V → Hp → VK → Prop
/-- a two-place operation on values: f is binaryOp op, inplaceOp op or compareOp op -/
def OpR (X : Cx) (f : Value → Value → Sem Value) (r : R2) : Prop :=
  ∀ (pins : List (Addr × Obj)) (s : Shared) (σ : St) (H : Hp) (x y : V) (v u : Value) (Q : VK), Inv X pins σ H s → RelV x v → RelV y u → r x y H Q →
    wpAny (model X.prog X.w) X.A (f v u) (EP X pins σ Q) X.xe s
/-- a one-place operation -/
def UnR (X : Cx) (f : Value → Sem Value) (r : V → Hp → VK → Prop) : Prop :=
  ∀ (pins : List (Addr × Obj)) (s : Shared) (σ : St) (H : Hp) (x : V) (v : Value) (Q : VK), Inv X pins σ H s → RelV x v → r x H Q →
    wpAny (model X.prog X.w) X.A (f v) (EP X pins σ Q) X.xe s
/-- a call of a value that is known (a builtin, a type) with values -/
def CallR (X : Cx) (f : Value) (r : List V → Hp → VK → Prop) : Prop :=
  ∀ (pins : List (Addr × Obj)) (s : Shared) (σ : St) (H : Hp) (xs : List V) (us : List Value) (Q : VK), Inv X pins σ H s → Vals xs us → r xs H Q →
    wpAny (model X.prog X.w) X.A (call f us) (EP X pins σ Q) X.xe s
/-- a value's truth -/
def TruR (X : Cx) (r : V → Hp → (Bool → Hp → Prop) → Prop) : Prop :=
  ∀ (pins : List (Addr × Obj)) (s : Shared) (σ : St) (H : Hp) (x : V) (v : Value) (Q : Bool → Hp → Prop), Inv X pins σ H s → RelV x v → r x H Q →
    wpAny (model X.prog X.w) X.A (truthy v) (TP X pins σ Q) X.xe s

def tOp (r : R2) (ta tb : TE) : TE := fun σ H Q => ta σ H fun x H1 => tb σ H1 fun y H2 => r x y H2 Q
def tUn (r : V → Hp → VK → Prop) (ta : TE) : TE := fun σ H Q => ta σ H fun x H1 => r x H1 Q
/-- ints in, under C, and a value out -/
def rI (C : Int → Int → Prop) (g : Int → Int → V) : R2 := fun x y H Q => ∃ i j, x = .int i ∧ y = .int j ∧ C i j ∧ Q (g i j) H
def rI0 (g : Int → Int → V) : R2 := fun x y H Q => ∃ i j, x = .int i ∧ y = .int j ∧ Q (g i j) H
def rU (g : Int → V) : V → Hp → VK → Prop := fun x H Q => ∃ i, x = .int i ∧ Q (g i) H

section
variable {X : Cx} {a b c : Expr} {ta tb tc : TE} {pos : Pos}

theorem binT (ha : PE X a ta) (hb : PE X b tb) {pins : List (Addr × Obj)} {s : Shared} {σ : St} {H : Hp} {R : V → V → Hp → Prop} (I : Inv X pins σ H s)
    (h : ta σ H fun x H1 => tb σ H1 fun y H2 => R x y H2) {Q : Value → Shared → Prop} {f : Value → Value → Sem Value}
    (hf : ∀ v u s2 x y H2, Inv X pins σ H2 s2 → RelV x v → RelV y u → R x y H2 → wpAny (model X.prog X.w) X.A (f v u) Q X.xe s2) :
    wpAny (model X.prog X.w) X.A (eval a X.env) (fun v s₁ => wpAny (model X.prog X.w) X.A (eval b X.env) (fun u s₂ => wpAny (model X.prog X.w) X.A (f v u) Q X.xe s₂) X.xe s₁) X.xe s := by
  refine thn (ha pins s σ H _ I h) fun v s1 ⟨x, H1, I1, r1, q1⟩ => ?_
  refine thn (hb pins s1 σ H1 _ I1 q1) fun u s2 ⟨y, H2, I2, r2, q2⟩ => ?_
  exact hf v u s2 x y H2 I2 r1 r2 q2

theorem pe_op {op : Operator} {r : R2} (ho : OpR X (binaryOp op) r) (ha : PE X a ta) (hb : PE X b tb) : PE X (.BinOp a op b pos) (tOp r ta tb) := by
  intro pins s σ H Q I h
  exact wpAny_BinOp (binT ha hb I h fun v u s2 x y H2 I2 rx ry q => ho pins s2 σ H2 x y v u Q I2 rx ry q)
theorem pe_un {op : UnaryOp} {r : V → Hp → VK → Prop} (ho : UnR X (unaryOp op) r) (ha : PE X a ta) : PE X (.UnaryOp op a pos) (tUn r ta) := by
  intro pins s σ H Q I h
  exact UnaryOp_ (thn (ha pins s σ H _ I h) fun v s1 ⟨x, H1, I1, r1, q1⟩ => ho pins s1 σ H1 x v Q I1 r1 q1)
/-- a op= e at a name: the name's slot i -/
theorem augR {op : Operator} {r : R2} (ho : OpR X (inplaceOp op) r) {pins : List (Addr × Obj)} {s : Shared} {σ : St} {H : Hp} {x y : V} {v u : Value} {Q : VK} (I : Inv X pins σ H s)
    (rx : RelV x v) (ry : RelV y u) (q : r x y H Q) : wpAny (model X.prog X.w) X.A (inplaceOp op v u) (EP X pins σ Q) X.xe s := ho pins s σ H x y v u Q I rx ry q

/-! ### ints -/
theorem opI {f : Value → Value → Sem Value} {C : Int → Int → Prop} {g : Int → Int → Int}
    (rule : ∀ (i j : Int) (t u : Tok) (s : Shared) (Q : Value → Shared → Prop) (E : Value → Shared → Prop), C i j → Q (.int (g i j) s.toks) { s with toks := s.toks + 1 } → wpAny (model X.prog X.w) X.A (f (.int i t) (.int j u)) Q E s) :
    OpR X f (rI C fun i j => .int (g i j)) := by
  intro pins s σ H x y v u Q I rx ry h
  obtain ⟨i, j, rfl, rfl, hc, q⟩ := h
  obtain ⟨t, rfl⟩ := rx
  obtain ⟨t', rfl⟩ := ry
  exact rule i j t t' s _ _ hc ⟨.int (g i j), H, I.tok _, ⟨_, rfl⟩, q⟩
theorem opI0 {f : Value → Value → Sem Value} {g : Int → Int → Int}
    (rule : ∀ (i j : Int) (t u : Tok) (s : Shared) (Q : Value → Shared → Prop) (E : Value → Shared → Prop), Q (.int (g i j) s.toks) { s with toks := s.toks + 1 } → wpAny (model X.prog X.w) X.A (f (.int i t) (.int j u)) Q E s) :
    OpR X f (rI0 fun i j => .int (g i j)) := by
  intro pins s σ H x y v u Q I rx ry h
  obtain ⟨i, j, rfl, rfl, q⟩ := h
  obtain ⟨t, rfl⟩ := rx
  obtain ⟨t', rfl⟩ := ry
  exact rule i j t t' s _ _ ⟨.int (g i j), H, I.tok _, ⟨_, rfl⟩, q⟩
theorem opB0 {f : Value → Value → Sem Value} {g : Int → Int → Bool}
    (rule : ∀ (i j : Int) (t u : Tok) (s : Shared) (Q : Value → Shared → Prop) (E : Value → Shared → Prop), Q (.bool (g i j)) s → wpAny (model X.prog X.w) X.A (f (.int i t) (.int j u)) Q E s) :
    OpR X f (rI0 fun i j => .bl (g i j)) := by
  intro pins s σ H x y v u Q I rx ry h
  obtain ⟨i, j, rfl, rfl, q⟩ := h
  obtain ⟨t, rfl⟩ := rx
  obtain ⟨t', rfl⟩ := ry
  exact rule i j t t' s _ _ ⟨.bl (g i j), H, I, rfl, q⟩

def CDiv (i j : Int) : Prop := 0 < j ∧ j < 1073741824
def CDivN (i j : Int) : Prop := j ≠ 0 ∧ j.natAbs < 1073741824
def CPow (i j : Int) : Prop := 0 ≤ j ∧ j ≤ 1000000 ∧ i.natAbs < 2 ^ 64
def CMul (i j : Int) : Prop := (-(2 ^ 64) < i ∧ i < 2 ^ 64) ∨ (-(2 ^ 64) < j ∧ j < 2 ^ 64)
theorem CMul.ok {i j : Int} (h : CMul i j) : IntMulOk i j := by
  rcases h with ⟨h1, h2⟩ | ⟨h1, h2⟩
  · exact .of_left (intBits_le_64 h1 h2)
  · exact .of_right (intBits_le_64 h1 h2)
theorem two_pow_nn (k : Nat) : (0 : Int) ≤ 2 ^ k := by
  rw [two_pow_cast]
  exact Int.natCast_nonneg _

theorem op_add : OpR X (binaryOp .Add) (rI0 fun i j => .int (i + j)) := opI0 fun _ _ _ _ _ _ _ q => add_int q
theorem op_sub : OpR X (binaryOp .Sub) (rI0 fun i j => .int (i - j)) := opI0 fun _ _ _ _ _ _ _ q => sub_int q
theorem op_mul : OpR X (binaryOp .Mult) (rI CMul fun i j => .int (i * j)) := opI fun _ _ _ _ _ _ _ hc q => mul_int q hc.ok
/-- // by a positive divisor -/
theorem op_fdiv : OpR X (binaryOp .FloorDiv) (rI CDiv fun i j => .int (i / j)) := opI fun i j _ _ _ _ _ hc q => by
  have h1 : (0 : Int) < j := hc.1
  have h2 : j < 1073741824 := hc.2
  exact floordiv_int (by omega) (by rw [Int.fdiv_eq_ediv_of_nonneg i (by omega)]; exact q) (.inl (PyProof.noPylong_small (by omega)))
theorem op_fdivN : OpR X (binaryOp .FloorDiv) (rI CDivN fun i j => .int (i.fdiv j)) := opI fun _ _ _ _ _ _ _ hc q => floordiv_int hc.1 q (.inl (PyProof.noPylong_small hc.2))
/-- % by a positive divisor of any size -/
theorem op_mod : OpR X (binaryOp .Mod) (rI (fun _ j => 0 < j) fun i j => .int (i % j)) := opI fun i j _ _ _ _ _ hc q => by
  have h1 : (0 : Int) < j := hc
  exact mod_int' (by omega) (by rw [Int.fmod_eq_emod_of_nonneg i (by omega)]; exact q)
theorem op_modN : OpR X (binaryOp .Mod) (rI (fun _ j => j ≠ 0) fun i j => .int (i.fmod j)) := opI fun _ _ _ _ _ _ _ hc q => mod_int' hc q
theorem op_pow : OpR X (binaryOp .Pow) (rI CPow fun i j => .int (i ^ j.toNat)) := opI fun _ _ _ _ _ _ _ hc q => pow_int_small hc.1 hc.2.1 hc.2.2 q
theorem op_shl : OpR X (binaryOp .LShift) (rI CPow fun i j => .int (i * 2 ^ j.toNat)) := opI fun _ _ _ _ _ _ _ hc q => lshift_int_small hc.1 hc.2.1 hc.2.2 q
theorem op_shr : OpR X (binaryOp .RShift) (rI (fun _ j => 0 ≤ j) fun i j => .int (i / 2 ^ j.toNat)) := opI fun i j _ _ _ _ _ hc q =>
  rshift_int hc (by rw [Int.fdiv_eq_ediv_of_nonneg i (two_pow_nn _)]; exact q)
theorem op_and : OpR X (binaryOp .BitAnd) (rI0 fun i j => .int (Builtin.bitAnd i j)) := opI0 fun _ _ _ _ _ _ _ q => and_int q
theorem op_or : OpR X (binaryOp .BitOr) (rI0 fun i j => .int (Builtin.bitOr i j)) := opI0 fun _ _ _ _ _ _ _ q => or_int q
theorem op_xor : OpR X (binaryOp .BitXor) (rI0 fun i j => .int (Builtin.bitXor i j)) := opI0 fun _ _ _ _ _ _ _ q => xor_int q

theorem iop_add : OpR X (inplaceOp .Add) (rI0 fun i j => .int (i + j)) := opI0 fun _ _ _ _ _ _ _ q => iadd_int q
theorem iop_sub : OpR X (inplaceOp .Sub) (rI0 fun i j => .int (i - j)) := opI0 fun _ _ _ _ _ _ _ q => isub_int q
theorem iop_mul : OpR X (inplaceOp .Mult) (rI CMul fun i j => .int (i * j)) := opI fun _ _ _ _ _ _ _ hc q => imul_int q hc.ok
theorem iop_fdiv : OpR X (inplaceOp .FloorDiv) (rI CDiv fun i j => .int (i / j)) := opI fun i j _ _ _ _ _ hc q => by
  have h1 : (0 : Int) < j := hc.1
  have h2 : j < 1073741824 := hc.2
  exact ifloordiv_int (by omega) (by rw [Int.fdiv_eq_ediv_of_nonneg i (by omega)]; exact q) (.inl (PyProof.noPylong_small (by omega)))
theorem iop_mod : OpR X (inplaceOp .Mod) (rI (fun _ j => 0 < j) fun i j => .int (i % j)) := opI fun i j _ _ _ _ _ hc q => by
  have h1 : (0 : Int) < j := hc
  exact imod_int (by omega) (by rw [Int.fmod_eq_emod_of_nonneg i (by omega)]; exact q)
theorem iop_shl : OpR X (inplaceOp .LShift) (rI CPow fun i j => .int (i * 2 ^ j.toNat)) := opI fun _ _ _ _ _ _ _ hc q => ilshift_int_small hc.1 hc.2.1 hc.2.2 q
theorem iop_shr : OpR X (inplaceOp .RShift) (rI (fun _ j => 0 ≤ j) fun i j => .int (i / 2 ^ j.toNat)) := opI fun i j _ _ _ _ _ hc q =>
  irshift_int hc (by rw [Int.fdiv_eq_ediv_of_nonneg i (two_pow_nn _)]; exact q)
theorem iop_and : OpR X (inplaceOp .BitAnd) (rI0 fun i j => .int (Builtin.bitAnd i j)) := opI0 fun _ _ _ _ _ _ _ q => iand_int q
theorem iop_or : OpR X (inplaceOp .BitOr) (rI0 fun i j => .int (Builtin.bitOr i j)) := opI0 fun _ _ _ _ _ _ _ q => ior_int q
theorem iop_xor : OpR X (inplaceOp .BitXor) (rI0 fun i j => .int (Builtin.bitXor i j)) := opI0 fun _ _ _ _ _ _ _ q => ixor_int q

theorem unI {f : Value → Sem Value} {g : Int → Int}
    (rule : ∀ (i : Int) (t : Tok) (s : Shared) (Q : Value → Shared → Prop) (E : Value → Shared → Prop), Q (.int (g i) s.toks) { s with toks := s.toks + 1 } → wpAny (model X.prog X.w) X.A (f (.int i t)) Q E s) :
    UnR X f (rU fun i => .int (g i)) := by
  intro pins s σ H x v Q I rx h
  obtain ⟨i, rfl, q⟩ := h
  obtain ⟨t, rfl⟩ := rx
  exact rule i t s _ _ ⟨.int (g i), H, I.tok _, ⟨_, rfl⟩, q⟩
theorem un_neg : UnR X (unaryOp .USub) (rU fun i => .int (-i)) := unI fun _ _ _ _ _ q => neg_int q
theorem un_inv : UnR X (unaryOp .Invert) (rU fun i => .int (Builtin.bitNot i)) := unI fun _ _ _ _ _ q => invert_int q

/-! ### bools among ints: n += (a < b) -/
theorem op_add_ib : OpR X (binaryOp .Add) (fun x y H Q => ∃ i k, x = .int i ∧ y = .bl k ∧ Q (.int (i + b2i k)) H) := by
  intro pins s σ H x y v u Q I rx ry h
  obtain ⟨i, k, rfl, rfl, q⟩ := h
  obtain ⟨t, rfl⟩ := rx
  cases ry
  exact add_int_bool ⟨.int (i + b2i k), H, I.tok _, ⟨_, rfl⟩, q⟩
end

/-! ### comparisons -/
/-- the scalars that == tells apart as data does -/
def scal : V → V → Bool
  | .non, .non => true | .non, .int _ => true | .int _, .non => true | .non, .bl _ => true | .bl _, .non => true | .non, .str _ => true | .str _, .non => true
  | .int _, .int _ => true | .bl _, .bl _ => true | .str _, .str _ => true | .byt _, .byt _ => true
  | .int _, .str _ => true | .str _, .int _ => true | .bl _, .str _ => true | .str _, .bl _ => true
  | _, _ => false
def rEq : R2 := fun x y H Q => scal x y = true ∧ Q (.bl (decide (x = y))) H
def rNe : R2 := fun x y H Q => scal x y = true ∧ Q (.bl (!decide (x = y))) H

theorem dec_int {i j : Int} : decide (V.int i = V.int j) = (i == j) := by
  rw [Bool.eq_iff_iff]
  simp
theorem dec_bl {i j : Bool} : decide (V.bl i = V.bl j) = (i == j) := by
  rw [Bool.eq_iff_iff]
  simp
theorem dec_str {i j : Str} : decide (V.str i = V.str j) = (i == j) := by
  rw [Bool.eq_iff_iff]
  simp
theorem dec_byt {i j : Array UInt8} : decide (V.byt i = V.byt j) = (i.toList == j.toList) := by
  rw [Bool.eq_iff_iff]
  cases i
  cases j
  simp

section
variable {X : Cx} {a b c : Expr} {ta tb tc : TE} {pos : Pos}
theorem fin_bl {pins : List (Addr × Obj)} {σ : St} {H : Hp} {s : Shared} {Q : VK} {k k' : Bool} (I : Inv X pins σ H s) (q : Q (.bl k) H) (e : k = k') : EP X pins σ Q (.bool k') s := by
  subst e
  exact ⟨.bl k, H, I, rfl, q⟩
theorem op_eq : OpR X (compareOp .Eq) rEq := by
  intro pins s σ H x y v u Q I rx ry h
  obtain ⟨hs, q⟩ := h
  cases x with
  | non =>
    cases rx
    cases y with
    | non => cases ry; exact PySem.EqNone.eq_none_none (fin_bl I q (by simp))
    | bl j => cases ry; exact PySem.EqNone.eq_none_bool (fin_bl I q (by simp))
    | int j => obtain ⟨t', rfl⟩ := ry; exact PySem.EqNone.eq_none_int (fin_bl I q (by simp))
    | str j => obtain ⟨t', rfl⟩ := ry; exact PySem.EqNone.eq_none_str (fin_bl I q (by simp))
    | _ => exact absurd (show false = true from hs) Bool.false_ne_true
  | bl i =>
    cases rx
    cases y with
    | non => cases ry; exact PySem.EqNone.eq_bool_none (fin_bl I q (by simp))
    | bl j => cases ry; exact eq_bool (fin_bl I q dec_bl)
    | str j => obtain ⟨t', rfl⟩ := ry; exact PySem.EqMixed.eq_bool_str (fin_bl I q (by simp))
    | _ => exact absurd (show false = true from hs) Bool.false_ne_true
  | int i =>
    obtain ⟨t, rfl⟩ := rx
    cases y with
    | non => cases ry; exact PySem.EqNone.eq_int_none (fin_bl I q (by simp))
    | int j => obtain ⟨t', rfl⟩ := ry; exact eq_int (fin_bl I q dec_int)
    | str j => obtain ⟨t', rfl⟩ := ry; exact PySem.EqMixed.eq_int_str (fin_bl I q (by simp))
    | _ => exact absurd (show false = true from hs) Bool.false_ne_true
  | str i =>
    obtain ⟨t, rfl⟩ := rx
    cases y with
    | non => cases ry; exact PySem.EqNone.eq_str_none (fin_bl I q (by simp))
    | bl j => cases ry; exact PySem.EqMixed.eq_str_bool (fin_bl I q (by simp))
    | int j => obtain ⟨t', rfl⟩ := ry; exact PySem.EqMixed.eq_str_int (fin_bl I q (by simp))
    | str j => obtain ⟨t', rfl⟩ := ry; exact eq_str (fin_bl I q dec_str)
    | _ => exact absurd (show false = true from hs) Bool.false_ne_true
  | byt i =>
    obtain ⟨t, rfl⟩ := rx
    cases y with
    | byt j => obtain ⟨t', rfl⟩ := ry; exact PySem.W.eq_bytes (fin_bl I q dec_byt)
    | _ => exact absurd (show false = true from hs) Bool.false_ne_true
  | _ => cases y <;> exact absurd (show false = true from hs) Bool.false_ne_true
theorem op_ne : OpR X (compareOp .NotEq) rNe := by
  intro pins s σ H x y v u Q I rx ry h
  obtain ⟨hs, q⟩ := h
  cases x with
  | non =>
    cases rx
    cases y with
    | non => cases ry; exact PySem.EqNone.ne_none_none (fin_bl I q (by simp))
    | bl j => cases ry; exact PySem.EqNone.ne_none_bool (fin_bl I q (by simp))
    | int j => obtain ⟨t', rfl⟩ := ry; exact PySem.EqNone.ne_none_int (fin_bl I q (by simp))
    | str j => obtain ⟨t', rfl⟩ := ry; exact PySem.EqNone.ne_none_str (fin_bl I q (by simp))
    | _ => exact absurd (show false = true from hs) Bool.false_ne_true
  | bl i =>
    cases rx
    cases y with
    | non => cases ry; exact PySem.EqNone.ne_bool_none (fin_bl I q (by simp))
    | bl j => cases ry; exact ne_bool (fin_bl I q (congrArg not dec_bl))
    | str j => obtain ⟨t', rfl⟩ := ry; exact PySem.EqMixed.ne_bool_str (fin_bl I q (by simp))
    | _ => exact absurd (show false = true from hs) Bool.false_ne_true
  | int i =>
    obtain ⟨t, rfl⟩ := rx
    cases y with
    | non => cases ry; exact PySem.EqNone.ne_int_none (fin_bl I q (by simp))
    | int j => obtain ⟨t', rfl⟩ := ry; exact ne_int (fin_bl I q (congrArg not dec_int))
    | str j => obtain ⟨t', rfl⟩ := ry; exact PySem.EqMixed.ne_int_str (fin_bl I q (by simp))
    | _ => exact absurd (show false = true from hs) Bool.false_ne_true
  | str i =>
    obtain ⟨t, rfl⟩ := rx
    cases y with
    | non => cases ry; exact PySem.EqNone.ne_str_none (fin_bl I q (by simp))
    | bl j => cases ry; exact PySem.EqMixed.ne_str_bool (fin_bl I q (by simp))
    | int j => obtain ⟨t', rfl⟩ := ry; exact PySem.EqMixed.ne_str_int (fin_bl I q (by simp))
    | str j => obtain ⟨t', rfl⟩ := ry; exact ne_str (fin_bl I q (congrArg not dec_str))
    | _ => exact absurd (show false = true from hs) Bool.false_ne_true
  | byt i =>
    obtain ⟨t, rfl⟩ := rx
    cases y with
    | byt j => obtain ⟨t', rfl⟩ := ry; exact PySem.W.ne_bytes (fin_bl I q (congrArg not dec_byt))
    | _ => exact absurd (show false = true from hs) Bool.false_ne_true
  | _ => cases y <;> exact absurd (show false = true from hs) Bool.false_ne_true

theorem op_lt : OpR X (compareOp .Lt) (rI0 fun i j => .bl (decide (i < j))) := opB0 fun _ _ _ _ _ _ _ q => lt_int q
theorem op_le : OpR X (compareOp .LtE) (rI0 fun i j => .bl (decide (i ≤ j))) := opB0 fun _ _ _ _ _ _ _ q => le_int q
theorem op_gt : OpR X (compareOp .Gt) (rI0 fun i j => .bl (decide (j < i))) := opB0 fun _ _ _ _ _ _ _ q => gt_int q
theorem op_ge : OpR X (compareOp .GtE) (rI0 fun i j => .bl (decide (j ≤ i))) := opB0 fun _ _ _ _ _ _ _ q => ge_int q
theorem op_lt_str : OpR X (compareOp .Lt) (fun x y H Q => ∃ i j, x = .str i ∧ y = .str j ∧ Q (.bl (decide (i.cps.toList < j.cps.toList))) H) := by
  intro pins s σ H x y v u Q I rx ry h
  obtain ⟨i, j, rfl, rfl, q⟩ := h
  obtain ⟨t, rfl⟩ := rx
  obtain ⟨t', rfl⟩ := ry
  exact lt_str (fin_bl I q rfl)
/-- the one string within the other -/
theorem op_in_str : OpR X (compareOp .In) (fun x y H Q => ∃ i j, x = .str i ∧ y = .str j ∧ Q (.bl (!(Builtin.Str.occurrences j i 0 j.length 1).isEmpty)) H) := by
  intro pins s σ H x y v u Q I rx ry h
  obtain ⟨i, j, rfl, rfl, q⟩ := h
  obtain ⟨t, rfl⟩ := rx
  obtain ⟨t', rfl⟩ := ry
  exact in_str (fin_bl I q rfl)

/-- is None, is not None: the right side a value none -/
theorem op_isN : OpR X (compareOp .Is) (fun x y H Q => y = .non ∧ Q (.bl (decide (x = .non))) H) := by
  intro pins s σ H x y v u Q I rx ry h
  obtain ⟨rfl, q⟩ := h
  cases ry
  refine is_none_gen (fin_bl I q ?_)
  cases x <;> first
    | (cases rx; rfl)
    | (obtain ⟨t, rfl⟩ := rx; rfl)
theorem op_notN : OpR X (compareOp .IsNot) (fun x y H Q => y = .non ∧ Q (.bl (!decide (x = .non))) H) := by
  intro pins s σ H x y v u Q I rx ry h
  obtain ⟨rfl, q⟩ := h
  cases ry
  refine isnot_none_gen (fin_bl I q ?_)
  cases x <;> first
    | (cases rx; rfl)
    | (obtain ⟨t, rfl⟩ := rx; rfl)

theorem op_notin_str : OpR X (compareOp .NotIn) (fun x y H Q => ∃ i j, x = .str i ∧ y = .str j ∧ Q (.bl (!(!(Builtin.Str.occurrences j i 0 j.length 1).isEmpty))) H) := by
  intro pins s σ H x y v u Q I rx ry h
  obtain ⟨i, j, rfl, rfl, q⟩ := h
  obtain ⟨t, rfl⟩ := rx
  obtain ⟨t', rfl⟩ := ry
  exact notIn_str (fin_bl I q rfl)
/-- is, is not of two objects that are tracked lists or instances -/
def isObj : HO → Bool
  | .lst _ => true
  | .ins _ _ _ => true
  | _ => false
theorem obj_there {pins : List (Addr × Obj)} {s : Shared} {σ : St} {H : Hp} {a : Addr} {o : HO} (I : Inv X pins σ H s) (h : H a = some o) (p : isObj o = true) : ∃ ob, s.heap.get? a = some ob ∧ ob.cls ≠ .type "tuple" := by
  cases o with
  | lst xs =>
    obtain ⟨_, its, n, _, e⟩ : xs.length ≤ sizeLine ∧ ∃ (its : List Value) (n : Nat), Vals xs its ∧ s.heap.get? a = some { cls := .type "list", data := .seq its.toArray n } := I.hok a _ h
    exact ⟨_, e, (by show Value.type "list" ≠ .type "tuple"; decide +kernel)⟩
  | ins C dx fs =>
    have x := I.hok a _ h
    obtain ⟨_, _, _, e, _⟩ := x
    exact ⟨_, e, (by show Value.ref C ≠ .type "tuple"; exact fun z => by cases z)⟩
  | _ => exact absurd (show false = true from p) Bool.false_ne_true
theorem op_is_ref : OpR X (compareOp .Is) (fun x y H Q => ∃ a b oa ob, x = .ref a ∧ y = .ref b ∧ H a = some oa ∧ isObj oa = true ∧ H b = some ob ∧ isObj ob = true ∧ Q (.bl (decide (a = b))) H) := by
  intro pins s σ H x y v u Q I rx ry h
  obtain ⟨a, b, oa, ob, rfl, rfl, ha, pa, hb, pb, q⟩ := h
  cases rx
  cases ry
  obtain ⟨o1, e1, n1⟩ := obj_there I ha pa
  obtain ⟨o2, e2, _⟩ := obj_there I hb pb
  by_cases z : a = b
  · subst z
    exact wpAny_is_ref_self (fin_bl I q (by simp))
  · exact wpAny_is_ref_other z e1 e2 n1 (fin_bl I q (by simp [z]))
theorem op_isnot_ref : OpR X (compareOp .IsNot) (fun x y H Q => ∃ a b oa ob, x = .ref a ∧ y = .ref b ∧ H a = some oa ∧ isObj oa = true ∧ H b = some ob ∧ isObj ob = true ∧ Q (.bl (!decide (a = b))) H) := by
  intro pins s σ H x y v u Q I rx ry h
  obtain ⟨a, b, oa, ob, rfl, rfl, ha, pa, hb, pb, q⟩ := h
  cases rx
  cases ry
  obtain ⟨o1, e1, n1⟩ := obj_there I ha pa
  obtain ⟨o2, e2, _⟩ := obj_there I hb pb
  by_cases z : a = b
  · subst z
    exact wpAny_isNot_ref_self (fin_bl I q (by simp))
  · exact wpAny_isNot_ref_other z e1 e2 n1 (fin_bl I q (by simp [z]))

/-- two rules for one operation: by cases -/
theorem OpR.or {f : Value → Value → Sem Value} {r r' : R2} (h : OpR X f r) (h' : OpR X f r') : OpR X f (fun x y H Q => r x y H Q ∨ r' x y H Q) := by
  intro pins s σ H x y v u Q I rx ry q
  rcases q with q | q
  · exact h pins s σ H x y v u Q I rx ry q
  · exact h' pins s σ H x y v u Q I rx ry q

theorem nomark (b : Expr) {op : CmpOp} (h : op ≠ .In := by decide) (h2 : op ≠ .NotIn := by decide) : behindInMarks op b = false := by
  have e1 : (op == CmpOp.In) = false := by cases op <;> first | rfl | exact absurd rfl h
  have e2 : (op == CmpOp.NotIn) = false := by cases op <;> first | rfl | exact absurd rfl h2
  cases b <;> simp [behindInMarks, e1, e2]
/-- a comparison as a value; hm: nomark b, or (for in, not in) by with_unfolding_all rfl -/
theorem pe_cmpR {op : CmpOp} {r : R2} (ho : OpR X (compareOp op) r) (ha : PE X a ta) (hb : PE X b tb) (hm : behindInMarks op b = false) : PE X (.Compare a [op] [b] pos) (tOp r ta tb) := by
  intro pins s σ H Q I h
  exact wpAny_Compare1 (binT ha hb I h fun v u s2 x y H2 I2 rx ry q => ho pins s2 σ H2 x y v u Q I2 rx ry q) hm
/-- a reading of a value as a test -/
def tTest (t : TE) : TT := fun σ H Q => t σ H fun x H' => ∃ k, x = .bl k ∧ Q k H'
theorem pt_cmpR {op : CmpOp} {r : R2} (ho : OpR X (compareOp op) r) (ha : PE X a ta) (hb : PE X b tb) (hm : behindInMarks op b = false) : PT X (.Compare a [op] [b] pos) (tTest (tOp r ta tb)) := by
  intro pins s σ H Q I h
  refine wpAny_isTrue_Compare1 (thn (ha pins s σ H _ I h) fun v s1 ⟨x, H1, I1, r1, q1⟩ => thn (hb pins s1 σ H1 _ I1 q1) fun u s2 ⟨y, H2, I2, r2, q2⟩ =>
    thn (ho pins s2 σ H2 x y v u _ I2 r1 r2 q2) fun c s3 ⟨z, H3, I3, r3, k, e, q3⟩ => ?_) hm
  subst e
  cases r3
  exact wpAny_truthy_bool ⟨H3, I3, q3⟩
/-- a op1 b op2 c -/
def tChain (r r' : R2) (ta tb tc : TE) : TE := fun σ H Q => ta σ H fun x H1 => tb σ H1 fun y H2 => r x y H2 fun z H3 => ∃ k, z = .bl k ∧
  (if k = true then tc σ H3 fun w' H4 => r' y w' H4 Q else Q (.bl false) H3)
theorem pe_chain {op op' : CmpOp} {r r' : R2} (ho : OpR X (compareOp op) r) (ho' : OpR X (compareOp op') r') (ha : PE X a ta) (hb : PE X b tb) (hc : PE X c tc)
    (hm : lastMarks [op, op'] [b, c] = false := by with_unfolding_all rfl) : PE X (.Compare a [op, op'] [b, c] pos) (tChain r r' ta tb tc) := by
  intro pins s σ H Q I h
  refine Compare_chain (thn (ha pins s σ H _ I h) fun v s1 ⟨x, H1, I1, r1, q1⟩ => chain_link (thn (hb pins s1 σ H1 _ I1 q1) fun u s2 ⟨y, H2, I2, r2, q2⟩ =>
    thn (ho pins s2 σ H2 x y v u _ I2 r1 r2 q2) fun d s3 ⟨z, H3, I3, r3, k, e, q3⟩ => ?_)) hm
  subst e
  cases r3
  refine wpAny_truthy_bool ?_
  cases k with
  | false => exact ite_ff ⟨.bl false, H3, I3, rfl, q3⟩
  | true => exact ite_tt (chain_last (thn (hc pins s3 σ H3 _ I3 q3) fun w' s4 ⟨z', H4, I4, r4, q4⟩ => ho' pins s4 σ H4 y z' u w' Q I4 r2 r4 q4))
theorem pt_chain {op op' : CmpOp} {r r' : R2} (ho : OpR X (compareOp op) r) (ho' : OpR X (compareOp op') r') (ha : PE X a ta) (hb : PE X b tb) (hc : PE X c tc)
    (hm : lastMarks [op, op'] [b, c] = false := by with_unfolding_all rfl) : PT X (.Compare a [op, op'] [b, c] pos) (tTest (tChain r r' ta tb tc)) := by
  intro pins s σ H Q I h
  refine isTrue_chain (thn (ha pins s σ H _ I h) fun v s1 ⟨x, H1, I1, r1, q1⟩ => test_link (thn (hb pins s1 σ H1 _ I1 q1) fun u s2 ⟨y, H2, I2, r2, q2⟩ =>
    thn (ho pins s2 σ H2 x y v u _ I2 r1 r2 q2) fun d s3 ⟨z, H3, I3, r3, k, e, q3⟩ => ?_)) hm
  subst e
  cases r3
  refine wpAny_truthy_bool ?_
  cases k with
  | false =>
    obtain ⟨k', e', q'⟩ := q3
    cases e'
    exact ite_ff ⟨H3, I3, q'⟩
  | true =>
    refine ite_tt (test_last (thn (hc pins s3 σ H3 _ I3 q3) fun w' s4 ⟨z', H4, I4, r4, q4⟩ => thn (ho' pins s4 σ H4 y z' u w' _ I4 r2 r4 q4) fun d' s5 ⟨z2, H5, I5, r5, k2, e2, q5⟩ => ?_))
    subst e2
    cases r5
    exact wpAny_truthy_bool ⟨H5, I5, q5⟩

/-! ### truth -/
/-- a value's truth by the abstract heap -/
def TruV (K : PySem.W.Frag) (x : V) (H : Hp) (k : Bool) : Prop :=
  match x with
  | .non => k = false
  | .bl b => k = b
  | .int i => k = (i != 0)
  | .str y => y.length ≤ sizeLine ∧ k = ((y.length : Int) != 0)
  | .byt y => y.size ≤ sizeLine ∧ k = ((y.size : Int) != 0)
  | .ref p => (∃ xs, SqL K H p xs ∧ k = !xs.isEmpty) ∨ (∃ xs, SqT K H p xs ∧ k = !xs.isEmpty) ∨ ∃ kvs, H p = some (.dK kvs) ∧ k = !kvs.isEmpty
  | _ => False
theorem isEmpty_kv {κ : Type} {kvs : List (κ × V)} {vs : List (κ × Value)} (r : KV kvs vs) : (!vs.isEmpty) = !kvs.isEmpty := by
  cases r <;> rfl
theorem isEmpty_of {xs : List V} {its : List Value} (r : Vals xs its) : (!its.toArray.isEmpty) = !xs.isEmpty := by
  cases r <;> simp
theorem line63 : (sizeLine : Nat) < 2 ^ 63 := by rw [sizeLine_eq]; decide
theorem tru_ok : TruR X (fun x H Q => ∃ k, TruV X.K x H k ∧ Q k H) := by
  intro pins s σ H x v Q I rx h
  obtain ⟨k, e, q⟩ := h
  have hl := line63
  have hs : sizeLine = 16777216 := sizeLine_eq
  cases x with
  | non =>
    cases rx
    have e' : k = false := e
    subst e'
    exact truthy_none ⟨H, I, q⟩
  | bl b =>
    cases rx
    have e' : k = b := e
    subst e'
    exact wpAny_truthy_bool ⟨H, I, q⟩
  | int i =>
    obtain ⟨t, rfl⟩ := rx
    have e' : k = (i != 0) := e
    subst e'
    exact PySem.P.truthy_int ⟨H, I, q⟩
  | str y =>
    obtain ⟨t, rfl⟩ := rx
    obtain ⟨hy, e'⟩ : y.length ≤ sizeLine ∧ k = ((y.length : Int) != 0) := e
    subst e'
    exact PySem.P.truthy_str (by omega) ⟨H, I.tok _, q⟩
  | byt y =>
    obtain ⟨t, rfl⟩ := rx
    obtain ⟨hy, e'⟩ : y.size ≤ sizeLine ∧ k = ((y.size : Int) != 0) := e
    subst e'
    exact PySem.W.truthy_bytes (by omega) ⟨H, I.tok _, q⟩
  | ref p =>
    cases rx
    have e' : (∃ xs, SqL X.K H p xs ∧ k = !xs.isEmpty) ∨ (∃ xs, SqT X.K H p xs ∧ k = !xs.isEmpty) ∨ ∃ kvs, H p = some (.dK kvs) ∧ k = !kvs.isEmpty := e
    rcases e' with ⟨xs, hx, e'⟩ | ⟨xs, hx, e'⟩ | ⟨kvs, hx, e'⟩
    · subst e'
      obtain ⟨its, r, pl, hz⟩ := I.list hx
      have hlen := r.length
      exact wpAny_truthy_list pl.isList (by simp only [List.size_toArray]; omega) ⟨H, I.tok _, by rw [isEmpty_of r]; exact q⟩
    · subst e'
      obtain ⟨its, r, pl, hz⟩ := I.tuple hx
      have hlen := r.length
      exact truthy_tuple pl (by simp only [List.size_toArray]; omega) ⟨H, I.tok _, by rw [isEmpty_of r]; exact q⟩
    · subst e'
      obtain ⟨hz, hS, vs, r, m⟩ : kvs.length ≤ sizeLine ∧ (p == sysModules) = false ∧ ∃ vs, KV kvs vs ∧ s.heap.DictOf (mixKind X.prog X.w) p vs := I.hok p _ hx
      have hlen : kvs.length = vs.length := Paired.length r
      exact wpAny_truthy_dict hS m (by omega) ⟨H, I.tok _, by rw [isEmpty_kv r]; exact q⟩
  | _ => exact (show False from e).elim
/-- any expression whose test is its value's truth (a name, a call, a subscript, a field ..: he by fun _ => rfl) -/
theorem pt_truth (ha : PE X a ta) (he : ∀ whole, isTrue a X.env whole = (do let v ← whole; standAt a.pos; holding [v] (truthy v))) :
    PT X a (fun σ H Q => ta σ H fun x H' => ∃ k, TruV X.K x H' k ∧ Q k H') := by
  intro pins s σ H Q I h
  exact isTrue_plain (thn (ha pins s σ H _ I h) fun v s1 ⟨x, H1, I1, r1, q1⟩ => tru_ok pins s1 σ H1 x v Q I1 r1 q1) (he _)

/-! ### strs and bytes -/
theorem pe_byt {x : List UInt8} {k : Nat} : PE X (.Constant (.bytes x) k pos) (fun _ H Q => Q (.byt x.toArray) H) := fun _ _ _ H _ I h => PySem.W.Constant_bytes ⟨.byt x.toArray, H, I.tok _, ⟨_, rfl⟩, h⟩
theorem op_add_str : OpR X (binaryOp .Add) (fun x y H Q => ∃ i j, x = .str i ∧ y = .str j ∧ i.length + j.length ≤ sizeLine ∧ Q (.str (i ++ j)) H) := by
  intro pins s σ H x y v u Q I rx ry h
  obtain ⟨i, j, rfl, rfl, hz, q⟩ := h
  obtain ⟨t, rfl⟩ := rx
  obtain ⟨t', rfl⟩ := ry
  exact add_str (fun t' tk => ⟨.str (i ++ j), H, I.tok _, ⟨_, rfl⟩, q⟩) hz
theorem iop_add_str : OpR X (inplaceOp .Add) (fun x y H Q => ∃ i j, x = .str i ∧ y = .str j ∧ i.length + j.length ≤ sizeLine ∧ Q (.str (i ++ j)) H) := by
  intro pins s σ H x y v u Q I rx ry h
  obtain ⟨i, j, rfl, rfl, hz, q⟩ := h
  obtain ⟨t, rfl⟩ := rx
  obtain ⟨t', rfl⟩ := ry
  exact iadd_str (fun t' tk => ⟨.str (i ++ j), H, I.tok _, ⟨_, rfl⟩, q⟩) hz
theorem op_add_byt : OpR X (binaryOp .Add) (fun x y H Q => ∃ i j, x = .byt i ∧ y = .byt j ∧ i.size + j.size ≤ 16777216 ∧ Q (.byt (i ++ j)) H) := by
  intro pins s σ H x y v u Q I rx ry h
  obtain ⟨i, j, rfl, rfl, hz, q⟩ := h
  obtain ⟨t, rfl⟩ := rx
  obtain ⟨t', rfl⟩ := ry
  exact PySem.W.KBy.add_bytes hz (fun t' tk => ⟨.byt (i ++ j), H, I.tok _, ⟨_, rfl⟩, q⟩)

def PlainIxT (b : Expr) : Prop := ∀ o i, subscripted b false o i = operate [o, i] (getItem o i)
/-- s[i], 0 ≤ i < len -/
theorem pe_item_str (ha : PE X a ta) (hb : PE X b tb) (hs : PlainIxT b) :
    PE X (.Subscript a b pos) (tOp (fun x y H Q => ∃ z i c, x = .str z ∧ y = .int i ∧ 0 ≤ i ∧ i < 2 ^ 63 ∧ i < z.length ∧ z.cps[i.toNat]? = some c ∧ Q (.str ⟨#[c]⟩) H) ta tb) := by
  intro pins s σ H Q I h
  refine Subscript_ (binT ha hb I h fun v u s2 x y H2 I2 rx ry q => ?_)
  obtain ⟨z, i, c, rfl, rfl, h0, h63, h1, hc, q⟩ := q
  obtain ⟨t, rfl⟩ := rx
  obtain ⟨t', rfl⟩ := ry
  have e : seqIndex? i z.length = some i.toNat := PySem.StrLaws.seqIndex_nonneg h0 h1
  exact tail_any (typeIs_str s2 z t) slot_str_getitem.lookup (getItem_str (c := c) (by
    have e1 : decide (i < -(2 ^ 63 : Int)) = false := decide_eq_false (by omega)
    have e2 : decide (i ≥ 2 ^ 63) = false := decide_eq_false (by omega)
    rw [e1, e2] <;> rfl) (by rw [e]; exact hc) ⟨.str ⟨#[c]⟩, H2, I2.tok _, ⟨_, rfl⟩, q⟩) (hs _ _)
/-- b[i], 0 ≤ i < len -/
theorem pe_item_byt (ha : PE X a ta) (hb : PE X b tb) (hs : PlainIxT b) :
    PE X (.Subscript a b pos) (tOp (fun x y H Q => ∃ (z : List UInt8) (i : Int), x = .byt z.toArray ∧ y = .int i ∧ z.length ≤ sizeLine ∧ 0 ≤ i ∧ i < z.length ∧ Q (.int ((z.getD i.toNat 0).toNat : Nat)) H) ta tb) := by
  intro pins s σ H Q I h
  refine Subscript_ (binT ha hb I h fun v u s2 x y H2 I2 rx ry q => ?_)
  obtain ⟨z, i, rfl, rfl, hz, h0, h1, q⟩ := q
  obtain ⟨t, rfl⟩ := rx
  obtain ⟨t', rfl⟩ := ry
  have hl : sizeLine = 16777216 := sizeLine_eq
  exact tail_any (PySem.W.typeIs_bytes s2 z.toArray t) PySem.W.FB.slot_bytes_getitem.lookup (PySem.W.getItem_bytes (by omega) h0 h1 ⟨.int ((z.getD i.toNat 0).toNat : Nat), H2, I2.tok _, ⟨_, rfl⟩, q⟩) (hs _ _)

/-! ### scalar builtins, by CallR -/
theorem vals1 {x : V} {us : List Value} (r : Vals [x] us) : ∃ u, us = [u] ∧ RelV x u := by
  cases r with
  | cons r1 r2 => cases r2; exact ⟨_, rfl, r1⟩
theorem vals2 {x y : V} {us : List Value} (r : Vals [x, y] us) : ∃ u w', us = [u, w'] ∧ RelV x u ∧ RelV y w' := by
  cases r with
  | cons r1 r2 =>
    cases r2 with
    | cons r3 r4 => cases r4; exact ⟨_, _, rfl, r1, r3⟩
theorem call_abs : CallR X (.builtin "abs") (fun xs H Q => ∃ i, xs = [.int i] ∧ Q (.int (if i < 0 then -i else i)) H) := by
  intro pins s σ H xs us Q I r h
  obtain ⟨i, rfl, q⟩ := h
  obtain ⟨u, rfl, t, rfl⟩ := vals1 r
  exact call_abs_int fun u tk => ⟨.int (if i < 0 then -i else i), H, I.tok _, ⟨_, rfl⟩, q⟩
theorem call_max2 (hc : X.calm = true) : CallR X (.builtin "max") (fun xs H Q => ∃ i j, xs = [.int i, .int j] ∧ Q (.int (if j > i then j else i)) H) := by
  intro pins s σ H xs us Q I r h
  obtain ⟨i, j, rfl, q⟩ := h
  obtain ⟨u, w', rfl, ⟨t, rfl⟩, ⟨t', rfl⟩⟩ := vals2 r
  refine max_two_ints (I.ok.hd hc) fun h' tk k => ⟨_, H, I.kept k, ?_, q⟩
  by_cases hj : j > i
  · rw [if_pos hj, if_pos hj]; exact ⟨_, rfl⟩
  · rw [if_neg hj, if_neg hj]; exact ⟨_, rfl⟩
theorem call_min2 (hc : X.calm = true) : CallR X (.builtin "min") (fun xs H Q => ∃ i j, xs = [.int i, .int j] ∧ Q (.int (if j < i then j else i)) H) := by
  intro pins s σ H xs us Q I r h
  obtain ⟨i, j, rfl, q⟩ := h
  obtain ⟨u, w', rfl, ⟨t, rfl⟩, ⟨t', rfl⟩⟩ := vals2 r
  refine min_two_ints (I.ok.hd hc) fun h' tk k => ⟨_, H, I.kept k, ?_, q⟩
  by_cases hj : j < i
  · rw [if_pos hj, if_pos hj]; exact ⟨_, rfl⟩
  · rw [if_neg hj, if_neg hj]; exact ⟨_, rfl⟩
theorem call_int1 : CallR X (.type "int") (fun xs H Q => (∃ i, xs = [.int i] ∧ Q (.int i) H) ∨ ∃ k, xs = [.bl k] ∧ Q (.int (if k then 1 else 0)) H) := by
  intro pins s σ H xs us Q I r h
  rcases h with ⟨i, rfl, q⟩ | ⟨k, rfl, q⟩
  · obtain ⟨u, rfl, t, rfl⟩ := vals1 r
    exact call_int_int ⟨.int i, H, I, ⟨_, rfl⟩, q⟩
  · obtain ⟨u, rfl, r1⟩ := vals1 r
    cases r1
    exact call_int_bool ⟨.int (if k then 1 else 0), H, I.tok _, ⟨_, rfl⟩, q⟩
theorem call_bool1 : CallR X (.type "bool") (fun xs H Q => (∃ i, xs = [.int i] ∧ Q (.bl (i != 0)) H) ∨ ∃ k, xs = [.bl k] ∧ Q (.bl k) H) := by
  intro pins s σ H xs us Q I r h
  rcases h with ⟨i, rfl, q⟩ | ⟨k, rfl, q⟩
  · obtain ⟨u, rfl, t, rfl⟩ := vals1 r
    exact call_bool_int ⟨.bl (i != 0), H, I, rfl, q⟩
  · obtain ⟨u, rfl, r1⟩ := vals1 r
    cases r1
    exact call_bool_bool ⟨.bl k, H, I, rfl, q⟩
theorem call_str_int : CallR X (.type "str") (fun xs H Q => ∃ i, xs = [.int i] ∧ i.natAbs.log2 < 1920 ∧ Q (.str (toString i)) H) := by
  intro pins s σ H xs us Q I r h
  obtain ⟨i, rfl, hz, q⟩ := h
  obtain ⟨u, rfl, t, rfl⟩ := vals1 r
  exact PySem.P.str_of_int hz ⟨.str _, H, I.tok _, ⟨_, rfl⟩, q⟩
theorem call_ord : CallR X (.builtin "ord") (fun xs H Q => ∃ x, xs = [.str x] ∧ x.length = 1 ∧ Q (.int (x.cps.getD 0 0 : Nat)) H) := by
  intro pins s σ H xs us Q I r h
  obtain ⟨x, rfl, hz, q⟩ := h
  obtain ⟨u, rfl, t, rfl⟩ := vals1 r
  exact ord_of_one hz ⟨.int _, H, I.tok _, ⟨_, rfl⟩, q⟩
theorem call_chr : CallR X (.builtin "chr") (fun xs H Q => ∃ i, xs = [.int i] ∧ 0 ≤ i ∧ i ≤ 1114111 ∧ Q (.str ⟨#[i.toNat]⟩) H) := by
  intro pins s σ H xs us Q I r h
  obtain ⟨i, rfl, h0, h1, q⟩ := h
  obtain ⟨u, rfl, t, rfl⟩ := vals1 r
  exact chr_of_range h0 h1 ⟨.str _, H, I.tok _, ⟨_, rfl⟩, q⟩
/-- len of a str, a bytes, a list, a tuple -/
def LenV (K : PySem.W.Frag) (x : V) (H : Hp) (n : Nat) : Prop :=
  match x with
  | .str y => y.length ≤ sizeLine ∧ n = y.length
  | .byt y => y.size ≤ sizeLine ∧ n = y.size
  | .ref p => (∃ xs, SqL K H p xs ∧ n = xs.length) ∨ ∃ xs, SqT K H p xs ∧ n = xs.length
  | _ => False
theorem call_len : CallR X (.builtin "len") (fun xs H Q => ∃ x n, xs = [x] ∧ LenV X.K x H n ∧ Q (.int n) H) := by
  intro pins s σ H xs us Q I r h
  obtain ⟨x, n, rfl, e, q⟩ := h
  obtain ⟨u, rfl, rx⟩ := vals1 r
  have hl := line63
  have hs : sizeLine = 16777216 := sizeLine_eq
  cases x with
  | str y =>
    obtain ⟨t, rfl⟩ := rx
    obtain ⟨hy, e'⟩ : y.length ≤ sizeLine ∧ n = y.length := e
    subst e'
    exact len_str (by omega) ⟨.int _, H, I.tok _, ⟨_, rfl⟩, q⟩
  | byt y =>
    obtain ⟨t, rfl⟩ := rx
    obtain ⟨hy, e'⟩ : y.size ≤ sizeLine ∧ n = y.size := e
    subst e'
    exact PySem.W.len_bytes (by omega) ⟨.int _, H, I.tok _, ⟨_, rfl⟩, q⟩
  | ref p =>
    cases rx
    have e' : (∃ xs, SqL X.K H p xs ∧ n = xs.length) ∨ ∃ xs, SqT X.K H p xs ∧ n = xs.length := e
    rcases e' with ⟨xs, hx, e'⟩ | ⟨xs, hx, e'⟩
    · subst e'
      obtain ⟨its, r', pl, hz⟩ := I.list hx
      have hlen := r'.length
      exact Calls.call_len_list pl.isList (by simp only [List.size_toArray]; omega) ⟨.int xs.length, H, I.tok _, ⟨_, by simp only [List.size_toArray]; rw [hlen]⟩, q⟩
    · subst e'
      obtain ⟨its, r', pl, hz⟩ := I.tuple hx
      have hlen := r'.length
      exact len_tuple pl (by simp only [List.size_toArray]; omega) ⟨.int xs.length, H, I.tok _, ⟨_, by simp only [List.size_toArray]; rw [hlen]⟩, q⟩
  | _ => exact (show False from e).elim
/-- divmod: a new tuple -/
theorem call_divmod : CallR X (.builtin "divmod") (fun xs H Q => ∃ i j, xs = [.int i, .int j] ∧ CDiv i j ∧ ∀ p, H p = none → Q (.ref p) (upd H p (.tup [.int (i / j), .int (i % j)]))) := by
  intro pins s σ H xs us Q I r h
  obtain ⟨i, j, rfl, ⟨h1, h2⟩, q⟩ := h
  obtain ⟨u, w', rfl, ⟨t, rfl⟩, ⟨t', rfl⟩⟩ := vals2 r
  refine divmod_int (by omega) ?_ (.inl (PyProof.noPylong_small (by omega)))
  rw [Int.fdiv_eq_ediv_of_nonneg i (by omega), Int.fmod_eq_emod_of_nonneg i (by omega)]
  have hn : H s.heap.objs.size = none := I.hok.fresh (Nat.le_refl _)
  refine ⟨.ref s.heap.objs.size, _, ?_, rfl, q _ hn⟩
  refine I.laid (fun b o e => Heap.get?_push_of_some _ e) (Nat.le_refl _) ⟨by simp only [List.length_cons, List.length_nil]; rw [sizeLine_eq]; decide, [.int (i / j) s.toks, .int (i % j) (s.toks + 1)], .cons ⟨_, rfl⟩ (.cons ⟨_, rfl⟩ .nil), ?_⟩
  exact ⟨_, Heap.get?_push_size s.heap rfl, rfl, 0, rfl⟩
end
end L2

namespace L2
open PySem PySem.Spec PyProof.Rows

/-! ### an instance, its attributes a map -/
structure ObjM (h : Heap) (x dx C : Addr) (mA : Str → Option Value) : Prop where
  obj : h.get? x = some (PySem.W.instObj C dx)
  ns : h.Ns1 dx mA
  ne : dx ≠ x

theorem lookIn_ns {h : Heap} {dx : Addr} {mA : Str → Option Value} (n : h.Ns1 dx mA) : ∃ od, h.get? dx = some od ∧ ∀ name, PySem.W.lookIn name od = some (mA name) := by
  obtain ⟨o, es, ep, ho, hd, hk, _, hm⟩ := n
  refine ⟨o, ho, fun name => ?_⟩
  have e := hm name
  unfold nsFind findBy at e
  rw [← Array.find?_toList] at e
  unfold PySem.W.lookIn
  rw [hd]
  dsimp only
  split
  · rename_i y q
    rw [q] at e
    exact congrArg some e
  · rename_i q
    rw [q] at e
    have a : es.toList.any (·.refKey) = false := by
      rw [List.any_eq_false]
      intro y hy
      obtain ⟨z, t, hkey⟩ := hk y (Array.mem_toList_iff.mp hy)
      simp [DictEntry.refKey, hkey]
    have a' : ¬ es.toList.any (·.refKey) = true := by rw [a]; exact Bool.false_ne_true
    rw [if_neg a']
    exact congrArg some e

theorem ObjM.look {h : Heap} {x dx C : Addr} {mA : Str → Option Value} (I : ObjM h x dx C mA) : ∃ od, PySem.W.InstAt h x (PySem.W.instObj C dx) C (some od) ∧ ∀ name, PySem.W.lookIn name od = some (mA name) :=
  let ⟨od, ho, hl⟩ := lookIn_ns I.ns
  ⟨od, ⟨I.obj, rfl, rfl, ho⟩, hl⟩

section
variable {prog : Program} {w : World} {A : Around} {E : Value → Shared → Prop} {s : Shared} {K : PySem.W.Frag} {x dx C f : Addr} {mA : Str → Option Value} {name : Str} {v : Value}

theorem get_map {expr : Bool} {Q : Value → Shared → Prop} (X : K.In s.heap) (I : ObjM s.heap x dx C mA) (hg : PySem.W.plainGet K C name = true) (hh : PySem.W.hasDictIn K C = true)
    (ha : PySem.W.findIn K (.ref C) name = some none) (hv : mA name = some v) (hv' : PySem.W.handedIn v = true) (h : Q v { s with toks := s.toks + 1 }) :
    wpAny (model prog w) A (getAttr (.ref x) name expr) Q E s := by
  obtain ⟨od, J, hl⟩ := I.look
  exact PySem.W.get_value X J (PySem.W.plainGet_of hg).1 (PySem.W.findObj_own hh ha rfl (by rw [hl, hv])) hv' h

theorem get_const {expr : Bool} {a : Value} {Q : Value → Shared → Prop} (X : K.In s.heap) (I : ObjM s.heap x dx C mA) (hg : PySem.W.plainGet K C name = true) (hh : PySem.W.hasDictIn K C = true)
    (ha : PySem.W.findIn K (.ref C) name = some (some a)) (hn : PySem.W.specialIn K a "__get__" = some none) (hc : PySem.W.copiedNames.contains name = false) (hv : mA name = none) (hv' : PySem.W.handedIn a = true)
    (h : Q a { s with toks := s.toks + 1 }) : wpAny (model prog w) A (getAttr (.ref x) name expr) Q E s := by
  obtain ⟨od, J, hl⟩ := I.look
  exact PySem.W.get_value X J (PySem.W.plainGet_of hg).1 (PySem.W.findObj_cls hh ha hn hv' hc (by rw [hl, hv])) hv' h

theorem get_meth {pl : Sem Bool} {Q : Value × List Value → Shared → Prop} (X : K.In s.heap) (I : ObjM s.heap x dx C mA) (hg : PySem.W.plainGet K C name = true)
    (hf : PySem.W.findIn K (.ref C) name = some (some (.ref f))) (ht : PySem.W.isFn K (.ref f) = true) (hv : mA name = none) (h : Q (.ref f, [.ref x]) s) :
    wpAny (model prog w) A (getMethod (.ref x) name pl) Q E s := by
  obtain ⟨od, J, hl⟩ := I.look
  exact PySem.W.method_fn X J (PySem.W.plainGet_of hg).1 (PySem.W.plainGet_of hg).2 hf (beq_iff_eq.mp ht) (by show (PySem.W.lookIn name od).map (·.isSome) = some false; rw [hl, hv]; rfl) h

theorem set_map {ns : List Str} {Q : Unit → Shared → Prop} (X : K.In s.heap) (I : ObjM s.heap x dx C mA)
    (hs : PySem.W.findIn K (.ref C) "__setattr__" = some (some (.builtin "object.__setattr__"))) (hp : PySem.W.plainOver K C = true) (ht : PySem.W.takerIn K C name = some none) (hh : PySem.W.hasDictIn K C = true)
    (hw : PySem.Within mA ns) (hsz : ns.length ≤ sizeLine)
    (h : ∀ h', ObjM h' x dx C (fun y => if y = name then some v else mA y) → Heap.SameBut dx s.heap h' → Q () { s with heap := h', toks := s.toks + 2 }) :
    wpAny (model prog w) A (setAttr (.ref x) name v) Q E s := by
  obtain ⟨od, J, hl⟩ := I.look
  refine PySem.W.set_plain X J hs (PySem.W.osa_open (s := { s with toks := s.toks + 1 }) (r := none) X J hp ht fun b => ?_)
  obtain ⟨cd, hc, hd'⟩ := PySem.W.any_some hh
  have hx : s.heap.get? x = some ⟨.ref C, some dx, .plain, #[]⟩ := I.obj
  refine wpAny_bind (wpAny_pure (wpAny_bind (wpAny_bind (wpAny_loadPart hx (wpAny_bind (PySem.W.Looks.here (s := { s with toks := s.toks + 1 }) (PySem.W.looks_clsIn X hc) ?_))))))
  rw [hd']
  refine wpAny_pure (a := some dx) (wpAny_bind (wpAny_pure (wpAny_bind ?_)))
  refine wpAny_nsSet1 (s := { s with toks := s.toks + 1 }) I.ns fun h' hn2 hs2 => ?_
  obtain ⟨oD, esD, epD, hoD, hdD, hcD⟩ := hn2.count (PySem.Within.cons name v hw)
  refine wpAny_bind (wpAny_lookBehind hoD (by rw [hdD]; exact pastItsLine_dict (Nat.le_trans hcD (by rw [List.length_cons]; omega))) ?_)
  exact wpAny_pure (h _ ⟨(hs2.2 _ (Ne.symm I.ne)).trans I.obj, hn2, I.ne⟩ hs2)

/-- C(..): the dict at the heap's end, the instance behind it; then its __init__ -/
theorem make_map {R : Result → Shared → Prop} {vs : List Value} {kw : List (Str × Value)} (X : K.In s.heap) (hm : PySem.W.makesIn K C = true)
    (hi : PySem.W.findIn K (.ref C) "__init__" = some (some (.ref f))) (hf : PySem.W.typeIn K (.ref f) = some (.type "function"))
    (h : codeAny (model prog w) (A.under (.builtin "type.__call__" ⟨.ref C :: vs, kw⟩)) (.call (.ref f) ⟨.ref (s.heap.objs.size + 1) :: vs, kw⟩) (PySem.W.InitBack (s.heap.objs.size + 1) R)
      { s with heap := (s.heap.push PySem.W.emptyDict).push (PySem.W.instObj C s.heap.objs.size) }) :
    codeAny (model prog w) A (.call (.ref C) ⟨vs, kw⟩) R s := by
  obtain ⟨hh, g, d, t, os⟩ := s
  exact PySem.W.make_core (PySem.W.makes_of X hm) (PySem.W.looks_findIn X hi) (fun self => PySem.W.bind_fn X self hf) (.inl rfl) h
/-- C() where there is no __init__ but object's -/
theorem make_map0 {R : Result → Shared → Prop} (X : K.In s.heap) (hm : PySem.W.makesIn K C = true)
    (hi : PySem.W.findIn K (.ref C) "__init__" = some (some (.builtin "object.__init__")))
    (hb : ∀ self, PySem.W.Looks (model prog w) s.heap (bindSpecial (.builtin "object.__init__") self) (.builtin "object.__init__", [self]))
    (h : codeAny (model prog w) (A.under (.builtin "type.__call__" ⟨[.ref C], []⟩)) (.call (.builtin "object.__init__") ⟨[.ref (s.heap.objs.size + 1)], []⟩) (PySem.W.InitBack (s.heap.objs.size + 1) R)
      { s with heap := (s.heap.push PySem.W.emptyDict).push (PySem.W.instObj C s.heap.objs.size) }) :
    codeAny (model prog w) A (.call (.ref C) ⟨[], []⟩) R s := by
  obtain ⟨hh, g, d, t, os⟩ := s
  exact PySem.W.make_core (PySem.W.makes_of X hm) (PySem.W.looks_findIn X hi) hb (.inr ⟨rfl, rfl⟩) h
end

/-! ### the attributes as a list of pairs -/
def putF (f : Str) (v : V) : List (Str × V) → List (Str × V)
  | [] => [(f, v)]
  | (g, x) :: r => if g = f then (g, v) :: r else (g, x) :: putF f v r
theorem lookup_putF (f g : Str) (v : V) : ∀ fs : List (Str × V), (putF f v fs).lookup g = if g = f then some v else fs.lookup g
  | [] => by
    show List.lookup g [(f, v)] = _
    by_cases h : g = f
    · have hb : (g == f) = true := beq_iff_eq.mpr h
      simp only [List.lookup, hb, if_pos h]
    · have hb : (g == f) = false := beq_eq_false_iff_ne.mpr h
      simp only [List.lookup, hb, if_neg h]
  | (k, x) :: r => by
    have ih := lookup_putF f g v r
    rw [show putF f v ((k, x) :: r) = (if k = f then (k, v) :: r else (k, x) :: putF f v r) from rfl]
    by_cases hk : k = f
    · rw [if_pos hk]
      by_cases h : g = k
      · have hb : (g == k) = true := beq_iff_eq.mpr h
        simp only [List.lookup, hb, if_pos (h.trans hk)]
      · have hb : (g == k) = false := beq_eq_false_iff_ne.mpr h
        simp only [List.lookup, hb, if_neg (fun e : g = f => h (e.trans hk.symm))]
    · rw [if_neg hk]
      by_cases h : g = k
      · have hb : (g == k) = true := beq_iff_eq.mpr h
        simp only [List.lookup, hb, if_neg (fun e : g = f => hk (h.symm.trans e))]
      · have hb : (g == k) = false := beq_eq_false_iff_ne.mpr h
        simp only [List.lookup, hb]
        exact ih
theorem keys_putF (f : Str) (v : V) : ∀ fs : List (Str × V), f ∈ (putF f v fs).map (·.1) ∧ ∀ g, g ∈ fs.map (·.1) → g ∈ (putF f v fs).map (·.1)
  | [] => ⟨by simp [putF], fun g h => by simp at h⟩
  | (k, x) :: r => by
    obtain ⟨i1, i2⟩ := keys_putF f v r
    rw [show putF f v ((k, x) :: r) = (if k = f then (k, v) :: r else (k, x) :: putF f v r) from rfl]
    by_cases hk : k = f
    · rw [if_pos hk]
      subst hk
      exact ⟨by simp, fun g h => by simpa using h⟩
    · rw [if_neg hk]
      refine ⟨?_, fun g h => ?_⟩
      · rw [List.map_cons]
        exact List.mem_cons_of_mem _ i1
      · rw [List.map_cons] at h ⊢
        rcases List.mem_cons.mp h with e | e
        · exact List.mem_cons.mpr (.inl e)
        · exact List.mem_cons_of_mem _ (i2 g e)
theorem length_putF (f : Str) (v : V) : ∀ fs : List (Str × V), (putF f v fs).length ≤ fs.length + 1
  | [] => by simp [putF]
  | (k, x) :: r => by
    have ih := length_putF f v r
    rw [show putF f v ((k, x) :: r) = (if k = f then (k, v) :: r else (k, x) :: putF f v r) from rfl]
    by_cases hk : k = f
    · rw [if_pos hk, List.length_cons, List.length_cons]; omega
    · rw [if_neg hk, List.length_cons, List.length_cons]; omega

theorem RelO.some_of {v : V} {o : Option Value} (r : RelO (some v) o) : ∃ u, o = some u ∧ RelV v u := by
  cases o with
  | none => exact (show False from r).elim
  | some u => exact ⟨u, rfl, r⟩
theorem RelO.none_of {o : Option Value} (r : RelO none o) : o = none := by
  cases o with
  | none => rfl
  | some u => exact (show False from r).elim
theorem handed_of {v : V} {u : Value} (r : RelV v u) : PySem.W.handedIn u = true := by
  cases v with
  | non => cases (show u = Value.none from r); rfl
  | bl b => cases (show u = Value.bool b from r); rfl
  | int i => obtain ⟨t, e⟩ := (show ∃ t, u = Value.int i t from r); cases e; rfl
  | str x => obtain ⟨t, e⟩ := (show ∃ t, u = Value.str x t from r); cases e; rfl
  | byt b => obtain ⟨t, e⟩ := (show ∃ t, u = Value.bytes b t from r); cases e; rfl
  | flt b => obtain ⟨t, e⟩ := (show ∃ t, u = Value.float b t from r); cases e; rfl
  | ref a => cases (show u = Value.ref a from r); rfl
  | ty n => cases (show u = Value.type n from r); rfl

section
variable {P : Program} {w : World} {H H' : Hp} {h h' : Heap} {a C dx : Addr} {fs fs' : List (Str × V)}
theorem ins_get (hok : HOk P w H h) (e : H a = some (.ins C dx fs)) : ∃ mA, ObjM h a dx C mA ∧ (∀ f, RelO (fs.lookup f) (mA f)) ∧ PySem.Within mA (fs.map (·.1)) ∧ fs.length ≤ 1000 ∧ H dx = some (.own a) := by
  obtain ⟨d, z, ne, ob, mA, n, r, q⟩ := (show ObjOk P w H h a (.ins C dx fs) from hok a _ e)
  exact ⟨mA, ⟨ob, n, ne⟩, r, q, z, d⟩
end

/-! ### what of the text a class must have -/
structure Cls (K : PySem.W.Frag) (C : Addr) : Prop where
  pg : PySem.W.plainGet K C Str.empty = true
  hd : PySem.W.hasDictIn K C = true
  po : PySem.W.plainOver K C = true
  sa : PySem.W.findIn K (.ref C) "__setattr__" = some (some (.builtin "object.__setattr__"))
theorem Cls.get {K : PySem.W.Frag} {C : Addr} (c : Cls K C) (f : Str) : PySem.W.plainGet K C f = true := c.pg
/-- no class of it has the name -/
def NoAttr (K : PySem.W.Frag) (C : Addr) (f : Str) : Prop := PySem.W.findIn K (.ref C) f = some none
theorem NoAttr.taker {K : PySem.W.Frag} {C : Addr} {f : Str} (n : NoAttr K C f) : PySem.W.takerIn K C f = some none := by
  unfold PySem.W.takerIn
  rw [show PySem.W.findIn K (.ref C) f = some none from n]
  rfl
/-- a constant of the class -/
structure Con (K : PySem.W.Frag) (C : Addr) (f : Str) (v : V) (u : Value) : Prop where
  at_ : PySem.W.findIn K (.ref C) f = some (some u)
  rel : RelV v u
  get : PySem.W.specialIn K u "__get__" = some none
  cp : PySem.W.copiedNames.contains f = false
/-- a method: a plain def of the class or of one above it -/
structure Meth (K : PySem.W.Frag) (C : Addr) (m : Str) (f : Addr) : Prop where
  at_ : PySem.W.findIn K (.ref C) m = some (some (.ref f))
  fn : PySem.W.isFn K (.ref f) = true
  kp : PySem.W.keepIn K (.ref f) = true

section
variable {X : Cx} {pins : List (Addr × Obj)} {σ : St} {H : Hp} {s : Shared} {a C dx : Addr} {fs : List (Str × V)} {f : Str} {v : V} {A : Around} {E : Value → Shared → Prop}

theorem getattr_ok {b : Bool} {Q : Value → Shared → Prop} (I : Inv X pins σ H s) (e : H a = some (.ins C dx fs)) (c : Cls X.K C) (n : NoAttr X.K C f) (l : fs.lookup f = some v)
    (h : ∀ u s', Inv X pins σ H s' → RelV v u → Q u s') : wpAny (model X.prog X.w) A (getAttr (.ref a) f b) Q E s := by
  obtain ⟨mA, O, r, _, _, _⟩ := ins_get I.hok e
  obtain ⟨u, hu, ru⟩ := RelO.some_of (v := v) (o := mA f) (by rw [← l]; exact r f)
  exact get_map I.kIn O (c.get f) c.hd n hu (handed_of ru) (h u _ (I.tok _) ru)

theorem getcon_ok {b : Bool} {u : Value} {Q : Value → Shared → Prop} (I : Inv X pins σ H s) (e : H a = some (.ins C dx fs)) (c : Cls X.K C) (k : Con X.K C f v u) (l : fs.lookup f = none)
    (h : ∀ s', Inv X pins σ H s' → Q u s') : wpAny (model X.prog X.w) A (getAttr (.ref a) f b) Q E s := by
  obtain ⟨mA, O, r, _, _, _⟩ := ins_get I.hok e
  have hn : mA f = none := RelO.none_of (by rw [← l]; exact r f)
  exact get_const I.kIn O (c.get f) c.hd k.at_ k.get k.cp hn (handed_of k.rel) (h _ (I.tok _))

theorem getmeth_ok {m : Str} {g : Addr} {pl : Sem Bool} {Q : Value × List Value → Shared → Prop} (I : Inv X pins σ H s) (e : H a = some (.ins C dx fs)) (c : Cls X.K C) (k : Meth X.K C m g) (l : fs.lookup m = none)
    (h : Q (.ref g, [.ref a]) s) : wpAny (model X.prog X.w) A (getMethod (.ref a) m pl) Q E s := by
  obtain ⟨mA, O, r, _, _, _⟩ := ins_get I.hok e
  have hn : mA m = none := RelO.none_of (by rw [← l]; exact r m)
  exact get_meth I.kIn O (c.get m) k.at_ k.fn hn h

theorem setattr_ok {y : V} {u : Value} {Q : Unit → Shared → Prop} (I : Inv X pins σ H s) (e : H a = some (.ins C dx fs)) (c : Cls X.K C) (n : NoAttr X.K C f) (hl : fs.length < 1000) (ry : RelV y u)
    (h : ∀ s', Inv X pins σ (upd H a (.ins C dx (putF f y fs))) s' → Q () s') : wpAny (model X.prog X.w) A (setAttr (.ref a) f u) Q E s := by
  obtain ⟨mA, O, r, wi, _, ho⟩ := ins_get I.hok e
  have hz : (fs.map (·.1)).length ≤ sizeLine := by rw [List.length_map, sizeLine_eq]; omega
  refine set_map I.kIn O c.sa c.po n.taker c.hd wi hz fun h' O' sb => h _ ?_
  have hd : ∃ o, h'.get? dx = some o := let ⟨o, _, _, e', _⟩ := O'.ns; ⟨o, e'⟩
  refine I.write (x := a) (e := dx) (by rw [e]; exact True.intro) (.inr ho) (fun b q hb z => (sb.2 b hb).trans z) hd ?_
  refine ⟨by rw [upd_ne O.ne]; exact ho, ?_, O.ne, O'.obj, _, O'.ns, fun g => ?_, fun g hg => ?_⟩
  · have := length_putF f y fs; omega
  · show RelO ((putF f y fs).lookup g) (if g = f then some u else mA g)
    rw [lookup_putF]
    by_cases q : g = f
    · rw [if_pos q, if_pos q]; exact ry
    · rw [if_neg q, if_neg q]; exact r g
  · by_cases q : g = f
    · rw [q]; exact (keys_putF f y fs).1
    · refine (keys_putF f y fs).2 g (wi g fun z => hg ?_)
      show (if g = f then some u else mA g) = none
      rw [if_neg q]; exact z

/-- a new instance, tracked, without attributes -/
theorem Inv.made (I : Inv X pins σ H s) : Inv X pins σ (upd (upd H s.heap.objs.size (.own (s.heap.objs.size + 1))) (s.heap.objs.size + 1) (.ins C s.heap.objs.size []))
    { s with heap := (s.heap.push PySem.W.emptyDict).push (PySem.W.instObj C s.heap.objs.size) } := by
  have e1 : (s.heap.push PySem.W.emptyDict).get? s.heap.objs.size = some PySem.W.emptyDict := Heap.get?_push_size s.heap rfl
  have e2 : ((s.heap.push PySem.W.emptyDict).push (PySem.W.instObj C s.heap.objs.size)).get? (s.heap.objs.size + 1) = some (PySem.W.instObj C s.heap.objs.size) := by
    have := Heap.get?_push_size (s.heap.push PySem.W.emptyDict) (o := PySem.W.instObj C s.heap.objs.size) rfl
    rwa [Heap.size_push] at this
  have e3 : (s.heap.push PySem.W.emptyDict).Ns s.heap.objs.size (fun _ => none) := ⟨PySem.W.emptyDict, #[], _, e1, rfl, (fun e he => absurd he (by simp)), fun _ => rfl⟩
  have I1 := I.laid (a := s.heap.objs.size) (o := .own (s.heap.objs.size + 1)) (h' := s.heap.push PySem.W.emptyDict) (t' := s.toks) (fun b u q => Heap.get?_push_of_some _ q) (Nat.le_refl _) ⟨_, e1⟩
  refine I1.laid (a := s.heap.objs.size + 1) (o := .ins C s.heap.objs.size []) (t' := s.toks) (fun b u q => Heap.get?_push_of_some _ q) (Nat.le_of_eq (Heap.size_push _ _)) ?_
  have ne : s.heap.objs.size ≠ s.heap.objs.size + 1 := Nat.ne_of_lt (Nat.lt_succ_self _)
  refine ⟨by rw [upd_ne ne, upd_same], Nat.zero_le _, ne, e2, fun _ => none, (Heap.Ns1.of_empty e3).at fun o q => Heap.get?_push_of_some _ q, fun _ => True.intro, fun y hy => absurd rfl hy⟩

/-- e.f where nothing but the object is asked: through attributeBase (super) and the last hold -/
theorem attr_of {prog : Program} {w : World} {env : Env} {e : Expr} {f : Str} {pos : Pos} {s : Shared} {Q : Value → Shared → Prop} (hb : attributeBase e f env (eval e env) = eval e env)
    (h : wpAny (model prog w) A (eval e env) (fun o s₁ => wpAny (model prog w) A (getAttr o f true) Q E s₁) E s) : wpAny (model prog w) A (eval (.Attribute e f pos) env) Q E s :=
  Attribute_any_ h (by rw [arm_eval_Attribute, hb])
end

/-! ### readings and rules -/
/-- e.f, an attribute of the instance -/
def tFld (K : PySem.W.Frag) (ta : TE) (f : Str) : TE := fun σ H Q => ta σ H fun x H1 => ∃ a C dx fs v, x = .ref a ∧ H1 a = some (.ins C dx fs) ∧ Cls K C ∧ NoAttr K C f ∧ fs.lookup f = some v ∧ Q v H1
/-- e.f, a constant of the class -/
def tCon (K : PySem.W.Frag) (ta : TE) (f : Str) : TE := fun σ H Q => ta σ H fun x H1 => ∃ a C dx fs v u, x = .ref a ∧ H1 a = some (.ins C dx fs) ∧ Cls K C ∧ Con K C f v u ∧ fs.lookup f = none ∧ Q v H1
/-- e.f = value -/
def sFld (K : PySem.W.Frag) (ta tv : TE) (f : Str) : TS := fun D σ H => tv σ H fun y H1 => ta σ H1 fun x H2 => ∃ a C dx fs, x = .ref a ∧ H2 a = some (.ins C dx fs) ∧ Cls K C ∧ NoAttr K C f ∧ fs.length < 1000 ∧
  D.nx σ (upd H2 a (.ins C dx (putF f y fs)))
/-- an augmented operator on two values -/
def InOp (X : Cx) (op : Operator) (rd : V → V → Hp → VK → Prop) : Prop :=
  ∀ (pins : List (Addr × Obj)) (s : Shared) (σ : St) (H : Hp) (x y : V) (u v : Value) (Q : VK), Inv X pins σ H s → RelV x u → RelV y v → rd x y H Q → wpAny (model X.prog X.w) X.A (inplaceOp op u v) (EP X pins σ Q) X.xe s
/-- e.f op= value -/
def sFldAug (K : PySem.W.Frag) (ta tv : TE) (rd : V → V → Hp → VK → Prop) (f : Str) : TS := fun D σ H => ta σ H fun x H1 => ∃ a C dx fs v, x = .ref a ∧ H1 a = some (.ins C dx fs) ∧ Cls K C ∧ NoAttr K C f ∧ fs.lookup f = some v ∧
  tv σ H1 fun y H2 => rd v y H2 fun z H3 => ∃ dx' fs', H3 a = some (.ins C dx' fs') ∧ fs'.length < 1000 ∧ D.nx σ (upd H3 a (.ins C dx' (putF f z fs')))

section
variable {X : Cx} {o e value : Expr} {f : Str} {pos pos' tpos : Pos} {ta tv : TE}
theorem pe_fld (he : PE X e ta) (hb : attributeBase e f X.env (eval e X.env) = eval e X.env) : PE X (.Attribute e f pos) (tFld X.K ta f) := by
  intro pins s σ H Q I h
  refine attr_of hb (thn (he pins s σ H _ I h) fun u s1 ⟨x, H1, I1, rx, a, C, dx, fs, v, ex, ea, c, n, l, q⟩ => ?_)
  subst ex
  obtain rfl : u = Value.ref a := rx
  exact getattr_ok I1 ea c n l fun u' s2 I2 ru => ⟨v, H1, I2, ru, q⟩
theorem pe_con (he : PE X e ta) (hb : attributeBase e f X.env (eval e X.env) = eval e X.env) : PE X (.Attribute e f pos) (tCon X.K ta f) := by
  intro pins s σ H Q I h
  refine attr_of hb (thn (he pins s σ H _ I h) fun u s1 ⟨x, H1, I1, rx, a, C, dx, fs, v, u0, ex, ea, c, k, l, q⟩ => ?_)
  subst ex
  obtain rfl : u = Value.ref a := rx
  exact getcon_ok I1 ea c k l fun s2 I2 => ⟨v, H1, I2, k.rel, q⟩
theorem ps_fld (ha : PE X o ta) (hv : PE X value tv) (hs : swapsWith value (some (.Attribute o f pos')) pos.line X.env = pure false) : PS X (.Assign [.Attribute o f pos'] value pos) (sFld X.K ta tv f) := by
  intro pins s σ H D I h
  refine plainObj_wpAny_Assign_Attribute (thn (hv pins s σ H _ I h) fun u s1 ⟨y, H1, I1, ry, q⟩ => thn (ha pins s1 σ H1 _ I1 q) fun ov s2 ⟨x, H2, I2, rx, a, C, dx, fs, ex, ea, c, n, l, q2⟩ => ?_) hs
  subst ex
  obtain rfl : ov = Value.ref a := rx
  exact setattr_ok I2 ea c n l ry fun s3 I3 => ⟨σ, _, I3, q2⟩
theorem ps_fldaug {op : Operator} {rd : V → V → Hp → VK → Prop} (ha : PE X o ta) (hv : PE X value tv) (hop : InOp X op rd) : PS X (.AugAssign (.Attribute o f tpos) op value pos) (sFldAug X.K ta tv rd f) := by
  intro pins s σ H D I h
  refine wpAny_AugAssign_AttributeAny (thn (ha pins s σ H _ I h) fun ov s1 ⟨x, H1, I1, rx, a, C, dx, fs, v, ex, ea, c, n, l, q⟩ => ?_)
  subst ex
  obtain rfl : ov = Value.ref a := rx
  refine getattr_ok I1 ea c n l fun u s2 I2 ru => thn (hv pins s2 σ H1 _ I2 q) fun w3 s3 ⟨y, H2, I3, ry, q3⟩ => thn (hop pins s3 σ H2 v y u w3 _ I3 ru ry q3) fun w4 s4 ⟨z, H3, I4, rz, dx', fs', ea', l', q4⟩ => ?_
  exact setattr_ok I4 ea' c n l' rz fun s5 I5 => ⟨σ, _, I5, q4⟩
def rAdd : V → V → Hp → VK → Prop := fun x y H Q => ∃ i j, x = .int i ∧ y = .int j ∧ Q (.int (i + j)) H
def rSub : V → V → Hp → VK → Prop := fun x y H Q => ∃ i j, x = .int i ∧ y = .int j ∧ Q (.int (i - j)) H
theorem in_add : InOp X .Add rAdd := by
  rintro pins s σ H x y u v Q I rx ry ⟨i, j, rfl, rfl, q⟩
  obtain ⟨t, rfl⟩ := (show ∃ t, u = Value.int i t from rx)
  obtain ⟨t', rfl⟩ := (show ∃ t', v = Value.int j t' from ry)
  exact PyProof.Rows.iadd_int ⟨.int (i + j), H, I.tok _, ⟨_, rfl⟩, q⟩
theorem in_sub : InOp X .Sub rSub := by
  rintro pins s σ H x y u v Q I rx ry ⟨i, j, rfl, rfl, q⟩
  obtain ⟨t, rfl⟩ := (show ∃ t, u = Value.int i t from rx)
  obtain ⟨t', rfl⟩ := (show ∃ t', v = Value.int j t' from ry)
  exact PyProof.Rows.isub_int ⟨.int (i - j), H, I.tok _, ⟨_, rfl⟩, q⟩

/-- what is between an instance and its method: the tree of a method call -/
theorem methcall_of {pl : Sem Bool} {m : Str} {apos : Pos} {args : List Expr} {pins : List (Addr × Obj)} {s : Shared} {σ : St} {H : Hp} {Q : Value → Shared → Prop} {te : TE} (he : PE X e te) (I : Inv X pins σ H s)
    (h : te σ H fun x H1 => ∃ a C dx fs g, x = .ref a ∧ H1 a = some (.ins C dx fs) ∧ Cls X.K C ∧ Meth X.K C m g ∧ fs.lookup m = none ∧
      ∀ s1, Inv X pins σ H1 s1 → wpAny (model X.prog X.w) X.A (callWith pos (.ref g) [.ref a] (backTo pos (starEach args X.env)) (backToKw pos (keywordEach [] X.env))) Q X.xe s1)
    (ht : eval (.Call (.Attribute e m apos) args [] pos) X.env = (do
      let ov ← eval e X.env
      standAt apos.atName
      let (f, first) ← holding [ov] (getMethod ov m pl)
      callWith pos f first (backTo pos (starEach args X.env)) (backToKw pos (keywordEach [] X.env)))) :
    wpAny (model X.prog X.w) X.A (eval (.Call (.Attribute e m apos) args [] pos) X.env) Q X.xe s := by
  refine PySem.W.methodCall_KW (pl := pl) (thn (he pins s σ H _ I h) fun u s1 ⟨x, H1, I1, rx, a, C, dx, fs, g, ex, ea, c, k, l, q⟩ => ?_) ht
  subst ex
  obtain rfl : u = Value.ref a := rx
  exact getmeth_ok I1 ea c k l (q s1 I1)
end

/-! ### isinstance -/
section
variable {X : Cx} {pins : List (Addr × Obj)} {σ : St} {H : Hp} {s : Shared} {A : Around} {E : Value → Shared → Prop} {Q : Value → Shared → Prop} {c : Value} {b : Bool}
/-- the type of a value, as the fragment's deciders take it; for an instance its class -/
inductive TyOf (K : PySem.W.Frag) (H : Hp) : V → Value → Prop where
  | non : TyOf K H .non (.type "NoneType")
  | bl (x : Bool) : TyOf K H (.bl x) (.type "bool")
  | int (i : Int) : TyOf K H (.int i) (.type "int")
  | str (x : Str) : TyOf K H (.str x) (.type "str")
  | flt (x : UInt64) : TyOf K H (.flt x) (.type "float")
  | lst {a : Addr} {xs : List V} (e : H a = some (.lst xs)) : TyOf K H (.ref a) (.type "list")
  | frz {a : Addr} {o : Obj} {xs : List V} (e : H a = some (.frz o (.lst xs))) : TyOf K H (.ref a) (.type "list")
  | tup {a : Addr} {xs : List V} (e : H a = some (.tup xs)) : TyOf K H (.ref a) (.type "tuple")
  | dK {a : Addr} {kvs : List (Key × V)} (e : H a = some (.dK kvs)) : TyOf K H (.ref a) (.type "dict")
  | dT {a : Addr} {kvs : List (List Key × V)} (e : H a = some (.dT kvs)) : TyOf K H (.ref a) (.type "dict")
  | ins {a C dx : Addr} {fs : List (Str × V)} (e : H a = some (.ins C dx fs)) (cl : Cls K C) (ha : PySem.W.findIn K (.ref C) "__class__" = some (some (.builtin "object.__class__")))
      (hn : PySem.W.specialIn K (.builtin "object.__class__") "__get__" = some (some (.builtin "getset_descriptor.__get__"))) (htk : PySem.W.takesIn K (.builtin "object.__class__") = some true)
      (hm : PySem.W.mroIn K C (.type "object") = some true) : TyOf K H (.ref a) (.ref C)
/-- isinstance(x, c) for one class c, a built-in or an own one: kitOne's answer -/
theorem isinst_ok {x : V} {u t : Value} (I : Inv X pins σ H s) (rx : RelV x u) (ty : TyOf X.K H x t) (e : PySem.W.kitOne X.K t c = some b) (h : ∀ tk, Q (.bool b) { s with toks := tk }) :
    wpAny (model X.prog X.w) A (call (.builtin "isinstance") [u, c]) Q E s := by
  cases ty with
  | non => cases (show u = Value.none from rx); exact PySem.W.kia_one PySem.W.kitx_none I.kIn True.intro e (fun z => nomatch z) h
  | bl y => cases (show u = Value.bool y from rx); exact PySem.W.kia_one PySem.W.kitx_bool I.kIn True.intro e (fun z => nomatch z) h
  | int i => obtain ⟨t, q⟩ := (show ∃ t, u = Value.int i t from rx); cases q; exact PySem.W.kia_one PySem.W.kitx_int I.kIn True.intro e (fun z => nomatch z) h
  | str y => obtain ⟨t, q⟩ := (show ∃ t, u = Value.str y t from rx); cases q; exact PySem.W.kia_one PySem.W.kitx_str I.kIn True.intro e (fun z => nomatch z) h
  | flt y => obtain ⟨t, q⟩ := (show ∃ t, u = Value.float y t from rx); cases q; exact PySem.W.kia_one PySem.W.kitx_float I.kIn True.intro e (fun z => nomatch z) h
  | @lst a xs ea =>
    cases (show u = Value.ref a from rx)
    obtain ⟨_, _, n, _, h1⟩ := (show ObjOk X.prog X.w H s.heap a (.lst xs) from I.hok a _ ea)
    exact PySem.W.kia_one PySem.W.kitx_list I.kIn ⟨_, h1, rfl⟩ e (fun z => nomatch z) h
  | @frz a ob xs ea =>
    cases (show u = Value.ref a from rx)
    obtain ⟨_, _, _, n, _, h1⟩ := (show ObjOk X.prog X.w H s.heap a (.frz ob (.lst xs)) from I.hok a _ ea)
    exact PySem.W.kia_one PySem.W.kitx_list I.kIn ⟨_, h1, rfl⟩ e (fun z => nomatch z) h
  | @tup a xs ea =>
    cases (show u = Value.ref a from rx)
    obtain ⟨_, _, _, p⟩ := (show ObjOk X.prog X.w H s.heap a (.tup xs) from I.hok a _ ea)
    obtain ⟨o, h1, h2, _⟩ := p
    exact PySem.W.kia_one PySem.W.kitx_tuple I.kIn ⟨o, h1, h2⟩ e (fun z => nomatch z) h
  | @dK a kvs ea =>
    cases (show u = Value.ref a from rx)
    obtain ⟨_, _, vs, _, p⟩ := (show ObjOk X.prog X.w H s.heap a (.dK kvs) from I.hok a _ ea)
    obtain ⟨o, es, ep, h1, h2, _⟩ := p
    exact PySem.W.kia_one PySem.W.kitx_dict I.kIn ⟨o, h1, h2.1⟩ e (fun z => nomatch z) h
  | @dT a kvs ea =>
    cases (show u = Value.ref a from rx)
    obtain ⟨_, _, xs, _, o, es, ep, h1, h2, _⟩ := (show ObjOk X.prog X.w H s.heap a (.dT kvs) from I.hok a _ ea)
    exact PySem.W.kia_one PySem.W.kitx_dict I.kIn ⟨o, h1, h2.1⟩ e (fun z => nomatch z) h
  | @ins a C dx fs ea cl ha hn htk hm =>
    cases (show u = Value.ref a from rx)
    obtain ⟨mA, O, _⟩ := ins_get I.hok ea
    obtain ⟨od, J, _⟩ := O.look
    exact PySem.W.kia_one (PySem.W.kitx_own (cl.get _) cl.hd ha hn htk hm) I.kIn J e (fun z => nomatch z) h
end
end L2

namespace L2
open PySem PySem.Spec PyProof.Rows

/-! ### room -/
structure Room (k : Nat) (A : Around) : Prop where
  hd : A.handled = none
  dp : A.depth + 3 * k + 5 < recursionLimit
  un : A.units + 16 * k + 200 < cLine
theorem Room.mono {j k : Nat} {A : Around} (r : Room k A) (h : j ≤ k) : Room j A := ⟨r.hd, by have := r.dp; omega, by have := r.un; omega⟩
theorem Room.deeper {k : Nat} {A : Around} (r : Room (k + 1) A) (env : Env) : Room k (A.deeper env) :=
  ⟨r.hd, by have := r.dp; show A.depth + 1 + 3 * k + 5 < _; omega, by have := r.un; show A.units + 3 + 16 * k + 200 < _; omega⟩
theorem Room.in1 {k : Nat} {A : Around} (r : Room (k + 1) A) : Room k A.in1 :=
  ⟨r.hd, by have := r.dp; show A.depth + 3 * k + 5 < _; omega, by have := r.un; show A.units + 1 + 16 * k + 200 < _; omega⟩
theorem make_depth {A : Around} {C : Addr} {us : List Value} {kw : List (Str × Value)} : (A.under (.builtin "type.__call__" ⟨.ref C :: us, kw⟩)).depth = A.depth + 1 := by
  first | rfl | simp [Around.under, Code.weight, Code.isCreation, Code.isGuard, Code.isCaller, Code.frames, Code.isFrame, guardIds]
theorem make_units {A : Around} {C : Addr} {us : List Value} {kw : List (Str × Value)} : (A.under (.builtin "type.__call__" ⟨.ref C :: us, kw⟩)).units = A.units + 1 := by
  first | rfl | simp [Around.under, Code.cUnits, Code.frames, Code.isFrame]
theorem Room.make {k : Nat} {A : Around} (r : Room (k + 1) A) (C : Addr) (us : List Value) (kw : List (Str × Value)) : Room k (A.under (.builtin "type.__call__" ⟨.ref C :: us, kw⟩)) :=
  ⟨r.hd, by have := r.dp; rw [make_depth]; omega, by have := r.un; rw [make_units]; omega⟩
theorem Room.depth {k : Nat} {A : Around} (r : Room k A) : A.depth < recursionLimit := by have := r.dp; omega
theorem Room.units {k : Nat} {A : Around} (r : Room k A) : A.units + 64 < cLine := by have := r.un; omega
theorem Room.units0 {k : Nat} {A : Around} (r : Room k A) : A.units < cLine := by have := r.un; omega

/-! ### argument lists and displays -/
def tNil : TA := fun _ H Q => Q [] H
def tCons (ta : TE) (tr : TA) : TA := fun σ H Q => ta σ H fun x H1 => tr σ H1 fun xs H2 => Q (x :: xs) H2
section
variable {X : Cx} {e : Expr} {es : List Expr} {te : TE} {t : TA} {pos : Pos}
theorem pa_nil : PA X [] tNil := fun _ _ _ _ H Q I h => Calls.spliced_nil ⟨[], H, I, .nil, h⟩
theorem pa_cons (ha : PE X e te) (hr : PA X es t) (hs : starEach (e :: es) X.env = (false, eval e X.env) :: starEach es X.env := by rfl) : PA X (e :: es) (tCons te t) := by
  intro pos pins s σ H Q I h
  rw [hs]
  show wpAny _ _ (spliced ((false, eval e X.env) :: backTo pos (starEach es X.env))) _ _ s
  refine Calls.spliced_cons (thn (ha pins s σ H _ I h) fun u s1 ⟨x, H1, I1, r1, q1⟩ => ?_)
  exact thn (hr pos pins s1 σ H1 _ I1 q1) fun us s2 ⟨xs, H2, I2, r2, q2⟩ => ⟨x :: xs, H2, I2, .cons r1 r2, q2⟩

/-- a tuple, a list of written items -/
def tTup (t : TA) : TE := fun σ H Q => t σ H fun xs H1 => xs.length ≤ sizeLine ∧ ∀ p, H1 p = none → Q (.ref p) (upd H1 p (.tup xs))
def tLst (t : TA) : TE := fun σ H Q => t σ H fun xs H1 => xs.length ≤ sizeLine ∧ ∀ p, H1 p = none → Q (.ref p) (upd H1 p (.lst xs))
theorem pe_tup {x1} (h : PA X es t) : PE X (.Tuple es x1 pos) (tTup t) := by
  intro pins s σ H Q I hq
  refine wpAny_Tuple_spliced (thn (h pos pins s σ H _ I hq) fun us s1 ⟨xs, H1, I1, r, z, q⟩ => ⟨by rw [← r.length]; exact z, ?_⟩)
  have hf : H1 s1.heap.objs.size = none := I1.hok.fresh (Nat.le_refl _)
  refine ⟨.ref s1.heap.objs.size, upd H1 s1.heap.objs.size (.tup xs), I1.laid (t' := s1.toks) (fun b u e => Heap.get?_push_of_some _ e) (Nat.le_refl _) ?_, rfl, q _ hf⟩
  exact ⟨z, us, r, ⟨_, Heap.get?_push_size _ rfl, rfl, _, rfl⟩⟩
theorem pe_lst (h : PA X es t) : PE X (.List es pos) (tLst t) := by
  intro pins s σ H Q I hq
  refine wpAny_List_spliced (thn (h pos pins s σ H _ I hq) fun us s1 ⟨xs, H1, I1, r, z, q⟩ => ⟨by rw [← r.length]; exact z, ?_⟩)
  have hf : H1 s1.heap.objs.size = none := I1.hok.fresh (Nat.le_refl _)
  refine ⟨.ref s1.heap.objs.size, upd H1 s1.heap.objs.size (.lst xs), I1.laid (t' := s1.toks) (fun b u e => Heap.get?_push_of_some _ e) (Nat.le_refl _) ?_, rfl, q _ hf⟩
  exact ⟨z, us, 0, r, Heap.get?_push_size _ rfl⟩
end

/-! ### what a def promises -/
/-- a def's promise: the bound arguments in the parameters' order, the heap, the wanted end, the wanted exception -/
abbrev Sp := List V → Hp → VK → XK → Prop
/-- how an exception lies behind a call (file 08 gives it): the callers' frames, abstract heap and state ahead of the call, the wish, the exception, the state -/
abbrev CXT := List Env → Hp → Shared → XK → Value → Shared → Prop

/-- the state at a call -/
structure Env0 (P : Program) (w : World) (K : PySem.W.Frag) (mg : Str → Option Value) (base : Heap) (A : Around) (outer : List Env) (s : Shared) (H : Hp) : Prop where
  frames : A.frames = some outer
  mod : Mod K mg base
  bs : ∀ b o, base.get? b = some o → s.heap.get? b = some o ∧ H b = none
  bsz : base.objs.size ≤ s.heap.objs.size
  funs : s.heap.FunFrames base outer
  frf : ∀ b ∈ frs outer, H b = none
  hok : HOk P w H s.heap
  bare : AllBare s.gens
/-- a call's end -/
def CE (outer : List Env) (P : Program) (w : World) (H : Hp) (s : Shared) (Q : VK) (u : Value) (s' : Shared) : Prop :=
  ∃ v H', s'.os = s.os ∧ AllBare s'.gens ∧ Un (frs outer) [] H H' s.heap s'.heap ∧ HOk P w H' s'.heap ∧ RelV v u ∧ Q v H'
def CR (CX : CXT) (outer : List Env) (P : Program) (w : World) (H : Hp) (s : Shared) (Q : VK) (E : XK) (r : Result) (s' : Shared) : Prop :=
  match r with
  | .ok (.ret u) => CE outer P w H s Q u s'
  | .ok _ => False
  | .error e => CX outer H s E e s'
structure FnOk (P : Program) (w : World) (K : PySem.W.Frag) (mg : Str → Option Value) (base : Heap) (CX : CXT) (k : Nat) (f : Addr) (fd : FuncData) (ps : List Str) (sp : Sp) : Prop where
  len : ∀ vs H Q E, sp vs H Q E → vs.length = ps.length
  run : ∀ (A : Around) (outer : List Env) (s : Shared) (H : Hp) (args : Args) (us : List Value) (vs : List V) (Q : VK) (E : XK), Room k A → Env0 P w K mg base A outer s H → BindsTo s fd args (ps.zip us) → Vals vs us → sp vs H Q E →
    codeAny (model P w) A (.call (.ref f) args) (CR CX outer P w H s Q E) s
theorem FnOk.mono {P : Program} {w : World} {K : PySem.W.Frag} {mg : Str → Option Value} {base : Heap} {CX : CXT} {j k : Nat} {f : Addr} {fd : FuncData} {ps : List Str} {sp : Sp} (F : FnOk P w K mg base CX j f fd ps sp) (h : j ≤ k) :
    FnOk P w K mg base CX k f fd ps sp := ⟨F.len, fun A outer s H args us vs Q E hr => F.run A outer s H args us vs Q E (hr.mono h)⟩
/-- a weaker promise -/
theorem FnOk.imp {P : Program} {w : World} {K : PySem.W.Frag} {mg : Str → Option Value} {base : Heap} {CX : CXT} {k : Nat} {f : Addr} {fd : FuncData} {ps : List Str} {sp sp' : Sp} (F : FnOk P w K mg base CX k f fd ps sp)
    (h : ∀ vs H Q E, sp' vs H Q E → sp vs H Q E) : FnOk P w K mg base CX k f fd ps sp' :=
  ⟨fun vs H Q E q => F.len vs H Q E (h _ _ _ _ q), fun A outer s H args us vs Q E hr he hb hv hs => F.run A outer s H args us vs Q E hr he hb hv (h _ _ _ _ hs)⟩

theorem Env0.make {P : Program} {w : World} {K : PySem.W.Frag} {mg : Str → Option Value} {base : Heap} {A : Around} {outer : List Env} {s : Shared} {H : Hp} (e : Env0 P w K mg base A outer s H) (C : Addr) (us : List Value) (kw : List (Str × Value)) :
    Env0 P w K mg base (A.under (.builtin "type.__call__" ⟨.ref C :: us, kw⟩)) outer s H := ⟨by first | exact e.frames | (simpa [Around.under, Code.envs, Code.isFrame, pushEnvs] using e.frames), e.mod, e.bs, e.bsz, e.funs, e.frf, e.hok, e.bare⟩
theorem Env0.in1 {P : Program} {w : World} {K : PySem.W.Frag} {mg : Str → Option Value} {base : Heap} {A : Around} {outer : List Env} {s : Shared} {H : Hp} (e : Env0 P w K mg base A outer s H) :
    Env0 P w K mg base A.in1 outer s H := ⟨e.frames, e.mod, e.bs, e.bsz, e.funs, e.frf, e.hok, e.bare⟩

section
variable {X : Cx} {pins : List (Addr × Obj)} {σ : St} {H : Hp} {s s' : Shared}
/-- from a body: what a callee wants -/
theorem Inv.env0 (I : Inv X pins σ H s) : Env0 X.prog X.w X.K X.mg X.base X.A X.stack s H :=
  ⟨I.ok.frames, I.ok.mod, I.bs, Nat.le_trans I.ok.bsz I.sz, I.stack, I.stkFree, I.hok, I.bare⟩
/-- behind a call -/
theorem Inv.after {Q : VK} {u : Value} (I : Inv X pins σ H s) (h : CE X.stack X.prog X.w H s Q u s') : EP X pins σ Q u s' := by
  obtain ⟨v, H', os, bare, un, hok, r, q⟩ := h
  obtain ⟨hh, g, d, t, os'⟩ := s'
  obtain rfl : os' = s.os := os
  exact ⟨v, H', I.call (h' := hh) (g' := g) (d' := d) (t' := t) (ch := []) un hok bare (fun b z => absurd z (by simp)), r, q⟩
end

/-! ### calls -/
/-- f(..): the written arguments, then the defaults dvs; E: what is wanted of an exception -/
def tCall (sp : Sp) (dvs : List V) (E : XK) (t : TA) : TE := fun σ H Q => t σ H fun vs H1 => sp (vs ++ dvs) H1 Q E
/-- o.m(..) of an instance of the class at C -/
def tMeth (C : Addr) (m : Str) (sp : Sp) (dvs : List V) (E : XK) (ta : TE) (t : TA) : TE := fun σ H Q => ta σ H fun x H1 => ∃ a dx fs, x = .ref a ∧ H1 a = some (.ins C dx fs) ∧ fs.lookup m = none ∧
  t σ H1 fun vs H2 => sp (x :: (vs ++ dvs)) H2 Q E
/-- C(..): a new instance and its dict, then __init__ -/
def tMake (C : Addr) (sp : Sp) (dvs : List V) (E : XK) (t : TA) : TE := fun σ H Q => t σ H fun vs H1 => ∀ x dx, H1 x = none → H1 dx = none → dx ≠ x →
  sp (.ref x :: (vs ++ dvs)) (upd (upd H1 dx (.own x)) x (.ins C dx [])) (fun v H2 => v = .non ∧ Q (.ref x) H2) E

/-- how the parameters are bound: us the positional arguments, kw the keywords' values by name, ds the defaults that fill up -/
def Binds (K : PySem.W.Frag) (fd : FuncData) (ps : List Str) (ds : List Value) : Prop :=
  ∀ (s : Shared) (us : List Value), K.In s.heap → (us ++ ds).length = ps.length → BindsTo s fd ⟨us, []⟩ (ps.zip (us ++ ds))
/-- every parameter is given -/
theorem Binds.all {K : PySem.W.Frag} {fd : FuncData} {ps : List Str} (h : ∀ us : List Value, us.length = ps.length → bindArgs fd ⟨us, []⟩ = pure (ps.zip us)) : Binds K fd ps [] := fun s us _ hl => by
  rw [List.append_nil] at hl ⊢
  exact .of_eq (h us hl)

/-- an exception of a callee reaches what this body wants of exceptions -/
def Passes (CX : CXT) (X : Cx) (E : XK) : Prop := ∀ (pins : List (Addr × Obj)) (σ : St) (H : Hp) (s : Shared) (e : Value) (s' : Shared), Inv X pins σ H s → CX X.stack H s E e s' → X.xe e s'

section
variable {X : Cx} {CX : CXT} {k : Nat} {f C : Addr} {fd : FuncData} {ps : List Str} {sp : Sp} {dvs : List V} {ds : List Value} {E : XK} {x m : Str} {p pos apos : Pos} {e o : Expr} {es : List Expr} {ta : TE} {t : TA}

/-- the callee runs -/
theorem run_fn {pins : List (Addr × Obj)} {σ : St} {H : Hp} {s : Shared} {Q : VK} {us : List Value} {vs : List V} (F : FnOk X.prog X.w X.K X.mg X.base CX k f fd ps sp) (hr : Room k X.A) (hb : Binds X.K fd ps ds) (hd : Vals dvs ds) (hx : Passes CX X E)
    (I : Inv X pins σ H s) (r : Vals vs us) (h : sp (vs ++ dvs) H Q E) : wpAny (model X.prog X.w) X.A (call (.ref f) us) (EP X pins σ Q) X.xe s := by
  have r2 : Vals (vs ++ dvs) (us ++ ds) := r.append hd
  have hl : (us ++ ds).length = ps.length := by rw [← r2.length]; exact F.len _ _ _ _ h
  refine wpAny_call (codeAny_mono (F.run X.A X.stack s H ⟨us, []⟩ (us ++ ds) (vs ++ dvs) Q E hr I.env0 (hb s us I.kIn hl) r2 h) fun r s' hq => ?_)
  cases r with
  | error e => exact hx pins σ H s e s' I hq
  | ok fl =>
    cases fl with
    | ret u => exact I.after hq
    | next => exact False.elim hq
    | brk => exact False.elim hq
    | cont => exact False.elim hq

theorem pe_call (F : FnOk X.prog X.w X.K X.mg X.base CX k f fd ps sp) (hr : Room k X.A) (hg : Gl X x) (hm : X.mg x = some (.ref f)) (hk : PySem.W.keepIn X.K (.ref f) = true) (hb : Binds X.K fd ps ds) (hd : Vals dvs ds) (hx : Passes CX X E)
    (ha : PA X (e :: es) t) (hdb : (x == ("__debug__" : Str)) = false := by decide) (he : starEach (e :: es) X.env = (false, eval e X.env) :: starEach es X.env := by rfl) (hpl : (backTo pos (starEach es X.env)).any (·.1) = false := by rfl) :
    PE X (.Call (.Name x p) (e :: es) [] pos) (tCall sp dvs E t) := by
  intro pins s σ H Q I h
  refine wpAny_Call_Name_kw (ld_glob I hg hm ?_ hdb)
  refine PySem.W.callWith_K (h₀ := X.base) I.ok.mod.kin hk (thn (ha pos pins s σ H _ I h) fun us s1 ⟨vs, H1, I1, r, q⟩ => ⟨I1.kIn, ?_⟩) he hpl
  exact run_fn F hr hb hd hx I1 r q
theorem pe_call0 (F : FnOk X.prog X.w X.K X.mg X.base CX k f fd ps sp) (hr : Room k X.A) (hg : Gl X x) (hm : X.mg x = some (.ref f)) (hk : PySem.W.keepIn X.K (.ref f) = true) (hb : Binds X.K fd ps ds) (hd : Vals dvs ds) (hx : Passes CX X E)
    (hdb : (x == ("__debug__" : Str)) = false := by decide) : PE X (.Call (.Name x p) [] [] pos) (tCall sp dvs E tNil) := by
  intro pins s σ H Q I h
  refine wpAny_Call_Name_kw (ld_glob I hg hm ?_ hdb)
  exact PySem.W.callWith_K0 I.kIn hk (run_fn (us := []) F hr hb hd hx I .nil h)

/-- o.m(e, ..) -/
theorem pe_meth {pl : Sem Bool} (he : PE X o ta) (c : Cls X.K C) (hm : Meth X.K C m f) (F : FnOk X.prog X.w X.K X.mg X.base CX k f fd ps sp) (hr : Room k X.A) (hb : Binds X.K fd ps ds) (hd : Vals dvs ds) (hx : Passes CX X E) (ha : PA X (e :: es) t)
    (hst : starEach (e :: es) X.env = (false, eval e X.env) :: starEach es X.env := by rfl) (hpl : (backTo pos (starEach es X.env)).any (·.1) = false := by rfl)
    (ht : eval (.Call (.Attribute o m apos) (e :: es) [] pos) X.env = (do
      let ov ← eval o X.env
      standAt apos.atName
      let (f, first) ← holding [ov] (getMethod ov m pl)
      callWith pos f first (backTo pos (starEach (e :: es) X.env)) (backToKw pos (keywordEach [] X.env))) := by rfl) :
    PE X (.Call (.Attribute o m apos) (e :: es) [] pos) (tMeth C m sp dvs E ta t) := by
  intro pins s σ H Q I h
  refine PySem.W.methodCall_KW (pl := pl) (thn (he pins s σ H _ I h) fun u s1 ⟨x, H1, I1, rx, a, dx, fs, ex, ea, l, q⟩ => ?_) ht
  subst ex
  obtain rfl : u = Value.ref a := rx
  refine getmeth_ok I1 ea c hm l ?_
  refine PySem.W.callWith_K (first := [.ref a]) (h₀ := X.base) I.ok.mod.kin hm.kp (thn (ha pos pins s1 σ H1 _ I1 q) fun us s2 ⟨vs, H2, I2, r, q2⟩ => ⟨I2.kIn, ?_⟩) hst hpl
  exact run_fn (us := .ref a :: us) (vs := .ref a :: vs) F hr hb hd hx I2 (.cons rfl r) q2
/-- o.m() -/
theorem pe_meth0 {pl : Sem Bool} (he : PE X o ta) (c : Cls X.K C) (hm : Meth X.K C m f) (F : FnOk X.prog X.w X.K X.mg X.base CX k f fd ps sp) (hr : Room k X.A) (hb : Binds X.K fd ps ds) (hd : Vals dvs ds) (hx : Passes CX X E)
    (ht : eval (.Call (.Attribute o m apos) [] [] pos) X.env = (do
      let ov ← eval o X.env
      standAt apos.atName
      let (f, first) ← holding [ov] (getMethod ov m pl)
      callWith pos f first (backTo pos (starEach [] X.env)) (backToKw pos (keywordEach [] X.env))) := by rfl) :
    PE X (.Call (.Attribute o m apos) [] [] pos) (tMeth C m sp dvs E ta tNil) := by
  intro pins s σ H Q I h
  refine PySem.W.methodCall_KW (pl := pl) (thn (he pins s σ H _ I h) fun u s1 ⟨x, H1, I1, rx, a, dx, fs, ex, ea, l, q⟩ => ?_) ht
  subst ex
  obtain rfl : u = Value.ref a := rx
  refine getmeth_ok I1 ea c hm l ?_
  exact PySem.W.callWith_K0 (first := [.ref a]) I1.kIn hm.kp (run_fn (us := [.ref a]) (vs := [.ref a]) F hr hb hd hx I1 (.cons rfl .nil) q)

/-- what a class must have to be made -/
structure Mk (K : PySem.W.Frag) (C f : Addr) : Prop where
  makes : PySem.W.makesIn K C = true
  init : PySem.W.findIn K (.ref C) "__init__" = some (some (.ref f))
  fn : PySem.W.isFn K (.ref f) = true
  kp : PySem.W.keepIn K (.ref C) = true

theorem run_make {pins : List (Addr × Obj)} {σ : St} {H : Hp} {s : Shared} {Q : VK} {us : List Value} {vs : List V} (M : Mk X.K C f) (F : FnOk X.prog X.w X.K X.mg X.base CX k f fd ps sp) (hr : Room (k + 1) X.A) (hb : Binds X.K fd ps ds) (hd : Vals dvs ds)
    (hx : Passes CX X E) (I : Inv X pins σ H s) (r : Vals vs us)
    (h : ∀ x dx, H x = none → H dx = none → dx ≠ x → sp (.ref x :: (vs ++ dvs)) (upd (upd H dx (.own x)) x (.ins C dx [])) (fun v H2 => v = .non ∧ Q (.ref x) H2) E) :
    wpAny (model X.prog X.w) X.A (call (.ref C) us) (EP X pins σ Q) X.xe s := by
  have hq := h (s.heap.objs.size + 1) s.heap.objs.size (I.hok.fresh (Nat.le_succ _)) (I.hok.fresh (Nat.le_refl _)) (Nat.ne_of_lt (Nat.lt_succ_self _))
  have I2 := Inv.made (C := C) I
  have r2 : Vals (V.ref (s.heap.objs.size + 1) :: (vs ++ dvs)) (Value.ref (s.heap.objs.size + 1) :: (us ++ ds)) := .cons rfl (r.append hd)
  have hl : (Value.ref (s.heap.objs.size + 1) :: us ++ ds).length = ps.length := by
    have e := r2.length
    rw [F.len _ _ _ _ hq] at e
    exact e.symm
  refine wpAny_call (make_map (f := f) I.kIn M.makes M.init (beq_iff_eq.mp M.fn) (codeAny_mono (F.run _ X.stack _ _ ⟨Value.ref (s.heap.objs.size + 1) :: us, []⟩ (Value.ref (s.heap.objs.size + 1) :: (us ++ ds)) _ _ E (hr.make C us [])
    (I2.env0.make C us []) (hb _ (Value.ref (s.heap.objs.size + 1) :: us) I2.kIn hl) r2 hq) fun r s' hq' => ?_))
  cases r with
  | error e => exact hx pins σ _ _ e s' I2 hq'
  | ok fl =>
    cases fl with
    | ret u =>
      obtain ⟨v, H', I3, rv, ev, q3⟩ := I2.after hq'
      subst ev
      exact ⟨rv, ⟨V.ref (s.heap.objs.size + 1), H', I3, rfl, q3⟩⟩
    | next => exact False.elim hq'
    | brk => exact False.elim hq'
    | cont => exact False.elim hq'
theorem pe_make (M : Mk X.K C f) (F : FnOk X.prog X.w X.K X.mg X.base CX k f fd ps sp) (hr : Room (k + 1) X.A) (hg : Gl X x) (hm : X.mg x = some (.ref C)) (hb : Binds X.K fd ps ds) (hd : Vals dvs ds) (hx : Passes CX X E)
    (ha : PA X (e :: es) t) (hdb : (x == ("__debug__" : Str)) = false := by decide) (he : starEach (e :: es) X.env = (false, eval e X.env) :: starEach es X.env := by rfl) (hpl : (backTo pos (starEach es X.env)).any (·.1) = false := by rfl) :
    PE X (.Call (.Name x p) (e :: es) [] pos) (tMake C sp dvs E t) := by
  intro pins s σ H Q I h
  refine wpAny_Call_Name_kw (ld_glob I hg hm ?_ hdb)
  refine PySem.W.callWith_K (h₀ := X.base) I.ok.mod.kin M.kp (thn (ha pos pins s σ H _ I h) fun us s1 ⟨vs, H1, I1, r, q⟩ => ⟨I1.kIn, ?_⟩) he hpl
  exact run_make M F hr hb hd hx I1 r q
theorem pe_make0 (M : Mk X.K C f) (F : FnOk X.prog X.w X.K X.mg X.base CX k f fd ps sp) (hr : Room (k + 1) X.A) (hg : Gl X x) (hm : X.mg x = some (.ref C)) (hb : Binds X.K fd ps ds) (hd : Vals dvs ds) (hx : Passes CX X E)
    (hdb : (x == ("__debug__" : Str)) = false := by decide) : PE X (.Call (.Name x p) [] [] pos) (tMake C sp dvs E tNil) := by
  intro pins s σ H Q I h
  refine wpAny_Call_Name_kw (ld_glob I hg hm ?_ hdb)
  exact PySem.W.callWith_K0 I.kIn M.kp (run_make (us := []) M F hr hb hd hx I .nil h)
end

/-! ### keywords -/
/-- the values of the keywords, from the left -/
def PK (X : Cx) (kws : List Keyword) (t : TA) : Prop :=
  ∀ (pos : Pos) (pins : List (Addr × Obj)) (s : Shared) (σ : St) (H : Hp) (Q : List V → Hp → Prop), Inv X pins σ H s → t σ H Q → wpAny (model X.prog X.w) X.A (evalAll ((backToKw pos (keywordEach kws X.env)).map (·.2))) (AP X pins σ Q) X.xe s
section
variable {X : Cx} {CX : CXT} {k : Nat} {f C : Addr} {fd : FuncData} {ps ks : List Str} {sp : Sp} {E : XK} {x m : Str} {p pos apos kpos : Pos} {e o : Expr} {es : List Expr} {kws : List Keyword} {te ta : TE} {t tk : TA} {nm : Option Str}
theorem pk_nil : PK X [] tNil := fun _ _ _ _ H Q I h => wpAny_evalAll_nil ⟨[], H, I, .nil, h⟩
theorem pk_cons (ha : PE X e te) (hr : PK X kws t) : PK X (⟨nm, e, kpos⟩ :: kws) (tCons te t) := by
  intro pos pins s σ H Q I h
  show wpAny _ _ (evalAll ((do let v ← eval e X.env; standAt pos; pure v) :: (backToKw pos (keywordEach kws X.env)).map (·.2))) _ _ s
  refine wpAny_evalAll_cons (wpAny_bind (thn (ha pins s σ H _ I h) fun u s1 ⟨x, H1, I1, r1, q1⟩ => wpAny_bind (wpAny_standAt (wpAny_pure ?_))))
  exact thn (hr pos pins s1 σ H1 _ I1 q1) fun us s2 ⟨xs, H2, I2, r2, q2⟩ => ⟨x :: xs, H2, I2, .cons r1 r2, q2⟩

/-- how a call with keywords binds: g puts the positional values us and the keywords' values ws (names ks) in the parameters' order, defaults among them -/
structure KBinds (K : PySem.W.Frag) (fd : FuncData) (ps ks : List Str) (g : List Value → List Value → List Value) (gV : List V → List V → List V) : Prop where
  to : ∀ (s : Shared) (us ws : List Value), K.In s.heap → (g us ws).length = ps.length → BindsTo s fd ⟨us, ks.zip ws⟩ (ps.zip (g us ws))
  rel : ∀ {vs : List V} {us : List Value} {zs : List V} {ws : List Value}, Vals vs us → Vals zs ws → Vals (gV vs zs) (g us ws)
def tCallK (sp : Sp) (gV : List V → List V → List V) (E : XK) (t tk : TA) : TE := fun σ H Q => t σ H fun vs H1 => tk σ H1 fun zs H2 => sp (gV vs zs) H2 Q E
variable {g : List Value → List Value → List Value} {gV : List V → List V → List V}
theorem run_fnk {pins : List (Addr × Obj)} {σ : St} {H : Hp} {s : Shared} {Q : VK} {us ws : List Value} {vs zs : List V} (F : FnOk X.prog X.w X.K X.mg X.base CX k f fd ps sp) (hr : Room k X.A) (hb : KBinds X.K fd ps ks g gV) (hx : Passes CX X E)
    (I : Inv X pins σ H s) (r : Vals vs us) (rz : Vals zs ws) (h : sp (gV vs zs) H Q E) : wpAny (model X.prog X.w) X.A (call (.ref f) us (ks.zip ws)) (EP X pins σ Q) X.xe s := by
  have r2 := hb.rel r rz
  have hl : (g us ws).length = ps.length := by rw [← r2.length]; exact F.len _ _ _ _ h
  refine wpAny_call (codeAny_mono (F.run X.A X.stack s H ⟨us, ks.zip ws⟩ (g us ws) (gV vs zs) Q E hr I.env0 (hb.to s us ws I.kIn hl) r2 h) fun r s' hq => ?_)
  cases r with
  | error e => exact hx pins σ H s e s' I hq
  | ok fl =>
    cases fl with
    | ret u => exact I.after hq
    | next => exact False.elim hq
    | brk => exact False.elim hq
    | cont => exact False.elim hq
/-- f(e, .., k = v, ..) -/
theorem pe_callK (F : FnOk X.prog X.w X.K X.mg X.base CX k f fd ps sp) (hr : Room k X.A) (hg : Gl X x) (hm : X.mg x = some (.ref f)) (hk : PySem.W.keepIn X.K (.ref f) = true) (hb : KBinds X.K fd ps ks g gV) (hx : Passes CX X E)
    (ha : PA X (e :: es) t) (hkw : PK X kws tk) (hall : (backToKw pos (keywordEach kws X.env)).all (·.1.isSome) = true := by rfl) (hks : (backToKw pos (keywordEach kws X.env)).filterMap (·.1) = ks := by rfl)
    (hdb : (x == ("__debug__" : Str)) = false := by decide) (he : starEach (e :: es) X.env = (false, eval e X.env) :: starEach es X.env := by rfl)
    (hpl : ((backTo pos (starEach (e :: es) X.env)).any (·.1) || (backToKw pos (keywordEach kws X.env)).any (·.1.isNone)) = false := by rfl) :
    PE X (.Call (.Name x p) (e :: es) kws pos) (tCallK sp gV E t tk) := by
  intro pins s σ H Q I h
  refine wpAny_Call_Name_kw (ld_glob I hg hm ?_ hdb)
  refine PySem.W.callWith_KW (h₀ := X.base) I.ok.mod.kin hk hall (thn (ha pos pins s σ H _ I h) fun us s1 ⟨vs, H1, I1, r, q⟩ => ?_) hpl he
  refine thn (hkw pos pins s1 σ H1 _ I1 q) fun ws s2 ⟨zs, H2, I2, rz, q2⟩ => ⟨I2.kIn, ?_⟩
  rw [hks]
  exact run_fnk F hr hb hx I2 r rz q2
end

/-! ### a def's body keeps its promise -/
/-- names: the parameters first -/
structure FnScope (N P : List Str) (sc : Scope) : Prop where
  kind : sc.kind = .function
  co : sc.isCoroutine = false
  gen : sc.isGenerator = false
  nd : N.Nodup
  pre : N.take P.length = P
  par : ∀ x ∈ P, sc.names.lookup x = some .local ∨ sc.names.lookup x = some .cell
  nofree : ∀ y ∈ sc.names, y.2 ≠ .free

theorem bindL_out {kindOf : Str → Option NameKind} {x : Str} : ∀ {binds : List (Str × Value)} {m : Str → Option Value}, (∀ v, (x, v) ∉ binds) → bindL kindOf binds m x = m x
  | [], _, _ => rfl
  | (n, v) :: r, m, h => by
    unfold bindL
    rw [bindL_out fun w hw => h w (List.mem_cons_of_mem _ hw)]
    split
    · have : x ≠ n := by rintro rfl; exact h v List.mem_cons_self
      simp [this]
    · rfl
theorem bindC_out {kindOf : Str → Option NameKind} {x : Str} : ∀ {binds : List (Str × Value)} {m : Str → Option Value}, (∀ v, (x, v) ∉ binds) → bindC kindOf binds m x = m x
  | [], _, _ => rfl
  | (n, v) :: r, m, h => by
    unfold bindC
    rw [bindC_out fun w hw => h w (List.mem_cons_of_mem _ hw)]
    split
    · rfl
    · have : x ≠ n := by rintro rfl; exact h v List.mem_cons_self
      simp [this]
theorem bindL_get {kindOf : Str → Option NameKind} {x : Str} {v : Value} : ∀ {P : List Str} {vs : List Value} {i : Nat} {m : Str → Option Value}, P.Nodup → P[i]? = some x → vs[i]? = some v → kindOf x = some .local →
    bindL kindOf (P.zip vs) m x = some v
  | [], _, _, _, _, h, _, _ => by simp at h
  | _ :: _, [], _, _, _, _, h, _ => by simp at h
  | p :: P, w :: vs, 0, m, nd, h1, h2, hk => by
    simp at h1 h2; subst h1; subst h2
    show bindL kindOf ((p, w) :: P.zip vs) m p = _
    unfold bindL
    rw [bindL_out fun v hv => (List.nodup_cons.mp nd).1 (List.of_mem_zip hv).1, if_pos hk]
    simp
  | p :: P, w :: vs, i + 1, m, nd, h1, h2, hk => by
    show bindL kindOf ((p, w) :: P.zip vs) m x = _
    unfold bindL
    exact bindL_get (i := i) (List.nodup_cons.mp nd).2 (by simpa using h1) (by simpa using h2) hk
theorem bindC_get {kindOf : Str → Option NameKind} {x : Str} {v : Value} : ∀ {P : List Str} {vs : List Value} {i : Nat} {m : Str → Option Value}, P.Nodup → P[i]? = some x → vs[i]? = some v → kindOf x ≠ some .local →
    bindC kindOf (P.zip vs) m x = some v
  | [], _, _, _, _, h, _, _ => by simp at h
  | _ :: _, [], _, _, _, _, h, _ => by simp at h
  | p :: P, w :: vs, 0, m, nd, h1, h2, hk => by
    simp at h1 h2; subst h1; subst h2
    show bindC kindOf ((p, w) :: P.zip vs) m p = _
    unfold bindC
    rw [bindC_out fun v hv => (List.nodup_cons.mp nd).1 (List.of_mem_zip hv).1, if_neg hk]
    simp
  | p :: P, w :: vs, i + 1, m, nd, h1, h2, hk => by
    show bindC kindOf ((p, w) :: P.zip vs) m x = _
    unfold bindC
    exact bindC_get (i := i) (List.nodup_cons.mp nd).2 (by simpa using h1) (by simpa using h2) hk

/-- the names' values at the entry -/
def start (N : List Str) (vs : List V) : St := vs.map some ++ List.replicate (N.length - vs.length) none

/-- the context of a def's body, at its entry; an exception leaves the frame, then lies as CX says -/
def cxOf (CX : CXT) (P : Program) (w : World) (K : PySem.W.Frag) (mg : Str → Option Value) (base : Heap) (N : List Str) (qual : Str) (scope : Scope) (f : Addr) (cd : Value) (A : Around) (outer : List Env) (s : Shared) (H : Hp) (E : XK) : Cx where
  prog := P
  w := w
  K := K
  mg := mg
  base := base
  A := A.deeper (envOfC qual scope s.heap.objs.size f cd)
  N := N
  s₀ := s
  H₀ := H
  env := envOfC qual scope s.heap.objs.size f cd
  outer := outer
  stack := envOfC qual scope s.heap.objs.size f cd :: outer
  ex := []
  calm := true
  fn := fun _ => true
  pn := []
  xe := fun e s' => wpAny (model P w) (A.deeper (envOfC qual scope s.heap.objs.size f cd)) (leaving (envOfC qual scope s.heap.objs.size f cd) e) (fun _ s'' => CX outer H s E e s'') (fun e' s'' => CX outer H s E e' s'') s'

theorem cell_has {sc : Scope} {n : Nat} {x : Str} (h : sc.names.lookup x = some .cell) : ∃ c, (cellsFrom n sc.names []).lookup x = some c := by
  have q := PySem.W.cellsFrom_some sc.names n [] (.inl h)
  exact Option.isSome_iff_exists.mp q

theorem inv_start {CX : CXT} {P : Program} {w : World} {K : PySem.W.Frag} {mg : Str → Option Value} {base : Heap} {N ps : List Str} {qual : Str} {scope : Scope} {f : Addr} {cd : Value} {A : Around} {outer : List Env} {s s1 : Shared} {H : Hp} {E : XK} {us : List Value} {vs : List V}
    (S : FnScope N ps scope) (hd : A.handled = none) (e0 : Env0 P w K mg base A outer s H) (hl : vs.length = ps.length) (r : Vals vs us)
    (x : InCallC s s.heap.objs.size (bindL (envOfC qual scope s.heap.objs.size f cd).kindOf (ps.zip us) fun _ => none) (cellsFrom (s.heap.objs.size + 1) scope.names []) (bindC (envOfC qual scope s.heap.objs.size f cd).kindOf (ps.zip us) fun _ => none) s1) :
    Inv (cxOf CX P w K mg base N qual scope f cd A outer s H E) [] (start N vs) H s1 := by
  have hpl : ps.length ≤ N.length := by have := congrArg List.length S.pre; rw [List.length_take] at this; omega
  obtain ⟨h1, tk, rfl, hk⟩ := x.done
  have noA : ∀ b : Addr, b ∉ (cxOf CX P w K mg base N qual scope f cd A outer s H E).ex := fun b z => absurd (show b ∈ ([] : List Addr) from z) (by simp)
  refine ⟨⟨e0.mod, S.kind, rfl, rfl, Nat.le_refl _, fun y z c h1 h2 => ?_, fun y hy => ?_, fun y c _ h => ?_, fun _ => hd, Around.frames_deeper e0.frames, .inr ⟨rfl, rfl⟩, fun b z => absurd z (noA b), e0.bs, e0.bsz, fun b _ _ => noA b, fun b z => absurd z (noA b), e0.funs, e0.frf⟩,
    rfl, e0.bare, Un.kept hk, ⟨_, x.toInCall.ns, fun i y v h1 h2 h3 => ?_⟩, fun y c h => ⟨_, x.cell y c h⟩, e0.hok.fresh (Nat.le_refl _), fun y c h => ?_, fun p hp => absurd (show p ∈ ([] : List (Addr × Obj)) from hp) (by simp), e0.hok.kept hk, ?_⟩
  · exact name_of_addr x.apart (PySem.mem_of_lookup h1) (PySem.mem_of_lookup h2)
  · have hy : scope.names.lookup y = some .cell ∨ scope.names.lookup y = some .free := hy
    rcases hy with hy | hy
    · exact cell_has hy
    · exact absurd rfl (S.nofree _ (PySem.mem_of_lookup hy))
  · exact Nat.le_of_lt (x.above y c (PySem.mem_of_lookup h))
  · have hi : i < vs.length := by
      unfold start at h2
      by_cases hi : i < vs.length
      · exact hi
      · rw [List.getElem?_append_right (by simpa using hi)] at h2
        rw [List.getElem?_replicate] at h2
        split at h2 <;> cases h2
    have ha : vs[i]? = some v := by
      unfold start at h2
      rw [List.getElem?_append_left (by simpa using hi), List.getElem?_map] at h2
      cases e : vs[i]? with
      | none => rw [e] at h2; cases h2
      | some a => rw [e] at h2; cases h2; rfl
    obtain ⟨u, hu, rv⟩ := r.get ha
    have hp : ps[i]? = some y := by
      rw [← S.pre, List.getElem?_take_of_lt (by omega)]; exact h1
    have ndP : ps.Nodup := by rw [← S.pre]; exact S.nd.sublist (List.take_sublist _ _)
    refine ⟨u, rv, ?_⟩
    rcases S.par y (List.mem_of_getElem? hp) with k | k
    · exact .inl ⟨k, bindL_get ndP hp hu k⟩
    · obtain ⟨c, e⟩ := cell_has (n := s.heap.objs.size + 1) k
      refine .inr ⟨.inl k, c, e, ?_⟩
      have q := x.cell y c e
      rw [bindC_get ndP hp hu (by show scope.names.lookup y ≠ _; rw [k]; decide)] at q
      exact q
  · exact e0.hok.fresh (Nat.le_of_lt (x.above y c (PySem.mem_of_lookup h)))
  · unfold start
    show _ = N.length
    rw [List.length_append, List.length_map, List.length_replicate]
    omega

/-- THE RULE: a def (or a method) of the text, by its body. The body's reading t is chosen for each entry; it is run at the parameters' values -/
theorem fn_of {CX : CXT} {P : Program} {w : World} {K : PySem.W.Frag} {mg : Str → Option Value} {base : Heap} {k : Nat} {f : Addr} {name qual : Str} {params : Arguments} {body : List Stmt} {scope : Scope} {dV kV doc pm cdv ct oc : Value} {an od : Option Addr}
    {osl : Array (Option Value)} {N ps : List Str} {sp : Sp} (lk : K.lookup f = some ⟨oc, od, .func (PySem.W.fnOf name qual params body scope dV kV doc pm an cdv ct), osl⟩) (hcd : PySem.W.codeIn K cdv qual = true) (S : FnScope N ps scope)
    (len : ∀ vs H Q E, sp vs H Q E → vs.length = ps.length)
    (hbody : ∀ (A : Around) (outer : List Env) (s : Shared) (H : Hp) (vs : List V) (Q : VK) (E : XK), Room k (A.deeper (envOfC qual scope s.heap.objs.size f cdv)) → sp vs H Q E →
      ∃ t, PSs (cxOf CX P w K mg base N qual scope f cdv A outer s H E) body t ∧ t { nx := fun _ H' => Q .non H', rt := Q } (start N vs) H) :
    FnOk P w K mg base CX (k + 1) f (PySem.W.fnOf name qual params body scope dV kV doc pm an cdv ct) ps sp := by
  refine ⟨len, fun A outer s H args us vs Q E hr e0 hb r hsp => ?_⟩
  have hl := len _ _ _ _ hsp
  have KX : K.In s.heap := e0.mod.kin.keeps fun b o e => (e0.bs b o e).1
  have lim : s.heap.NoLimit := e0.mod.nolimit.keeps fun b o e => (e0.bs b o e).1
  have hkind : ∀ y ∈ ps.zip us, scope.names.lookup y.1 = some .local ∨ (scope.names.lookup y.1 = some .cell ∧ ((cellsFrom (s.heap.objs.size + 1) scope.names []).lookup y.1).isSome = true) := fun ⟨n, v⟩ hy => by
    rcases S.par n (List.of_mem_zip hy).1 with q | q
    · exact .inl q
    · exact .inr ⟨q, PySem.W.cellsFrom_some _ _ _ (.inl q)⟩
  refine codeAny_call_function hr.depth (KX _ _ lk) rfl S.co S.gen rfl (PySem.W.codeRec_of KX hcd) (hb _ _ _ _ ?_)
  refine wpAny_newFunctionEnv_cells S.kind hkind fun env he s1 x => ?_
  subst he
  refine ⟨lim.keeps x.toInCall.keep, codeAny_func ?_⟩
  obtain ⟨t, ht, hq⟩ := hbody A outer s H vs Q E (hr.deeper _) hsp
  have I : Inv (cxOf CX P w K mg base N qual scope f cdv A outer s H E) [] (start N vs) H s1 := inv_start S hr.hd e0 hl r x
  refine wpAny_mono (ht [] s1 (start N vs) H _ I hq) (fun fl s' hs => ?_) fun e s' hs => hs
  have fin : ∀ {σ' : St} {H' : Hp} {v : V} {u : Value}, Inv (cxOf CX P w K mg base N qual scope f cdv A outer s H E) [] σ' H' s' → RelV v u → Q v H' → CE outer P w H s Q u s' :=
    fun {σ' H' v u} J rv q => ⟨v, H', J.os, J.bare, J.base, J.hok, rv, q⟩
  cases fl with
  | ret u =>
    obtain ⟨v, σ', H', J, rv, q⟩ := hs
    exact fin J rv q
  | next =>
    obtain ⟨σ', H', J, q⟩ := hs
    exact fin (v := V.non) (u := Value.none) J rfl q
  | brk =>
    obtain ⟨_, _, _, q⟩ := hs
    exact False.elim q
  | cont =>
    obtain ⟨_, _, _, q⟩ := hs
    exact False.elim q
end L2

namespace L2
open PySem PySem.Spec PyProof.Rows
section
variable {X : Cx} {x : Str} {p pos : Pos} {e : Expr} {es : List Expr} {t : TA} {id T : String} {r : List V → Hp → VK → Prop}

def tCB (r : List V → Hp → VK → Prop) (t : TA) : TE := fun σ H Q => t σ H fun vs H1 => r vs H1 Q
/-- f(e, ..), f a built-in function -/
theorem pe_callB (hc : CallR X (.builtin id) r) (hg : Gl X x) (hm : X.mg x = none) (hv : bootBuiltins x = some (.builtin id)) (ha : PA X (e :: es) t) (hn : x ≠ "__name__" := by decide) (hdb : (x == ("__debug__" : Str)) = false := by decide)
    (he : starEach (e :: es) X.env = (false, eval e X.env) :: starEach es X.env := by rfl) (hpl : (backTo pos (starEach es X.env)).any (·.1) = false := by rfl) : PE X (.Call (.Name x p) (e :: es) [] pos) (tCB r t) := by
  intro pins s σ H Q I h
  refine wpAny_Call_Name_kw (ld_blt I hg hm hv ?_ hn hdb)
  exact PyProof.Rows.callWith_builtin1 (thn (ha pos pins s σ H _ I h) fun us s1 ⟨vs, H1, I1, r1, q1⟩ => hc pins s1 σ H1 vs us Q I1 r1 q1) he hpl
/-- T(e, ..), T a built-in type -/
theorem pe_callTy (hc : CallR X (.type T) r) (hg : Gl X x) (hm : X.mg x = none) (hv : bootBuiltins x = some (.type T)) (ha : PA X (e :: es) t) (hn : x ≠ "__name__" := by decide) (hdb : (x == ("__debug__" : Str)) = false := by decide)
    (he : starEach (e :: es) X.env = (false, eval e X.env) :: starEach es X.env := by rfl) (hpl : (backTo pos (starEach es X.env)).any (·.1) = false := by rfl) : PE X (.Call (.Name x p) (e :: es) [] pos) (tCB r t) := by
  intro pins s σ H Q I h
  refine wpAny_Call_Name_kw (ld_blt I hg hm hv ?_ hn hdb)
  exact PyProof.Rows.callWith_type1 (thn (ha pos pins s σ H _ I h) fun us s1 ⟨vs, H1, I1, r1, q1⟩ => hc pins s1 σ H1 vs us Q I1 r1 q1) he hpl
/-- T() -/
theorem pe_callTy0 (hc : CallR X (.type T) r) (hg : Gl X x) (hm : X.mg x = none) (hv : bootBuiltins x = some (.type T)) (hn : x ≠ "__name__" := by decide) (hdb : (x == ("__debug__" : Str)) = false := by decide) :
    PE X (.Call (.Name x p) [] [] pos) (tCB r tNil) := by
  intro pins s σ H Q I h
  refine wpAny_Call_Name_kw (ld_blt I hg hm hv ?_ hn hdb)
  exact PyProof.Rows.callWith_type0 (hc pins s σ H [] [] Q I .nil h)
end
end L2

namespace HT
open PySem PyProof.Rows

/-- t < u of tuples of ints -/
def lexLt : List Int → List Int → Bool
  | [], [] => false
  | [], _ :: _ => true
  | _ :: _, [] => false
  | x :: xs, y :: ys => if x = y then lexLt xs ys else decide (x < y)
theorem lexLt_cons (x y : Int) (xs ys : List Int) : lexLt (x :: xs) (y :: ys) = if x = y then lexLt xs ys else decide (x < y) := rfl
theorem lexLt_nil_nil : lexLt [] [] = false := rfl
theorem lexLt_nil_cons (y : Int) (ys : List Int) : lexLt [] (y :: ys) = true := rfl
theorem lexLt_cons_nil (x : Int) (xs : List Int) : lexLt (x :: xs) [] = false := rfl

theorem eqAt_int (A : Around) (s : Shared) (a : Int) (t : Tok) (c : Int) (u : Tok) : ∃ e, SeqAt.EqAt A s (.int a t) (.int c u) e ∧ (e = true ↔ a = c) :=
  ⟨(a == c), SeqAt.EqAt.int_int a t c u, by simp⟩
theorem rcLt_int (A : Around) (s : Shared) (a : Int) (t : Tok) (c : Int) (u : Tok) (prog : Program) (w : World) (E : Value → Shared → Prop) (Q : Value → Shared → Prop) (h : Q (.bool (decide (a < c))) s) :
    wpAny (model prog w) A (richCompare .Lt (.int a t) (.int c u)) Q E s :=
  (PyProof.Rows.lt_int h : wpAny (model prog w) A (compareOp .Lt (.int a t) (.int c u)) Q E s)

section
open PySem.SeqAt
open PySem.AutoSeq1 (wpAny_loadPart')
open PySem.MeetsSeq PySem.MeetsSeq2 PySem.MeetsSeq3

theorem tuple_lt_ints (l b : Addr) (items items2 : Array Value) (n n2 : Nat) (dd dd2 : Option Addr) (sl sl2 : Array (Option Value)) (ns ms : List Int) (hi : IntsAre items.toList ns) (hj : IntsAre items2.toList ms) :
    Meets (Builtin.«tuple.__lt__» ⟨[.ref l, .ref b], []⟩)
      (fun _ R s => s.heap.get? l = some { cls := .type "tuple", dict := dd, data := .seq items n, slots := sl } ∧ s.heap.get? b = some { cls := .type "tuple", dict := dd2, data := .seq items2 n2, slots := sl2 } ∧
        R (.ok (.ret (.bool (lexLt ns ms)))) s) :=
  .of_wp fun prog w A R s h => by
    obtain ⟨hp, g, d, tk, os⟩ := s; obtain ⟨hl, hb, h⟩ := h
    have f2 := AutoSeq1.sub_tuple_tuple
    have z1 : items.size = ns.length := by rw [← hi.length]; simp
    have z2 : items2.size = ms.length := by rw [← hj.length]; simp
    wp_walk using wpAny_loadPart' hl, wpAny_loadPart' hb, wpAny_forIn_list _ (fun rest b s' => b.1 = none ∧ s' = ⟨hp, g, d, tk, os⟩ ∧ ∃ (vs ws : List Value) (ns' ms' : List Int), rest = vs.zip ws ∧
      IntsAre vs ns' ∧ IntsAre ws ms' ∧ ns'.length + items2.size = ms'.length + items.size ∧ R (.ok (.ret (.bool (lexLt ns' ms')))) ⟨hp, g, d, tk, os⟩) _
    case turn =>
      rintro ⟨y, x⟩ rest b s' ⟨hb', rfl, vs, ws, ns', ms', hz, hvi, hwi, hlen, hR⟩
      cases hvi with
      | nil => rw [List.zip_nil_left] at hz; cases hz
      | cons a t hvi' =>
        cases hwi with
        | nil => rw [List.zip_nil_right] at hz; cases hz
        | cons c u hwi' =>
          rw [List.zip_cons_cons] at hz
          injection hz with hyx hrest
          injection hyx with hy hx
          subst hy hx
          rw [lexLt_cons] at hR
          simp only [List.length_cons] at hlen
          obtain ⟨e, he, hiff⟩ := eqAt_int A.in1 ⟨hp, g, d, tk, os⟩ a t c u
          refine wpAny_bind (he prog w _ _ ?_)
          cases e with
          | true =>
            rw [if_pos (hiff.mp rfl)] at hR
            wp_walk
            exact ⟨rfl, rfl, _, _, _, _, hrest, hvi', hwi', by omega, hR⟩
          | false =>
            rw [if_neg (fun q => absurd (hiff.mpr q) Bool.false_ne_true)] at hR
            have hri := rcLt_int A.in1 ⟨hp, g, d, tk, os⟩ a t c u prog w
            wp_walk using hri
            exact ⟨_, rfl, by simpa using hR⟩
    case fin =>
      rintro ⟨b1, b2⟩ s' ⟨hb', rfl, vs, ws, ns', ms', hz, hvi, hwi, hlen, hR⟩
      simp only at hb'
      subst hb'
      have hv : lexLt ns' ms' = decide (items.size < items2.size) := by
        cases hvi with
        | nil =>
          cases hwi with
          | nil =>
            simp only [List.length_nil] at hlen
            rw [lexLt_nil_nil]
            exact (decide_eq_false (by omega)).symm
          | cons c u hw =>
            simp only [List.length_nil, List.length_cons] at hlen
            rw [lexLt_nil_cons]
            exact (decide_eq_true (by omega)).symm
        | cons a t hv =>
          cases hwi with
          | nil =>
            simp only [List.length_nil, List.length_cons] at hlen
            rw [lexLt_cons_nil]
            exact (decide_eq_false (by omega)).symm
          | cons c u hw =>
            rw [List.zip_cons_cons] at hz
            cases hz
      rw [hv] at hR
      wp_walk
      exact ⟨_, rfl, by simpa [Builtin.Tuple.tupleCompareSizes] using hR⟩
    case h =>
      exact ⟨rfl, rfl, items.toList, items2.toList, ns, ms, rfl, hi, hj, by omega, h⟩
end

section
variable {prog : Program} {w : World} {A : Around} {E : Value → Shared → Prop} {s : Shared}

theorem lt_tupInts {l b : Addr} {items items2 : Array Value} {ns ms : List Int} {Q : Value → Shared → Prop} (hl : IsTup s.heap l items) (hb : IsTup s.heap b items2) (hi : IntsAre items.toList ns) (hj : IntsAre items2.toList ms)
    (hu : A.units < cLine) (h : Q (.bool (lexLt ns ms)) s) : wpAny (model prog w) A (compareOp .Lt (.ref l) (.ref b)) Q E s := by
  obtain ⟨⟨cls, dd, data, sl⟩, ho, hc, n, hd⟩ := id hl
  obtain ⟨⟨cls2, dd2, data2, sl2⟩, ho2, hc2, n2, hd2⟩ := id hb
  simp only at hc hd hc2 hd2
  subst hc hd hc2 hd2
  exact richCompare_meets_room (op := .Lt) ⟨_, ho, rfl⟩ ⟨_, ho2, rfl⟩ PySem.F.slot_tuple_lt PySem.F.entry_tuple_lt (PySem.F.args_tuple_lt_2 _ _) (tuple_lt_ints l b items items2 n n2 dd dd2 sl sl2 ns ms hi hj)
    ⟨ho, ho2, show Value.bool (lexLt ns ms) ≠ Value.notImplemented ∧ Q (.bool (lexLt ns ms)) s from ⟨(fun x => nomatch x), h⟩⟩ hu

/-- t + u, t not empty -/
theorem cat_tup {t b : Addr} {vs ws : List Value} {Q : Value → Shared → Prop} (ht : IsTup s.heap t vs.toArray) (hb : IsTup s.heap b ws.toArray) (hv : vs ≠ [])
    (h1 : ws = [] → Q (.ref t) s) (h2 : ws ≠ [] → Q (.ref s.heap.objs.size) { s with heap := s.heap.push { cls := .type "tuple", data := .seq (vs ++ ws).toArray } })
    (hsz : vs.length + ws.length ≤ sizeLine) : wpAny (model prog w) A (binaryOp .Add (.ref t) (.ref b)) Q E s := by
  obtain ⟨⟨cls, dd, data, sl⟩, ho, hc, n, hd⟩ := id ht
  obtain ⟨⟨cls2, dd2, data2, sl2⟩, ho2, hc2, n2, hd2⟩ := id hb
  simp only at hc hd hc2 hd2
  subst hc hd hc2 hd2
  have e : vs.toArray ++ ws.toArray = (vs ++ ws).toArray := by simp
  by_cases hw : ws = []
  · exact concat_meets ⟨_, ho, rfl⟩ ⟨_, ho2, rfl⟩ noFill_tuple_add seq_tuple_add PySem.F.slot_tuple_add PySem.F.entry_tuple_add (PySem.F.args_tuple_add_2 _ _)
      (tuple_addW1 t b vs.toArray ws.toArray n n2 dd dd2 sl sl2 (by simpa using hv) (by simp [hw])) ⟨ho, ho2, h1 hw⟩
  · refine concat_meets ⟨_, ho, rfl⟩ ⟨_, ho2, rfl⟩ noFill_tuple_add seq_tuple_add PySem.F.slot_tuple_add PySem.F.entry_tuple_add (PySem.F.args_tuple_add_2 _ _)
      (tuple_addW2 t b vs.toArray ws.toArray n n2 dd dd2 sl sl2 (by simpa using hv) (by simpa using hw) (by rw [List.size_toArray, List.size_toArray]; exact hsz)) ⟨ho, ho2, ?_⟩
    rw [e]
    exact h2 hw

/-! ### t[a:b], not the whole -/
/-- a slice's bound as a place among n (d where it is left out) -/
def sIx (n d : Nat) : Option Int → Nat
  | none => d
  | some v => if v < 0 then (v + (n : Int)).toNat else min v.toNat n
theorem sIx_none (n d : Nat) : sIx n d none = d := rfl
theorem sIx_nat (n d k : Nat) : sIx n d (some (k : Int)) = min k n := by
  show (if (k : Int) < 0 then ((k : Int) + (n : Int)).toNat else min (k : Int).toNat n) = min k n
  rw [if_neg (by omega), Int.toNat_natCast]
theorem sIx_le (n d : Nat) (hd : d ≤ n) (o : Option Int) : sIx n d o ≤ n := by
  cases o with
  | none => exact hd
  | some v =>
    show (if v < 0 then (v + (n : Int)).toNat else min v.toNat n) ≤ n
    by_cases hv : v < 0
    · rw [if_pos hv]; omega
    · rw [if_neg hv]; exact Nat.min_le_right _ _
theorem clip_eq (v : Int) (n d : Nat) : (if v < 0 then max (v + (n : Int)) 0 else min v (n : Int)) = ((sIx n d (some v) : Nat) : Int) := by
  show (if v < 0 then max (v + (n : Int)) 0 else min v (n : Int)) = (((if v < 0 then (v + (n : Int)).toNat else min v.toNat n) : Nat) : Int)
  by_cases hv : v < 0
  · simp only [if_pos hv]; omega
  · simp only [if_neg hv]; omega
theorem adjust_gen (lo hi : Option Int) (n : Nat) : Builtin.Slice.sliceAdjust lo hi 1 (n : Int) = (((sIx n 0 lo : Nat) : Int), ((sIx n n hi : Nat) : Int)) := by
  have h1 : ¬ ((1 : Int) < 0) := by omega
  unfold Builtin.Slice.sliceAdjust
  simp only [h1, if_false]
  refine Prod.ext ?_ ?_
  · cases lo with
    | none => rfl
    | some v => exact clip_eq v n 0
  · cases hi with
    | none => rfl
    | some v => exact clip_eq v n n
theorem places_gen (i j : Nat) : Builtin.Slice.slicePlaces (i : Int) (j : Int) 1 = j - i := by
  unfold Builtin.Slice.slicePlaces
  have h1 : (1 : Int) > 0 := by omega
  simp only [h1, if_true, Int.ediv_one]
  split <;> omega
theorem slicePart_ {v : Value} {o : Option Int} {Q : Option Int → Shared → Prop} (p : IsPart v o) (h : Q o s) : wpAny (model prog w) A (Builtin.Slice.slicePartIndex v) Q E s := by
  cases p with
  | none => exact slicePart_none h
  | int i t => exact slicePart_int h
theorem sliceApplied_gen {sl : Addr} {vl vu : Value} {lo hi : Option Int} {n : Nat} {Q : Int × Int × Nat → Shared → Prop} (hs : s.heap.IsSliceOf sl vl vu .none) (pl : IsPart vl lo) (pu : IsPart vu hi)
    (h : Q (((sIx n 0 lo : Nat) : Int), 1, sIx n n hi - sIx n 0 lo) s) : wpAny (model prog w) A (Builtin.Slice.sliceApplied (.ref sl) (pure (n : Int))) Q E s := by
  obtain ⟨os, hos, hcs, hds⟩ := id hs
  unfold Builtin.Slice.sliceApplied Builtin.Slice.sliceFields
  refine wpAny_bind (wpAny_bind (wpAny_field hos hds (x := vl) rfl (wpAny_bind (wpAny_field hos hds (x := vu) rfl (wpAny_bind (wpAny_field hos hds (x := .none) rfl (wpAny_pure ?_)))))))
  refine wpAny_bind (slicePart_none ?_)
  show wpAny _ _ (if ((1 : Int) == 0) = true then _ else _) _ _ s
  rw [if_neg (by decide)]
  refine wpAny_bind (slicePart_ pl (wpAny_bind (slicePart_ pu (wpAny_bind (wpAny_pure ?_)))))
  show wpAny _ _ (match Builtin.Slice.sliceAdjust lo hi 1 (n : Int) with | (lo, hi) => pure (lo, (1 : Int), Builtin.Slice.slicePlaces lo hi 1)) _ _ s
  rw [adjust_gen lo hi n]
  show wpAny _ _ (pure (((sIx n 0 lo : Nat) : Int), (1 : Int), Builtin.Slice.slicePlaces ((sIx n 0 lo : Nat) : Int) ((sIx n n hi : Nat) : Int) 1)) _ _ s
  rw [places_gen]
  exact wpAny_pure h
theorem pick_gen (xs : Array Value) (i k : Nat) : ((List.range k).filterMap fun (m : Nat) => xs[((i : Int) + (m : Int) * 1).toNat]?).toArray = ((xs.toList.drop i).take k).toArray := by
  have e : (fun (m : Nat) => xs[((i : Int) + (m : Int) * 1).toNat]?) = fun m => xs[i + m]? := by
    funext m
    have : ((i : Int) + (m : Int) * 1).toNat = i + m := by omega
    rw [this]
  rw [e]
  have := pick_run xs i k
  rw [List.filterMap_map] at this
  have e2 : ((fun x => xs[x]?) ∘ fun x => i + x) = fun m => xs[i + m]? := rfl
  rw [e2] at this
  rw [this]

theorem getItem_tuple_cut {t sl : Addr} {items : Array Value} {vl vu : Value} {lo hi : Option Int} {Q : Value → Shared → Prop} (ht : IsTup s.heap t items) (hs : s.heap.IsSliceOf sl vl vu .none) (pl : IsPart vl lo) (pu : IsPart vu hi)
    (hw : ¬ (sIx items.size 0 lo = 0 ∧ sIx items.size items.size hi = items.size))
    (h : Q (.ref s.heap.objs.size) { s with heap := s.heap.push { cls := .type "tuple", data := .seq ((items.toList.drop (sIx items.size 0 lo)).take (sIx items.size items.size hi - sIx items.size 0 lo)).toArray } })
    (hsz : items.size ≤ sizeLine) : wpAny (model prog w) A (getItem (.ref t) (.ref sl)) Q E s := by
  have htake : sizeOk (.seq ((items.toList.drop (sIx items.size 0 lo)).take (sIx items.size items.size hi - sIx items.size 0 lo)).toArray) := by
    show ((items.toList.drop (sIx items.size 0 lo)).take (sIx items.size items.size hi - sIx items.size 0 lo)).toArray.size ≤ sizeLine
    rw [List.size_toArray, List.length_take, List.length_drop, Array.length_toList]
    omega
  have hj : sIx items.size items.size hi ≤ items.size := sIx_le _ _ (Nat.le_refl _) hi
  obtain ⟨os, hos, hcs, hds⟩ := id hs
  have hTs : s.TypeIs (.ref sl) "slice" := ⟨os, hos, hcs⟩
  unfold getItem
  try with_reducible refine wpAny_holding ?_
  first | refine wpAny_bind (wpAny_pure ?_) | skip
  refine wpAny_bind (wpAny_sequenceKey ht.typeIs (by decide) ?_)
  refine wpAny_bind (wpAny_callSpecial?_slot (name := Str.ofString "__getitem__") ht.typeIs PyProof.Rows.slot_tuple_getitem
    (wpAny_call_entry PyProof.Rows.slot_tuple_getitem ht.typeIs entry_tuple_getitem ?_ (args_tuple_getitem _ _)))
  show wpAny _ _ (Builtin.Tuple.tupleItemsOf (.ref t) >>= _) _ _ s
  refine wpAny_bind (tupleItemsOf_ ht ?_)
  refine wpAny_bind (wpAny_typeOf hTs ?_)
  rw [if_pos (by decide)]
  refine wpAny_bind (sliceApplied_gen hs pl pu ?_)
  have hno : ¬ ((((sIx items.size 0 lo : Nat) : Int) == 0 && (1 : Int) == 1 && (sIx items.size items.size hi - sIx items.size 0 lo) == items.size) = true) := by
    intro q
    rw [Bool.and_eq_true, Bool.and_eq_true] at q
    have q1 : ((sIx items.size 0 lo : Nat) : Int) = 0 := eq_of_beq q.1.1
    have q2 : sIx items.size items.size hi - sIx items.size 0 lo = items.size := eq_of_beq q.2
    exact hw ⟨by omega, by omega⟩
  show wpAny _ _ (if (((sIx items.size 0 lo : Nat) : Int) == 0 && (1 : Int) == 1 && (sIx items.size items.size hi - sIx items.size 0 lo) == items.size) = true then _ else _) _ _ s
  rw [if_neg hno, pick_gen]
  first
    | exact wpAny_bind (m := Builtin.Tuple.tupleExact _) (wpAny_newObj_type (wpAny_pure ⟨_, rfl, wpAny_pure h⟩) htake)
    | exact wpAny_bind (m := Builtin.Tuple.tupleExact _) (wpAny_newObj_type (wpAny_bind (wpAny_pure (wpAny_pure ⟨_, rfl, wpAny_pure h⟩))) htake)
    | exact wpAny_bind (wpAny_bind (m := Builtin.Tuple.tupleExact _) (wpAny_newObj_type (wpAny_pure (wpAny_pure ⟨_, rfl, wpAny_pure h⟩)) htake))
    | exact wpAny_bind (wpAny_bind (m := Builtin.Tuple.tupleExact _) (wpAny_newObj_type (wpAny_pure ⟨_, rfl, wpAny_pure h⟩) htake))
end
end HT

namespace L2
open PySem PySem.Spec PyProof.Rows

/-! ### the parts of a slice -/
abbrev TO := St → Hp → (Option Int → Hp → Prop) → Prop
/-- a slice's part (left out, or an int) -/
def PO (X : Cx) (e : Option Expr) (t : TO) : Prop :=
  ∀ (pins : List (Addr × Obj)) (s : Shared) (σ : St) (H : Hp) (Q : Option Int → Hp → Prop), Inv X pins σ H s → t σ H Q →
    wpAny (model X.prog X.w) X.A (evalPart e X.env) (fun u s' => ∃ o H', Inv X pins σ H' s' ∧ IsPart u o ∧ Q o H') X.xe s
def tNoPart : TO := fun _ H Q => Q none H
def tPart (t : TE) : TO := fun σ H Q => t σ H fun x H1 => ∃ i, x = .int i ∧ Q (some i) H1

theorem intsAre_of {ns : List Int} : ∀ {us : List Value}, Vals (ns.map V.int) us → IntsAre us ns := by
  induction ns with
  | nil => intro us r; rw [List.map_nil] at r; cases r; exact .nil
  | cons n ns ih =>
    intro us r
    rw [List.map_cons] at r
    cases r with
    | cons r1 r2 =>
      obtain ⟨t, e⟩ := r1
      subst e
      exact .cons n t (ih r2)

section
variable {X : Cx} {e : Expr} {te : TE} {lo hi : Option Expr} {tl th : TO} {pos p2 : Pos}

theorem po_none : PO X none tNoPart := by
  intro pins s σ H Q I h
  rw [evalPart_none]
  exact wpAny_pure ⟨none, H, I, .none, h⟩
theorem po_some (h : PE X e te) : PO X (some e) (tPart te) := by
  intro pins s σ H Q I hw
  rw [evalPart_some]
  refine thn (h pins s σ H _ I hw) fun u s1 ⟨x, H1, I1, r1, q1⟩ => ?_
  obtain ⟨i, rfl, q⟩ := q1
  obtain ⟨t, rfl⟩ := r1
  exact ⟨some i, H1, I1, .int i t, q⟩

/-- what a slice of a value is, by values: the slice object stands at sl -/
def SlR (X : Cx) (r : V → Option Int → Option Int → Hp → VK → Prop) : Prop :=
  ∀ (pins : List (Addr × Obj)) (s : Shared) (σ : St) (H : Hp) (x : V) (v vl vu : Value) (lo hi : Option Int) (sl : Addr) (Q : VK), Inv X pins σ H s → RelV x v → s.heap.IsSliceOf sl vl vu .none → IsPart vl lo → IsPart vu hi → r x lo hi H Q →
    ∃ T id, typeLookup (.type T) "__getitem__" = pure (some (.builtin id)) ∧ s.TypeIs v T ∧ wpAny (model X.prog X.w) X.A (getItem v (.ref sl)) (EP X pins σ Q) X.xe s
theorem SlR.or {r r' : V → Option Int → Option Int → Hp → VK → Prop} (h : SlR X r) (h' : SlR X r') : SlR X (fun x lo hi H Q => r x lo hi H Q ∨ r' x lo hi H Q) := by
  intro pins s σ H x v vl vu lo hi sl Q I rx hs pl pu q
  rcases q with q | q
  · exact h pins s σ H x v vl vu lo hi sl Q I rx hs pl pu q
  · exact h' pins s σ H x v vl vu lo hi sl Q I rx hs pl pu q
def tSl (r : V → Option Int → Option Int → Hp → VK → Prop) (te : TE) (tl th : TO) : TE := fun σ H Q => te σ H fun x H1 => tl σ H1 fun l H2 => th σ H2 fun u H3 => r x l u H3 Q
/-- a[lo:hi], any a -/
theorem pe_slice {r : V → Option Int → Option Int → Hp → VK → Prop} (hr : SlR X r) (he : PE X e te) (hl : PO X lo tl) (hu : PO X hi th) : PE X (.Subscript e (.Slice lo hi none p2) pos) (tSl r te tl th) := by
  intro pins s σ H Q I h
  refine Subscript_ (thn (he pins s σ H _ I h) fun v s1 ⟨x, H1, I1, r1, q1⟩ => ?_)
  refine wpAny_Slice (thn (hl pins s1 σ H1 _ I1 q1) fun vl s2 ⟨l, H2, I2, pl, q2⟩ => thn (hu pins s2 σ H2 _ I2 q2) fun vu s3 ⟨u, H3, I3, pu, q3⟩ => ?_)
  rw [evalPart_none]
  refine wpAny_pure ?_
  have I4 : Inv X pins σ H3 { s3 with heap := s3.heap.push { cls := .type "slice", data := .fields #[vl, vu, .none] } } := I3.kept (t' := s3.toks) fun b ob q => Heap.get?_push_of_some _ q
  obtain ⟨T, id, hT, ht, hg⟩ := hr pins { s3 with heap := s3.heap.push { cls := .type "slice", data := .fields #[vl, vu, .none] } } σ H3 x v vl vu l u s3.heap.objs.size Q I4 r1 (Heap.IsSliceOf.new ..) pl pu q3
  show wpAny (model X.prog X.w) X.A (subscriptTail e (.Slice lo hi none p2) v (.ref s3.heap.objs.size)) (EP X pins σ Q) X.xe { s3 with heap := s3.heap.push { cls := .type "slice", data := .fields #[vl, vu, .none] } }
  exact tail_any (ops := [.ref s3.heap.objs.size, v]) ht hT hg (by with_unfolding_all rfl)

/-- the items of xs[lo:hi] -/
def cutV (xs : List V) (lo hi : Option Int) : List V := (xs.drop (HT.sIx xs.length 0 lo)).take (HT.sIx xs.length xs.length hi - HT.sIx xs.length 0 lo)
theorem cutV_length (xs : List V) (lo hi : Option Int) : (cutV xs lo hi).length ≤ xs.length := by
  unfold cutV
  rw [List.length_take, List.length_drop]
  omega
/-- t[lo:hi], not the whole of it (the whole would be t itself) -/
def rSlT (K : PySem.W.Frag) : V → Option Int → Option Int → Hp → VK → Prop := fun x lo hi H Q => ∃ a xs, x = .ref a ∧ SqT K H a xs ∧
  ¬ (HT.sIx xs.length 0 lo = 0 ∧ HT.sIx xs.length xs.length hi = xs.length) ∧ ∀ p, H p = none → Q (.ref p) (upd H p (.tup (cutV xs lo hi)))
theorem sl_tup : SlR X (rSlT X.K) := by
  intro pins s σ H x v vl vu lo hi sl Q I rx hs pl pu h
  obtain ⟨a, xs, rfl, hx, hw, q⟩ := h
  cases rx
  obtain ⟨its, r, ht, hz⟩ := I.tuple hx
  have hlen : its.toArray.size = xs.length := by rw [List.size_toArray]; exact r.length.symm
  refine ⟨"tuple", _, PyProof.Rows.slot_tuple_getitem.lookup, ht.typeIs, ?_⟩
  refine HT.getItem_tuple_cut ht hs pl pu (by rw [hlen]; exact hw) ?_ (by rw [hlen]; exact hz)
  rw [hlen]
  refine ⟨.ref s.heap.objs.size, _, I.laid (t' := s.toks) (o := .tup (cutV xs lo hi)) (fun b ob q => Heap.get?_push_of_some _ q) (Nat.le_refl _) ?_, rfl, q _ (I.hok.fresh (Nat.le_refl _))⟩
  exact ⟨Nat.le_trans (cutV_length xs lo hi) hz, _, (r.drop (HT.sIx xs.length 0 lo)).take (HT.sIx xs.length xs.length hi - HT.sIx xs.length 0 lo), IsTup.new _ _⟩

/-! ### t < u, t + u -/
def rLtT (K : PySem.W.Frag) : R2 := fun x y H Q => ∃ a b ns ms, x = .ref a ∧ y = .ref b ∧ SqT K H a (ns.map V.int) ∧ SqT K H b (ms.map V.int) ∧ Q (.bl (HT.lexLt ns ms)) H
theorem op_ltT (hu : X.A.units < cLine) : OpR X (compareOp .Lt) (rLtT X.K) := by
  intro pins s σ H x y v u Q I rx ry h
  obtain ⟨a, b, ns, ms, rfl, rfl, ha, hb, q⟩ := h
  cases rx
  cases ry
  obtain ⟨its, r1, p1, _⟩ := I.tuple ha
  obtain ⟨its2, r2, p2, _⟩ := I.tuple hb
  have i1 : IntsAre its.toArray.toList ns := intsAre_of r1
  have i2 : IntsAre its2.toArray.toList ms := intsAre_of r2
  exact HT.lt_tupInts p1 p2 i1 i2 hu ⟨.bl (HT.lexLt ns ms), H, I, rfl, q⟩
/-- t + u, t not empty: u empty gives t itself -/
def rCatT (K : PySem.W.Frag) : R2 := fun x y H Q => ∃ a b xs ys, x = .ref a ∧ y = .ref b ∧ SqT K H a xs ∧ SqT K H b ys ∧ xs ≠ [] ∧ xs.length + ys.length ≤ sizeLine ∧
  (ys = [] → Q (.ref a) H) ∧ (ys ≠ [] → ∀ p, H p = none → Q (.ref p) (upd H p (.tup (xs ++ ys))))
theorem Vals.nil_iff {xs : List V} {us : List Value} (r : Vals xs us) : us = [] ↔ xs = [] := by
  cases r with
  | nil => simp
  | cons _ _ => simp
theorem op_catT : OpR X (binaryOp .Add) (rCatT X.K) := by
  intro pins s σ H x y v u Q I rx ry h
  obtain ⟨a, b, xs, ys, rfl, rfl, ha, hb, hx, hz, q1, q2⟩ := h
  cases rx
  cases ry
  obtain ⟨its, r1, p1, _⟩ := I.tuple ha
  obtain ⟨its2, r2, p2, _⟩ := I.tuple hb
  refine HT.cat_tup p1 p2 (fun z => hx (r1.nil_iff.mp z)) (fun z => ⟨.ref a, H, I, rfl, q1 (r2.nil_iff.mp z)⟩) (fun z => ?_) (by rw [← r1.length, ← r2.length]; exact hz)
  refine ⟨.ref s.heap.objs.size, _, I.laid (t' := s.toks) (o := .tup (xs ++ ys)) (fun b ob q => Heap.get?_push_of_some _ q) (Nat.le_refl _) ?_, rfl, q2 (fun w => z (r2.nil_iff.mpr w)) _ (I.hok.fresh (Nat.le_refl _))⟩
  exact ⟨by rw [List.length_append]; exact hz, _, r1.append r2, IsTup.new _ _⟩
/-- tuple(t) -/
theorem call_tupleT : CallR X (.type "tuple") (fun xs H Q => ∃ a ys, xs = [.ref a] ∧ SqT X.K H a ys ∧ Q (.ref a) H) := by
  intro pins s σ H xs us Q I r h
  obtain ⟨a, ys, rfl, ha, q⟩ := h
  obtain ⟨u, rfl, ru⟩ := vals1 r
  cases ru
  obtain ⟨its, _, p1, _⟩ := I.tuple ha
  exact call_tuple_same (items := its.toArray) p1 ⟨.ref a, H, I, rfl, q⟩
end
end L2

namespace L2
open PySem PySem.Spec PyProof.Rows

/-! ### places -/
/-- the place that an index of any sign means -/
def ixN (n : Nat) (i : Int) : Option Nat := if 0 ≤ i then (if i < n then some i.toNat else none) else if -(n : Int) ≤ i then some (i + n).toNat else none
def atI {α : Type} (xs : List α) (i : Int) : Option α := (ixN xs.length i).bind fun j => xs[j]?
theorem ixN_seq {n : Nat} {i : Int} {j : Nat} (h : ixN n i = some j) : seqIndex? i n = some j ∧ j < n ∧ -(n : Int) ≤ i ∧ i < n := by
  unfold ixN at h
  by_cases h0 : 0 ≤ i
  · rw [if_pos h0] at h
    by_cases h1 : i < n
    · rw [if_pos h1] at h
      have e : i.toNat = j := Option.some.inj h
      exact ⟨by rw [seqIndex_of h0 h1, e], by omega, by omega, h1⟩
    · rw [if_neg h1] at h; cases h
  · rw [if_neg h0] at h
    by_cases h1 : -(n : Int) ≤ i
    · rw [if_pos h1] at h
      have e : (i + n).toNat = j := Option.some.inj h
      exact ⟨by rw [seqIndex_neg (by omega) h1, e], by omega, h1, by omega⟩
    · rw [if_neg h1] at h; cases h
theorem atI_get {α : Type} {xs : List α} {i : Int} {v : α} (h : atI xs i = some v) : ∃ j, seqIndex? i xs.length = some j ∧ xs[j]? = some v ∧ j < xs.length ∧ -(xs.length : Int) ≤ i ∧ i < xs.length := by
  unfold atI at h
  cases e : ixN xs.length i with
  | none => rw [e] at h; cases h
  | some j =>
    rw [e] at h
    obtain ⟨h1, h2, h3, h4⟩ := ixN_seq e
    exact ⟨j, h1, h, h2, h3, h4⟩
theorem atI_nat {α : Type} {xs : List α} {j : Nat} {v : α} (h : xs[j]? = some v) : atI xs (j : Int) = some v := by
  have hj : j < xs.length := (List.getElem?_eq_some_iff.mp h).1
  have e : ixN xs.length (j : Int) = some j := by
    unfold ixN
    rw [if_pos (by omega), if_pos (by omega)]; simp
  unfold atI; rw [e]; exact h
theorem atI_last {α : Type} (xs : List α) (v : α) : atI (xs ++ [v]) (-1) = some v := by
  have hl : (xs ++ [v]).length = xs.length + 1 := by simp
  have e : ixN (xs ++ [v]).length (-1) = some xs.length := by
    unfold ixN
    rw [hl, if_neg (by decide), if_pos (by omega)]
    congr 1
    omega
  unfold atI
  rw [e]
  show (xs ++ [v])[xs.length]? = some v
  simp

/-! ### what may be subscripted -/
/-- what stands as an index of a plain subscript -/
def PlainIx (b : Expr) : Prop := ∀ o i, subscripted b false o i = operate [o, i] (getItem o i)
/-- a subscript by values -/
def IxR (X : Cx) (r : R2) : Prop :=
  ∀ (value slice : Expr) (pins : List (Addr × Obj)) (s : Shared) (σ : St) (H : Hp) (x y : V) (v u : Value) (Q : VK), Inv X pins σ H s → RelV x v → RelV y u → r x y H Q →
    subscripted slice false v u = operate [v, u] (getItem v u) → wpAny (model X.prog X.w) X.A (subscriptTail value slice v u) (EP X pins σ Q) X.xe s
/-- a call of a builtin's method by values: the receiver, the arguments -/
def MtR (X : Cx) (id : String) (r : V → List V → Hp → VK → Prop) : Prop :=
  ∀ (pins : List (Addr × Obj)) (s : Shared) (σ : St) (H : Hp) (x : V) (xs : List V) (v : Value) (us : List Value) (Q : VK), Inv X pins σ H s → RelV x v → Vals xs us → r x xs H Q →
    wpAny (model X.prog X.w) X.A (call (.builtin id) (v :: us)) (EP X pins σ Q) X.xe s
section
variable {X : Cx} {a b : Expr} {ta tb : TE} {pos : Pos}
theorem IxR.or {r r' : R2} (h : IxR X r) (h' : IxR X r') : IxR X (fun x y H Q => r x y H Q ∨ r' x y H Q) := by
  intro value slice pins s σ H x y v u Q I rx ry q hs
  rcases q with q | q
  · exact h value slice pins s σ H x y v u Q I rx ry q hs
  · exact h' value slice pins s σ H x y v u Q I rx ry q hs
theorem MtR.or {id : String} {r r' : V → List V → Hp → VK → Prop} (h : MtR X id r) (h' : MtR X id r') : MtR X id (fun x xs H Q => r x xs H Q ∨ r' x xs H Q) := by
  intro pins s σ H x xs v us Q I rx rs q
  rcases q with q | q
  · exact h pins s σ H x xs v us Q I rx rs q
  · exact h' pins s σ H x xs v us Q I rx rs q
/-- a[b] -/
theorem pe_ix {r : R2} (hr : IxR X r) (ha : PE X a ta) (hb : PE X b tb) (hs : PlainIx b) : PE X (.Subscript a b pos) (tOp r ta tb) := by
  intro pins s σ H Q I h
  exact Subscript_ (binT ha hb I h fun v u s2 x y H2 I2 rx ry q => hr a b pins s2 σ H2 x y v u Q I2 rx ry q (hs _ _))

def rIxL (K : PySem.W.Frag) : R2 := fun x y H Q => ∃ p xs i v, x = .ref p ∧ y = .int i ∧ SqL K H p xs ∧ atI xs i = some v ∧ Q v H
def rIxT (K : PySem.W.Frag) : R2 := fun x y H Q => ∃ p xs i v, x = .ref p ∧ y = .int i ∧ SqT K H p xs ∧ atI xs i = some v ∧ Q v H
def rIxS : R2 := fun x y H Q => ∃ z i c, x = .str z ∧ y = .int i ∧ z.length ≤ sizeLine ∧ atI z.cps.toList i = some c ∧ Q (.str ⟨#[c]⟩) H
theorem ix_list : IxR X (rIxL X.K) := by
  intro value slice pins s σ H x y v u Q I rx ry h hs
  obtain ⟨p, xs, i, z, rfl, rfl, hq, he, q⟩ := h
  cases rx
  obtain ⟨t, rfl⟩ := ry
  obtain ⟨its, r, pl, hz⟩ := I.list hq
  obtain ⟨j, h1, h2, h3, h4, h5⟩ := atI_get he
  obtain ⟨w, ew, rw'⟩ := r.get h2
  have hl := r.length
  have hn := line63
  have fin : EP X pins σ Q w s := ⟨z, H, I, rw', q⟩
  by_cases h0 : 0 ≤ i
  · have hj : i.toNat = j := by
      rw [seqIndex_of h0 h5] at h1
      exact Option.some.inj h1
    exact item_listR pl.isList h0 (by omega) (by rw [hj]; simpa using ew) fin hs
  · have hj : (i + (its.toArray.size : Int)).toNat = j := by
      rw [seqIndex_neg (by omega) h4] at h1
      rw [List.size_toArray, ← hl]
      exact Option.some.inj h1
    exact subscriptTail_builtinR (x := w) pl.isList.typeIs slot_list_getitem.lookup
      (wpAny_getItem_list_neg (Q := fun r s' => r = w ∧ EP X pins σ Q r s') pl.isList (by omega) (by rw [List.size_toArray] <;> omega) (by omega) (by rw [hj]; simpa using ew) ⟨rfl, fin⟩) hs
theorem ix_tup : IxR X (rIxT X.K) := by
  intro value slice pins s σ H x y v u Q I rx ry h hs
  obtain ⟨p, xs, i, z, rfl, rfl, hq, he, q⟩ := h
  cases rx
  obtain ⟨t, rfl⟩ := ry
  obtain ⟨its, r, pl, hz⟩ := I.tuple hq
  obtain ⟨j, h1, h2, h3, h4, h5⟩ := atI_get he
  obtain ⟨w, ew, rw'⟩ := r.get h2
  have hl := r.length
  have hn := line63
  have fin : EP X pins σ Q w s := ⟨z, H, I, rw', q⟩
  exact subscriptTail_builtinR (x := w) pl.typeIs slot_tuple_getitem.lookup
    (getItem_tuple (j := j) (Q := fun r s' => r = w ∧ EP X pins σ Q r s') pl (by omega) (by omega) (by rw [List.size_toArray, ← hl]; exact h1) (by simpa using ew) ⟨rfl, fin⟩) hs
theorem ix_str : IxR X rIxS := by
  intro value slice pins s σ H x y v u Q I rx ry h hs
  obtain ⟨z, i, c, rfl, rfl, hz, he, q⟩ := h
  obtain ⟨t, rfl⟩ := rx
  obtain ⟨t', rfl⟩ := ry
  obtain ⟨j, h1, h2, h3, h4, h5⟩ := atI_get he
  have hl : z.cps.toList.length = z.length := by simp [Str.length]
  rw [hl] at h1 h4 h5
  have hn := line63
  exact tail_any (typeIs_str s z t) slot_str_getitem.lookup (getItem_str (c := c) (by
    have e1 : decide (i < -(2 ^ 63 : Int)) = false := decide_eq_false (by omega)
    have e2 : decide (i ≥ 2 ^ 63) = false := decide_eq_false (by omega)
    rw [e1, e2, Bool.or_false]) (by rw [h1]; simpa using h2) ⟨.str ⟨#[c]⟩, H, I.tok _, ⟨_, rfl⟩, q⟩) hs
/-- list, tuple or str -/
def rIx (K : PySem.W.Frag) : R2 := fun x y H Q => rIxL K x y H Q ∨ rIxT K x y H Q ∨ rIxS x y H Q
theorem ix_seq : IxR X (rIx X.K) := ix_list.or (ix_tup.or ix_str)

/-! ### xs[i] = v, any sign -/
/-- the list's object behind a store -/
theorem mapSeq_set (its : List Value) (n j : Nat) (u : Value) : Obj.mapSeq (·.setIfInBounds j u) { cls := .type "list", data := .seq its.toArray n } = { cls := .type "list", data := .seq (its.set j u).toArray n } := by
  simp [Obj.mapSeq]
theorem Inv.lst {pins : List (Addr × Obj)} {σ : St} {H : Hp} {s : Shared} {p : Addr} {xs : List V} (I : Inv X pins σ H s) (h : H p = some (.lst xs)) :
    ∃ (its : List Value) (n : Nat), Vals xs its ∧ s.heap.get? p = some { cls := .type "list", data := .seq its.toArray n } ∧ xs.length ≤ sizeLine := by
  obtain ⟨z, its, n, r, e⟩ := I.hok p _ h
  exact ⟨its, n, r, e, z⟩
/-- the list at p is written by an update of its object -/
theorem Inv.lstUpd {pins : List (Addr × Obj)} {σ : St} {H : Hp} {s : Shared} {p : Addr} {xs ys : List V} {its its' : List Value} {n n' : Nat} {f : Obj → Obj} (I : Inv X pins σ H s) (h : H p = some (.lst xs))
    (ho : s.heap.get? p = some { cls := .type "list", data := .seq its.toArray n }) (hf : f { cls := .type "list", data := .seq its.toArray n } = { cls := .type "list", data := .seq its'.toArray n' }) (r : Vals ys its') (hz : ys.length ≤ sizeLine) (t : Nat) :
    Inv X pins σ (upd H p (.lst ys)) { s with heap := s.heap.update p f, toks := t } := by
  have e : (s.heap.update p f).get? p = some { cls := .type "list", data := .seq its'.toArray n' } := by
    rw [Heap.get?_update_self f ho (by rw [hf] <;> rfl), hf]
  refine I.write (x := p) (e := p) (by rw [h]; trivial) (.inl rfl) (fun b u hb q => (Heap.get?_update_other _ _ (Ne.symm hb)).trans q) ⟨_, e⟩ ?_
  exact ⟨hz, its', n', r, e⟩
def rSetL : V → V → V → Hp → (Hp → Prop) → Prop := fun o i v H Q => ∃ p xs k j, o = .ref p ∧ i = .int k ∧ H p = some (.lst xs) ∧ ixN xs.length k = some j ∧ Q (upd H p (.lst (xs.set j v)))
theorem set_list : PSet X rSetL := by
  intro pins s σ H o i v ov iv u Q I ro ri rv h
  obtain ⟨p, xs, k, j, rfl, rfl, hp, hj, q⟩ := h
  cases ro
  obtain ⟨t, rfl⟩ := ri
  obtain ⟨its, n, r, ho, hz⟩ := I.lst hp
  obtain ⟨h1, h2, h3, h4⟩ := ixN_seq hj
  have hl := r.length
  have hn := line63
  have I' : Inv X pins σ (upd H p (.lst (xs.set j v))) { s with heap := s.heap.update p (Obj.mapSeq (·.setIfInBounds j u)) } :=
    I.lstUpd hp ho (mapSeq_set its n j u) (r.set rv j) (by rw [List.length_set]; exact hz) s.toks
  by_cases h0 : 0 ≤ k
  · have hk : k.toNat = j := by
      rw [seqIndex_of h0 h4] at h1
      exact Option.some.inj h1
    exact PySem.W.ki_setAt ho h0 (by omega) (by rw [List.size_toArray, ← hl]; exact h4) (by rw [hk]; exact ⟨_, I', q⟩)
  · have hk : (k + (its.toArray.size : Int)).toNat = j := by
      rw [seqIndex_neg (by omega) h3] at h1
      rw [List.size_toArray, ← hl]
      exact Option.some.inj h1
    exact PySem.W.ki_setBack ho (by omega) (by rw [List.size_toArray, ← hl]; exact h3) (by omega) (by rw [hk]; exact ⟨_, I', q⟩)

/-! ### slices -/
theorem slice_bounds (lo hi : Option Int) (n : Nat) : (sliceBounds lo hi none n).1 = ((HT.sIx n 0 lo : Nat) : Int) ∧ (sliceBounds lo hi none n).2.1 = ((HT.sIx n n hi : Nat) : Int) ∧ (sliceBounds lo hi none n).2.2 = 1 := by
  refine ⟨?_, ?_, rfl⟩
  · cases lo with
    | none => simp [sliceBounds, HT.sIx]
    | some i =>
      simp only [sliceBounds, HT.sIx, Option.getD_none, show (1 : Int) > 0 by decide, if_true]
      by_cases h : i < 0
      · simp only [h, if_true] <;> omega
      · simp only [h, if_false] <;> omega
  · cases hi with
    | none => simp [sliceBounds, HT.sIx]
    | some i =>
      simp only [sliceBounds, HT.sIx, Option.getD_none, show (1 : Int) > 0 by decide, if_true]
      by_cases h : i < 0
      · simp only [h, if_true] <;> omega
      · simp only [h, if_false] <;> omega
theorem slicePick_cut (its : List Value) (lo hi : Option Int) : slicePick its.toArray lo hi none = ((its.drop (HT.sIx its.length 0 lo)).take (HT.sIx its.length its.length hi - HT.sIx its.length 0 lo)).toArray := by
  obtain ⟨h1, h2, h3⟩ := slice_bounds lo hi its.toArray.size
  unfold slicePick
  rw [h1, h2, h3]
  simp only [sliceRange_one, pick_run, List.size_toArray] <;> rfl
/-- xs[lo:hi] of a list: a new list -/
def rSlL (K : PySem.W.Frag) : V → Option Int → Option Int → Hp → VK → Prop := fun x lo hi H Q => ∃ a xs, x = .ref a ∧ SqL K H a xs ∧ ∀ p, H p = none → Q (.ref p) (upd H p (.lst (cutV xs lo hi)))
theorem sl_list : SlR X (rSlL X.K) := by
  intro pins s σ H x v vl vu lo hi sl Q I rx hs pl pu h
  obtain ⟨a, xs, rfl, hx, q⟩ := h
  cases rx
  obtain ⟨its, r, ht, hz⟩ := I.list hx
  have hlen := r.length
  refine ⟨"list", _, slot_list_getitem.lookup, ht.isList.typeIs, ?_⟩
  refine wpAny_getItem_list_slice ht.isList hs pl pu .none (by simp) ?_ (by rw [List.size_toArray] <;> omega)
  rw [slicePick_cut, ← hlen]
  refine ⟨.ref s.heap.objs.size, _, I.laid (t' := s.toks) (o := .lst (cutV xs lo hi)) (fun b ob q => Heap.get?_push_of_some _ q) (Nat.le_refl _) ?_, rfl, q _ (I.hok.fresh (Nat.le_refl _))⟩
  exact ⟨Nat.le_trans (cutV_length xs lo hi) hz, _, 0, (r.drop (HT.sIx xs.length 0 lo)).take (HT.sIx xs.length xs.length hi - HT.sIx xs.length 0 lo), Heap.get?_push_size _ rfl⟩

/-! ### in, not in: flat items -/
def flatV : V → Bool
  | .non => true
  | .bl _ => true
  | .int _ => true
  | .str _ => true
  | _ => false
/-- == of flat values -/
def eqV : V → V → Bool
  | .non, .non => true
  | .bl a, .bl b => a == b
  | .bl a, .int b => (if a then 1 else 0) == b
  | .int a, .bl b => a == (if b then 1 else 0)
  | .int a, .int b => a == b
  | .str a, .str b => a == b
  | _, _ => false
theorem eqAt_V {A : Around} {s : Shared} {y x : V} {u v : Value} (ry : RelV y u) (rx : RelV x v) (fy : flatV y = true) (fx : flatV x = true) : SeqAt.EqAt A s u v (eqV y x) := by
  cases y with
  | non =>
    cases ry
    cases x with
    | non => cases rx; exact SeqAt.EqAt.same _
    | bl b => cases rx; exact SeqAt.EqAt.none_bool b
    | int b => obtain ⟨t, rfl⟩ := rx; exact SeqAt.EqAt.none_int b t
    | str b => obtain ⟨t, rfl⟩ := rx; exact SeqAt.EqAt.none_str b t
    | _ => exact absurd (show false = true from fx) Bool.false_ne_true
  | bl a =>
    cases ry
    cases x with
    | non => cases rx; exact SeqAt.EqAt.bool_none a
    | bl b => cases rx; exact SeqAt.EqAt.bool_bool a b
    | int b => obtain ⟨t, rfl⟩ := rx; exact SeqAt.EqAt.bool_int a b t
    | str b => obtain ⟨t, rfl⟩ := rx; exact SeqAt.EqAt.bool_str a b t
    | _ => exact absurd (show false = true from fx) Bool.false_ne_true
  | int a =>
    obtain ⟨t', rfl⟩ := ry
    cases x with
    | non => cases rx; exact SeqAt.EqAt.int_none a t'
    | bl b => cases rx; exact SeqAt.EqAt.int_bool a t' b
    | int b => obtain ⟨t, rfl⟩ := rx; exact SeqAt.EqAt.int_int a t' b t
    | str b => obtain ⟨t, rfl⟩ := rx; exact SeqAt.EqAt.int_str a t' b t
    | _ => exact absurd (show false = true from fx) Bool.false_ne_true
  | str a =>
    obtain ⟨t', rfl⟩ := ry
    cases x with
    | non => cases rx; exact SeqAt.EqAt.str_none a t'
    | bl b => cases rx; exact SeqAt.EqAt.str_bool a t' b
    | int b => obtain ⟨t, rfl⟩ := rx; exact SeqAt.EqAt.str_int a t' b t
    | str b => obtain ⟨t, rfl⟩ := rx; exact SeqAt.EqAt.str_str a t' b t
    | _ => exact absurd (show false = true from fx) Bool.false_ne_true
  | _ => exact absurd (show false = true from fy) Bool.false_ne_true
/-- the items' answers, read off the values (a value's own answer does not lean on its token) -/
def eqU (x : V) (u : Value) : Bool := match u with
  | .none => eqV .non x
  | .bool b => eqV (.bl b) x
  | .int i _ => eqV (.int i) x
  | .str z _ => eqV (.str z) x
  | _ => false
theorem eqU_of {x y : V} {u : Value} (r : RelV y u) (f : flatV y = true) : eqU x u = eqV y x := by
  cases y with
  | non => cases r; rfl
  | bl b => cases r; rfl
  | int i => obtain ⟨t, rfl⟩ := r; rfl
  | str z => obtain ⟨t, rfl⟩ := r; rfl
  | _ => exact absurd (show false = true from f) Bool.false_ne_true
theorem any_eqU {x : V} : ∀ {xs : List V} {us : List Value}, Vals xs us → xs.all flatV = true → us.any (eqU x) = xs.any fun y => eqV y x
  | _, _, .nil, _ => rfl
  | y :: xs, u :: us, .cons r t, f => by
    rw [List.all_cons, Bool.and_eq_true] at f
    rw [List.any_cons, List.any_cons, eqU_of r f.1, any_eqU t f.2]
theorem mem_eqAt {A : Around} {s : Shared} {x : V} {v : Value} (rx : RelV x v) (fx : flatV x = true) : ∀ {xs : List V} {us : List Value}, Vals xs us → xs.all flatV = true → ∀ u ∈ us, SeqAt.EqAt A s u v (eqU x u)
  | _, _, .nil, _ => fun u hu => by cases hu
  | y :: xs, u :: us, .cons r t, f => fun u' hu => by
    rw [List.all_cons, Bool.and_eq_true] at f
    rcases List.mem_cons.mp hu with rfl | hu
    · rw [eqU_of r f.1]; exact eqAt_V r rx f.1 fx
    · exact mem_eqAt rx fx t f.2 u' hu
def inV (x : V) (xs : List V) : Bool := xs.any fun y => eqV y x
/-- x in a list or tuple of flat items -/
def rIn (K : PySem.W.Frag) (neg : Bool) : R2 := fun x y H Q => ∃ p xs, y = .ref p ∧ (SqL K H p xs ∨ SqT K H p xs) ∧ flatV x = true ∧ xs.all flatV = true ∧ Q (.bl (if neg then !inV x xs else inV x xs)) H
theorem op_in_seq : OpR X (compareOp .In) (rIn X.K false) := by
  intro pins s σ H x y v u Q I rx ry h
  obtain ⟨p, xs, rfl, hq, fx, fs, q⟩ := h
  cases ry
  rcases hq with hq | hq
  · obtain ⟨its, r, pl, hz⟩ := I.list hq
    refine SeqAt.in_listAt (eqU x) pl.isList (fun w hw => mem_eqAt rx fx r fs w (by simpa using hw)) ⟨.bl _, H, I, rfl, ?_⟩
    rw [show its.toArray.any (eqU x) = its.any (eqU x) by simp, any_eqU r fs]
    exact q
  · obtain ⟨its, r, pl, hz⟩ := I.tuple hq
    refine SeqAt.in_tupleAt (eqU x) pl (fun w hw => mem_eqAt rx fx r fs w (by simpa using hw)) ⟨.bl _, H, I, rfl, ?_⟩
    rw [show its.toArray.any (eqU x) = its.any (eqU x) by simp, any_eqU r fs]
    exact q
theorem op_notIn_seq : OpR X (compareOp .NotIn) (rIn X.K true) := by
  intro pins s σ H x y v u Q I rx ry h
  obtain ⟨p, xs, rfl, hq, fx, fs, q⟩ := h
  cases ry
  rcases hq with hq | hq
  · obtain ⟨its, r, pl, hz⟩ := I.list hq
    refine SeqAt.notIn_listAt (eqU x) pl.isList (fun w hw => mem_eqAt rx fx r fs w (by simpa using hw)) ⟨.bl _, H, I, rfl, ?_⟩
    rw [show its.toArray.any (eqU x) = its.any (eqU x) by simp, any_eqU r fs]
    exact q
  · obtain ⟨its, r, pl, hz⟩ := I.tuple hq
    refine SeqAt.notIn_tupleAt (eqU x) pl (fun w hw => mem_eqAt rx fx r fs w (by simpa using hw)) ⟨.bl _, H, I, rfl, ?_⟩
    rw [show its.toArray.any (eqU x) = its.any (eqU x) by simp, any_eqU r fs]
    exact q
theorem op_notIn_str : OpR X (compareOp .NotIn) (fun x y H Q => ∃ i j, x = .str i ∧ y = .str j ∧ Q (.bl (!(!(Builtin.Str.occurrences j i 0 j.length 1).isEmpty))) H) := by
  intro pins s σ H x y v u Q I rx ry h
  obtain ⟨i, j, rfl, rfl, q⟩ := h
  obtain ⟨t, rfl⟩ := rx
  obtain ⟨t', rfl⟩ := ry
  exact notIn_str ⟨.bl _, H, I, rfl, q⟩

/-! ### len, list(x), tuple(x) of any list or tuple that is read -/
theorem call_len_seq : CallR X (.builtin "len") (fun xs H Q => ∃ p ys, xs = [.ref p] ∧ (SqL X.K H p ys ∨ SqT X.K H p ys) ∧ Q (.int ys.length) H) := by
  intro pins s σ H xs us Q I r h
  obtain ⟨p, ys, rfl, hq, q⟩ := h
  obtain ⟨u, rfl, rx⟩ := vals1 r
  cases rx
  have hn := line63
  rcases hq with hq | hq
  · obtain ⟨its, r', pl, hz⟩ := I.list hq
    have hlen := r'.length
    exact Calls.call_len_list pl.isList (by simp only [List.size_toArray] <;> omega) ⟨.int ys.length, H, I.tok _, ⟨s.toks + 1, by rw [List.size_toArray, hlen]⟩, q⟩
  · obtain ⟨its, r', pl, hz⟩ := I.tuple hq
    have hlen := r'.length
    exact len_tuple pl (by simp only [List.size_toArray] <;> omega) ⟨.int ys.length, H, I.tok _, ⟨s.toks + 1, by rw [List.size_toArray, hlen]⟩, q⟩
theorem call_len_str : CallR X (.builtin "len") (fun xs H Q => ∃ z, xs = [.str z] ∧ z.length ≤ sizeLine ∧ Q (.int z.length) H) := by
  intro pins s σ H xs us Q I r h
  obtain ⟨z, rfl, hz, q⟩ := h
  obtain ⟨u, rfl, t, rfl⟩ := vals1 r
  have hn := line63
  exact len_str (by omega) ⟨.int z.length, H, I.tok _, ⟨_, rfl⟩, q⟩
theorem CallR.or {f : Value} {r r' : List V → Hp → VK → Prop} (h : CallR X f r) (h' : CallR X f r') : CallR X f (fun xs H Q => r xs H Q ∨ r' xs H Q) := by
  intro pins s σ H xs us Q I rs q
  rcases q with q | q
  · exact h pins s σ H xs us Q I rs q
  · exact h' pins s σ H xs us Q I rs q
theorem call_list_of : CallR X (.type "list") (fun xs H Q => ∃ p ys, xs = [.ref p] ∧ (SqL X.K H p ys ∨ SqT X.K H p ys) ∧ ∀ l, H l = none → Q (.ref l) (upd H l (.lst ys))) := by
  intro pins s σ H xs us Q I r h
  obtain ⟨p, ys, rfl, hq, q⟩ := h
  obtain ⟨u, rfl, rx⟩ := vals1 r
  cases rx
  have fin : ∀ (its : List Value), Vals ys its → ys.length ≤ sizeLine → ∀ (h' : Heap) (c' : Nat), (∀ b o', s.heap.get? b = some o' → h'.get? b = some o') →
      h'.get? s.heap.objs.size = some { cls := .type "list", dict := none, data := .seq its.toArray c', slots := #[] } → EP X pins σ Q (.ref s.heap.objs.size) { s with heap := h' } := fun its r' hz h' c' kp e =>
    ⟨.ref s.heap.objs.size, _, I.laid (t' := s.toks) kp (Nat.le_refl _) (show ObjOk X.prog X.w _ h' _ (.lst ys) from ⟨hz, its, c', r', e⟩), rfl, q _ (I.hok.fresh (Nat.le_refl _))⟩
  rcases hq with hq | hq
  · obtain ⟨its, r', pl, hz⟩ := I.list hq
    have hlen := r'.length
    obtain ⟨o, ho, hc, n, hd⟩ := pl.isList
    exact call_list_seq p (.inl rfl) ho hc hd (fun h' c' kp e => fin its r' hz h' c' kp e) (by simp only [List.size_toArray] <;> omega)
  · obtain ⟨its, r', pl, hz⟩ := I.tuple hq
    have hlen := r'.length
    obtain ⟨o, ho, hc, n, hd⟩ := pl
    exact call_list_seq p (.inr rfl) ho hc hd (fun h' c' kp e => fin its r' hz h' c' kp e) (by simp only [List.size_toArray] <;> omega)
theorem call_tuple_of : CallR X (.type "tuple") (fun xs H Q => ∃ p ys, xs = [.ref p] ∧ ((SqL X.K H p ys ∧ ∀ l, H l = none → Q (.ref l) (upd H l (.tup ys))) ∨ (SqT X.K H p ys ∧ Q (.ref p) H))) := by
  intro pins s σ H xs us Q I r h
  obtain ⟨p, ys, rfl, h⟩ := h
  obtain ⟨u, rfl, rx⟩ := vals1 r
  cases rx
  rcases h with ⟨hq, q⟩ | ⟨hq, q⟩
  · obtain ⟨its, r', pl, hz⟩ := I.list hq
    have hlen := r'.length
    refine call_tuple_list pl.isList (fun h' kp => ?_) (by simp only [List.size_toArray] <;> omega)
    have I1 : Inv X pins σ H { s with heap := h' } := I.kept (t' := s.toks) kp
    have I2 : Inv X pins σ (upd H h'.objs.size (.tup ys)) { s with heap := h'.push { cls := .type "tuple", data := .seq its.toArray } } :=
      I1.laid (t' := s.toks) (fun b o e => Heap.get?_push_of_some _ e) (Nat.le_refl _) (show ObjOk X.prog X.w _ _ _ (.tup ys) from ⟨hz, its, r', IsTup.new _ _⟩)
    exact ⟨.ref h'.objs.size, _, I2, rfl, q _ (I1.hok.fresh (Nat.le_refl _))⟩
  · obtain ⟨its, r', pl, hz⟩ := I.tuple hq
    exact call_tuple_same pl ⟨.ref p, H, I, rfl, q⟩

/-! ### the call of a builtin's method: o.m(..) -/
/-- the value is of that builtin type -/
def tyV (K : PySem.W.Frag) (T : String) (x : V) (H : Hp) : Prop := match x with
  | .str _ => T = "str"
  | .int _ => T = "int"
  | .ref p => (T = "list" ∧ ∃ xs, SqL K H p xs) ∨ (T = "tuple" ∧ ∃ o, K.lookup p = some o ∧ o.cls = .type "tuple" ∧ o.dict = none) ∨
      (T = "dict" ∧ ((∃ kvs, H p = some (.dK kvs)) ∨ ∃ kvs, H p = some (.dT kvs))) ∨ (T = "set" ∧ ∃ S n, H p = some (.set S n))
  | _ => False
theorem tyV_is {pins : List (Addr × Obj)} {σ : St} {H : Hp} {s : Shared} {T : String} {x : V} {v : Value} (I : Inv X pins σ H s) (r : RelV x v) (ty : tyV X.K T x H) :
    s.TypeIs v T ∧ ∀ a, v = .ref a → ∃ ob, s.heap.get? a = some ob ∧ ob.dict = none := by
  cases x with
  | str z =>
    obtain ⟨t, rfl⟩ := r
    cases (show T = "str" from ty)
    exact ⟨typeIs_str s z t, fun _ e => nomatch e⟩
  | int i =>
    obtain ⟨t, rfl⟩ := r
    cases (show T = "int" from ty)
    exact ⟨typeIs_int s i t, fun _ e => nomatch e⟩
  | ref p =>
    cases r
    rcases ty with ⟨rfl, xs, hq⟩ | ⟨rfl, o, hk, hc, hd⟩ | ⟨rfl, hk⟩ | ⟨rfl, S, n, hk⟩
    · obtain ⟨its, _, pl, _⟩ := I.list hq
      refine ⟨pl.isList.typeIs, fun a e => ?_⟩
      cases e
      obtain ⟨o, n, e, c, hd, _⟩ := pl
      exact ⟨o, e, hd⟩
    · refine ⟨⟨o, I.kIn p o hk, hc⟩, fun a e => ?_⟩
      cases e
      exact ⟨o, I.kIn _ o hk, hd⟩
    · have z : ∃ o, s.heap.get? p = some o ∧ o.ExactDict := by
        rcases hk with ⟨kvs, hk⟩ | ⟨kvs, hk⟩
        · obtain ⟨_, _, _, _, o, _, _, e, ex, _⟩ := I.hok p _ hk
          exact ⟨o, e, ex⟩
        · obtain ⟨_, _, _, _, o, _, _, e, ex, _⟩ := I.hok p _ hk
          exact ⟨o, e, ex⟩
      obtain ⟨o, e, ex⟩ := z
      refine ⟨⟨o, e, ex.1⟩, fun a e2 => ?_⟩
      cases e2
      exact ⟨o, e, ex.2.1⟩
    · obtain ⟨o, _, _, _, e, ex, _⟩ := I.hok p _ hk
      refine ⟨⟨o, e, ex.1⟩, fun a e2 => ?_⟩
      cases e2
      exact ⟨o, e, ex.2.1⟩
  | _ => exact False.elim ty
def tBM0 (K : PySem.W.Frag) (T : String) (r : V → List V → Hp → VK → Prop) (to : TE) : TE := fun σ H Q => to σ H fun x H1 => tyV K T x H1 ∧ r x [] H1 Q
def tBM (K : PySem.W.Frag) (T : String) (r : V → List V → Hp → VK → Prop) (to : TE) (t : TA) : TE := fun σ H Q => to σ H fun x H1 => tyV K T x H1 ∧ t σ H1 fun xs H2 => r x xs H2 Q
variable {o e : Expr} {es : List Expr} {to : TE} {t : TA} {name : Str} {apos cpos : Pos} {T id : String} {r : V → List V → Hp → VK → Prop}
theorem pe_bm0 (pa : PlainAttrs T) (slot : Slot T name id) (hty : typeOf (.builtin id) = pure (.type "method_descriptor")) (hm : MtR X id r) (ho : PE X o to)
    (hbase : attributeBase o name X.env (eval o X.env) = eval o X.env := by rfl) (hline : (apos.endLine == cpos.line) = true := by rfl) : PE X (.Call (.Attribute o name apos) [] [] cpos) (tBM0 X.K T r to) := by
  intro pins s σ H Q I h
  refine wpAny_Call_method0_late hbase hline (thn (ho pins s σ H _ I h) fun v s1 ⟨x, H1, I1, r1, ty, q1⟩ => ?_)
  obtain ⟨h1, h2⟩ := tyV_is I1 r1 ty
  exact ⟨T, id, pa, slot, hty, h1, h2, Calls.callWith_builtin rfl (PySem.evalArgs_none (hm pins s1 σ H1 x [] v [] Q I1 r1 .nil q1))⟩
theorem pe_bm (pa : PlainAttrs T) (slot : Slot T name id) (hty : typeOf (.builtin id) = pure (.type "method_descriptor")) (hm : MtR X id r) (ho : PE X o to) (ha : PA X (e :: es) t)
    (hbase : attributeBase o name X.env (eval o X.env) = eval o X.env := by rfl)
    (hfew : ((backTo cpos (starEach (e :: es) X.env)).all (fun x => !x.1) && (backToKw cpos (keywordEach [] X.env)).all (fun x => x.1.isSome)
      && decide ((e :: es).length + ([] : List Keyword).length + (if ([] : List Keyword).isEmpty then 0 else 1) < 30)) = true := by rfl)
    (hline : (apos.endLine == cpos.line) = true := by rfl) (hs : starEach (e :: es) X.env = (false, eval e X.env) :: starEach es X.env := by rfl) (hplain : (backTo cpos (starEach es X.env)).any (·.1) = false := by rfl) :
    PE X (.Call (.Attribute o name apos) (e :: es) [] cpos) (tBM X.K T r to t) := by
  intro pins s σ H Q I h
  refine wpAny_Call_method_late hbase hfew hline rfl (thn (ho pins s σ H _ I h) fun v s1 ⟨x, H1, I1, r1, ty, q1⟩ => ?_)
  obtain ⟨h1, h2⟩ := tyV_is I1 r1 ty
  refine ⟨T, id, pa, slot, hty, h1, h2, ?_⟩
  have hA := ha cpos pins s1 σ H1 _ I1 q1
  rw [hs] at hA ⊢
  refine Calls.callWith_builtin (by show (false || (backTo cpos (starEach es X.env)).any (·.1)) = false; rw [hplain] <;> rfl) (Calls.evalArgs_plain ?_)
  exact thn hA fun us s2 ⟨vs, H2, I2, r2, q2⟩ => hm pins s2 σ H2 x vs v us Q I2 r1 r2 q2
/- xs.append(e), list.index on a module's tuple .. are MtR facts of 06m -/
end
end L2

namespace L2
open PySem PySem.Spec PyProof.Rows

def MtM (X : Cx) (id : String) (r : V → List V → Hp → VK → Prop) : Prop :=
  ∀ (pins : List (Addr × Obj)) (s : Shared) (σ : St) (H : Hp) (x : V) (xs : List V) (v : Value) (us : List Value) (Q : VK), Inv X pins σ H s → RelV x v → Vals xs us → r x xs H Q →
    wpAny (model X.prog X.w) X.A (call (.builtin id) (v :: us)) (EP X pins σ Q) X.xe s

/-! ### lists of values -/
theorem Vals.one : ∀ {x : V} {us : List Value}, Vals [x] us → ∃ u, us = [u] ∧ RelV x u
  | _, _, .cons r .nil => ⟨_, rfl, r⟩
theorem Vals.two : ∀ {x y : V} {us : List Value}, Vals [x, y] us → ∃ u v, us = [u, v] ∧ RelV x u ∧ RelV y v
  | _, _, _, .cons r (.cons q .nil) => ⟨_, _, rfl, r, q⟩
theorem Vals.zero : ∀ {us : List Value}, Vals [] us → us = []
  | _, .nil => rfl
theorem Vals.dropLast {xs : List V} {us : List Value} (h : Vals xs us) : Vals xs.dropLast us.dropLast := by
  induction h with
  | nil => exact .nil
  | cons r t ih =>
    cases t with
    | nil => exact .nil
    | cons q t' => exact .cons r ih
theorem Vals.eraseIdx : ∀ {xs : List V} {us : List Value} (i : Nat), Vals xs us → Vals (xs.eraseIdx i) (us.eraseIdx i)
  | _, _, _, .nil => .nil
  | _, _, 0, .cons _ t => t
  | _, _, i + 1, .cons r t => .cons r (Vals.eraseIdx i t)
theorem Vals.reverse {xs : List V} {us : List Value} (h : Vals xs us) : Vals xs.reverse us.reverse := by
  induction h with
  | nil => exact .nil
  | cons r t ih => rw [List.reverse_cons, List.reverse_cons]; exact Vals.append ih (.cons r .nil)
theorem Vals.rep {xs : List V} {us : List Value} (h : Vals xs us) : ∀ k : Nat, Vals (List.replicate k xs).flatten (List.replicate k us).flatten
  | 0 => .nil
  | k + 1 => by
    rw [List.replicate_succ, List.replicate_succ, List.flatten_cons, List.flatten_cons]
    exact Vals.append h (Vals.rep h k)
theorem erase_last {α : Type} (l : List α) : l.eraseIdx (l.length - 1) = l.dropLast := by
  induction l with
  | nil => rfl
  | cons a r ih =>
    cases r with
    | nil => rfl
    | cons b r =>
      have e : (a :: b :: r).length - 1 = ((b :: r).length - 1) + 1 := by
        have h1 : (a :: b :: r).length = r.length + 2 := rfl
        have h2 : (b :: r).length = r.length + 1 := rfl
        omega
      rw [e, List.eraseIdx_cons_succ, ih]
      all_goals rfl
theorem len_erase {α : Type} : ∀ (l : List α) (i : Nat), (l.eraseIdx i).length ≤ l.length
  | [], _ => Nat.le_refl _
  | _ :: _, 0 => Nat.le_succ _
  | _ :: r, i + 1 => Nat.succ_le_succ (len_erase r i)
theorem foldl_rep (its : List Value) : ∀ (k : Nat) (acc : List Value),
    List.foldl (fun x1 x2 => x1 ++ x2) acc.toArray (List.replicate k its.toArray) = (acc ++ (List.replicate k its).flatten).toArray
  | 0, acc => by simp
  | k + 1, acc => by
    have e : acc.toArray ++ its.toArray = (acc ++ its).toArray := by simp
    have e2 : (acc ++ its) ++ (List.replicate k its).flatten = acc ++ (List.replicate (k + 1) its).flatten := by
      rw [List.replicate_succ, List.flatten_cons, List.append_assoc]
    rw [← e2, ← foldl_rep its k (acc ++ its), ← e, List.replicate_succ, List.foldl_cons]

section
variable {X : Cx} {pins : List (Addr × Obj)} {σ : St} {H : Hp} {s : Shared} {l b : Addr} {xs ys zs : List V}

/-! ### the two steps: a tracked list is rewritten, a new list is laid -/
theorem Inv.lset {its its' : List Value} {n : Nat} {f : Array Value → Array Value} {t' : Nat} (I : Inv X pins σ H s) (hH : H l = some (.lst xs))
    (e : s.heap.get? l = some { cls := .type "list", data := .seq its.toArray n }) (hf : f its.toArray = its'.toArray) (hv : Vals ys its') (hz : ys.length ≤ sizeLine) :
    Inv X pins σ (upd H l (.lst ys)) { s with heap := s.heap.update l (Obj.mapSeq f), toks := t' } := by
  have q := PySem.IsL.update e f
  rw [hf] at q
  refine I.write (x := l) (e := l) (by rw [hH]; exact trivial) (.inl rfl) (fun b' u hb hu => (Heap.get?_update_other s.heap (Obj.mapSeq f) (Ne.symm hb)).trans hu) ⟨_, q⟩ ?_
  exact ⟨hz, its', _, hv, q⟩
theorem Inv.lnew {its : List Value} {t' : Nat} (I : Inv X pins σ H s) (hv : Vals ys its) (hz : ys.length ≤ sizeLine) :
    Inv X pins σ (upd H s.heap.objs.size (.lst ys)) { s with heap := s.heap.push { cls := .type "list", data := .seq its.toArray }, toks := t' } :=
  I.laid (fun _ _ q => Heap.get?_push_of_some _ q) (Nat.le_refl _) ⟨hz, its, 0, hv, Heap.get?_push_size _ rfl⟩
theorem Inv.fresh (I : Inv X pins σ H s) : H s.heap.objs.size = none := I.hok.fresh (Nat.le_refl _)
theorem Inv.lstM (I : Inv X pins σ H s) (hH : H l = some (.lst xs)) : xs.length ≤ sizeLine ∧ ∃ (its : List Value) (n : Nat), Vals xs its ∧ xs.length = its.length ∧ s.heap.get? l = some { cls := .type "list", data := .seq its.toArray n } := by
  obtain ⟨z, its, n, r, e⟩ := I.hok l _ hH
  exact ⟨z, its, n, r, r.length, e⟩

theorem notLongL {n : Nat} (h : n ≤ sizeLine) : Builtin.List.listTooLong n = false := by
  unfold Builtin.List.listTooLong
  exact decide_eq_false (by omega)
end

section
variable {X : Cx}

/-! ### methods -/
def rAppend : V → List V → Hp → VK → Prop := fun x vs H Q => ∃ l xs y, x = .ref l ∧ vs = [y] ∧ H l = some (.lst xs) ∧ xs.length < sizeLine ∧ Q .non (upd H l (.lst (xs ++ [y])))
theorem mt_append : MtM X "list.append" rAppend := by
  intro pins s σ H x vs v us Q I rx rv h
  obtain ⟨l, xs, y, rfl, rfl, hH, hz, q⟩ := h
  cases rx
  obtain ⟨u, rfl, ru⟩ := rv.one
  obtain ⟨z, its, n, r, hl, e⟩ := I.lstM hH
  refine call_meets F.slot_list_append ⟨_, e, rfl⟩ F.entry_list_append (F.args_list_append_2 _ _) (PySem.list_append l its.toArray n u (by rw [List.size_toArray]; omega)) ⟨e, ?_⟩
  refine ⟨.non, _, I.lset (its' := its ++ [u]) hH e (by simp) (r.append (.cons ru .nil)) ?_, rfl, q⟩
  rw [List.length_append, List.length_singleton]
  omega

def rExtend : V → List V → Hp → VK → Prop := fun x vs H Q => ∃ l b xs zs, x = .ref l ∧ vs = [.ref b] ∧ H l = some (.lst xs) ∧ H b = some (.lst zs) ∧ xs.length + zs.length ≤ sizeLine ∧ Q .non (upd H l (.lst (xs ++ zs)))
theorem mt_extend : MtM X "list.extend" rExtend := by
  intro pins s σ H x vs v us Q I rx rv h
  obtain ⟨l, b, xs, zs, rfl, rfl, hH, hB, hz, q⟩ := h
  cases rx
  obtain ⟨u, rfl, ru⟩ := rv.one
  cases ru
  obtain ⟨z, its, n, r, hl, e⟩ := I.lstM hH
  obtain ⟨z2, its2, n2, r2, hl2, e2⟩ := I.lstM hB
  have hsz : its.toArray.size + its2.toArray.size ≤ sizeLine := by rw [List.size_toArray, List.size_toArray]; omega
  have hlong : ¬ (!its.toArray.isEmpty && Builtin.List.listTooLong (its.toArray.size + its2.toArray.size)) = true := by
    rw [notLongL hsz, Bool.and_false]
    exact Bool.false_ne_true
  refine call_meets F.slot_list_extend ⟨_, e, rfl⟩ F.entry_list_extend (F.args_list_extend_2 _ _)
    (AutoSeq1.list_extend_list_list_0 l its.toArray n b its2.toArray n2 hlong (by rw [List.size_toArray]; omega) (by omega)) ⟨e, e2, ?_⟩
  refine ⟨.non, _, I.lset (its' := its ++ its2) hH e (by simp) (r.append r2) ?_, rfl, q⟩
  rw [List.length_append]
  omega

def rPop : V → List V → Hp → VK → Prop := fun x vs H Q => ∃ l xs y, x = .ref l ∧ vs = [] ∧ H l = some (.lst xs) ∧ xs[xs.length - 1]? = some y ∧ Q y (upd H l (.lst xs.dropLast))
theorem mt_pop : MtM X "list.pop" rPop := by
  intro pins s σ H x vs v us Q I rx rv h
  obtain ⟨l, xs, y, rfl, rfl, hH, hy, q⟩ := h
  cases rx
  have hus := rv.zero
  subst hus
  obtain ⟨z, its, n, r, hl, e⟩ := I.lstM hH
  obtain ⟨u, hu, ru⟩ := r.get hy
  have hy' : its.toArray[its.toArray.size - 1]? = some u := by
    show its.toArray[its.length - 1]? = some u
    rw [← Array.getElem?_toList, ← hl]
    exact hu
  refine call_meets F.slot_list_pop ⟨_, e, rfl⟩ F.entry_list_pop (F.args_list_pop_1 _) (MeetsSeq.list_pop_last l its.toArray n u hy' (by rw [List.size_toArray]; omega)) ⟨e, ?_⟩
  refine ⟨y, _, I.lset (its' := its.dropLast) hH e ?_ r.dropLast ?_, ru, q⟩
  · show its.toArray.eraseIdxIfInBounds (its.toArray.size - 1) = its.dropLast.toArray
    rw [List.size_toArray, List.eraseIdxIfInBounds_toArray, erase_last]
  · rw [List.length_dropLast]
    omega

def rPopAt : V → List V → Hp → VK → Prop := fun x vs H Q => ∃ l xs i k y, x = .ref l ∧ vs = [.int i] ∧ H l = some (.lst xs) ∧ -(2 ^ 63) ≤ i ∧ i < 2 ^ 63 ∧ seqIndex? i xs.length = some k ∧ xs[k]? = some y ∧ Q y (upd H l (.lst (xs.eraseIdx k)))
theorem mt_popAt : MtM X "list.pop" rPopAt := by
  intro pins s σ H x vs v us Q I rx rv h
  obtain ⟨l, xs, i, k, y, rfl, rfl, hH, h1, h2, hk, hy, q⟩ := h
  cases rx
  obtain ⟨u, rfl, ru⟩ := rv.one
  obtain ⟨t, rfl⟩ := ru
  obtain ⟨z, its, n, r, hl, e⟩ := I.lstM hH
  obtain ⟨w, hw, rw'⟩ := r.get hy
  refine call_meets F.slot_list_pop ⟨_, e, rfl⟩ F.entry_list_pop (F.args_list_pop_2 _ _)
    (MeetsSeq.list_pop_at l its.toArray n i t k w (fitsIndex_both h1 h2) (by rw [List.size_toArray, ← hl]; exact hk) (by rw [← Array.getElem?_toList]; exact hw) (by rw [List.size_toArray]; omega)) ⟨e, ?_⟩
  refine ⟨y, _, I.lset (its' := its.eraseIdx k) hH e ?_ (r.eraseIdx k) ?_, rw', q⟩
  · show its.toArray.eraseIdxIfInBounds k = (its.eraseIdx k).toArray
    rw [List.eraseIdxIfInBounds_toArray]
  · have := len_erase xs k
    omega

def rReverse : V → List V → Hp → VK → Prop := fun x vs H Q => ∃ l xs, x = .ref l ∧ vs = [] ∧ H l = some (.lst xs) ∧ Q .non (upd H l (.lst xs.reverse))
theorem mt_reverse : MtM X "list.reverse" rReverse := by
  intro pins s σ H x vs v us Q I rx rv h
  obtain ⟨l, xs, rfl, rfl, hH, q⟩ := h
  cases rx
  have hus := rv.zero
  subst hus
  obtain ⟨z, its, n, r, hl, e⟩ := I.lstM hH
  refine call_meets F.slot_list_reverse ⟨_, e, rfl⟩ F.entry_list_reverse (F.args_list_reverse_1 _) (AutoSeq1.list_reverse_list_0 l its.toArray n (by rw [List.size_toArray]; omega)) ⟨e, ?_⟩
  refine ⟨.non, _, I.lset (its' := its.reverse) hH e (by simp) r.reverse ?_, rfl, q⟩
  rw [List.length_reverse]
  omega

def rClear : V → List V → Hp → VK → Prop := fun x vs H Q => ∃ l xs, x = .ref l ∧ vs = [] ∧ H l = some (.lst xs) ∧ Q .non (upd H l (.lst []))
theorem mt_clear : MtM X "list.clear" rClear := by
  intro pins s σ H x vs v us Q I rx rv h
  obtain ⟨l, xs, rfl, rfl, hH, q⟩ := h
  cases rx
  have hus := rv.zero
  subst hus
  obtain ⟨z, its, n, r, hl, e⟩ := I.lstM hH
  refine call_meets F.slot_list_clear ⟨_, e, rfl⟩ F.entry_list_clear (F.args_list_clear_1 _) (AutoSeq1.list_clear_list_0 l its.toArray n (by rw [List.size_toArray]; omega)) ⟨e, ?_⟩
  exact ⟨.non, _, I.lset (its' := []) (ys := []) hH e rfl .nil (Nat.zero_le _), rfl, q⟩

/-! ### list + list, list += list, list * int -/
def rCat : R2 := fun x y H Q => ∃ l b xs zs, x = .ref l ∧ y = .ref b ∧ H l = some (.lst xs) ∧ H b = some (.lst zs) ∧ xs.length + zs.length ≤ sizeLine ∧ ∀ p, H p = none → Q (.ref p) (upd H p (.lst (xs ++ zs)))
theorem op_cat : OpR X (binaryOp .Add) rCat := by
  intro pins s σ H x y v u Q I rx ry h
  obtain ⟨l, b, xs, zs, rfl, rfl, hH, hB, hz, q⟩ := h
  cases rx
  cases ry
  obtain ⟨z, its, n, r, hl, e⟩ := I.lstM hH
  obtain ⟨z2, its2, n2, r2, hl2, e2⟩ := I.lstM hB
  refine PySem.P.add_list e e2 ?_ (by rw [List.size_toArray, List.size_toArray]; omega)
  have ea : its.toArray ++ its2.toArray = (its ++ its2).toArray := by simp
  rw [ea]
  exact ⟨.ref _, _, I.lnew (t' := s.toks) (r.append r2) (by rw [List.length_append]; omega), rfl, q _ I.fresh⟩
/-- a list times an int (a negative one is nothing) -/
def rRep : R2 := fun x y H Q => ∃ l k xs, x = .ref l ∧ y = .int k ∧ H l = some (.lst xs) ∧ -(2 ^ 63) ≤ k ∧ k < 2 ^ 63 ∧ xs.length * k.toNat ≤ sizeLine ∧
  ∀ p, H p = none → Q (.ref p) (upd H p (.lst (List.replicate k.toNat xs).flatten))
theorem len_rep {α : Type} (xs : List α) (k : Nat) : (List.replicate k xs).flatten.length = k * xs.length := by
  induction k with
  | zero => simp
  | succ k ih => rw [List.replicate_succ, List.flatten_cons, List.length_append, ih, Nat.succ_mul, Nat.add_comm]
theorem op_rep : OpR X (binaryOp .Mult) rRep := by
  intro pins s σ H x y v u Q I rx ry h
  obtain ⟨l, k, xs, rfl, rfl, hH, h1, h2, hz, q⟩ := h
  cases rx
  obtain ⟨t, rfl⟩ := ry
  obtain ⟨z, its, n, r, hl, e⟩ := I.lstM hH
  have hlen : its.toArray.size * k.toNat ≤ sizeLine := by rw [List.size_toArray, ← hl]; exact hz
  have hcap : ¬ its.toArray.size * k.toNat > (2 ^ 63 - 1) / 8 := by
    have : (sizeLine : Nat) ≤ (2 ^ 63 - 1) / 8 := by decide
    omega
  have hfit : ¬ (!Builtin.List.listFitsIndex k) = true := by
    rw [fitsIndex_both h1 h2]
    exact Bool.false_ne_true
  have hlong : ¬ Builtin.List.listTooLong (its.toArray.size * k.toNat) = true := by
    rw [notLongL hlen]
    exact Bool.false_ne_true
  have hnew : List.foldl (fun x1 x2 => x1 ++ x2) #[] (List.replicate (if its.toArray.isEmpty = true then 0 else k.toNat) its.toArray) = (List.replicate k.toNat its).flatten.toArray := by
    have f0 : ∀ m : Nat, List.foldl (fun x1 x2 => x1 ++ x2) #[] (List.replicate m its.toArray) = (List.replicate m its).flatten.toArray := fun m => by
      have := foldl_rep its m []
      rw [List.nil_append] at this
      exact this
    rw [f0]
    cases its with
    | nil => simp
    | cons a r' => rw [if_neg (by simp)]
  refine wpAny_binaryOp_repeat_ref (T := "list") (U := "int") (by decide) ⟨_, e, rfl⟩ (fun s' => typeIs_int s' k t) noFill_list_mul F.fills_int_mul F.slot_int_rmul repeat_list F.slot_int_index.lookup
    (call_meets F.slot_int_rmul (typeIs_int s k t) F.entry_int_rmul (F.args_int_rmul_2 _ _) (int___rmul___int_list k t l its.toArray n)
      ⟨e, rfl, ⟨_, e, rfl⟩, call_meets F.slot_list_mul ⟨_, e, rfl⟩ F.entry_list_mul (F.args_list_mul_2 _ _) (AutoListH.list___mul___list_int_3 l its.toArray n k t hfit hcap hlong) ⟨e, ?_⟩⟩)
  rw [hnew]
  exact ⟨.ref _, _, I.lnew (t' := s.toks) (r.rep k.toNat) (by rw [len_rep, Nat.mul_comm]; exact hz), rfl, q _ I.fresh⟩

/-! ### del xs[i] -/
theorem del_list {pins : List (Addr × Obj)} {s : Shared} {σ : St} {H : Hp} {l : Addr} {xs : List V} {i : Int} {t : Tok} {k : Nat} {Q : Unit → Shared → Prop} (I : Inv X pins σ H s) (hH : H l = some (.lst xs))
    (h1 : -(2 ^ 63) ≤ i) (h2 : i < 2 ^ 63) (hk : seqIndex? i xs.length = some k) (h : ∀ s', Inv X pins σ (upd H l (.lst (xs.eraseIdx k))) s' → Q () s') :
    wpAny (model X.prog X.w) X.A (delItem (.ref l) (.int i t)) Q X.xe s := by
  obtain ⟨z, its, n, r, hl, e⟩ := I.lstM hH
  refine PySem.P.delItem_list (k := k) e (fitsIndex_both h1 h2) (by rw [List.size_toArray, ← hl]; exact hk) (h _ ?_) (by rw [List.size_toArray]; omega)
  refine I.lset (its' := its.eraseIdx k) (t' := s.toks) hH e ?_ (r.eraseIdx k) ?_
  · show its.toArray.eraseIdxIfInBounds k = (its.eraseIdx k).toArray
    rw [List.eraseIdxIfInBounds_toArray]
  · have := len_erase xs k
    omega
end

/-! ### xs[a:b] = ys -/
section
variable {prog : Program} {w : World} {A : Around} {E : Value → Shared → Prop} {s : Shared}
theorem splice_eq (its its2 : List Value) (a c : Nat) : its.toArray.extract 0 a ++ its2.toArray ++ its.toArray.extract c its.toArray.size = (its.take a ++ its2 ++ its.drop c).toArray := by
  apply Array.toList_inj.mp
  first
    | (simp
       exact List.take_of_length_le (by simp))
    | simp [List.take_of_length_le]
    | simp
theorem bounds_run {a c n : Nat} (hac : a ≤ c) (hc : c ≤ n) : sliceBounds (some (a : Int)) (some (c : Int)) none n = ((a : Int), (c : Int), 1) := by
  simp only [sliceBounds, Option.getD_none]
  have h1 : ¬ ((a : Int) < 0) := by omega
  have h2 : ¬ ((c : Int) < 0) := by omega
  simp only [h1, h2, if_false, show (1 : Int) > 0 by decide, if_true]
  congr 1
  · omega
  · congr 1; omega
set_option maxRecDepth 100000 in
/-- list.__setitem__ with a slice of step one and another list -/
theorem setItem_slice {l b sl : Addr} {items new : Array Value} {n n2 : Nat} {vl vu : Value} {a c : Nat} {Q : Unit → Shared → Prop}
    (e : s.heap.get? l = some { cls := .type "list", data := .seq items n }) (e2 : s.heap.get? b = some { cls := .type "list", data := .seq new n2 }) (hne : l ≠ b)
    (hs : s.heap.IsSliceOf sl vl vu .none) (pl : IsPart vl (some (a : Int))) (pu : IsPart vu (some (c : Int))) (hac : a ≤ c) (hc : c ≤ items.size)
    (hsz : items.size + new.size ≤ sizeLine) (h : Q () { s with heap := s.heap.update l (Obj.mapSeq fun xs => xs.extract 0 a ++ new ++ xs.extract c xs.size) }) :
    wpAny (model prog w) A (setItem (.ref l) (.ref sl) (.ref b)) Q E s := by
  have hl : s.heap.IsList l items := PySem.IsL.isList e
  have hb : s.heap.IsList b new := PySem.IsL.isList e2
  obtain ⟨os, hos, hcs, hds⟩ := id hs
  have hTs : s.TypeIs (.ref sl) "slice" := ⟨os, hos, hcs⟩
  have hstep : ¬ ((rawPart none == rawInt 0) = true) := Bool.false_ne_true
  have hsame : Builtin.List.listSameRef (.ref l) (.ref b) = false := by
    unfold Builtin.List.listSameRef
    exact beq_eq_false_iff_ne.mpr hne
  have hmax : (max (a : Int) (c : Int)).toNat = c := by omega
  have hz' : ((fun xs : Array Value => xs.extract 0 a ++ new ++ xs.extract c xs.size) items).size ≤ sizeLine + 1 := by
    simp only [Array.size_append, Array.size_extract]
    omega
  unfold setItem
  try with_reducible refine wpAny_holding ?_
  first | refine wpAny_bind (wpAny_pure ?_) | skip
  refine wpAny_bind (wpAny_sequenceKey hl.typeIs (by decide) ?_)
  refine wpAny_bind (wpAny_callSpecial?_slot (name := Str.ofString "__setitem__") hl.typeIs slot_list_setitem
    (wpAny_call_entry slot_list_setitem hl.typeIs entry_list_setitem ?_ (args_list_setitem _ _ _)))
  show wpAny _ _ (Builtin.List.listSubscript? (.ref sl) >>= _) _ _ s
  refine wpAny_bind ?_
  unfold Builtin.List.listSubscript?
  refine wpAny_bind (wpAny_specialOf hTs slice_no_index ?_)
  simp only [Option.isNone_none, if_true]
  refine wpAny_pure ?_
  show wpAny _ _ (typeOf (.ref sl) >>= _) _ _ s
  refine wpAny_bind (wpAny_typeOf hTs ?_)
  first
    | rw [if_neg (by decide)]
    | refine PySem.W.KFB.if_not (by decide) ?_
  rw [listSliceParts_eq]
  refine wpAny_bind (wpAny_bind (wpAny_field hos hds (x := .none) rfl (wpAny_bind (wpAny_listPart .none ?_))))
  rw [if_neg hstep]
  refine wpAny_bind (wpAny_field hos hds (x := vl) rfl (wpAny_bind (wpAny_listPart pl ?_)))
  refine wpAny_bind (wpAny_field hos hds (x := vu) rfl (wpAny_bind (wpAny_listPart pu (wpAny_pure ?_))))
  first
    | simp only [hsame, Bool.false_eq_true, if_false]
    | refine PySem.W.KFB.if_not hsame ?_
    | (dsimp only
       rw [if_neg (by rw [hsame]; exact Bool.false_ne_true)])
  refine wpAny_bind (m := Builtin.List.listAllItems (.ref b) "must assign iterable to extended slice") ?_
  unfold Builtin.List.listAllItems
  refine wpAny_bind (wpAny_typeOf hb.typeIs ?_)
  first
    | refine PySem.W.KFB.if_so (by decide) ?_
    | rw [if_pos (by decide)]
    | simp only [beq_self_eq_true, Bool.true_or, if_true]
  unfold Builtin.List.listItems
  refine wpAny_bind (wpAny_seqItems e2 rfl (wpAny_pure ?_))
  refine wpAny_bind (wpAny_bind (wpAny_seqItems e rfl (wpAny_pure ?_)))
  refine wpAny_bind (wpAny_of_eq ((sliceIndices_raw (some (a : Int)) (some (c : Int)) none items.size (by simp)).trans (congrArg (pure : Int × Int × Int → Sem (Int × Int × Int)) (bounds_run hac hc))) ?_)
  show wpAny _ _ (if ((1 : Int) == 1) = true then _ else _) _ _ s
  rw [if_pos (by decide)]
  refine wpAny_bind (wpAny_rule ?_)
  first
    | simp only [notLongL hsz, Bool.false_eq_true, if_false]
    | refine PySem.W.KFB.if_not (notLongL hsz) ?_
  first | refine wpAny_bind (wpAny_pure ?_) | skip
  show wpAny _ _ (updateSeq l (fun xs => xs.extract 0 ((a : Int)).toNat ++ new ++ xs.extract (max (a : Int) (c : Int)).toNat xs.size) >>= _) _ _ s
  rw [hmax, Int.toNat_natCast]
  refine wpAny_bind (wpAny_updateSeq (hz := Nat.le_trans (Nat.le_add_right _ _) hsz) (_hz' := hz') e rfl ?_)
  refine wpAny_bind (wpAny_letGo ?_)
  first
    | exact wpAny_bind (wpAny_pure (wpAny_pure ⟨.none, rfl, wpAny_pure h⟩))
    | exact wpAny_pure ⟨.none, rfl, wpAny_pure h⟩
end

section
variable {X : Cx}
/-- xs[a:c] = ys of another list, at the value level: sl is the slice object that was just made -/
theorem set_slice {pins : List (Addr × Obj)} {s : Shared} {σ : St} {H : Hp} {l b sl : Addr} {xs ys : List V} {a c : Int} {vl vu : Value} {Q : Unit → Shared → Prop} (I : Inv X pins σ H s)
    (hH : H l = some (.lst xs)) (hB : H b = some (.lst ys)) (hne : l ≠ b) (hs : s.heap.IsSliceOf sl vl vu .none) (ra : RelV (.int a) vl) (rc : RelV (.int c) vu) (h0 : 0 ≤ a) (hac : a ≤ c) (hc : c ≤ xs.length)
    (hz : xs.length + ys.length ≤ sizeLine) (h : ∀ s', Inv X pins σ (upd H l (.lst (xs.take a.toNat ++ ys ++ xs.drop c.toNat))) s' → Q () s') :
    wpAny (model X.prog X.w) X.A (setItem (.ref l) (.ref sl) (.ref b)) Q X.xe s := by
  obtain ⟨ta, rfl⟩ := ra
  obtain ⟨tc, rfl⟩ := rc
  obtain ⟨z, its, n, r, hl, e⟩ := I.lstM hH
  obtain ⟨z2, its2, n2, r2, hl2, e2⟩ := I.lstM hB
  obtain ⟨a', rfl⟩ := Int.eq_ofNat_of_zero_le h0
  obtain ⟨c', rfl⟩ := Int.eq_ofNat_of_zero_le (Int.le_trans h0 hac)
  simp only [Int.toNat_natCast] at h
  refine setItem_slice (a := a') (c := c') e e2 hne hs (.int _ _) (.int _ _) (by omega) (by rw [List.size_toArray]; omega) (by rw [List.size_toArray, List.size_toArray]; omega) (h _ ?_)
  refine I.lset (its' := its.take a' ++ its2 ++ its.drop c') (t' := s.toks) hH e ?_ (Vals.append (Vals.append (r.take _) r2) (r.drop _)) ?_
  · exact splice_eq its its2 a' c'
  · rw [List.length_append, List.length_append, List.length_take, List.length_drop]
    omega
end
end L2

namespace L2
open PySem PySem.Spec PyProof.Rows

/-! ### lists of pairs as tables -/
section
variable {κ : Type} [DecidableEq κ]
def valV (kvs : List (κ × V)) (k : κ) : Option V := (kvs.find? fun kv => decide (kv.1 = k)).map (·.2)
/-- in its place, or at the end -/
def putK (kvs : List (κ × V)) (k : κ) (v : V) : List (κ × V) :=
  if (kvs.any fun kv => decide (kv.1 = k)) = true then kvs.map (fun kv => if kv.1 = k then (kv.1, v) else kv) else kvs ++ [(k, v)]
def dropK (kvs : List (κ × V)) (k : κ) : List (κ × V) := kvs.filter fun kv => decide (kv.1 ≠ k)

theorem valV_nil {k : κ} : valV ([] : List (κ × V)) k = none := rfl
theorem valV_pos {p : κ × V} {r : List (κ × V)} {k : κ} (e : p.1 = k) : valV (p :: r) k = some p.2 := by simp [valV, List.find?_cons, e]
theorem valV_neg {p : κ × V} {r : List (κ × V)} {k : κ} (e : ¬ p.1 = k) : valV (p :: r) k = valV r k := by simp [valV, List.find?_cons, e]
theorem valV_any (k : κ) : ∀ kvs : List (κ × V), (kvs.any fun kv => decide (kv.1 = k)) = (valV kvs k).isSome
  | [] => rfl
  | p :: r => by
    rw [List.any_cons]
    by_cases e : p.1 = k
    · simp only [valV_pos e, decide_eq_true e, Bool.true_or, Option.isSome_some]
    · rw [valV_neg e, decide_eq_false e, Bool.false_or]; exact valV_any k r
theorem valV_map (k j : κ) (y : V) : ∀ kvs : List (κ × V), valV (kvs.map fun kv => if kv.1 = k then (kv.1, y) else kv) j = (valV kvs j).map fun x => if j = k then y else x
  | [] => rfl
  | p :: r => by
    have ih := valV_map k j y r
    rw [List.map_cons]
    by_cases h : p.1 = k
    · rw [if_pos h]
      by_cases e : p.1 = j
      · rw [valV_pos (p := (p.1, y)) e, valV_pos e, Option.map_some, if_pos (e.symm.trans h)]
      · rw [valV_neg (p := (p.1, y)) e, valV_neg e, ih]
    · rw [if_neg h]
      by_cases e : p.1 = j
      · rw [valV_pos (p := p) e, valV_pos e, Option.map_some, if_neg (fun z => h (e.trans z))]
      · rw [valV_neg (p := p) e, valV_neg e, ih]
theorem valV_snoc (k j : κ) (y : V) : ∀ kvs : List (κ × V), valV kvs k = none → valV (kvs ++ [(k, y)]) j = if j = k then some y else valV kvs j
  | [], _ => by
    by_cases e : k = j
    · rw [if_pos e.symm]; exact valV_pos (p := (k, y)) e
    · rw [if_neg (fun z => e z.symm)]; exact valV_neg (p := (k, y)) e
  | p :: r, hn => by
    rw [List.cons_append]
    have hk : ¬ p.1 = k := fun z => by rw [valV_pos z] at hn; cases hn
    rw [valV_neg hk] at hn
    have ih := valV_snoc k j y r hn
    by_cases e : p.1 = j
    · rw [valV_pos e, valV_pos e, if_neg (fun z => hk (e.trans z))]
    · rw [valV_neg e, valV_neg e, ih]
theorem valV_put (kvs : List (κ × V)) (k j : κ) (y : V) : valV (putK kvs k y) j = if j = k then some y else valV kvs j := by
  unfold putK
  by_cases a : (kvs.any fun kv => decide (kv.1 = k)) = true
  · rw [if_pos a, valV_map]
    rw [valV_any] at a
    by_cases e : j = k
    · obtain ⟨x, hx⟩ := Option.isSome_iff_exists.mp a
      rw [if_pos e, e, hx, Option.map_some, if_pos rfl]
    · rw [if_neg e]
      cases valV kvs j with
      | none => rfl
      | some x => rw [Option.map_some, if_neg e]
  · rw [if_neg a]
    refine valV_snoc k j y kvs ?_
    rw [valV_any] at a
    cases q : valV kvs k with
    | none => rfl
    | some x => rw [q] at a; exact (a rfl).elim
theorem length_putK (kvs : List (κ × V)) (k : κ) (v : V) : (putK kvs k v).length ≤ kvs.length + 1 := by
  unfold putK
  split
  · rw [List.length_map]; omega
  · rw [List.length_append, List.length_cons, List.length_nil]; omega
theorem putK_new {kvs : List (κ × V)} {k : κ} (v : V) (h : valV kvs k = none) : putK kvs k v = kvs ++ [(k, v)] := by
  unfold putK
  rw [valV_any, h]
  exact if_neg (by decide)

theorem RelO.isSome_eq {o : Option V} {u : Option Value} (r : RelO o u) : o.isSome = u.isSome := by
  cases o with
  | none => cases u with
    | none => rfl
    | some _ => exact (show False from r).elim
  | some _ => cases u with
    | none => exact (show False from r).elim
    | some _ => rfl
theorem RelO.getD {o : Option V} {u : Option Value} {d : V} {d' : Value} (r : RelO o u) (rd : RelV d d') : RelV (o.getD d) (u.getD d') := by
  cases o with
  | none => cases u with
    | none => exact rd
    | some _ => exact (show False from r).elim
  | some _ => cases u with
    | none => exact (show False from r).elim
    | some _ => exact r

/-- raw tables of the same keys -/
theorem KV.val {kvs : List (κ × V)} {vs : List (κ × Value)} (r : KV kvs vs) (k : κ) : RelO (valV kvs k) (valueAt vs k) := by
  unfold KV at r
  induction r with
  | nil => exact True.intro
  | @cons p q ps qs h t ih =>
    obtain ⟨h1, h2⟩ := h
    by_cases e : p.1 = k
    · have e' : q.1 = k := h1.symm.trans e
      have b : valueAt (q :: qs) k = some q.2 := by simp [valueAt, List.find?_cons, e']
      rw [valV_pos e, b]; exact h2
    · have e' : ¬ q.1 = k := fun z => e (h1.trans z)
      have b : valueAt (q :: qs) k = valueAt qs k := by simp [valueAt, List.find?_cons, e']
      rw [valV_neg e, b]; exact ih
theorem KV.any {kvs : List (κ × V)} {vs : List (κ × Value)} (r : KV kvs vs) (k : κ) : (kvs.any fun kv => decide (kv.1 = k)) = vs.any fun kv => decide (kv.1 = k) := by
  unfold KV at r
  induction r with
  | nil => rfl
  | cons h t ih => rw [List.any_cons, List.any_cons, ih, h.1]
theorem KV.repl {kvs : List (κ × V)} {vs : List (κ × Value)} (r : KV kvs vs) (k : κ) {y : V} {u : Value} (ry : RelV y u) :
    KV (kvs.map fun kv => if kv.1 = k then (kv.1, y) else kv) (vs.map fun kv => if kv.1 = k then (kv.1, u) else kv) := by
  unfold KV at r ⊢
  induction r with
  | nil => exact .nil
  | @cons p q ps qs h t ih =>
    rw [List.map_cons, List.map_cons]
    refine .cons ?_ ih
    obtain ⟨h1, h2⟩ := h
    by_cases e : p.1 = k
    · rw [if_pos e, if_pos (h1.symm.trans e)]; exact ⟨h1, ry⟩
    · rw [if_neg e, if_neg (fun z => e (h1.trans z))]; exact ⟨h1, h2⟩
theorem KV.put {kvs : List (κ × V)} {vs : List (κ × Value)} (r : KV kvs vs) (k : κ) {y : V} {u : Value} (ry : RelV y u) : KV (putK kvs k y) (stored vs k u) := by
  unfold putK stored
  rw [r.any k]
  by_cases e : (vs.any fun kv => decide (kv.1 = k)) = true
  · rw [if_pos e, if_pos e]; exact r.repl k ry
  · rw [if_neg e, if_neg e]; exact Paired.snoc r ⟨rfl, ry⟩
theorem KV.drop {kvs : List (κ × V)} {vs : List (κ × Value)} (r : KV kvs vs) (k : κ) : KV (dropK kvs k) (without vs k) := by
  unfold KV at r ⊢
  unfold dropK without
  induction r with
  | nil => exact .nil
  | @cons p q ps qs h t ih =>
    obtain ⟨h1, h2⟩ := h
    rw [List.filter_cons, List.filter_cons]
    by_cases e : p.1 = k
    · have a : ¬ decide (p.1 ≠ k) = true := by simp [e]
      have b : ¬ decide (q.1 ≠ k) = true := by simp [h1.symm.trans e]
      rw [if_neg a, if_neg b]; exact ih
    · have e' : ¬ q.1 = k := fun z => e (h1.trans z)
      have a : decide (p.1 ≠ k) = true := by simp [e]
      have b : decide (q.1 ≠ k) = true := by simp [e']
      rw [if_pos a, if_pos b]; exact .cons ⟨h1, h2⟩ ih
theorem KV.keys {kvs : List (κ × V)} {vs : List (κ × Value)} (r : KV kvs vs) : kvs.map (·.1) = vs.map (·.1) := by
  unfold KV at r
  induction r with
  | nil => rfl
  | cons h t ih => rw [List.map_cons, List.map_cons, ih, h.1]
theorem KV.length {kvs : List (κ × V)} {vs : List (κ × Value)} (r : KV kvs vs) : kvs.length = vs.length := Paired.length r
theorem dropK_le (kvs : List (κ × V)) (k : κ) : (dropK kvs k).length ≤ kvs.length := List.length_filter_le _ _
end


/-! ### a tracked dict, its keys ints and texts or tuples of these -/
theorem kV_is {P : Program} {w : World} {k : Key} {u : Value} (r : RelV (kV k) u) : (mixKind P w).is k u = true := by
  cases k with
  | inl i => obtain ⟨t, e⟩ := (show ∃ t, u = Value.int i t from r); subst e; exact mixKind_int P w i t
  | inr x => obtain ⟨t, e⟩ := (show ∃ t, u = Value.str x t from r); subst e; exact mixKind_str P w x t
theorem kV_inj {a b : Key} (e : kV a = kV b) : a = b := by
  cases a with
  | inl i => cases b with
    | inl j => have e' : V.int i = V.int j := e; injection e' with e'; rw [e']
    | inr y => exact nomatch (show V.int i = V.str y from e)
  | inr x => cases b with
    | inl j => exact nomatch (show V.str x = V.int j from e)
    | inr y => have e' : V.str x = V.str y := e; injection e' with e'; rw [e']
theorem kVs_inj : ∀ {a b : List Key}, a.map kV = b.map kV → a = b
  | [], [], _ => rfl
  | [], _ :: _, e => by simp at e
  | _ :: _, [], e => by simp at e
  | x :: xs, y :: ys, e => by
    rw [List.map_cons, List.map_cons] at e
    injection e with e1 e2
    rw [kV_inj e1, kVs_inj e2]
theorem items_are {P : Program} {w : World} : ∀ {ks : List Key} {us : List Value}, Vals (ks.map kV) us → ItemsAre (mixKind P w) ks us
  | [], _, r => by rw [List.map_nil] at r; cases r; exact .nil
  | k :: ks, _, r => by
    rw [List.map_cons] at r
    cases r with
    | cons h t => exact .cons (kV_is h) (items_are t)

/-- raw entries of a dict with tuple keys -/
abbrev KT (H : Hp) : List (List Key × V) → List (List Key × Addr × Value) → Prop := Paired fun p q => p.1 = q.1 ∧ H q.2.1 = some (.tup (p.1.map kV)) ∧ RelV p.2 q.2.2
theorem KT.val {H : Hp} {kvs : List (List Key × V)} {xs : List (List Key × Addr × Value)} (r : KT H kvs xs) (k : List Key) : RelO (valV kvs k) ((atKey xs k).map (·.2)) := by
  induction r with
  | nil => exact True.intro
  | @cons p q ps qs h t ih =>
    obtain ⟨h1, _, h2⟩ := h
    by_cases e : p.1 = k
    · have e' : q.1 = k := h1.symm.trans e
      have b : atKey (q :: qs) k = some q.2 := by simp [atKey, List.find?_cons, e']
      rw [valV_pos e, b]; exact h2
    · have e' : ¬ q.1 = k := fun z => e (h1.trans z)
      have b : atKey (q :: qs) k = atKey qs k := by simp [atKey, List.find?_cons, e']
      rw [valV_neg e, b]; exact ih
theorem KT.repl {H : Hp} {kvs : List (List Key × V)} {xs : List (List Key × Addr × Value)} (r : KT H kvs xs) (k : List Key) {y : V} {u : Value} (ry : RelV y u) :
    KT H (kvs.map fun kv => if kv.1 = k then (kv.1, y) else kv) (xs.map (putAt k u)) := by
  induction r with
  | nil => exact .nil
  | @cons p q ps qs h t ih =>
    rw [List.map_cons, List.map_cons]
    refine .cons ?_ ih
    obtain ⟨h1, h2, h3⟩ := h
    unfold putAt
    by_cases e : p.1 = k
    · rw [if_pos e, if_pos (h1.symm.trans e)]; exact ⟨h1, h2, ry⟩
    · rw [if_neg e, if_neg (fun z => e (h1.trans z))]; exact ⟨h1, h2, h3⟩
theorem KT.put {H : Hp} {kvs : List (List Key × V)} {xs : List (List Key × Addr × Value)} (r : KT H kvs xs) (k : List Key) {b : Addr} {y : V} {u : Value} (hb : H b = some (.tup (k.map kV))) (ry : RelV y u) :
    KT H (putK kvs k y) (storedH xs k b u) := by
  have e : (kvs.any fun kv => decide (kv.1 = k)) = (atKey xs k).isSome := by
    rw [valV_any, (r.val k).isSome_eq, Option.isSome_map]
  unfold putK storedH
  rw [e]
  by_cases q : (atKey xs k).isSome = true
  · rw [if_pos q, if_pos q]; exact r.repl k ry
  · rw [if_neg q, if_neg q]; exact Paired.snoc r ⟨rfl, hb, ry⟩
theorem KT.keeps {H H' : Hp} {kvs : List (List Key × V)} {xs : List (List Key × Addr × Value)} (r : KT H kvs xs) (ht : ∀ b ys, H b = some (.tup ys) → H' b = some (.tup ys)) : KT H' kvs xs :=
  Paired.mapP r fun _ _ z => ⟨z.1, ht _ _ z.2.1, z.2.2⟩

section
variable {P : Program} {w : World} {H : Hp} {h : Heap} {a : Addr}
theorem rd_of {u : HO} (ok : HOk P w H h) (e : Rd H a u) : ObjOk P w H h a u := e.ok ok
theorem dk_rd {kvs : List (Key × V)} (ok : HOk P w H h) (e : Rd H a (.dK kvs)) : kvs.length ≤ sizeLine ∧ (a == sysModules) = false ∧ ∃ vs, KV kvs vs ∧ h.DictOf (mixKind P w) a vs :=
  show ObjOk P w H h a (.dK kvs) from rd_of ok e
theorem dk_of {kvs : List (Key × V)} (ok : HOk P w H h) (e : H a = some (.dK kvs)) : kvs.length ≤ sizeLine ∧ (a == sysModules) = false ∧ ∃ vs, KV kvs vs ∧ h.DictOf (mixKind P w) a vs := dk_rd ok (.inl e)
/-- a tracked tuple of ints and texts is a key -/
theorem key_of {ks : List Key} (ok : HOk P w H h) (e : H a = some (.tup (ks.map kV))) : (tupleKind (mixKind P w)).is h ks a := by
  obtain ⟨_, its, r, o, h1, h2, n, h3⟩ := (show ObjOk P w H h a (.tup (ks.map kV)) from ok a _ e)
  exact ⟨o, its.toArray, n, h1, h2, h3, by simpa using items_are r⟩
theorem dt_rd {kvs : List (List Key × V)} (ok : HOk P w H h) (e : Rd H a (.dT kvs)) : kvs.length ≤ sizeLine ∧ (a == sysModules) = false ∧
    ∃ xs, KT H kvs xs ∧ h.DictOfH (tupleKind (mixKind P w)) a xs := by
  obtain ⟨z, y, xs, r, o, es, ep, h1, h2, h3, h4, h5⟩ := (show ObjOk P w H h a (.dT kvs) from rd_of ok e)
  refine ⟨z, y, xs, r, o, es, ep, h1, h2, h3, h4, fun x hx => ?_, h5⟩
  have all : ∀ {l : List (List Key × V)} {m : List (List Key × Addr × Value)}, KT H l m → ∀ x ∈ m, (tupleKind (mixKind P w)).is h x.1 x.2.1 := by
    intro l m q
    induction q with
    | nil => intro x hx; exact nomatch hx
    | @cons p q ps qs hq t ih =>
      intro x hx
      rcases List.mem_cons.mp hx with e | hx
      · subst e
        exact key_of ok (by rw [← hq.1]; exact hq.2.1)
      · exact ih x hx
  exact all r x hx
theorem dt_of {kvs : List (List Key × V)} (ok : HOk P w H h) (e : H a = some (.dT kvs)) : kvs.length ≤ sizeLine ∧ (a == sysModules) = false ∧
    ∃ xs, KT H kvs xs ∧ h.DictOfH (tupleKind (mixKind P w)) a xs := dt_rd ok (.inl e)
end

/-- what the dict at a holds at the key y -/
def DGet (H : Hp) (a : Addr) (y : V) (r : Option V) : Prop :=
  (∃ kvs k, Rd H a (.dK kvs) ∧ y = kV k ∧ r = valV kvs k) ∨ ∃ kvs k b, Rd H a (.dT kvs) ∧ y = .ref b ∧ H b = some (.tup (k.map kV)) ∧ r = valV kvs k
/-- the heap behind a[y] = v -/
def DPut (H : Hp) (a : Addr) (y v : V) (H' : Hp) : Prop :=
  (∃ kvs k, H a = some (.dK kvs) ∧ y = kV k ∧ kvs.length < sizeLine ∧ H' = upd H a (.dK (putK kvs k v))) ∨
  ∃ kvs k b, H a = some (.dT kvs) ∧ y = .ref b ∧ H b = some (.tup (k.map kV)) ∧ kvs.length < sizeLine ∧ H' = upd H a (.dT (putK kvs k v))
theorem DGet.k {H : Hp} {a : Addr} {kvs : List (Key × V)} {k : Key} (e : H a = some (.dK kvs)) : DGet H a (kV k) (valV kvs k) := .inl ⟨kvs, k, .inl e, rfl, rfl⟩
theorem DGet.t {H : Hp} {a b : Addr} {kvs : List (List Key × V)} {k : List Key} (e : H a = some (.dT kvs)) (eb : H b = some (.tup (k.map kV))) : DGet H a (.ref b) (valV kvs k) := .inr ⟨kvs, k, b, .inl e, rfl, eb, rfl⟩
theorem DPut.k {H : Hp} {a : Addr} {kvs : List (Key × V)} {k : Key} {v : V} (e : H a = some (.dK kvs)) (hl : kvs.length < sizeLine) : DPut H a (kV k) v (upd H a (.dK (putK kvs k v))) := .inl ⟨kvs, k, e, rfl, hl, rfl⟩
theorem DPut.t {H : Hp} {a b : Addr} {kvs : List (List Key × V)} {k : List Key} {v : V} (e : H a = some (.dT kvs)) (eb : H b = some (.tup (k.map kV))) (hl : kvs.length < sizeLine) :
    DPut H a (.ref b) v (upd H a (.dT (putK kvs k v))) := .inr ⟨kvs, k, b, e, rfl, eb, hl, rfl⟩


section
variable {X : Cx} {pins : List (Addr × Obj)} {σ : St} {H : Hp} {s : Shared} {a : Addr} {y v : V} {u r : Value} {o : Option V} {A : Around} {E : Value → Shared → Prop}

theorem Inv.big (I : Inv X pins σ H s) : sysModules < s.heap.objs.size := by
  have h : mainGlobals < s.heap.objs.size := (I.mod.glob.keeps I.bk).lt
  exact Nat.lt_trans (by decide) h

/-- d[y], there -/
theorem d_getItem {Q : Value → Shared → Prop} (hu : A.units + 1 < cLine) (I : Inv X pins σ H s) (g : DGet H a y (some v)) (ry : RelV y u) (h : ∀ w' s', Inv X pins σ H s' → RelV v w' → Q w' s') :
    wpAny (model X.prog X.w) A (getItem (.ref a) u) Q E s := by
  rcases g with ⟨kvs, k, e, ey, l⟩ | ⟨kvs, k, b, e, ey, eb, l⟩
  · subst ey
    obtain ⟨z, hd, vs, rel, dd⟩ := dk_rd I.hok e
    obtain ⟨w', hw, rw'⟩ := RelO.some_of (v := v) (o := valueAt vs k) (by rw [l]; exact rel.val k)
    exact wpAny_getItem_of (kV_is ry) dd.mapOf hw (h w' _ (I.tok _) rw')
  · subst ey
    cases (show u = Value.ref b from ry)
    obtain ⟨z, hd, xs, rel, dd⟩ := dt_rd I.hok e
    obtain ⟨w', hw, rw'⟩ := RelO.some_of (v := v) (o := (atKey xs k).map (·.2)) (by rw [l]; exact rel.val k)
    obtain ⟨p, hp, hp2⟩ := Option.map_eq_some_iff.mp hw
    refine wpAny_getItem_heap (tupleKind_room_in1 hu) (key_of I.hok eb) dd hp ?_
    rw [hp2]
    exact h w' _ (I.tok _) rw'
/-- y in d -/
theorem d_in {Q : Value → Shared → Prop} (hu : A.units + 1 < cLine) (I : Inv X pins σ H s) (g : DGet H a y o) (ry : RelV y u) (h : ∀ s', Inv X pins σ H s' → Q (.bool o.isSome) s') :
    wpAny (model X.prog X.w) A (compareOp .In u (.ref a)) Q E s := by
  rcases g with ⟨kvs, k, e, ey, l⟩ | ⟨kvs, k, b, e, ey, eb, l⟩
  · subst ey
    obtain ⟨z, hd, vs, rel, dd⟩ := dk_rd I.hok e
    refine wpAny_in_of (kV_is ry) hd dd.mapOf ?_
    rw [← (rel.val k).isSome_eq, ← l]
    exact h _ (I.tok _)
  · subst ey
    cases (show u = Value.ref b from ry)
    obtain ⟨z, hd, xs, rel, dd⟩ := dt_rd I.hok e
    refine wpAny_in_heap (tupleKind_room_in1 hu) (key_of I.hok eb) hd dd ?_
    have q := (rel.val k).isSome_eq
    rw [Option.isSome_map] at q
    rw [← q, ← l]
    exact h _ (I.tok _)
theorem d_notIn {Q : Value → Shared → Prop} (hu : A.units + 1 < cLine) (I : Inv X pins σ H s) (g : DGet H a y o) (ry : RelV y u) (h : ∀ s', Inv X pins σ H s' → Q (.bool (!o.isSome)) s') :
    wpAny (model X.prog X.w) A (compareOp .NotIn u (.ref a)) Q E s := by
  rcases g with ⟨kvs, k, e, ey, l⟩ | ⟨kvs, k, b, e, ey, eb, l⟩
  · subst ey
    obtain ⟨z, hd, vs, rel, dd⟩ := dk_rd I.hok e
    refine wpAny_notIn_of (kV_is ry) hd dd.mapOf ?_
    rw [← (rel.val k).isSome_eq, ← l]
    exact h _ (I.tok _)
  · subst ey
    cases (show u = Value.ref b from ry)
    obtain ⟨z, hd, xs, rel, dd⟩ := dt_rd I.hok e
    refine wpAny_notIn_heap (tupleKind_room_in1 hu) (key_of I.hok eb) hd dd ?_
    have q := (rel.val k).isSome_eq
    rw [Option.isSome_map] at q
    rw [← q, ← l]
    exact h _ (I.tok _)
/-- a dict's object is replaced -/
theorem d_write {h' : Heap} {t' : Nat} {ob : HO} (I : Inv X pins σ H s) (mu : Mut (H a)) (hs : Heap.SameBut a s.heap h') (he : ∃ q, h'.get? a = some q) (new : ObjOk X.prog X.w (upd H a ob) h' a ob) :
    Inv X pins σ (upd H a ob) { s with heap := h', toks := t' } :=
  I.write (x := a) (e := a) mu (.inl rfl) (fun b q hb z => (hs.2 b hb).trans z) he new
theorem dk_new {P : Program} {w : World} {H' : Hp} {h' : Heap} {kvs : List (Key × V)} {vs : List (Key × Value)} (z : kvs.length ≤ sizeLine) (hd : (a == sysModules) = false) (rel : KV kvs vs) (dd : h'.DictOf (mixKind P w) a vs) :
    ObjOk P w H' h' a (.dK kvs) := ⟨z, hd, vs, rel, dd⟩
/-- d[y] = v -/
theorem d_setItem {H' : Hp} {Q : Unit → Shared → Prop} (hu : A.units + 1 < cLine) (I : Inv X pins σ H s) (g : DPut H a y v H') (ry : RelV y u) (rv : RelV v r) (h : ∀ s', Inv X pins σ H' s' → Q () s') :
    wpAny (model X.prog X.w) A (setItem (.ref a) u r) Q E s := by
  rcases g with ⟨kvs, k, e, ey, l, eH⟩ | ⟨kvs, k, b, e, ey, eb, l, eH⟩
  · subst ey eH
    obtain ⟨z, hd, vs, rel, dd⟩ := dk_of I.hok e
    have hz : vs.length ≤ sizeLine := by rw [← rel.length]; exact z
    have hl : (putK kvs k v).length ≤ sizeLine := by have := length_putK kvs k v; omega
    refine wpAny_setItem_pairs (hsz := hz) (kV_is ry) dd fun h' dd' hs => h _ ?_
    have he : ∃ q, h'.get? a = some q := let ⟨q, _, _, hq, _⟩ := dd'; ⟨q, hq⟩
    exact d_write I (by rw [e]; exact True.intro) hs he (dk_new hl hd (rel.put k rv) dd')
  · subst ey eH
    cases (show u = Value.ref b from ry)
    obtain ⟨z, hd, xs, rel, dd⟩ := dt_of I.hok e
    have hz : xs.length ≤ sizeLine := by rw [← Paired.length rel]; exact z
    have hl : (putK kvs k v).length ≤ sizeLine := by have := length_putK kvs k v; omega
    refine wpAny_setItem_heap (hsz := hz) (tupleKind_room_in1 hu) (key_of I.hok eb) dd fun h' dd' hs => h _ ?_
    obtain ⟨q, es, ep, hq, h2, h3, h4, _, h5⟩ := dd'
    refine d_write I (by rw [e]; exact True.intro) hs ⟨q, hq⟩ ⟨hl, hd, _, (rel.put k eb rv).keeps fun c ys ec => ?_, q, es, ep, hq, h2, h3, h4, h5⟩
    rw [upd_ne (ne_of ec e (fun z => nomatch z))]
    exact ec
end

section
variable {X : Cx} {pins : List (Addr × Obj)} {σ : St} {H : Hp} {s : Shared} {a : Addr} {kvs : List (Key × V)} {k : Key} {u : Value} {A : Around} {E : Value → Shared → Prop}
/-- del d[k] -/
theorem d_delItem {Q : Unit → Shared → Prop} (I : Inv X pins σ H s) (e : H a = some (.dK kvs)) (ry : RelV (kV k) u) (l : (valV kvs k).isSome = true) (h : ∀ s', Inv X pins σ (upd H a (.dK (dropK kvs k))) s' → Q () s') :
    wpAny (model X.prog X.w) A (delItem (.ref a) u) Q E s := by
  obtain ⟨z, hd, vs, rel, dd⟩ := dk_of I.hok e
  refine wpAny_delItem_slot dd.typeIs (by decide) PySem.F.slot_dict_delitem
    (call_meetsIn PySem.F.slot_dict_delitem dd.typeIs PySem.F.entry_dict_delitem (PySem.F.args_dict_delitem_2 _ _) (meets_dict_delitem_pairs (mixKind X.prog X.w) a (kV_is ry)) ⟨vs, dd, by rw [← rel.length]; exact z, by rw [← (rel.val k).isSome_eq]; exact l, fun h' dd' hs => h _ ?_⟩)
  have he : ∃ q, h'.get? a = some q := let ⟨q, _, _, hq, _⟩ := dd'; ⟨q, hq⟩
  exact d_write I (by rw [e]; exact True.intro) hs he (dk_new (Nat.le_trans (dropK_le kvs k) z) hd (rel.drop k) dd')
/-- d.pop(k[, x]), there -/
theorem d_pop {v : V} {more : List Value} {Q : Value → Shared → Prop} (I : Inv X pins σ H s) (e : H a = some (.dK kvs)) (ry : RelV (kV k) u) (l : valV kvs k = some v) (hm : more = [] ∨ ∃ x, more = [x])
    (h : ∀ w' s', Inv X pins σ (upd H a (.dK (dropK kvs k))) s' → RelV v w' → Q w' s') : wpAny (model X.prog X.w) A (call (.builtin "dict.pop") (.ref a :: u :: more)) Q E s := by
  obtain ⟨z, hd, vs, rel, dd⟩ := dk_of I.hok e
  obtain ⟨w', hw, rw'⟩ := RelO.some_of (v := v) (o := valueAt vs k) (by rw [← l]; exact rel.val k)
  have hp : (keyPart u).isSome = true := by
    cases k with
    | inl i => obtain ⟨t, q⟩ := (show ∃ t, u = Value.int i t from ry); subst q; rfl
    | inr x => obtain ⟨t, q⟩ := (show ∃ t, u = Value.str x t from ry); subst q; rfl
  have ha : argsOk "dict.pop" ⟨.ref a :: u :: more, []⟩ := by
    rcases hm with q | ⟨x, q⟩
    · subst q; exact PySem.F.args_dict_pop_2 _ _
    · subst q; exact PySem.F.args_dict_pop_3 _ _ _
  refine call_meetsIn PySem.F.slot_dict_pop dd.typeIs PySem.F.entry_dict_pop ha (meets_dict_pop_there (mixKind X.prog X.w) a (kV_is ry) more hm hp)
    ⟨vs, w', dd, by rw [← rel.length]; exact z, hw, fun h' dd' hs => h w' _ ?_ rw'⟩
  have he : ∃ q, h'.get? a = some q := let ⟨q, _, _, hq, _⟩ := dd'; ⟨q, hq⟩
  exact d_write I (by rw [e]; exact True.intro) hs he (dk_new (Nat.le_trans (dropK_le kvs k) z) hd (rel.drop k) dd')
/-- d.pop(k, x), not there -/
theorem d_popD {r : Value} {Q : Value → Shared → Prop} (I : Inv X pins σ H s) (e : H a = some (.dK kvs)) (ry : RelV (kV k) u) (l : valV kvs k = none) (h : ∀ s', Inv X pins σ H s' → Q r s') :
    wpAny (model X.prog X.w) A (call (.builtin "dict.pop") [.ref a, u, r]) Q E s := by
  obtain ⟨z, hd, vs, rel, dd⟩ := dk_of I.hok e
  have hn : valueAt vs k = none := RelO.none_of (by rw [← l]; exact rel.val k)
  have hp : (keyPart u).isSome = true := by
    cases k with
    | inl i => obtain ⟨t, q⟩ := (show ∃ t, u = Value.int i t from ry); subst q; rfl
    | inr x => obtain ⟨t, q⟩ := (show ∃ t, u = Value.str x t from ry); subst q; rfl
  exact call_meetsIn PySem.F.slot_dict_pop dd.typeIs PySem.F.entry_dict_pop (PySem.F.args_dict_pop_3 _ _ _) (meets_dict_pop_default (mixKind X.prog X.w) a (kV_is ry) hd hp r) ⟨vs, dd, hn, h _ (I.tok _)⟩
/-- d.clear() -/
theorem d_clear {Q : Value → Shared → Prop} (I : Inv X pins σ H s) (e : H a = some (.dK kvs)) (h : ∀ s', Inv X pins σ (upd H a (.dK [])) s' → Q .none s') : wpAny (model X.prog X.w) A (call (.builtin "dict.clear") [.ref a]) Q E s := by
  obtain ⟨z, hd, vs, rel, dd⟩ := dk_of I.hok e
  refine call_meetsIn PySem.F.slot_dict_clear dd.typeIs PySem.F.entry_dict_clear (PySem.F.args_dict_clear_1 _) (meets_dict_clear (mixKind X.prog X.w) a) ⟨vs, dd, by rw [← rel.length]; exact z, fun h' dd' hs => h _ ?_⟩
  have he : ∃ q, h'.get? a = some q := let ⟨q, _, _, hq, _⟩ := dd'; ⟨q, hq⟩
  exact d_write (t' := s.toks) I (by rw [e]; exact True.intro) hs he (dk_new (Nat.zero_le _) hd .nil dd')
/-- len(d) -/
theorem d_len {Q : Value → Shared → Prop} (I : Inv X pins σ H s) (e : Rd H a (.dK kvs)) (h : ∀ t s', Inv X pins σ H s' → Q (.int kvs.length t) s') : wpAny (model X.prog X.w) A (call (.builtin "len") [.ref a]) Q E s := by
  obtain ⟨z, hd, vs, rel, dd⟩ := dk_rd I.hok e
  refine call_len_dict hd dd (by rw [← rel.length]; rw [sizeLine_eq] at z; omega) ?_
  rw [← rel.length]
  exact h _ _ (I.tok _)
/-- if d -/
theorem d_truth {Q : Bool → Shared → Prop} (I : Inv X pins σ H s) (e : Rd H a (.dK kvs)) (h : ∀ s', Inv X pins σ H s' → Q (!kvs.isEmpty) s') : wpAny (model X.prog X.w) A (truthy (.ref a)) Q E s := by
  obtain ⟨z, hd, vs, rel, dd⟩ := dk_rd I.hok e
  refine wpAny_truthy_dict hd dd (by rw [← rel.length]; rw [sizeLine_eq] at z; omega) ?_
  have q : kvs.isEmpty = vs.isEmpty := by cases rel <;> rfl
  rw [← q]
  exact h _ (I.tok _)
end


/-! ### readings and rules -/
/-- the element of a subscription, not a slice -/
def NoSl (i : Expr) : Prop := ∀ ov iv, subscripted i false ov iv = operate [ov, iv] (getItem ov iv)
theorem subD_of {prog : Program} {w : World} {A : Around} {E : Value → Shared → Prop} {s : Shared} {env : Env} {value slice : Expr} {pos : Pos} {T id : String} {Q : Value → Shared → Prop}
    (hl : typeLookup (.type T) "__getitem__" = pure (some (.builtin id))) (hs : NoSl slice)
    (h : wpAny (model prog w) A (eval value env) (fun o s₁ => wpAny (model prog w) A (eval slice env) (fun i s₂ => s₂.TypeIs o T ∧ wpAny (model prog w) A (getItem o i) Q E s₂) E s₁) E s) :
    wpAny (model prog w) A (eval (.Subscript value slice pos) env) Q E s := by
  refine Subscript_ (wpAny_mono h (fun o s₁ h₁ => wpAny_mono h₁ (fun i s₂ h₂ => ?_) fun _ _ x => x) fun _ _ x => x)
  obtain ⟨hT, h₂⟩ := h₂
  unfold subscriptTail
  refine wpAny_bind ?_
  rw [getitemInPython_of_ne hT.not_modules]
  refine wpAny_bind (wpAny_specialOf hT hl ?_)
  have fin : wpAny (model prog w) A (subscripted slice false o i) (fun r s₃ => wpAny (model prog w) A (letTemporaryGo value o r >>= fun _ => pure r) Q E s₃) E s₂ := by
    rw [hs o i]
    exact wpAny_operating (wpAny_mono h₂ (fun r s₃ h₃ => wpAny_bind (wpAny_letTemporaryGo (wpAny_pure h₃))) fun _ _ x => x)
  first
    | exact wpAny_pure (wpAny_bind fin)
    | exact wpAny_bind (wpAny_pure (wpAny_bind fin))
    | exact wpAny_bind fin

theorem dict_typeIs {X : Cx} {pins : List (Addr × Obj)} {σ : St} {H : Hp} {s : Shared} {a : Addr} {y : V} {o : Option V} (I : Inv X pins σ H s) (g : DGet H a y o) : s.TypeIs (.ref a) "dict" := by
  rcases g with ⟨kvs, k, e, _, _⟩ | ⟨kvs, k, b, e, _, _, _⟩
  · obtain ⟨_, _, vs, _, dd⟩ := dk_rd I.hok e
    exact dd.typeIs
  · obtain ⟨_, _, xs, _, dd⟩ := dt_rd I.hok e
    exact dd.typeIs
theorem dict_noDict {X : Cx} {pins : List (Addr × Obj)} {σ : St} {H : Hp} {s : Shared} {a : Addr} {y : V} {o : Option V} (I : Inv X pins σ H s) (g : DGet H a y o) :
    ∀ b, Value.ref a = .ref b → ∃ ob, s.heap.get? b = some ob ∧ ob.dict = none := fun b q => by
  cases q
  rcases g with ⟨kvs, k, e, _, _⟩ | ⟨kvs, k, b, e, _, _, _⟩
  · obtain ⟨_, _, vs, _, ob, _, _, h1, h2, _⟩ := dk_rd I.hok e
    exact ⟨ob, h1, h2.2.1⟩
  · obtain ⟨_, _, xs, _, ob, _, _, h1, h2, _⟩ := dt_rd I.hok e
    exact ⟨ob, h1, h2.2.1⟩

/-- d[y] -/
def tDGet (td ty : TE) : TE := fun σ H Q => td σ H fun x H1 => ty σ H1 fun y H2 => ∃ a v, x = .ref a ∧ DGet H2 a y (some v) ∧ Q v H2
/-- y in d, y not in d -/
def tDIn (ty td : TE) : TE := fun σ H Q => ty σ H fun y H1 => td σ H1 fun x H2 => ∃ a o, x = .ref a ∧ DGet H2 a y o ∧ Q (.bl o.isSome) H2
def tDNotIn (ty td : TE) : TE := fun σ H Q => ty σ H fun y H1 => td σ H1 fun x H2 => ∃ a o, x = .ref a ∧ DGet H2 a y o ∧ Q (.bl (!o.isSome)) H2
/-- d[y] = v -/
def sDPut (td ty tv : TE) : TS := fun D σ H => tv σ H fun v H1 => td σ H1 fun x H2 => ty σ H2 fun y H3 => ∃ a H4, x = .ref a ∧ DPut H3 a y v H4 ∧ D.nx σ H4
/-- d[y] op= v -/
def sDAug (td ty tv : TE) (rd : V → V → Hp → VK → Prop) : TS := fun D σ H => td σ H fun x H1 => ty σ H1 fun y H2 => ∃ a v, x = .ref a ∧ DGet H2 a y (some v) ∧
  tv σ H2 fun y2 H3 => rd v y2 H3 fun z H4 => ∃ H5, DPut H4 a y z H5 ∧ D.nx σ H5
/-- del d[y] -/
def sDDel (td ty : TE) : TS := fun D σ H => td σ H fun x H1 => ty σ H1 fun y H2 => ∃ a kvs k, x = .ref a ∧ H2 a = some (.dK kvs) ∧ y = kV k ∧ (valV kvs k).isSome = true ∧ D.nx σ (upd H2 a (.dK (dropK kvs k)))

section
variable {X : Cx} {o i e value : Expr} {pos pos' tpos : Pos} {td ty tv : TE}
theorem pe_dget (hu : X.A.units + 1 < cLine) (ho : PE X o td) (hi : PE X i ty) (hs : NoSl i) : PE X (.Subscript o i pos) (tDGet td ty) := by
  intro pins s σ H Q I h
  refine subD_of PySem.F.slot_dict_getitem.lookup hs (thn (ho pins s σ H _ I h) fun u s1 ⟨x, H1, I1, rx, q1⟩ => thn (hi pins s1 σ H1 _ I1 q1) fun iv s2 ⟨y, H2, I2, ry, a, v, ex, g, q2⟩ => ?_)
  subst ex
  obtain rfl : u = Value.ref a := rx
  exact ⟨dict_typeIs I2 g, d_getItem hu I2 g ry fun w' s3 I3 rw' => ⟨v, H2, I3, rw', q2⟩⟩
theorem pc_din (hu : X.A.units + 1 < cLine) (hi : PE X i ty) (ho : PE X o td) : PC X .In i o (tDIn ty td) := by
  intro pins s σ H Q I h
  refine thn (hi pins s σ H _ I h) fun iv s1 ⟨y, H1, I1, ry, q1⟩ => thn (ho pins s1 σ H1 _ I1 q1) fun u s2 ⟨x, H2, I2, rx, a, ov, ex, g, q2⟩ => ?_
  subst ex
  obtain rfl : u = Value.ref a := rx
  exact d_in hu I2 g ry fun s3 I3 => ⟨.bl ov.isSome, H2, I3, rfl, q2⟩
theorem pc_dnotin (hu : X.A.units + 1 < cLine) (hi : PE X i ty) (ho : PE X o td) : PC X .NotIn i o (tDNotIn ty td) := by
  intro pins s σ H Q I h
  refine thn (hi pins s σ H _ I h) fun iv s1 ⟨y, H1, I1, ry, q1⟩ => thn (ho pins s1 σ H1 _ I1 q1) fun u s2 ⟨x, H2, I2, rx, a, ov, ex, g, q2⟩ => ?_
  subst ex
  obtain rfl : u = Value.ref a := rx
  exact d_notIn hu I2 g ry fun s3 I3 => ⟨.bl (!ov.isSome), H2, I3, rfl, q2⟩
theorem ps_dput (hu : X.A.units + 1 < cLine) (ho : PE X o td) (hi : PE X i ty) (hv : PE X value tv) (hs : swapsWith value (some (.Subscript o i pos')) pos.line X.env = pure false) :
    PS X (.Assign [.Subscript o i pos'] value pos) (sDPut td ty tv) := by
  intro pins s σ H D I h
  refine wpAny_Assign_Subscript (thn (hv pins s σ H _ I h) fun r s1 ⟨v, H1, I1, rv, q1⟩ => thn (ho pins s1 σ H1 _ I1 q1) fun u s2 ⟨x, H2, I2, rx, q2⟩ => thn (hi pins s2 σ H2 _ I2 q2) fun iv s3 ⟨y, H3, I3, ry, a, H4, ex, g, q3⟩ => ?_) hs
  subst ex
  obtain rfl : u = Value.ref a := rx
  exact d_setItem hu I3 g ry rv fun s4 I4 => ⟨σ, H4, I4, q3⟩
theorem ps_daug {op : Operator} {rd : V → V → Hp → VK → Prop} (hu : X.A.units + 1 < cLine) (ho : PE X o td) (hi : PE X i ty) (hv : PE X value tv) (hop : InOp X op rd)
    (ha : ∀ ov iv new, augStore i ov iv new = (do holding [new, ov, iv] (setItem ov iv new); release [new, ov, iv] []; pure .next)) : PS X (.AugAssign (.Subscript o i tpos) op value pos) (sDAug td ty tv rd) := by
  intro pins s σ H D I h
  refine wpAny_AugAssign_SubscriptAny (thn (ho pins s σ H _ I h) fun u s1 ⟨x, H1, I1, rx, q1⟩ => thn (hi pins s1 σ H1 _ I1 q1) fun iv s2 ⟨y, H2, I2, ry, a, v, ex, g, q2⟩ => ?_) ha
  subst ex
  obtain rfl : u = Value.ref a := rx
  refine d_getItem hu I2 g ry fun w' s3 I3 rw' => thn (hv pins s3 σ H2 _ I3 q2) fun w2 s4 ⟨y2, H3, I4, ry2, q3⟩ => thn (hop pins s4 σ H3 v y2 w' w2 _ I4 rw' ry2 q3) fun w3 s5 ⟨z, H4, I5, rz, H5, g5, q4⟩ => ?_
  exact d_setItem hu I5 g5 ry rz fun s6 I6 => ⟨σ, H5, I6, q4⟩
theorem ps_ddel (ho : PE X o td) (hi : PE X i ty) : PS X (.Delete [.Subscript o i tpos] pos) (sDDel td ty) := by
  intro pins s σ H D I h
  refine wpAny_Delete (wpAny_deleteEach_cons (wpAny_delete_Subscript (thn (ho pins s σ H _ I h) fun u s1 ⟨x, H1, I1, rx, q1⟩ => thn (hi pins s1 σ H1 _ I1 q1) fun iv s2 ⟨y, H2, I2, ry, a, kvs, k, ex, e, ey, l, q2⟩ => ?_)))
  subst ex ey
  obtain rfl : u = Value.ref a := rx
  exact d_delItem I2 e ry l fun s3 I3 => wpAny_deleteEach_nil ⟨σ, _, I3, q2⟩
end


/-! ### displays -/
theorem dk_empty {P : Program} {w : World} {H : Hp} (h : Heap) (hb : sysModules < h.objs.size) : ObjOk P w H (h.push { cls := .type "dict", data := .dict #[] }) h.objs.size (.dK []) :=
  ⟨Nat.zero_le _, beq_eq_false_iff_ne.mpr (Ne.symm (Nat.ne_of_lt hb)), [], .nil, Heap.DictOf.new h⟩
theorem dt_empty {P : Program} {w : World} {H : Hp} (h : Heap) (hb : sysModules < h.objs.size) : ObjOk P w H (h.push { cls := .type "dict", data := .dict #[] }) h.objs.size (.dT []) :=
  ⟨Nat.zero_le _, beq_eq_false_iff_ne.mpr (Ne.symm (Nat.ne_of_lt hb)), [], .nil, _, #[], 0, Heap.get?_push_size _ rfl, ⟨rfl, rfl, rfl⟩, rfl, rfl, List.nodup_nil⟩
/-- {}, to be a dict of the kind that is wanted -/
def tDNewK : TE := fun _ H Q => ∀ p, H p = none → Q (.ref p) (upd H p (.dK []))
def tDNewT : TE := fun _ H Q => ∀ p, H p = none → Q (.ref p) (upd H p (.dT []))
section
variable {X : Cx} {pos : Pos}
theorem pe_dnewK : PE X (.Dict [] [] pos) tDNewK := fun pins s σ H Q I h =>
  wpAny_Dict_empty ⟨.ref s.heap.objs.size, _, I.laid (a := s.heap.objs.size) (o := .dK []) (t' := s.toks) (fun _ _ q => Heap.get?_push_of_some _ q) (Nat.le_refl _) (dk_empty s.heap I.big), rfl, h _ (I.hok.fresh (Nat.le_refl _))⟩
theorem pe_dnewT : PE X (.Dict [] [] pos) tDNewT := fun pins s σ H Q I h =>
  wpAny_Dict_empty ⟨.ref s.heap.objs.size, _, I.laid (a := s.heap.objs.size) (o := .dT []) (t' := s.toks) (fun _ _ q => Heap.get?_push_of_some _ q) (Nat.le_refl _) (dt_empty s.heap I.big), rfl, h _ (I.hok.fresh (Nat.le_refl _))⟩
end

/-- the pairs of a display, from the left -/
def tPairs : List (TE × TE) → St → Hp → (List (V × V) → Hp → Prop) → Prop
  | [], _, H, Q => Q [] H
  | (tk, tv) :: r, σ, H, Q => tk σ H fun x H1 => tv σ H1 fun y H2 => tPairs r σ H2 fun ps H3 => Q ((x, y) :: ps) H3
abbrev VV : List (V × V) → List (Value × Value) → Prop := Paired fun p q => RelV p.1 q.1 ∧ RelV p.2 q.2
def PPs (X : Cx) (pos : Pos) (keys : List (Option Expr)) (values : List Expr) (trs : List (TE × TE)) : Prop :=
  ∀ (pins : List (Addr × Obj)) (s : Shared) (σ : St) (H : Hp) (Q : List (V × V) → Hp → Prop), Inv X pins σ H s → tPairs trs σ H Q →
    wpAny (model X.prog X.w) X.A (evalPairs (pairTrees keys values X.env pos)) (fun vs s' => ∃ ps H', Inv X pins σ H' s' ∧ VV ps vs ∧ Q ps H') X.xe s
theorem pps_nil {X : Cx} {pos : Pos} : PPs X pos [] [] [] := fun pins s σ H Q I h => pairTrees_nil_walk ⟨[], H, I, .nil, h⟩
theorem pps_cons {X : Cx} {pos : Pos} {k v : Expr} {ks : List (Option Expr)} {vs : List Expr} {tk tv : TE} {trs : List (TE × TE)} (hk : PE X k tk) (hv : PE X v tv) (hr : PPs X pos ks vs trs) :
    PPs X pos (some k :: ks) (v :: vs) ((tk, tv) :: trs) := fun pins s σ H Q I h =>
  pairTrees_cons_walk (thn (hk pins s σ H _ I h) fun u s1 ⟨x, H1, I1, rx, q1⟩ => thn (hv pins s1 σ H1 _ I1 q1) fun w2 s2 ⟨y, H2, I2, ry, q2⟩ =>
    thn (hr pins s2 σ H2 _ I2 q2) fun ws s3 ⟨ps, H3, I3, rel, q3⟩ => ⟨(x, y) :: ps, H3, I3, .cons ⟨rx, ry⟩ rel, q3⟩)

def mergeK (kvs more : List (Key × V)) : List (Key × V) := more.foldl (fun acc kv => putK acc kv.1 kv.2) kvs
theorem KV.merge : ∀ {more : List (Key × V)} {rs : List (Key × Value)} {kvs : List (Key × V)} {vs : List (Key × Value)}, KV more rs → KV kvs vs → KV (mergeK kvs more) (merged vs rs) := by
  intro more rs kvs vs r
  unfold KV at r
  induction r generalizing kvs vs with
  | nil => intro q; exact q
  | @cons p q ps qs h t ih =>
    intro r0
    have e : KV (putK kvs p.1 p.2) (stored vs q.1 q.2) := by
      have := r0.put p.1 h.2
      rw [← h.1]; exact this
    exact ih e
theorem length_mergeK : ∀ (more kvs : List (Key × V)), (mergeK kvs more).length ≤ kvs.length + more.length
  | [], kvs => by show kvs.length ≤ kvs.length + 0; omega
  | p :: r, kvs => by
    have h1 := length_mergeK r (putK kvs p.1 p.2)
    have h2 := length_putK kvs p.1 p.2
    show (mergeK (putK kvs p.1 p.2) r).length ≤ _
    rw [List.length_cons]; omega
theorem carries_of {P : Program} {w : World} : ∀ {kvs : List (Key × V)} {ws : List (Value × Value)}, VV (kvs.map fun kv => (kV kv.1, kv.2)) ws → ∃ rs, Carries (mixKind P w) ws rs ∧ KV kvs rs
  | [], _, r => by rw [List.map_nil] at r; cases r; exact ⟨[], True.intro, .nil⟩
  | p :: kvs, _, r => by
    rw [List.map_cons] at r
    cases r with
    | @cons a b as bs h t =>
      obtain ⟨rs, c, q⟩ := carries_of (P := P) (w := w) t
      obtain ⟨b1, b2⟩ := b
      exact ⟨(p.1, b2) :: rs, ⟨kV_is h.1, rfl, c⟩, .cons ⟨rfl, h.2⟩ q⟩
/-- {k: v, ..} with keys ints and texts; the new dict stands empty while the pairs are made -/
def tDisp (trs : List (TE × TE)) : TE := fun σ H Q => ∀ p, H p = none → tPairs trs σ (upd H p (.dK [])) fun ps H2 => H2 p = some (.dK []) ∧ ∃ kvs : List (Key × V), ps = kvs.map (fun kv => (kV kv.1, kv.2)) ∧ kvs.length ≤ 15 ∧ Q (.ref p) (upd H2 p (.dK (mergeK [] kvs)))
theorem pe_disp {X : Cx} {pos : Pos} {keys : List (Option Expr)} {values : List Expr} {trs : List (TE × TE)} (h : PPs X pos keys values trs) (hall : keys.all (·.isSome) = true) (hl : keys.length = values.length) (h0 : keys ≠ [])
    (h15 : keys.length ≤ 15) : PE X (.Dict keys values pos) (tDisp trs) := by
  intro pins s σ H Q I q
  have hn := I.hok.fresh (Nat.le_refl s.heap.objs.size)
  have I1 := I.laid (a := s.heap.objs.size) (o := .dK []) (h' := s.heap.push { cls := .type "dict", data := .dict #[] }) (t' := s.toks) (fun _ _ q => Heap.get?_push_of_some _ q) (Nat.le_refl _) (dk_empty s.heap I.big)
  refine wpAny_Dict_walk (knd := mixKind X.prog X.w) hall hl h0 h15 (thn (h pins _ σ _ _ I1 (q _ hn)) fun ws s2 ⟨ps, H2, I2, rel, e, kvs, ep, lk, q2⟩ => ?_)
  subst ep
  obtain ⟨rs, c, rk⟩ := carries_of (P := X.prog) (w := X.w) rel
  obtain ⟨z, hd, vs0, r0, dd⟩ := dk_of I2.hok e
  cases r0
  refine ⟨rs, c, dd, fun h' dd' hs => ⟨.ref s.heap.objs.size, _, ?_, rfl, q2⟩⟩
  have hz : (mergeK [] kvs).length ≤ sizeLine := by
    have h1 := length_mergeK kvs []
    rw [List.length_nil] at h1
    rw [sizeLine_eq]; omega
  have he : ∃ q, h'.get? s.heap.objs.size = some q := let ⟨q, _, _, hq, _⟩ := dd'; ⟨q, hq⟩
  exact d_write I2 (by rw [e]; exact True.intro) hs he (dk_new hz hd (rk.merge .nil) dd')


/-! ### methods -/
/-- a method call o.m(e) of a built-in, with one argument: what must be seen of the text -/
structure M1 (X : Cx) (o : Expr) (m : Str) (apos : Pos) (e : Expr) (cpos : Pos) : Prop where
  base : attributeBase o m X.env (eval o X.env) = eval o X.env
  few : ((backTo cpos (starEach [e] X.env)).all (fun x => !x.1) && (backToKw cpos (keywordEach [] X.env)).all (fun x => x.1.isSome)
    && decide (([e] : List Expr).length + ([] : List Keyword).length + (if ([] : List Keyword).isEmpty then 0 else 1) < 30)) = true
  line : (apos.endLine == cpos.line) = true
  trees : backTo cpos (starEach [e] X.env) = [(false, eval e X.env)]
structure M2 (X : Cx) (o : Expr) (m : Str) (apos : Pos) (e f : Expr) (cpos : Pos) : Prop where
  base : attributeBase o m X.env (eval o X.env) = eval o X.env
  few : ((backTo cpos (starEach [e, f] X.env)).all (fun x => !x.1) && (backToKw cpos (keywordEach [] X.env)).all (fun x => x.1.isSome)
    && decide (([e, f] : List Expr).length + ([] : List Keyword).length + (if ([] : List Keyword).isEmpty then 0 else 1) < 30)) = true
  line : (apos.endLine == cpos.line) = true
  trees : backTo cpos (starEach [e, f] X.env) = [(false, eval e X.env), (false, eval f X.env)]

/-- a is a dict, whatever its keys -/
def IsD (H : Hp) (a : Addr) : Prop := (∃ kvs, Rd H a (.dK kvs)) ∨ ∃ kvs, Rd H a (.dT kvs)
theorem isD_at {X : Cx} {pins : List (Addr × Obj)} {σ : St} {H : Hp} {s : Shared} {a : Addr} (I : Inv X pins σ H s) (d : IsD H a) :
    s.TypeIs (.ref a) "dict" ∧ (∀ b, Value.ref a = .ref b → ∃ ob, s.heap.get? b = some ob ∧ ob.dict = none) ∧ (a == sysModules) = false := by
  rcases d with ⟨kvs, e⟩ | ⟨kvs, e⟩
  · obtain ⟨_, hd, vs, _, dd⟩ := dk_rd I.hok e
    refine ⟨dd.typeIs, fun b q => ?_, hd⟩
    cases q
    obtain ⟨ob, _, _, h1, h2, _⟩ := dd
    exact ⟨ob, h1, h2.2.1⟩
  · obtain ⟨_, hd, xs, _, dd⟩ := dt_rd I.hok e
    refine ⟨dd.typeIs, fun b q => ?_, hd⟩
    cases q
    obtain ⟨ob, _, _, h1, h2, _⟩ := dd
    exact ⟨ob, h1, h2.2.1⟩

section
variable {X : Cx} {pins : List (Addr × Obj)} {σ : St} {H : Hp} {s : Shared} {a : Addr} {y d : V} {u r : Value} {o : Option V} {A : Around} {E : Value → Shared → Prop}
/-- d.get(y) -/
theorem d_get1 {Q : Value → Shared → Prop} (hu : A.units + 1 < cLine) (I : Inv X pins σ H s) (g : DGet H a y o) (ry : RelV y u) (h : ∀ w' s', Inv X pins σ H s' → RelV (o.getD .non) w' → Q w' s') :
    wpAny (model X.prog X.w) A (call (.builtin "dict.get") [.ref a, u]) Q E s := by
  rcases g with ⟨kvs, k, e, ey, l⟩ | ⟨kvs, k, b, e, ey, eb, l⟩
  · subst ey
    obtain ⟨z, hd, vs, rel, dd⟩ := dk_rd I.hok e
    refine call_meetsIn PySem.F.slot_dict_get dd.typeIs PySem.F.entry_dict_get (PySem.F.args_dict_get_2 _ _) (meets_dict_get (mixKind X.prog X.w) a (kV_is ry) hd) ⟨_, dd.mapOf, h _ _ (I.tok _) ?_⟩
    rw [l]
    exact (rel.val k).getD rfl
  · subst ey
    cases (show u = Value.ref b from ry)
    obtain ⟨z, hd, xs, rel, dd⟩ := dt_rd I.hok e
    refine call_meetsIn PySem.F.slot_dict_get dd.typeIs PySem.F.entry_dict_get (PySem.F.args_dict_get_2 _ _) (meetsH_dict_get (tupleKind (mixKind X.prog X.w)) a b hd) ⟨tupleKind_room_in1 hu, k, xs, key_of I.hok eb, dd, h _ _ (I.tok _) ?_⟩
    rw [l]
    exact (rel.val k).getD rfl
/-- d.get(y, x) -/
theorem d_get2 {Q : Value → Shared → Prop} (hu : A.units + 1 < cLine) (I : Inv X pins σ H s) (g : DGet H a y o) (ry : RelV y u) (rd : RelV d r) (h : ∀ w' s', Inv X pins σ H s' → RelV (o.getD d) w' → Q w' s') :
    wpAny (model X.prog X.w) A (call (.builtin "dict.get") [.ref a, u, r]) Q E s := by
  rcases g with ⟨kvs, k, e, ey, l⟩ | ⟨kvs, k, b, e, ey, eb, l⟩
  · subst ey
    obtain ⟨z, hd, vs, rel, dd⟩ := dk_rd I.hok e
    refine call_meetsIn PySem.F.slot_dict_get dd.typeIs PySem.F.entry_dict_get (PySem.F.args_dict_get_3 _ _ _) (meets_dict_get_default (mixKind X.prog X.w) a (kV_is ry) hd r) ⟨_, dd.mapOf, h _ _ (I.tok _) ?_⟩
    rw [l]
    exact (rel.val k).getD rd
  · subst ey
    cases (show u = Value.ref b from ry)
    obtain ⟨z, hd, xs, rel, dd⟩ := dt_rd I.hok e
    refine call_meetsIn PySem.F.slot_dict_get dd.typeIs PySem.F.entry_dict_get (PySem.F.args_dict_get_3 _ _ _) (meetsH_dict_get_default (tupleKind (mixKind X.prog X.w)) a b hd r) ⟨tupleKind_room_in1 hu, k, xs, key_of I.hok eb, dd, h _ _ (I.tok _) ?_⟩
    rw [l]
    exact (rel.val k).getD rd
end

def tDGet1 (td ty : TE) : TE := fun σ H Q => td σ H fun x H1 => ∃ a, x = .ref a ∧ IsD H1 a ∧ ty σ H1 fun y H2 => ∃ o, DGet H2 a y o ∧ Q (o.getD .non) H2
def tDGet2 (td ty tx : TE) : TE := fun σ H Q => td σ H fun x H1 => ∃ a, x = .ref a ∧ IsD H1 a ∧ ty σ H1 fun y H2 => tx σ H2 fun z H3 => ∃ o, DGet H3 a y o ∧ Q (o.getD z) H3
/-- d.pop(k): there; d.pop(k, x): there or not -/
def tDPop1 (td ty : TE) : TE := fun σ H Q => td σ H fun x H1 => ∃ a, x = .ref a ∧ IsD H1 a ∧ ty σ H1 fun y H2 => ∃ kvs k v, H2 a = some (.dK kvs) ∧ y = kV k ∧ valV kvs k = some v ∧ Q v (upd H2 a (.dK (dropK kvs k)))
def tDPop2 (td ty tx : TE) : TE := fun σ H Q => td σ H fun x H1 => ∃ a, x = .ref a ∧ IsD H1 a ∧ ty σ H1 fun y H2 => tx σ H2 fun z H3 => ∃ kvs k, H3 a = some (.dK kvs) ∧ y = kV k ∧
  (∀ v, valV kvs k = some v → Q v (upd H3 a (.dK (dropK kvs k)))) ∧ (valV kvs k = none → Q z H3)
section
variable {X : Cx} {o e f : Expr} {apos cpos : Pos} {td ty tx : TE}
theorem pe_dget1 (hu : X.A.units + 1 < cLine) (ho : PE X o td) (he : PE X e ty) (m : M1 X o "get" apos e cpos) : PE X (.Call (.Attribute o "get" apos) [e] [] cpos) (tDGet1 td ty) := by
  intro pins s σ H Q I h
  refine wpAny_Call_method m.base m.few m.line PySem.F.plainAttrs_dict PySem.F.slot_dict_get PySem.F.type_dict_get (thn (ho pins s σ H _ I h) fun u s1 ⟨x, H1, I1, rx, a, ex, d, q1⟩ => ?_)
  subst ex
  obtain rfl : u = Value.ref a := rx
  obtain ⟨t1, t2, _⟩ := isD_at I1 d
  refine ⟨t1, t2, ?_⟩
  rw [m.trees]
  refine Calls.callWith_builtin rfl (Calls.evalArgs_plain (Calls.spliced_cons (thn (he pins s1 σ H1 _ I1 q1) fun iv s2 ⟨y, H2, I2, ry, ov, g, q2⟩ => Calls.spliced_nil ?_)))
  exact d_get1 hu I2 g ry fun w' s3 I3 rw' => ⟨_, H2, I3, rw', q2⟩
theorem pe_dget2 (hu : X.A.units + 1 < cLine) (ho : PE X o td) (he : PE X e ty) (hf : PE X f tx) (m : M2 X o "get" apos e f cpos) : PE X (.Call (.Attribute o "get" apos) [e, f] [] cpos) (tDGet2 td ty tx) := by
  intro pins s σ H Q I h
  refine wpAny_Call_method m.base m.few m.line PySem.F.plainAttrs_dict PySem.F.slot_dict_get PySem.F.type_dict_get (thn (ho pins s σ H _ I h) fun u s1 ⟨x, H1, I1, rx, a, ex, d, q1⟩ => ?_)
  subst ex
  obtain rfl : u = Value.ref a := rx
  obtain ⟨t1, t2, _⟩ := isD_at I1 d
  refine ⟨t1, t2, ?_⟩
  rw [m.trees]
  refine Calls.callWith_builtin rfl (Calls.evalArgs_plain (Calls.spliced_cons (thn (he pins s1 σ H1 _ I1 q1) fun iv s2 ⟨y, H2, I2, ry, q2⟩ =>
    Calls.spliced_cons (thn (hf pins s2 σ H2 _ I2 q2) fun fv s3 ⟨z, H3, I3, rz, ov, g, q3⟩ => Calls.spliced_nil ?_))))
  exact d_get2 hu I3 g ry rz fun w' s4 I4 rw' => ⟨_, H3, I4, rw', q3⟩
theorem pe_dpop1 (ho : PE X o td) (he : PE X e ty) (m : M1 X o "pop" apos e cpos) : PE X (.Call (.Attribute o "pop" apos) [e] [] cpos) (tDPop1 td ty) := by
  intro pins s σ H Q I h
  refine wpAny_Call_method m.base m.few m.line PySem.F.plainAttrs_dict PySem.F.slot_dict_pop PySem.F.type_dict_pop (thn (ho pins s σ H _ I h) fun u s1 ⟨x, H1, I1, rx, a, ex, d, q1⟩ => ?_)
  subst ex
  obtain rfl : u = Value.ref a := rx
  obtain ⟨t1, t2, _⟩ := isD_at I1 d
  refine ⟨t1, t2, ?_⟩
  rw [m.trees]
  refine Calls.callWith_builtin rfl (Calls.evalArgs_plain (Calls.spliced_cons (thn (he pins s1 σ H1 _ I1 q1) fun iv s2 ⟨y, H2, I2, ry, kvs, k, v, ea, ey, l, q2⟩ => Calls.spliced_nil ?_)))
  subst ey
  exact d_pop I2 ea ry l (.inl rfl) fun w' s3 I3 rw' => ⟨v, _, I3, rw', q2⟩
theorem pe_dpop2 (ho : PE X o td) (he : PE X e ty) (hf : PE X f tx) (m : M2 X o "pop" apos e f cpos) : PE X (.Call (.Attribute o "pop" apos) [e, f] [] cpos) (tDPop2 td ty tx) := by
  intro pins s σ H Q I h
  refine wpAny_Call_method m.base m.few m.line PySem.F.plainAttrs_dict PySem.F.slot_dict_pop PySem.F.type_dict_pop (thn (ho pins s σ H _ I h) fun u s1 ⟨x, H1, I1, rx, a, ex, d, q1⟩ => ?_)
  subst ex
  obtain rfl : u = Value.ref a := rx
  obtain ⟨t1, t2, _⟩ := isD_at I1 d
  refine ⟨t1, t2, ?_⟩
  rw [m.trees]
  refine Calls.callWith_builtin rfl (Calls.evalArgs_plain (Calls.spliced_cons (thn (he pins s1 σ H1 _ I1 q1) fun iv s2 ⟨y, H2, I2, ry, q2⟩ =>
    Calls.spliced_cons (thn (hf pins s2 σ H2 _ I2 q2) fun fv s3 ⟨z, H3, I3, rz, kvs, k, ea, ey, q3, q4⟩ => Calls.spliced_nil ?_))))
  subst ey
  cases l : valV kvs k with
  | some v => exact d_pop I3 ea ry l (.inr ⟨fv, rfl⟩) fun w' s4 I4 rw' => ⟨v, _, I4, rw', q3 v l⟩
  | none => exact d_popD I3 ea ry l fun s4 I4 => ⟨z, H3, I4, rz, q4 l⟩
end

/-! ### dict(d): a copy -/
section
variable {X : Cx} {pins : List (Addr × Obj)} {σ : St} {H : Hp} {s : Shared} {a : Addr} {kvs : List (Key × V)} {A : Around} {E : Value → Shared → Prop}
theorem d_copyOf {Q : Value → Shared → Prop} (I : Inv X pins σ H s) (e : Rd H a (.dK kvs)) (h : ∀ p s', H p = none → Inv X pins σ (upd H p (.dK kvs)) s' → Q (.ref p) s') : wpAny (model X.prog X.w) A (call (.type "dict") [.ref a]) Q E s := by
  obtain ⟨z, hd, vs, rel, dd⟩ := dk_rd I.hok e
  refine kt_call_dict hd dd (by rw [← rel.length]; exact z) fun h' dd' hs => ?_
  refine h _ _ (I.hok.fresh (Nat.le_refl _)) (I.laid (a := s.heap.objs.size) (o := .dK kvs) (t' := s.toks) (fun b q hq => ?_) (Nat.le_refl _) (dk_new z (beq_eq_false_iff_ne.mpr (Ne.symm (Nat.ne_of_lt I.big))) rel dd'))
  exact (hs.2 b (Nat.ne_of_lt (Heap.lt_size hq))).trans (Heap.get?_push_of_some _ hq)
end


section
variable {X : Cx} {pins : List (Addr × Obj)} {σ : St} {H : Hp} {s : Shared} {a : Addr} {y : V} {u : Value} {A : Around} {E : Value → Shared → Prop}
/-- d[y], not there: a KeyError -/
theorem d_missing {Q : Value → Shared → Prop} (hu : A.units + 1 < cLine) (hh : A.handled = none) (I : Inv X pins σ H s) (g : DGet H a y none) (ry : RelV y u)
    (h : ∀ h' e t', Heap.NewExc s.heap h' e "KeyError" → E (.ref e) { s with heap := h', toks := t' }) : wpAny (model X.prog X.w) A (getItem (.ref a) u) Q E s := by
  rcases g with ⟨kvs, k, e, ey, l⟩ | ⟨kvs, k, b, e, ey, eb, l⟩
  · subst ey
    obtain ⟨z, hd, vs, rel, dd⟩ := dk_rd I.hok e
    have hn : valueAt vs k = none := RelO.none_of (by rw [l]; exact rel.val k)
    exact wpAny_getItem_missing_of (kV_is ry) hd hh dd.mapOf hn fun h' ex ne => h h' ex _ ne
  · subst ey
    cases (show u = Value.ref b from ry)
    obtain ⟨z, hd, xs, rel, dd⟩ := dt_rd I.hok e
    have hn : (atKey xs k).map (·.2) = none := RelO.none_of (by rw [l]; exact rel.val k)
    exact wpAny_getItem_missing_heap (tupleKind_room_in1 hu) (key_of I.hok eb) hd hh dd (Option.map_eq_none_iff.mp hn) fun h' ex ne => h h' ex _ ne
end
end L2

namespace Att
open PySem PySem.W PySem.Calls PyProof.Rows

/-! ### the script -/
theorem ints_of_wellAll {P : Params} {h : Heap} : ∀ (ns : List Int) (vs : List Value), WellAll P h vs (ns.map WData.int) → IntsAre vs ns := by
  intro ns
  induction ns with
  | nil =>
    intro vs w
    rw [List.map_nil] at w
    cases w
    exact .nil
  | cons n ns ih =>
    intro vs w
    rw [List.map_cons] at w
    cases w with
    | cons a b =>
      cases a
      exact .cons _ _ (ih _ b)

theorem script_of {l : OpenLaw} {n : Nat} (hn : l.most = some n) {P : Params} {h : Heap} {args : List WData} {vals : List Value}
    (hpre : l.row.toRowW.claim.pre args = true) (hwl : WellAll P h vals args) :
    ∃ a vs ns, vals = [Value.ref a] ∧ args = [WData.list (ns.map WData.int)] ∧ h.get? a = some { cls := .type "list", data := .seq vs.toArray } ∧ IntsAre vs ns ∧ ns.length ≤ n := by
  have hsh : WShape.hasAll [] args [.list .int] = true := (pre_splitW hpre).1
  have hc : l.pre.holds [] { args := args } = true := (pre_splitW hpre).2
  obtain ⟨d, r, rfl, h1, h2⟩ := hasAllW_cons hsh
  obtain rfl := hasAllW_nil h2
  obtain ⟨xs, rfl, h3⟩ := hasW_list h1
  obtain ⟨ns, rfl⟩ := items_int h3
  have hlen : ns.length ≤ n := by
    unfold OpenLaw.pre at hc
    have h4 : (WTm.not (.lt (.lit (.int (n : Int))) (.len (.arg 0)))).holds [] { args := [.list (ns.map .int)] } = true := by
      have h4 := (holds_andW hc).1
      rw [hn] at h4
      exact h4
    have h5 := condW_of h4 (w_not (w_lt w_lit (w_len_list (w_arg rfl))))
    rw [List.length_map] at h5
    refine Nat.le_of_not_lt fun q => ?_
    have q' : (n : Int) < ((ns.length : Nat) : Int) := by omega
    first
      | (rw [decide_eq_true q'] at h5; exact absurd h5 (by decide))
      | (simp at h5; omega)
  cases hwl with
  | cons w1 w2 =>
    cases w2
    cases w1 with
    | list ho hall => exact ⟨_, _, ns, rfl, rfl, ho, ints_of_wellAll ns _ hall, hlen⟩

theorem post_true (l : OpenLaw) (args : List WData) : l.row.toRowW.claim.post args (.bool true) args = true :=
  postW_of (r := l.row.toRowW) (X := (true == true))
    (show WShape.has [] (.bool true) .bool = true by first | rfl | decide | simp [WShape.has, WShape.arms, WShape.armsAll])
    (show (WTm.eq .res (.lit (.bool true))).value [] { args := args, res := some (.bool true), after := args } = some (.bool (true == true)) from w_eq_bool (w_res rfl) w_lit) rfl

/-! ### the attachment: holds_open's last premise (the goal 'hc' behind k_head) from a wpAny of the law's body -/
theorem attach {l : OpenLaw} {n : Nat} {q : Program} {loose : List Str} {XP : (Str → Option Value) → Heap → Prop} {YP : World → Heap → Prop} {d : DefRec} {x : Str}
    (hn : l.most = some n) (hdf : d.params.defaults = [])
    (hbind : ∀ pm cd doc v : Value, bindArgs (docDef d.name d.params d.body d.scope pm cd doc) ⟨[v], []⟩ = pure [(x, v)])
    (hx : d.scope.names.lookup x = some .local ∨ d.scope.names.lookup x = some .cell)
    (hk : d.scope.kind = .function) (hco : d.scope.isCoroutine = false) (hgen : d.scope.isGenerator = false)
    (body : ∀ (w : World) (s₀ s₁ s : Shared) (mg mb : Str → Option Value) (fa : Addr) (o : Obj) (pm cd doc : Value) (a : Addr) (vs : List Value) (ns : List Int),
      Ground q loose [] XP w s₀ mg mb s₁.heap → YP w s₁.heap →
      s₁.heap.get? fa = some o → o.data = .func (docDef d.name d.params d.body d.scope pm cd doc) → s₁.heap.CodeRec cd d.name → mg d.name = some (.ref fa) →
      s₁.heap.get? a = some { cls := .type "list", data := .seq vs.toArray } → IntsAre vs ns → ns.length ≤ n →
      s.gens = #[] → s.os = s₁.os →
      Fr s₁.heap s₁.heap.objs.size s.heap (bindL (envOfC d.name d.scope s₁.heap.objs.size fa cd).kindOf [(x, .ref a)] fun _ => none) →
      Cl s₁.heap.objs.size (cellsFrom (s₁.heap.objs.size + 1) d.scope.names []) s.heap (bindC (envOfC d.name d.scope s₁.heap.objs.size fa cd).kindOf [(x, .ref a)] fun _ => none) →
      wpAny (model l.prog w) (callerA.deeper (envOfC d.name d.scope s₁.heap.objs.size fa cd)) (execs d.body (envOfC d.name d.scope s₁.heap.objs.size fa cd))
        (fun f s' => f = .ret (.bool true) ∧ OldK s₁.heap s'.heap ∧ s'.os = s₁.os ∧ AllBare s'.gens) (fun _ _ => False) s) :
    WalkO q loose XP YP l.row.toRowW d [] (fun f vs => PySem.call f vs) := by
  intro w s₀ s₁ mg mb G Y fa o pm cd doc dV kV ho hd hcd hD hmg hg args vals as hpre hlay hrd hwl hlo
  obtain rfl : dV = .none := Dflts.none hD hdf
  obtain rfl : kV = .none := Dflts.noKw hD
  obtain ⟨a, vs, ns, rfl, rfl, hobj, hints, hlen⟩ := script_of hn hpre hwl
  refine enter_call ?_
  refine call_cells_ret (o := o) (by rw [depth_caller]; decide) ho (fd_plain hd) G.T.nolimit hcd (hbind pm cd doc (.ref a)) (fun y hy => ?_) (fun h₁ tk F X => ?_) hco hgen hk
  · obtain rfl : y = (x, Value.ref a) := List.mem_singleton.mp hy
    rcases hx with e | e
    · exact .inl e
    · exact .inr ⟨e, cellsFrom_some _ _ _ (.inl e)⟩
  · refine wpAny_mono (body w s₀ s₁ { s₁ with heap := h₁, toks := tk } mg mb fa o pm cd doc a vs ns G Y ho (fd_plain hd) hcd hmg hobj hints hlen hg rfl F X) (fun f s' hq => ?_) (fun _ _ hq => hq)
    obtain ⟨rfl, h2, h3, h4⟩ := hq
    exact ⟨.inl ⟨.bool true, .bool true, [], rfl, fun _ => rfl, .bool true, post_true l _, fun _ => ⟨List.Pairwise.nil, fun _ hm => (nomatch hm)⟩⟩, h2, h3, h4⟩

/-- the same from a codeAny of the CALL (for a layer whose function contracts speak of calls) -/
theorem attach_call {l : OpenLaw} {n : Nat} {q : Program} {loose : List Str} {XP : (Str → Option Value) → Heap → Prop} {YP : World → Heap → Prop} {d : DefRec}
    (hn : l.most = some n) (hdf : d.params.defaults = [])
    (call : ∀ (w : World) (s₀ s₁ : Shared) (mg mb : Str → Option Value) (fa : Addr) (o : Obj) (pm cd doc : Value) (a : Addr) (vs : List Value) (ns : List Int),
      Ground q loose [] XP w s₀ mg mb s₁.heap → YP w s₁.heap →
      s₁.heap.get? fa = some o → o.data = .func (docDef d.name d.params d.body d.scope pm cd doc) → s₁.heap.CodeRec cd d.name → mg d.name = some (.ref fa) →
      s₁.heap.get? a = some { cls := .type "list", data := .seq vs.toArray } → IntsAre vs ns → ns.length ≤ n → s₁.gens = #[] →
      codeAny (model l.prog w) callerA (.call (.ref fa) ⟨[.ref a], []⟩) (fun r s' => r = .ok (.ret (.bool true)) ∧ OldK s₁.heap s'.heap ∧ s'.os = s₁.os ∧ AllBare s'.gens) s₁) :
    WalkO q loose XP YP l.row.toRowW d [] (fun f vs => PySem.call f vs) := by
  intro w s₀ s₁ mg mb G Y fa o pm cd doc dV kV ho hd hcd hD hmg hg args vals as hpre hlay hrd hwl hlo
  obtain rfl : dV = .none := Dflts.none hD hdf
  obtain rfl : kV = .none := Dflts.noKw hD
  obtain ⟨a, vs, ns, rfl, rfl, hobj, hints, hlen⟩ := script_of hn hpre hwl
  refine enter_call (codeAny_mono (call w s₀ s₁ mg mb fa o pm cd doc a vs ns G Y ho (fd_plain hd) hcd hmg hobj hints hlen hg) fun r s' hq => ?_)
  obtain ⟨rfl, h2, h3, h4⟩ := hq
  exact ⟨.inl ⟨.bool true, .bool true, [], rfl, fun _ => rfl, .bool true, post_true l _, fun _ => ⟨List.Pairwise.nil, fun _ hm => (nomatch hm)⟩⟩, h2, h3, h4⟩

/-- the same where the top left finished generators (o_head chose holds_openN): nothing may have changed at all and no generator may be left -/
theorem attachN {l : OpenLaw} {n : Nat} {q : Program} {loose : List Str} {XP : (Str → Option Value) → Heap → Prop} {YP : World → Heap → Prop} {d : DefRec} {x : Str}
    (hn : l.most = some n) (hdf : d.params.defaults = [])
    (hbind : ∀ pm cd doc v : Value, bindArgs (docDef d.name d.params d.body d.scope pm cd doc) ⟨[v], []⟩ = pure [(x, v)])
    (hx : d.scope.names.lookup x = some .local ∨ d.scope.names.lookup x = some .cell)
    (hk : d.scope.kind = .function) (hco : d.scope.isCoroutine = false) (hgen : d.scope.isGenerator = false)
    (body : ∀ (w : World) (s₀ s₁ s : Shared) (mg mb : Str → Option Value) (fa : Addr) (o : Obj) (pm cd doc : Value) (a : Addr) (vs : List Value) (ns : List Int),
      Ground q loose [] XP w s₀ mg mb s₁.heap → YP w s₁.heap →
      s₁.heap.get? fa = some o → o.data = .func (docDef d.name d.params d.body d.scope pm cd doc) → s₁.heap.CodeRec cd d.name → mg d.name = some (.ref fa) →
      s₁.heap.get? a = some { cls := .type "list", data := .seq vs.toArray } → IntsAre vs ns → ns.length ≤ n →
      s.gens = #[] → s.os = s₁.os →
      Fr s₁.heap s₁.heap.objs.size s.heap (bindL (envOfC d.name d.scope s₁.heap.objs.size fa cd).kindOf [(x, .ref a)] fun _ => none) →
      Cl s₁.heap.objs.size (cellsFrom (s₁.heap.objs.size + 1) d.scope.names []) s.heap (bindC (envOfC d.name d.scope s₁.heap.objs.size fa cd).kindOf [(x, .ref a)] fun _ => none) →
      wpAny (model l.prog w) (callerA.deeper (envOfC d.name d.scope s₁.heap.objs.size fa cd)) (execs d.body (envOfC d.name d.scope s₁.heap.objs.size fa cd))
        (fun f s' => f = .ret (.bool true) ∧ (∀ b o, s₁.heap.get? b = some o → s'.heap.get? b = some o) ∧ s'.os = s₁.os ∧ s'.gens = #[]) (fun _ _ => False) s) :
    WalkN q loose XP YP l.row.toRowW d [] (fun f vs => PySem.call f vs) := by
  intro w s₀ s₁ mg mb G Y fa o pm cd doc dV kV ho hd hcd hD hmg hg args vals as hpre hlay hrd hwl hlo
  obtain rfl : dV = .none := Dflts.none hD hdf
  obtain rfl : kV = .none := Dflts.noKw hD
  obtain ⟨a, vs, ns, rfl, rfl, hobj, hints, hlen⟩ := script_of hn hpre hwl
  refine enter_callW ?_
  refine call_cells_ret (o := o) (by rw [depth_caller]; decide) ho (fd_plain hd) G.T.nolimit hcd (hbind pm cd doc (.ref a)) (fun y hy => ?_) (fun h₁ tk F X => ?_) hco hgen hk
  · obtain rfl : y = (x, Value.ref a) := List.mem_singleton.mp hy
    rcases hx with e | e
    · exact .inl e
    · exact .inr ⟨e, cellsFrom_some _ _ _ (.inl e)⟩
  · refine wpAny_mono (body w s₀ s₁ { s₁ with heap := h₁, toks := tk } mg mb fa o pm cd doc a vs ns G Y ho (fd_plain hd) hcd hmg hobj hints hlen hg rfl F X) (fun f s' hq => ?_) (fun _ _ hq => hq)
    obtain ⟨rfl, h2, h3, h4⟩ := hq
    exact ⟨.inl ⟨.bool true, .bool true, [], rfl, fun _ => rfl, .bool true, post_true l _, fun _ => ⟨List.Pairwise.nil, fun _ hm => (nomatch hm)⟩⟩, h2, h3, h4⟩

/-! ### rules over ANY heap (no ledger) from facts about the written part K: the library's own take a ledger (News) for what they write -/
section
variable {prog : Program} {w : World} {A : Around} {E : Value → Shared → Prop} {s : Shared} {K : Frag}

/-- a def of the module, or a method (qual 'C.m'), entered: the frame is the next address; cells behind it -/
theorem call_fn {R : Result → Shared → Prop} {name qual : Str} {params : Arguments} {body : List Stmt} {scope : Scope} {dV kV doc pm cdv ct oc : Value} {an od : Option Addr} {osl : Array (Option Value)} {f : Addr} {args : Args} {binds : List (Str × Value)}
    (X : K.In s.heap) (hlim : s.heap.NoLimit) (ho : K.lookup f = some ⟨oc, od, .func (fnOf name qual params body scope dV kV doc pm an cdv ct), osl⟩) (hcd : codeIn K cdv qual = true) (hroom : A.depth < recursionLimit)
    (hbind : BindsTo s (fnOf name qual params body scope dV kV doc pm an cdv ct) args binds)
    (hkind : (binds.all fun y => scope.names.lookup y.1 == some .local || scope.names.lookup y.1 == some .cell) = true)
    (h : ∀ s₁, InCallC s s.heap.objs.size (bindL (envOfC qual scope s.heap.objs.size f cdv).kindOf binds fun _ => none) (cellsFrom (s.heap.objs.size + 1) scope.names [])
        (bindC (envOfC qual scope s.heap.objs.size f cdv).kindOf binds fun _ => none) s₁ →
      wpAny (model prog w) (A.deeper (envOfC qual scope s.heap.objs.size f cdv)) (execs body (envOfC qual scope s.heap.objs.size f cdv))
        (fun fl s' => R (.ok (.ret (match fl with | .ret v => v | _ => .none))) s')
        (fun e s' => wpAny (model prog w) (A.deeper (envOfC qual scope s.heap.objs.size f cdv)) (leaving (envOfC qual scope s.heap.objs.size f cdv) e) (fun _ s'' => R (.error e) s'') (fun e' s'' => R (.error e') s'') s') s₁)
    (hco : scope.isCoroutine = false) (hgen : scope.isGenerator = false) (hk : scope.kind = .function) : codeAny (model prog w) A (.call (.ref f) args) R s := by
  refine codeAny_call_function hroom (X _ _ ho) rfl hco hgen rfl (codeRec_of X hcd) (hbind _ _ _ _ ?_)
  refine wpAny_newFunctionEnv_cells hk (kindsX hkind _) fun env he s₁ x => ?_
  subst he
  exact ⟨hlim.keeps x.toInCall.keep, codeAny_func (h s₁ x)⟩

/-- C(..): dict at size, instance at size + 1, then __init__ -/
theorem make_obj {R : Result → Shared → Prop} {C fI : Addr} {rest : List Value} {kw : List (Str × Value)}
    (X : K.In s.heap) (hm : makesIn K C = true) (hi : findIn K (.ref C) "__init__" = some (some (.ref fI))) (hf : isFn K (.ref fI) = true)
    (h : codeAny (model prog w) (A.under (.builtin "type.__call__" ⟨.ref C :: rest, kw⟩)) (.call (.ref fI) ⟨.ref (s.heap.objs.size + 1) :: rest, kw⟩) (InitBack (s.heap.objs.size + 1) R)
      { s with heap := (s.heap.push emptyDict).push (instObj C s.heap.objs.size) }) : codeAny (model prog w) A (.call (.ref C) ⟨rest, kw⟩) R s := by
  obtain ⟨hh, g, d, t, os⟩ := s
  exact make_core (makes_of X hm) (looks_findIn X hi) (fun self => bind_fn X self (beq_iff_eq.mp hf)) (.inl rfl) h

/-- x.name where the instance's dict holds the name and the class does not -/
theorem get_field {x C : Addr} {ox : Obj} {es : List DictEntry} {n : Nat} {name : Str} {expr : Bool} {v : Value} {Q : Value → Shared → Prop}
    (X : K.In s.heap) (I : PySem.W.InstAt s.heap x ox C (some (dictOf es n))) (hg : plainGet K C name = true) (hh : hasDictIn K C = true) (ha : findIn K (.ref C) name = some none)
    (hl : getL name es = some (some v)) (hv : handedIn v = true) (h : Q v { s with toks := s.toks + 1 }) : wpAny (model prog w) A (getAttr (.ref x) name expr) Q E s :=
  get_value X I (plainGet_of hg).1 (findObj_own hh ha rfl hl) hv h

/-- x.m(..): the method found in the class -/
theorem get_method {x C f : Addr} {ox : Obj} {es : List DictEntry} {n : Nat} {name : Str} {pl : Sem Bool} {Q : Value × List Value → Shared → Prop}
    (X : K.In s.heap) (I : PySem.W.InstAt s.heap x ox C (some (dictOf es n))) (hg : plainGet K C name = true) (hf : findIn K (.ref C) name = some (some (.ref f))) (ht : isFn K (.ref f) = true)
    (hl : getL name es = some none) (h : Q (.ref f, [.ref x]) s) : wpAny (model prog w) A (getMethod (.ref x) name pl) Q E s :=
  method_fn X I (plainGet_of hg).1 (plainGet_of hg).2 hf (beq_iff_eq.mp ht) (by show (lookIn name (dictOf es n)).map _ = _; rw [lookIn_dict, hl]; rfl) h

/-! the whole heap as the ledger: makes every rule that writes through a ledger a rule over any heap -/
def noObjs (h : Heap) : Heap := { h with objs := #[] }
theorem noObjs_get (h : Heap) (b : Addr) : (noObjs h).get? b = none := by
  cases e : (noObjs h).get? b with
  | none => rfl
  | some o => exact absurd (Heap.lt_size e) (Nat.not_lt_zero _)
def ledger (h : Heap) (L d : Addr) : List (Addr × Obj) := (List.range h.objs.size).filterMap fun a => if a = L ∨ a = d then none else (h.get? a).map fun o => (a, o)
theorem mem_ledger {h : Heap} {L d a : Addr} {o : Obj} : (a, o) ∈ ledger h L d ↔ a ≠ L ∧ a ≠ d ∧ h.get? a = some o := by
  unfold ledger
  rw [List.mem_filterMap]
  constructor
  · rintro ⟨b, _, e⟩
    split at e
    · cases e
    · rename_i hb
      obtain ⟨o', ho, e'⟩ := Option.map_eq_some_iff.mp e
      cases e'
      exact ⟨fun q => hb (.inl q), fun q => hb (.inr q), ho⟩
  · rintro ⟨n1, n2, ho⟩
    refine ⟨a, List.mem_range.mpr (Heap.lt_size ho), ?_⟩
    rw [if_neg (show ¬ (a = L ∨ a = d) from fun q => q.elim n1 n2), ho] <;> rfl
theorem news_ledger {h : Heap} {L d : Addr} {od : Obj} (hne : d ≠ L) (ho : h.get? d = some od) : News (noObjs h) L h ([] ++ (d, od) :: ledger h L d) := by
  rintro ⟨a, o⟩ hp
  rcases List.mem_cons.mp hp with e | hp
  · cases e
    exact ⟨ho, hne, noObjs_get _ _⟩
  · obtain ⟨n1, n2, e⟩ := mem_ledger.mp hp
    exact ⟨e, n1, noObjs_get _ _⟩
theorem fr_all {h : Heap} {L : Addr} {m : Str → Option Value} (n : h.Ns L m) : Fr (noObjs h) L h m :=
  ⟨n, fun b o e => (by rw [noObjs_get] at e; cases e), Nat.zero_le _⟩
/-- Upd of the head entry (for append_K, setItem_K ..) -/
theorem upd_ledger {h : Heap} {L d : Addr} {o o' : Obj} : Upd d o o' ((d, o) :: ledger h L d) ((d, o') :: ledger h L d) :=
  .head fun ⟨_, _⟩ hp => (mem_ledger.mp hp).2.1

/-- x.name = v over any heap: L is any namespace of the heap (the frame's, say): its map stays, its object is not told; all else but the dict stays -/
theorem set_field {x C dx L : Addr} {ox : Obj} {m : Str → Option Value} {es es' : List DictEntry} {n n' : Nat} {name : Str} {v : Value} {Q : Unit → Shared → Prop}
    (X : K.In s.heap) (I : PySem.W.InstAt s.heap x ox C (some (dictOf es n))) (hd : ox.dict = some dx) (hL : s.heap.Ns L m) (hne : dx ≠ L)
    (hs : findIn K (.ref C) "__setattr__" = some (some (.builtin "object.__setattr__"))) (hp : plainOver K C = true) (ht : takerIn K C name = some none) (hh : hasDictIn K C = true) (hl : (getL name es).isSome = true)
    (e : (putL name (PyData.keyHash w.params name) (.str name (s.toks + 1)) v es, putN name es n) = (es', n')) (hz : es'.length ≤ 1000)
    (h : ∀ h' : Heap, h'.Ns L m → h'.get? dx = some (dictOf es' n') → (∀ b o, b ≠ dx → b ≠ L → s.heap.get? b = some o → h'.get? b = some o) → Q () { s with heap := h', toks := s.toks + 2 }) :
    wpAny (model prog w) A (setAttr (.ref x) name v) Q E s := by
  obtain ⟨e1, e2⟩ := Prod.mk.inj e
  have hdx : s.heap.get? dx = some (dictOf es n) := by
    have := I.dict
    rw [hd] at this
    exact this
  refine set_plain X I hs (osa_dict (s := { s with toks := s.toks + 1 }) (h₀ := noObjs s.heap) (L := L) (m := m) (od := dictOf es n) (od' := dictOf es' n') (es := es') (n := n') (pre := []) (post := ledger s.heap L dx)
    (fr_all hL) (news_ledger hne hdx) X I hd hp ht hh hl (fun _ q => nomatch q) (fun ⟨_, _⟩ q => (mem_ledger.mp q).2.1) (by rw [putName_dict, e1, e2]) rfl hz fun h' F' N' => ?_)
  exact h h' F'.ns (N'.get (List.Mem.head _)) fun b o n1 n2 ho => N'.get (List.Mem.tail _ (mem_ledger.mpr ⟨n2, n1, ho⟩))
end
end Att

namespace L2
open PySem PySem.Spec PyProof.Rows

theorem vals_ints : ∀ {vs : List Value} {ns : List Int}, IntsAre vs ns → Vals (ns.map V.int) vs
  | _, _, .nil => .nil
  | _, _, .cons n t h => .cons ⟨t, rfl⟩ (vals_ints h)

/-- nothing is tracked but the script, known to the object (or it is an object of the module) -/
def Only (H : Hp) : Prop := ∀ b, H b = none ∨ ∃ o xs, H b = some (.frz o (.lst xs))

/-- THE HEAD: the law's promise, at the heap behind the top. F, the promise of the law's def, may use that base is part of the heap (so K.In base, base.Ns mainGlobals mg stand in Mod) -/
theorem law_call {P : Program} {w : World} {K : PySem.W.Frag} {mg mb : Str → Option Value} {CX : CXT} {k : Nat} {fa a : Addr} {fd : FuncData} {x : Str} {sp : Sp} {s₁ : Shared} {vs : List Value} {ns : List Int}
    (KX : K.In s₁.heap) (hns : s₁.heap.Ns mainGlobals mg) (hb : s₁.heap.Ns builtinsNs mb) (hbb : ∀ x : Str, x ≠ "__name__" → mb x = bootBuiltins x) (hlim : s₁.heap.NoLimit) (hg : s₁.gens = #[])
    (ha : s₁.heap.get? a = some { cls := .type "list", data := .seq vs.toArray }) (hi : IntsAre vs ns) (hl : ns.length ≤ sizeLine) (hr : Room k callerA)
    (F : ∀ base : Heap, K.In base → base.Ns mainGlobals mg → FnOk P w K mg base CX k fa fd [x] sp) (hbind : ∀ (s : Shared) (u : Value), BindsTo s fd ⟨[u], []⟩ [(x, u)])
    (hsp : ∀ H : Hp, Only H → SqL K H a (ns.map V.int) → sp [.ref a] H (fun v _ => v = .bl true) fun _ _ _ => False)
    (hCX : ∀ H e s', CX [] H s₁ (fun _ _ _ => False) e s' → False) :
    codeAny (model P w) callerA (.call (.ref fa) ⟨[.ref a], []⟩) (fun r s' => r = .ok (.ret (.bool true)) ∧ OldK s₁.heap s'.heap ∧ s'.os = s₁.os ∧ AllBare s'.gens) s₁ := by
  have rv := vals_ints hi
  have lenV := hi.length
  -- from an abstract heap in which nothing but the script may be tracked
  have core : ∀ H : Hp, Only H → SqL K H a (ns.map V.int) → HOk P w H s₁.heap → (∀ b, H b ≠ none → b = a) → (H a ≠ none → K.lookup a = none) →
      codeAny (model P w) callerA (.call (.ref fa) ⟨[.ref a], []⟩) (fun r s' => r = .ok (.ret (.bool true)) ∧ OldK s₁.heap s'.heap ∧ s'.os = s₁.os ∧ AllBare s'.gens) s₁ := by
    intro H hO hS hok hA hK
    have base_of : ∀ {b : Addr} {o : Obj}, s₁.heap.get? b = some o → H b = none → (hidT s₁.heap H).get? b = some o := fun e n => hidT_get e n
    have noA : ∀ {b : Addr} {o : Obj} {es : Array DictEntry} {ep : Nat}, s₁.heap.get? b = some o → o.data = .dict es ep → H b = none := fun {b o es ep} e d => by
      cases q : H b with
      | none => rfl
      | some u =>
        have e' : b = a := hA b (by rw [q]; simp)
        subst e'
        rw [ha] at e; cases e
        have d' : Data.seq vs.toArray _ = Data.dict es ep := d
        cases d'
    have nsK : ∀ {b : Addr} {m : Str → Option Value}, s₁.heap.Ns b m → (hidT s₁.heap H).Ns b m := fun {b m} ⟨o, es, ep, e, d, r⟩ => ⟨o, es, ep, base_of e (noA e d), d, r⟩
    have hKb : K.In (hidT s₁.heap H) := fun b o e => base_of (KX b o e) (by
      cases q : H b with
      | none => rfl
      | some u =>
        have e' : b = a := hA b (by rw [q]; simp)
        subst e'
        rw [hK (by rw [q]; simp)] at e; cases e)
    have hM : Mod K mg (hidT s₁.heap H) := ⟨hKb, nsK hns, ⟨mb, nsK hb, hbb⟩, let ⟨mc, h1, h2⟩ := hlim; ⟨mc, nsK h1, h2⟩⟩
    have e0 : Env0 P w K mg (hidT s₁.heap H) callerA [] s₁ H := ⟨rfl, hM, fun b o e => of_hidT e, Nat.le_of_eq (hidT_size _ _), trivial, fun b hb => absurd (show b ∈ ([] : List Addr) from hb) (by simp), hok, .of_eq hg⟩
    refine codeAny_mono ((F _ hKb (nsK hns)).run callerA [] s₁ H ⟨[.ref a], []⟩ [.ref a] [.ref a] _ _ hr e0 (hbind s₁ (.ref a)) (.cons rfl .nil) (hsp H hO hS)) fun r s' h => ?_
    cases r with
    | error e => exact (hCX H e s' h).elim
    | ok fl =>
      cases fl with
      | next => exact False.elim h
      | brk => exact False.elim h
      | cont => exact False.elim h
      | ret u =>
        obtain ⟨v, H', os, bare, un, hok', r', q⟩ := h
        have q' : v = .bl true := q
        subst q'
        obtain rfl : u = Value.bool true := r'
        refine ⟨rfl, OldK.of_keep fun b o e => ?_, os, bare⟩
        cases q : H b with
        | none => exact un.keep b o e q (by intro z; exact absurd (show b ∈ ([] : List Addr) from z) (by simp)) (by simp)
        | some u =>
          rcases hO b with z | ⟨ob, xs, z⟩
          · rw [q] at z; cases z
          · have z2 := un.frzs b ob _ z
            obtain ⟨e1, _⟩ := hok b _ z
            obtain ⟨e2, _⟩ := hok' b _ z2
            rw [e] at e1; cases e1
            exact e2
  cases hk : K.lookup a with
  | some o =>
    -- the script is one of the module's own objects
    have e := KX a o hk
    rw [ha] at e
    cases e
    refine core (fun _ => none) (fun _ => .inl rfl) (.inr ⟨_, vs.toArray, _, hk, rfl, rfl, rfl, by rw [List.size_toArray, lenV]; exact hl, by simpa using rv⟩) (fun b u z => by have z' : (none : Option HO) = some u := z; cases z') (fun b z => absurd rfl z) fun z => absurd rfl z
  | none =>
    refine core (fun b => if b = a then some (.frz { cls := .type "list", data := .seq vs.toArray } (.lst (ns.map V.int))) else none) (fun b => ?_) (.inl (.inr ⟨{ cls := .type "list", data := .seq vs.toArray }, if_pos rfl⟩)) (fun b u z => ?_) (fun b z => ?_) fun _ => hk
    · by_cases hb : b = a
      · exact .inr ⟨_, _, if_pos hb⟩
      · exact .inl (if_neg hb)
    · by_cases hb : b = a
      · have z' := (if_pos hb).symm.trans z
        cases z'
        subst hb
        exact ⟨ha, by rw [List.length_map]; exact hl, vs, _, rv, ha⟩
      · have z' := (if_neg hb).symm.trans z
        cases z'
    · by_cases hb : b = a
      · exact hb
      · exact absurd (if_neg hb) z
end L2

namespace L2
open PySem PySem.Spec PyProof.Rows

abbrev KOf {K : PySem.W.Frag} {h : Heap} (_ : K.In h) : PySem.W.Frag := K

/-- the goal that k_head leaves (case hc), from the law's promise. F gives the function object fd (K's own) once, then the promise over every base -/
theorem walk_of {l : PySem.W.OpenLaw} {n k : Nat} {q : Program} {loose : List Str} {XP : (Str → Option Value) → Heap → Prop} {YP : World → Heap → Prop} {d : DefRec} {K : Params → PySem.W.Frag} {CX : World → CXT} {sp : World → Sp} {x : Str}
    (hn : l.most = some n) (hn2 : n ≤ sizeLine) (hdf : d.params.defaults = []) (hr : Room k callerA)
    (hY : ∀ (w : World) (h : Heap), YP w h → (K w.params).In h)
    (F : ∀ (w : World) (mg : Str → Option Value) (fa : Addr) (h : Heap), (K w.params).In h → h.Ns mainGlobals mg → mg d.name = some (.ref fa) →
      ∃ fd : FuncData, (∀ (s : Shared) (u : Value), BindsTo s fd ⟨[u], []⟩ [(x, u)]) ∧
        ∀ base : Heap, (K w.params).In base → base.Ns mainGlobals mg → FnOk l.prog w (K w.params) mg base (CX w) k fa fd [x] (sp w))
    (hsp : ∀ (w : World) (H : Hp) (a : Addr) (ns : List Int), ns.length ≤ n → Only H → SqL (K w.params) H a (ns.map V.int) → sp w [.ref a] H (fun v _ => v = .bl true) fun _ _ _ => False)
    (hCX : ∀ (w : World) (H : Hp) (s : Shared) (e : Value) (s' : Shared), CX w [] H s (fun _ _ _ => False) e s' → False) :
    PySem.W.WalkO q loose XP YP l.row.toRowW d [] (fun f vs => PySem.call f vs) := by
  refine Att.attach_call hn hdf fun w s₀ s₁ mg mb fa o pm cd doc a vs ns G Y ho hd hcd hmg hobj hints hlen hg => ?_
  have KX := hY w _ Y
  obtain ⟨fd, hb, hF⟩ := F w mg fa _ KX G.T.g hmg
  exact law_call KX G.T.g G.T.b G.T.builtins G.T.nolimit hg hobj hints (Nat.le_trans hlen hn2) hr hF hb (fun H hO hS => hsp w H a ns hlen hO hS) fun H e s' => hCX w H s₁ e s'
/-- the same where the promise hangs on the written part alone: (sp := My.sp_law), no hole under a binder -/
theorem walk_ofK {l : PySem.W.OpenLaw} {n k : Nat} {q : Program} {loose : List Str} {XP : (Str → Option Value) → Heap → Prop} {YP : World → Heap → Prop} {d : DefRec} {K : Params → PySem.W.Frag} {CX : CXT} {sp : PySem.W.Frag → Sp} {x : Str}
    (hn : l.most = some n) (hn2 : n ≤ sizeLine) (hdf : d.params.defaults = []) (hr : Room k callerA)
    (hY : ∀ (w : World) (h : Heap), YP w h → (K w.params).In h)
    (F : ∀ (w : World) (mg : Str → Option Value) (fa : Addr) (h : Heap), (K w.params).In h → h.Ns mainGlobals mg → mg d.name = some (.ref fa) →
      ∃ fd : FuncData, (∀ (s : Shared) (u : Value), BindsTo s fd ⟨[u], []⟩ [(x, u)]) ∧
        ∀ base : Heap, (K w.params).In base → base.Ns mainGlobals mg → FnOk l.prog w (K w.params) mg base CX k fa fd [x] (sp (K w.params)))
    (hsp : ∀ (K : PySem.W.Frag) (H : Hp) (a : Addr) (ns : List Int), ns.length ≤ n → Only H → SqL K H a (ns.map V.int) → sp K [.ref a] H (fun v _ => v = .bl true) fun _ _ _ => False)
    (hCX : ∀ (H : Hp) (s : Shared) (e : Value) (s' : Shared), CX [] H s (fun _ _ _ => False) e s' → False) :
    PySem.W.WalkO q loose XP YP l.row.toRowW d [] (fun f vs => PySem.call f vs) :=
  walk_of (K := K) (CX := fun _ => CX) (sp := fun w => sp (K w.params)) hn hn2 hdf hr hY F (fun w H a ns h1 h2 h3 => hsp (K w.params) H a ns h1 h2 h3) fun _ H s e s' => hCX H s e s'
end L2

/- THE LAST THEOREM (shape; LID, My.* are yours):
   My.Adr: a structure of the addresses that your layer names (classes, functions); My.Txt K t: a structure (Prop) of the equations over K;
   My.txt_mk : {K} {implicit addresses ..} (e1 : nsIn K mainGlobals "law" = some (some (.ref f))) (e2 : K.lookup f = some ⟨oc, od, .func (fnOf "law" "law" params body scope dV kV doc pm an cdv ct), sl⟩) (e3 : codeIn K cdv "law" = true) .. : ∃ t, My.Txt K t

set_option maxRecDepth 100000 in
set_option maxHeartbeats 0 in
theorem PySem.Challenge.cw_LID_holds : PySem.Challenge.rw_LID.Holds := by
  w_on; o_law; k_head; (case hw => w_witness2)
  k_fill
  refine L2.walk_of (l := PySem.Challenge.rw_LID) (n := 63) (k := 40) (x := "script") (CX := fun w => ..) (sp := fun _ => My.sp_law) rfl (by decide) rfl ⟨rfl, by decide, by decide⟩ (fun w h Y => PySem.W.kIn_of Y) ?F ?S ?C
  case F =>
    intro w mg fa h KX G hmg
    have T : ∃ t, My.Txt (L2.KOf KX) t := by
      dsimp only [L2.KOf]                          -- K must stand as «<heap const> w.params» for k_is
      refine' My.txt_mk ?e1 ?e2 ?e3 ..
      (case e1 => PySem.W.k_is)                    -- in the order: a name -> its address -> its object -> its parts
      (case e2 => PySem.W.k_is)
      ..
    obtain ⟨t, T⟩ := T
    have e0 := hmg.symm.trans (PySem.W.mg_of KX G T.law)
    cases e0                                       -- fa is the law's own address
    exact ⟨_, fun s u => .of_eq rfl, fun base kb nb => My.law_fn T kb nb⟩     -- if «.of_eq rfl» comes too early: refine' ⟨_, ?b, fun base kb nb => My.law_fn T kb nb⟩; exact fun s u => .of_eq rfl
  case S => exact fun w H a ns hl hO hS => ..
  case C => exact ..
(the tactic k_is has no namespace: write k_is) -/

/-! SHORT WORDS over the layer: a def of the text, its body, what a loop and a test want. -/
namespace L2
open PySem PySem.Spec PyProof.Rows

/-! ### the text by places -/
/-- the j-th statement of a class's body -/
def inClass (s : Stmt) (j : Nat) : Stmt := match s with
  | .ClassDef _ _ _ body _ _ _ _ _ _ _ => body.getD j (.Pass ⟨0, 0, 0, 0⟩)
  | _ => .Pass ⟨0, 0, 0, 0⟩
def defArgs (s : Stmt) : Arguments := match s with
  | .FunctionDef _ a _ _ _ _ _ _ _ _ => a
  | _ => { posonlyargs := [], args := [], vararg := none, kwonlyargs := [], kw_defaults := [], kwarg := none, defaults := [] }
def defBody (s : Stmt) : List Stmt := match s with
  | .FunctionDef _ _ b _ _ _ _ _ _ _ => b
  | _ => []
def defScope (s : Stmt) : Scope := match s with
  | .FunctionDef _ _ _ _ _ _ sc _ _ _ => sc
  | _ => { kind := .function, names := [], isGenerator := false, isCoroutine := false }

/-! ### no exception leaves a def -/
abbrev CX0 : CXT := fun _ _ _ _ _ _ => False
abbrev E0 : XK := fun _ _ _ => False
theorem pass0 {X : Cx} : Passes CX0 X E0 := fun _ _ _ _ _ _ _ h => h.elim

/-! ### a def (or method) of the text as it stands behind the top -/
structure Fun (K : PySem.W.Frag) (x qual : Str) (st : Stmt) (f : Addr) (fd : FuncData) : Prop where
  ex : ∃ (oc : Value) (od : Option Addr) (kV doc pm : Value) (an : Option Addr) (cdv ct : Value) (osl : Array (Option Value)),
    fd = PySem.W.fnOf x qual (defArgs st) (defBody st) (defScope st) .none kV doc pm an cdv ct ∧ K.lookup f = some ⟨oc, od, .func fd, osl⟩ ∧ PySem.W.codeIn K cdv qual = true
  kp : PySem.W.keepIn K (.ref f) = true
section
variable {P : Program} {w : World} {K : PySem.W.Frag} {mg : Str → Option Value} {base : Heap}
/-- THE RULE for a def: its body as a term of rules, and the reading of that term -/
theorem Fun.ok {x qual : Str} {st : Stmt} {f : Addr} {fd : FuncData} {N ps : List Str} {k : Nat} {sp : Sp} (F : Fun K x qual st f fd) (S : FnScope N ps (defScope st)) (len : ∀ vs H Q E, sp vs H Q E → vs.length = ps.length)
    (hbody : ∀ (cdv : Value) (A : Around) (outer : List Env) (s : Shared) (H : Hp) (vs : List V) (Q : VK) (E : XK), Room k (A.deeper (envOfC qual (defScope st) s.heap.objs.size f cdv)) → sp vs H Q E →
      ∃ t, PSs (cxOf CX0 P w K mg base N qual (defScope st) f cdv A outer s H E).nox (defBody st) t ∧ t { nx := fun _ H' => Q .non H', rt := Q } (start N vs) H) : FnOk P w K mg base CX0 (k + 1) f fd ps sp := by
  obtain ⟨oc, od, kV, doc, pm, an, cdv, ct, osl, rfl, lk, hcd⟩ := F.ex
  refine fn_of lk hcd S len fun A outer s H vs Q E hr hsp => ?_
  obtain ⟨t, h, q⟩ := hbody cdv A outer s H vs Q E hr hsp
  exact ⟨t, h.nox, q⟩
/-- how its arguments bind (no defaults): h is «fun _ _ _ _ _ _ us hl => match us, hl with | [_, _], _ => rfl», one _ a parameter -/
theorem Fun.binds {x qual : Str} {st : Stmt} {f : Addr} {fd : FuncData} {ps : List Str} (F : Fun K x qual st f fd)
    (h : ∀ (kV doc pm : Value) (an : Option Addr) (cdv ct : Value) (us : List Value), us.length = ps.length → bindArgs (PySem.W.fnOf x qual (defArgs st) (defBody st) (defScope st) .none kV doc pm an cdv ct) ⟨us, []⟩ = pure (ps.zip us)) : Binds K fd ps [] := by
  obtain ⟨oc, od, kV, doc, pm, an, cdv, ct, osl, rfl, lk, hcd⟩ := F.ex
  exact .all (h kV doc pm an cdv ct)
theorem fun_mk {x qual : Str} {st : Stmt} {f : Addr} {oc : Value} {od an : Option Addr} {osl : Array (Option Value)} {kV doc pm cdv ct : Value} (l : K.lookup f = some ⟨oc, od, .func (PySem.W.fnOf x qual (defArgs st) (defBody st) (defScope st) .none kV doc pm an cdv ct), osl⟩)
    (c : PySem.W.codeIn K cdv qual = true) (k : PySem.W.keepIn K (.ref f) = true) : Fun K x qual st f (PySem.W.fnOf x qual (defArgs st) (defBody st) (defScope st) .none kV doc pm an cdv ct) := ⟨⟨oc, od, kV, doc, pm, an, cdv, ct, osl, rfl, l, c⟩, k⟩
end
theorem hu_of {A : Around} {k : Nat} (hr : Room k A) : A.units + 1 < cLine := Nat.lt_of_le_of_lt (Nat.add_le_add_left (by decide : 1 ≤ 64) _) hr.units
theorem small1000 {n : Nat} (h : n ≤ 1000) : n < sizeLine := Nat.lt_of_le_of_lt h (by decide)

/-! ### expressions in short: the name that stands in the i-th slot -/
section
variable {X : Cx}
theorem pv (i : Nat) {x : Str} {pos : Pos} (hN : X.N[i]? = some x := by rfl) (hv : Vis X.env.scope x := by first | exact Or.inl rfl | exact Or.inr (Or.inl rfl) | exact Or.inr (Or.inr rfl)) (hd : (x == ("__debug__" : Str)) = false := by decide)
    (hcd : (x == ("__classdict__" : Str)) = false := by decide) : PE X (.Name x pos) (tVar i) := pe_var hN hv hd hcd
/-- len of a dict -/
theorem call_lenD : CallR X (.builtin "len") (fun xs H Q => ∃ a kvs, xs = [V.ref a] ∧ H a = some (.dK kvs) ∧ Q (.int kvs.length) H) := by
  intro pins s σ H xs us Q I r h
  obtain ⟨a, kvs, rfl, ha, q⟩ := h
  obtain ⟨u, rfl, ru⟩ := vals1 r
  cases ru
  exact d_len I (.inl ha) fun t s' I' => ⟨.int kvs.length, H, I', ⟨t, rfl⟩, q⟩
end

/-! ### tests -/
theorem iteF {A B : Prop} (h : B) : if false = true then A else B := by
  rw [if_neg Bool.false_ne_true]
  exact h
theorem iteT {A B : Prop} (h : A) : if true = true then A else B := by
  rw [if_pos rfl]
  exact h
theorem ite2 {c A B : Prop} [Decidable c] (h1 : c → A) (h2 : ¬ c → B) : if c then A else B := by
  by_cases h : c
  · rw [if_pos h]
    exact h1 h
  · rw [if_neg h]
    exact h2 h
theorem iteNS {c A B : Prop} [Decidable c] (hc : c) (h : B) : if (!decide c) = true then A else B := by
  rw [decide_eq_true hc]
  exact iteF h

/-! ### heaps -/
/-- all that was tracked is as it was -/
def Same (H H' : Hp) : Prop := ∀ b o, H b = some o → H' b = some o
theorem Same.refl (H : Hp) : Same H H := fun _ _ h => h
theorem Same.trans {H H1 H2 : Hp} (a : Same H H1) (b : Same H1 H2) : Same H H2 := fun c o h => b c o (a c o h)
theorem Same.free {H H' : Hp} (e : Same H H') {l : Addr} (h : H' l = Option.none) : H l = Option.none := by
  cases q : H l with
  | none => rfl
  | some o =>
    rw [e l o q] at h
    cases h
theorem Same.seq {K : PySem.W.Frag} {H H' : Hp} {a : Addr} {xs : List V} (e : Same H H') (h : SqL K H a xs) : SqL K H' a xs := by
  rcases h with (h | ⟨o, h⟩) | h
  · exact .inl (.inl (e _ _ h))
  · exact .inl (.inr ⟨o, e _ _ h⟩)
  · exact .inr h

/-! ### a dict's pairs: keys that differ -/
section
variable {κ : Type} [DecidableEq κ]
theorem valV_not {kvs : List (κ × V)} {k : κ} (h : valV kvs k = none) : ¬ k ∈ kvs.map (·.1) := by
  intro m
  obtain ⟨p, hp, e⟩ := List.mem_map.mp m
  have q : (kvs.any fun kv => decide (kv.1 = k)) = true := List.any_eq_true.mpr ⟨p, hp, decide_eq_true e⟩
  rw [valV_any, h] at q
  exact absurd q (by simp)
theorem valV_in {kvs : List (κ × V)} {k : κ} {v : V} (h : valV kvs k = some v) : k ∈ kvs.map (·.1) := by
  have q : (kvs.any fun kv => decide (kv.1 = k)) = true := by
    rw [valV_any, h]
    all_goals rfl
  obtain ⟨p, hp, e⟩ := List.any_eq_true.mp q
  exact List.mem_map.mpr ⟨p, hp, of_decide_eq_true e⟩
theorem nd_snoc : ∀ {l : List κ} {k : κ}, l.Nodup → ¬ k ∈ l → (l ++ [k]).Nodup
  | [], k, _, _ => by simp
  | a :: r, k, h, hk => by
    obtain ⟨h1, h2⟩ := List.nodup_cons.mp h
    show (a :: (r ++ [k])).Nodup
    refine List.nodup_cons.mpr ⟨fun m => ?_, nd_snoc h2 fun m => hk (List.mem_cons.mpr (Or.inr m))⟩
    rcases List.mem_append.mp m with q | q
    · exact h1 q
    · exact hk (List.mem_cons.mpr (Or.inl (List.mem_singleton.mp q).symm))
theorem nd_putK {kvs : List (κ × V)} {k : κ} (v : V) (hn : (kvs.map (·.1)).Nodup) (h : valV kvs k = none) : ((putK kvs k v).map (·.1)).Nodup := by
  rw [putK_new v h, List.map_append]
  exact nd_snoc hn (valV_not h)
theorem dropK_pos {p : κ × V} {r : List (κ × V)} {k : κ} (e : p.1 = k) : dropK (p :: r) k = dropK r k := by
  unfold dropK
  rw [List.filter_cons, if_neg (by simp [e])]
theorem dropK_neg {p : κ × V} {r : List (κ × V)} {k : κ} (e : ¬ p.1 = k) : dropK (p :: r) k = p :: dropK r k := by
  unfold dropK
  rw [List.filter_cons, if_pos (by simp [e])]
theorem dropK_no : ∀ {kvs : List (κ × V)} {k : κ}, ¬ k ∈ kvs.map (·.1) → dropK kvs k = kvs
  | [], _, _ => rfl
  | p :: r, k, h => by
    have h' : ¬ k ∈ r.map (·.1) := fun m => by
      obtain ⟨q, hq, e⟩ := List.mem_map.mp m
      exact h (List.mem_map.mpr ⟨q, List.mem_cons.mpr (Or.inr hq), e⟩)
    rw [dropK_neg fun e => h (List.mem_map.mpr ⟨p, List.mem_cons.mpr (Or.inl rfl), e⟩), dropK_no h']
theorem dropK_mem {kvs : List (κ × V)} {k : κ} {p : κ × V} (h : p ∈ dropK kvs k) : p ∈ kvs := (List.mem_filter.mp h).1
theorem nd_dropK : ∀ {kvs : List (κ × V)} {k : κ}, (kvs.map (·.1)).Nodup → ((dropK kvs k).map (·.1)).Nodup
  | [], _, _ => List.nodup_nil
  | p :: r, k, h => by
    have h : (p.1 :: r.map (·.1)).Nodup := h
    obtain ⟨h1, h2⟩ := List.nodup_cons.mp h
    by_cases e : p.1 = k
    · rw [dropK_pos e]
      exact nd_dropK h2
    · rw [dropK_neg e]
      show (p.1 :: (dropK r k).map (·.1)).Nodup
      refine List.nodup_cons.mpr ⟨fun m => h1 ?_, nd_dropK h2⟩
      obtain ⟨q, hq, eq⟩ := List.mem_map.mp m
      exact List.mem_map.mpr ⟨q, dropK_mem hq, eq⟩
theorem dropK_len : ∀ {kvs : List (κ × V)} {k : κ}, (kvs.map (·.1)).Nodup → k ∈ kvs.map (·.1) → (dropK kvs k).length + 1 = kvs.length
  | [], _, _, m => by simp at m
  | p :: r, k, h, m => by
    have h : (p.1 :: r.map (·.1)).Nodup := h
    have m : k = p.1 ∨ k ∈ r.map (·.1) := List.mem_cons.mp m
    obtain ⟨h1, h2⟩ := List.nodup_cons.mp h
    by_cases e : p.1 = k
    · subst e
      rw [dropK_pos rfl, dropK_no h1]
      all_goals rfl
    · have m' : k ∈ r.map (·.1) := m.resolve_left fun z => e z.symm
      have q := dropK_len h2 m'
      rw [dropK_neg e, List.length_cons, List.length_cons]
      omega
end
end L2


set_option Elab.async false
set_option maxRecDepth 100000
namespace SW
open PySem PySem.Spec PyProof.Rows

/-- a piece -/
inductive T where
  | num (n : Int) | name (w : Str)
  | sum (a b : T) | less (a b : T) | cho (a b c : T) | lt (w : Str) (a b : T)
  | st0 (w : Str) | st1 (w : Str) (a : T) | st2 (w : Str) (a b : T)

def T.size : T → Nat
  | .num _ => 1
  | .name _ => 1
  | .sum a b => a.size + b.size + 1
  | .less a b => a.size + b.size + 1
  | .cho a b c => a.size + b.size + c.size + 1
  | .lt _ a b => a.size + b.size + 1
  | .st0 _ => 1
  | .st1 _ a => a.size + 1
  | .st2 _ a b => a.size + b.size + 1
theorem T.size_pos (t : T) : 0 < t.size := by cases t <;> simp [T.size]

def T.kids : T → List T
  | .num _ => []
  | .name _ => []
  | .sum a b => [a, b]
  | .less a b => [a, b]
  | .cho a b c => [a, b, c]
  | .lt _ a b => [a, b]
  | .st0 _ => []
  | .st1 _ a => [a]
  | .st2 _ a b => [a, b]

def sizes (ts : List T) : Nat := (ts.map T.size).sum
theorem sizes_nil : sizes [] = 0 := rfl
theorem sizes_cons (t : T) (ts : List T) : sizes (t :: ts) = t.size + sizes ts := by simp [sizes]
theorem sizes_append (a b : List T) : sizes (a ++ b) = sizes a + sizes b := by simp [sizes]
theorem sizes_kids (t : T) : sizes t.kids + 1 = t.size := by cases t <;> simp [T.kids, T.size, sizes] <;> omega
theorem length_le_sizes : ∀ ts : List T, ts.length ≤ sizes ts
  | [] => Nat.le_refl _
  | t :: ts => by
    have h := length_le_sizes ts
    have h2 := t.size_pos
    rw [sizes_cons, List.length_cons]; omega

/-- w is the word of a name anywhere in it -/
def T.occ (w : Str) : T → Prop
  | .num _ => False
  | .name v => v = w
  | .sum a b => a.occ w ∨ b.occ w
  | .less a b => a.occ w ∨ b.occ w
  | .cho a b c => a.occ w ∨ b.occ w ∨ c.occ w
  | .lt _ a b => a.occ w ∨ b.occ w
  | .st0 _ => False
  | .st1 _ a => a.occ w
  | .st2 _ a b => a.occ w ∨ b.occ w
/-- w is the word of an outside name -/
def T.out (w : Str) : T → Prop
  | .num _ => False
  | .name v => v = w
  | .sum a b => a.out w ∨ b.out w
  | .less a b => a.out w ∨ b.out w
  | .cho a b c => a.out w ∨ b.out w ∨ c.out w
  | .lt v a b => a.out w ∨ (v ≠ w ∧ b.out w)
  | .st0 _ => False
  | .st1 _ a => a.out w
  | .st2 _ a b => a.out w ∨ b.out w
theorem T.out_occ {w : Str} : ∀ {t : T}, t.out w → t.occ w
  | .num _, h => h
  | .name _, h => h
  | .sum _ _, h => h.elim (fun x => .inl (out_occ x)) fun x => .inr (out_occ x)
  | .less _ _, h => h.elim (fun x => .inl (out_occ x)) fun x => .inr (out_occ x)
  | .cho _ _ _, h => h.elim (fun x => .inl (out_occ x)) fun x => .inr (x.elim (fun x => .inl (out_occ x)) fun x => .inr (out_occ x))
  | .lt _ _ _, h => h.elim (fun x => .inl (out_occ x)) fun x => .inr (out_occ x.2)
  | .st0 _, h => h
  | .st1 _ a, h => out_occ (t := a) h
  | .st2 _ _ _, h => h.elim (fun x => .inl (out_occ x)) fun x => .inr (out_occ x)

/-- the words of all names, as often as they are -/
def T.names : T → List Str
  | .num _ => []
  | .name v => [v]
  | .sum a b => a.names ++ b.names
  | .less a b => a.names ++ b.names
  | .cho a b c => a.names ++ b.names ++ c.names
  | .lt _ a b => a.names ++ b.names
  | .st0 _ => []
  | .st1 _ a => a.names
  | .st2 _ a b => a.names ++ b.names
theorem T.names_occ {w : Str} : ∀ {t : T}, w ∈ t.names ↔ t.occ w
  | .num _ => by simp [names, occ]
  | .name _ => by simp [names, occ, eq_comm]
  | .sum a b => by simp [names, occ, names_occ (t := a), names_occ (t := b)]
  | .less a b => by simp [names, occ, names_occ (t := a), names_occ (t := b)]
  | .cho a b c => by simp [names, occ, names_occ (t := a), names_occ (t := b), names_occ (t := c)]
  | .lt _ a b => by simp [names, occ, names_occ (t := a), names_occ (t := b)]
  | .st0 _ => by simp [names, occ]
  | .st1 _ a => by simp [names, occ, names_occ (t := a)]
  | .st2 _ a b => by simp [names, occ, names_occ (t := a), names_occ (t := b)]
theorem T.names_len : ∀ t : T, t.names.length ≤ t.size
  | .num _ => by simp [names]
  | .name _ => by simp [names, size]
  | .sum a b => by have := names_len a; have := names_len b; simp [names, size]; omega
  | .less a b => by have := names_len a; have := names_len b; simp [names, size]; omega
  | .cho a b c => by have := names_len a; have := names_len b; have := names_len c; simp [names, size]; omega
  | .lt _ a b => by have := names_len a; have := names_len b; simp [names, size]; omega
  | .st0 _ => by simp [names]
  | .st1 _ a => by have := names_len a; simp [names, size]; omega
  | .st2 _ a b => by have := names_len a; have := names_len b; simp [names, size]; omega
def namesAll (ts : List T) : Nat := (ts.map fun t => t.names.length).sum

/-! ### sorted lists of texts -/
def SLt (a b : Str) : Prop := a.cps.toList < b.cps.toList
theorem SLt.irrefl (a : Str) : ¬ SLt a a := List.lt_irrefl _
theorem SLt.trans {a b c : Str} (h : SLt a b) (k : SLt b c) : SLt a c := List.lt_trans h k
theorem SLt.total {a b : Str} (h : ¬ SLt a b) (k : ¬ SLt b a) : a = b := by
  have e : a.cps.toList = b.cps.toList := List.le_antisymm (List.not_lt.mp k) (List.not_lt.mp h)
  cases a; cases b; congr; exact Array.toList_inj.mp e
theorem rising_pw : ∀ (l : List Str) (p : Str), risingS p l = true → (∀ x ∈ l, ¬ SLt x p) ∧ l.Pairwise (fun a b => ¬ SLt b a)
  | [], _, _ => ⟨fun _ h => (nomatch h), List.Pairwise.nil⟩
  | x :: r, p, h => by
    have h : (!ltCps x.cps.toList p.cps.toList && risingS x r) = true := h
    rw [Bool.and_eq_true, ltCps_eq] at h
    obtain ⟨i1, i2⟩ := rising_pw r x h.2
    have h1 : ¬ SLt x p := by simpa [SLt] using h.1
    refine ⟨fun y hy => ?_, List.pairwise_cons.mpr ⟨fun y hy => i1 y hy, i2⟩⟩
    rcases List.mem_cons.mp hy with rfl | hy
    · exact h1
    · intro z
      have h3 := i1 y hy
      by_cases q : SLt x y
      · exact h1 (q.trans z)
      · exact h1 (SLt.total q h3 ▸ z)
theorem sorted_pw {l : List Str} (h : sortedS l = true) : l.Pairwise (fun a b => ¬ SLt b a) := by
  cases l with
  | nil => exact .nil
  | cons x r =>
    obtain ⟨i1, i2⟩ := rising_pw r x h
    exact List.pairwise_cons.mpr ⟨i1, i2⟩
/-- strictly rising -/
abbrev Up (l : List Str) : Prop := l.Pairwise SLt
theorem up_of : ∀ {l : List Str}, l.Pairwise (fun a b => ¬ SLt b a) → l.Nodup → Up l
  | [], _, _ => .nil
  | x :: r, h, n => by
    obtain ⟨h1, h2⟩ := List.pairwise_cons.mp h
    obtain ⟨n1, n2⟩ := List.nodup_cons.mp n
    refine List.pairwise_cons.mpr ⟨fun y hy => ?_, up_of h2 n2⟩
    by_cases q : SLt x y
    · exact q
    · exact absurd (SLt.total q (h1 y hy)) (fun e => n1 (e ▸ hy))
theorem up_uniq : ∀ {a b : List Str}, Up a → Up b → (∀ w, w ∈ a ↔ w ∈ b) → a = b
  | [], [], _, _, _ => rfl
  | [], y :: _, _, _, h => (nomatch (h y).mpr List.mem_cons_self)
  | x :: _, [], _, _, h => (nomatch (h x).mp List.mem_cons_self)
  | x :: r, y :: q, h1, h2, h => by
    obtain ⟨a1, a2⟩ := List.pairwise_cons.mp h1
    obtain ⟨b1, b2⟩ := List.pairwise_cons.mp h2
    have e : x = y := by
      rcases List.mem_cons.mp ((h x).mp List.mem_cons_self) with e | e
      · exact e
      · rcases List.mem_cons.mp ((h y).mpr List.mem_cons_self) with e' | e'
        · exact e'.symm
        · exact absurd ((a1 y e').trans (b1 x e)) (SLt.irrefl x)
    subst e
    congr 1
    refine up_uniq a2 b2 fun w => ⟨fun hw => ?_, fun hw => ?_⟩
    · rcases List.mem_cons.mp ((h w).mp (List.mem_cons_of_mem _ hw)) with e | e
      · exact absurd (a1 w hw) (e ▸ SLt.irrefl _)
      · exact e
    · rcases List.mem_cons.mp ((h w).mpr (List.mem_cons_of_mem _ hw)) with e | e
      · exact absurd (b1 w hw) (e ▸ SLt.irrefl _)
      · exact e
end SW


set_option Elab.async false
set_option maxRecDepth 100000
set_option maxHeartbeats 4000000
namespace L2
open PySem PySem.Spec PyProof.Rows

theorem bo_len : bootBuiltins "len" = some (.builtin "len") := by decide +kernel
theorem bo_int : bootBuiltins "int" = some (.type "int") := by decide +kernel
theorem bo_str : bootBuiltins "str" = some (.type "str") := by decide +kernel
theorem bo_bool : bootBuiltins "bool" = some (.type "bool") := by decide +kernel
theorem bo_list : bootBuiltins "list" = some (.type "list") := by decide +kernel
theorem bo_tuple : bootBuiltins "tuple" = some (.type "tuple") := by decide +kernel
theorem bo_dict : bootBuiltins "dict" = some (.type "dict") := by decide +kernel
theorem bo_sorted : bootBuiltins "sorted" = some (.builtin "sorted") := by decide +kernel
theorem bo_isinstance : bootBuiltins "isinstance" = some (.builtin "isinstance") := by decide +kernel
theorem bo_min : bootBuiltins "min" = some (.builtin "min") := by decide +kernel
theorem bo_abs : bootBuiltins "abs" = some (.builtin "abs") := by decide +kernel
theorem isL_of {h : Heap} {a : Addr} {its : Array Value} (p : PlainL h a its) : h.IsList a its := by
  obtain ⟨o, n, e, c, _, d⟩ := p
  exact ⟨o, e, c, n, d⟩
theorem isT_of {h : Heap} {a : Addr} {its : Array Value} (p : IsTup h a its) : h.IsTuple a its := p
theorem vals_ix : ∀ {xs : List V} {us : List Value}, xs.length = us.length → (∀ (i : Nat) x u, xs[i]? = some x → us[i]? = some u → RelV x u) → Vals xs us
  | [], [], _, _ => .nil
  | [], _ :: _, h, _ => by simp at h
  | _ :: _, [], h, _ => by simp at h
  | x :: xs, u :: us, h, k => .cons (k 0 x u rfl rfl) (vals_ix (by simpa using h) fun i y w a b => k (i + 1) y w (by simpa using a) (by simpa using b))
theorem rel_key {k : Key} {u : Value} (h : keyIs k u = true) : RelV (kV k) u := by
  rcases keyIs_shape h with ⟨i, t, rfl, rfl⟩ | ⟨x, t, rfl, rfl⟩
  · exact ⟨t, rfl⟩
  · exact ⟨t, rfl⟩
/-- the keys as values -/
def keysV (kvs : List (Key × V)) : List V := kvs.map fun kv => kV kv.1
theorem keys_vals {P : Program} {w : World} {kvs : List (Key × V)} {vs : List (Key × Value)} (r : KV kvs vs) {acc : Array Value} (h : ItemsOf (fun i v => ∃ k x, vs[i]? = some (k, x) ∧ (mixKind P w).is k v = true) acc vs.length) : Vals (keysV kvs) acc.toList := by
  refine vals_ix ?_ fun i x u hx hu => ?_
  · have e1 : acc.toList.length = vs.length := by rw [Array.length_toList]; exact h.1
    have e2 : (keysV kvs).length = kvs.length := by simp [keysV]
    rw [e1, e2]; exact r.length
  · obtain ⟨k, y, e, hk⟩ := h.2 i u (by rw [← Array.getElem?_toList]; exact hu)
    have q : (kvs.map (·.1))[i]? = some k := by rw [r.keys, List.getElem?_map, e]; rfl
    have q2 : (keysV kvs)[i]? = some (kV k) := by
      have : keysV kvs = (kvs.map (·.1)).map kV := by simp [keysV]
      rw [this, List.getElem?_map, q]; rfl
    rw [q2] at hx
    cases hx
    exact rel_key hk
section
variable {X : Cx}
/-- xs != [] -/
def rNeNil (K : PySem.W.Frag) : R2 := fun x y H Q => ∃ a b xs, x = .ref a ∧ y = .ref b ∧ SqL K H a xs ∧ SqL K H b [] ∧ Q (.bl (!xs.isEmpty)) H
theorem op_neNil (hu : X.A.units < cLine) : OpR X (compareOp .NotEq) (rNeNil X.K) := by
  intro pins s σ H x y v u Q I rx ry h
  obtain ⟨a, b, xs, rfl, rfl, ha, hb, q⟩ := h
  cases rx
  cases ry
  obtain ⟨its, r1, p1, _⟩ := I.list ha
  obtain ⟨its2, r2, p2, _⟩ := I.list hb
  cases r2
  cases r1 with
  | nil => exact SeqAt.RcNeAt.lists (e := fun _ => true) (isL_of p1) (isL_of p2) rfl hu (fun j h1 _ => absurd h1 (Nat.not_lt_zero _)) _ _ _ _ ⟨.bl false, H, I, rfl, q⟩
  | cons _ _ => exact SeqAt.RcNeAt.lists_lengths (isL_of p1) (isL_of p2) rfl hu _ _ _ _ ⟨.bl true, H, I, rfl, q⟩
/-- t == (w1, w2), both texts; the first two of t: ints, texts, tuples -/
def plainV (K : PySem.W.Frag) (H : Hp) : V → Prop
  | .int _ => True
  | .str _ => True
  | .ref a => ∃ xs, SqT K H a xs
  | _ => False
theorem eqAt_pl {pins : List (Addr × Obj)} {σ : St} {H : Hp} {s : Shared} {A : Around} {x : V} {u : Value} {w : Str} {t : Tok} (I : Inv X pins σ H s) (rx : RelV x u) (p : plainV X.K H x) (hu : A.units < cLine) :
    SeqAt.EqAt A s u (.str w t) (decide (x = .str w)) := by
  cases x with
  | int i => obtain ⟨t', rfl⟩ := rx; exact SeqAt.EqAt.int_str i t' w t
  | str z =>
    obtain ⟨t', rfl⟩ := rx
    have e : decide (V.str z = V.str w) = (z == w) := dec_str
    rw [e]; exact SeqAt.EqAt.str_str z t' w t
  | ref a =>
    cases rx
    obtain ⟨xs, hx⟩ := p
    obtain ⟨its, r1, p1, _⟩ := I.tuple hx
    exact SeqAt.EqAt.tuple_str w t (isT_of p1) hu
  | non => exact p.elim
  | bl _ => exact p.elim
  | byt _ => exact p.elim
  | flt _ => exact p.elim
  | ty _ => exact p.elim
def rEqT2 (K : PySem.W.Frag) : R2 := fun x y H Q => ∃ a b xs w1 w2, x = .ref a ∧ y = .ref b ∧ SqT K H a xs ∧ SqT K H b [.str w1, .str w2] ∧ (∀ v ∈ xs.take 2, plainV K H v) ∧ Q (.bl (decide (xs = [.str w1, .str w2]))) H
theorem op_eqT2 (hu : X.A.units + 1 < cLine) : OpR X (compareOp .Eq) (rEqT2 X.K) := by
  intro pins s σ H x y v u Q I rx ry h
  obtain ⟨a, b, xs, w1, w2, rfl, rfl, ha, hb, hp, q⟩ := h
  cases rx
  cases ry
  obtain ⟨its, r1, p1, _⟩ := I.tuple ha
  obtain ⟨its2, r2, p2, _⟩ := I.tuple hb
  cases r2 with
  | cons c1 r2 =>
  cases r2 with
  | cons c2 r2 =>
  cases r2
  obtain ⟨t1, rfl⟩ := c1
  obtain ⟨t2, rfl⟩ := c2
  have hu1 : X.A.in1.units < cLine := hu
  have hu0 : X.A.units < cLine := Nat.lt_of_succ_lt hu
  have go : ∀ (e : Nat → Bool) (k : Bool), (∀ j (h1 : j < its.toArray.size) (h2 : j < ([Value.str w1 t1, Value.str w2 t2] : List Value).toArray.size), SeqAt.EqAt X.A.in1 s its.toArray[j] ([Value.str w1 t1, Value.str w2 t2] : List Value).toArray[j] (e j)) →
      ((List.range (min its.toArray.size ([Value.str w1 t1, Value.str w2 t2] : List Value).toArray.size)).all e && its.toArray.size == ([Value.str w1 t1, Value.str w2 t2] : List Value).toArray.size) = decide (xs = [.str w1, .str w2]) →
      wpAny (model X.prog X.w) X.A (compareOp .Eq (.ref a) (.ref b)) (EP X pins σ Q) X.xe s := fun e k he hk =>
    SeqAt.RcAt.tuples (e := e) (isT_of p1) (isT_of p2) hu0 he X.prog X.w X.xe _ (by rw [hk]; exact ⟨.bl (decide (xs = [.str w1, .str w2])), H, I, rfl, q⟩)
  cases r1 with
  | nil => exact go (fun _ => true) true (fun j h1 _ => absurd h1 (Nat.not_lt_zero _)) (by simp)
  | @cons x1 u1 xs us q1 r1 =>
  have e1 := fun (t : Tok) (w : Str) => eqAt_pl (A := X.A.in1) (w := w) (t := t) I q1 (hp x1 (by simp)) hu1
  cases r1 with
  | nil =>
    refine go (fun _ => decide (x1 = .str w1)) true (fun j h1 h2 => ?_) (by simp)
    have : j = 0 := by simp at h1; omega
    subst this
    exact e1 t1 w1
  | @cons x2 u2 xs us q2 r1 =>
  have e2 := fun (t : Tok) (w : Str) => eqAt_pl (A := X.A.in1) (w := w) (t := t) I q2 (hp x2 (by simp)) hu1
  refine go (fun j => if j = 0 then decide (x1 = .str w1) else decide (x2 = .str w2)) true (fun j h1 h2 => ?_) ?_
  · have : j = 0 ∨ j = 1 := by simp at h2; omega
    rcases this with rfl | rfl
    · exact e1 t1 w1
    · exact e2 t2 w2
  · have hl := r1.length
    have em : min (u1 :: u2 :: us).toArray.size ([Value.str w1 t1, Value.str w2 t2] : List Value).toArray.size = 2 := by simp
    rw [em]
    cases r1 with
    | nil => simp [List.range_succ, Bool.and_comm]
    | cons _ _ => simp
/-- dict(d) -/
theorem call_dictD : CallR X (.type "dict") (fun xs H Q => ∃ a kvs, xs = [.ref a] ∧ Rd H a (.dK kvs) ∧ ∀ p, H p = none → Q (.ref p) (upd H p (.dK kvs))) := by
  intro pins s σ H xs us Q I r h
  obtain ⟨a, kvs, rfl, ha, q⟩ := h
  obtain ⟨u, rfl, ru⟩ := vals1 r
  cases ru
  exact d_copyOf I ha fun p s' hp I' => ⟨.ref p, _, I', rfl, q p hp⟩
/-- texts -/
theorem strs_of : ∀ {ws : List Str} {us : List Value}, Vals (ws.map V.str) us → StrsAre us ws
  | [], _, r => by rw [List.map_nil] at r; cases r; exact .nil
  | w :: ws, _, r => by
    rw [List.map_cons] at r
    cases r with
    | cons h t => obtain ⟨t', rfl⟩ := h; exact .cons w t' (strs_of t)
theorem of_strs : ∀ {ws : List Str} {us : List Value}, StrsAre us ws → Vals (ws.map V.str) us
  | _, _, .nil => .nil
  | _, _, .cons _ t h => .cons ⟨t, rfl⟩ (of_strs h)
/-- sorted(xs), texts -/
theorem call_sortedL : CallR X (.builtin "sorted") (fun xs H Q => ∃ a ws, xs = [.ref a] ∧ SqL X.K H a (ws.map V.str) ∧ ws.length < 64 ∧ ∀ p ws', H p = none → ws'.Perm ws → sortedS ws' = true → Q (.ref p) (upd H p (.lst (ws'.map V.str)))) := by
  intro pins s σ H xs us Q I r h
  obtain ⟨a, ws, rfl, ha, hl, q⟩ := h
  obtain ⟨u, rfl, ru⟩ := vals1 r
  cases ru
  obtain ⟨its, r1, p1, _⟩ := I.list ha
  have hlen : its.length < 64 := by rw [← r1.length]; simpa using hl
  refine sorted_strs (isL_of p1) (strs_of r1) hlen fun out ss' a1 a2 a3 => ?_
  obtain ⟨e, he⟩ := sortedAll_at s.heap its out
  have hl2 : ss'.length < 64 := by rw [a2.length_eq]; exact hl
  have hn : H (s.heap.objs.size + 1) = none := I.hok.fresh (Nat.le_succ _)
  exact ⟨.ref (s.heap.objs.size + 1), _, I.laid (a := s.heap.objs.size + 1) (o := .lst (ss'.map V.str)) (t' := s.toks) (fun _ _ => sortedAll_old) (Nat.le_succ _)
    ⟨by rw [List.length_map, sizeLine_eq]; omega, out.toList, e, of_strs a1, by simpa using he⟩, rfl, q _ ss' hn a2 a3⟩

/-- isinstance(x, T), T a built-in type -/
theorem call_isi : CallR X (.builtin "isinstance") (fun xs H Q => ∃ x t c b, xs = [x, .ty c] ∧ TyOf X.K H x t ∧ PySem.W.kitOne X.K t (.type c) = some b ∧ Q (.bl b) H) := by
  intro pins s σ H xs us Q I r h
  obtain ⟨x, t, c, b, rfl, ty, e, q⟩ := h
  obtain ⟨u, w', rfl, ru, rw'⟩ := vals2 r
  cases rw'
  exact isinst_ok I ru ty e fun tk => ⟨.bl b, H, I.tok tk, rfl, q⟩
end
end L2


set_option Elab.async false
set_option maxRecDepth 100000
set_option maxHeartbeats 4000000
namespace L2
open PySem PySem.Spec PyProof.Rows
/-- the context of a comprehension's block -/
def cxComp (X : Cx) (scope : Scope) (cl : List (Str × Addr)) (N : List Str) (fp : List Addr) (s : Shared) (H : Hp) (C : Addr) : Cx where
  prog := X.prog
  w := X.w
  K := X.K
  mg := X.mg
  base := X.base
  A := X.A
  N := N
  s₀ := s
  H₀ := H
  env := compEnvC scope cl C X.env
  outer := X.stack
  stack := X.stack
  ex := fp
  fn := fun _ => false
  calm := X.calm
  pn := []
  xe := fun _ _ => False
/-- the names of the block: its variable, then those that it has from the def -/
structure CompSc (X : Cx) (scope : Scope) (cl : List (Str × Addr)) (x : Str) (ys : List Str) (js : List Nat) : Prop where
  clos : closureFor scope X.env = pure cl
  ncell : ∀ y ∈ scope.names, y.2 ≠ .cell
  kind : scope.kind = .function
  names : ∀ y ∈ scope.names, y.2 = .local → scope.names.lookup y.1 = some .local
  loc : scope.names.lookup x = some .local
  cells : ∀ y c, cl.lookup y = some c → X.env.cells.lookup y = some c
  has : ∀ y, ((relabel scope X.env).names.lookup y = some .cell ∨ (relabel scope X.env).names.lookup y = some .free) → ∃ c, cl.lookup y = some c
  nd : (x :: ys).Nodup
  free : ∀ (k : Nat) (y : Str), ys[k]? = some y → ∃ j : Nat, js[k]? = some j ∧ X.N[j]? = some y ∧ X.env.scope.names.lookup y = some .cell ∧ ((relabel scope X.env).names.lookup y = some .cell ∨ (relabel scope X.env).names.lookup y = some .free)
  len : js.length = ys.length
/-- their values -/
def got (σ : St) (js : List Nat) : St := js.map fun j => σ.getD j none
def lstN (its : List Value) (n : Nat) : Obj := { cls := .type "list", data := .seq its.toArray n }
section
variable {X : Cx} {pins : List (Addr × Obj)} {σ : St} {H : Hp} {s : Shared} {scope : Scope} {cl : List (Str × Addr)} {x : Str} {ys : List Str} {js : List Nat} {fp : List Addr} {C D : Addr} {h' : Heap}
theorem Inv.compOk (I : Inv X pins σ H s) (S : CompSc X scope cl x ys js) (hf : ∀ b ∈ fp, FpOk X pins H b) (hfb : ∀ b ∈ fp, b < s.heap.objs.size) (hC : s.heap.objs.size ≤ C) : (cxComp X scope cl (x :: ys) fp s H C).Ok where
  mod := I.ok.mod
  kind := S.kind
  glob := I.ok.glob
  blt := I.ok.blt
  above := hC
  inj := fun y z c h1 h2 => I.ok.inj y z c (S.cells y c h1) (S.cells z c h2)
  has := fun y h => S.has y h
  cab := fun _ _ h => by cases h
  hd := I.ok.hd
  frames := I.ok.frames
  stk := .inl rfl
  exf := fun b hb => by
    obtain ⟨_, h1, _, h3, h4, _⟩ := hf b hb
    exact ⟨Nat.ne_of_lt (Nat.lt_of_lt_of_le (hfb b hb) hC), fun y c e => h4 y c (S.cells y c e)⟩
  bs := I.bs
  bsz := Nat.le_trans I.ok.bsz I.sz
  noex := fun b o e hb => by
    obtain ⟨_, _, _, h3, _⟩ := hf b hb
    rcases h3 with z | z
    · exact I.ok.noex b o e z
    · exact absurd (Nat.lt_of_lt_of_le (Heap.lt_size e) (Nat.le_trans I.ok.bsz z)) (Nat.lt_irrefl _)
  exfs := fun b hb z => by
    obtain ⟨_, h1, h2, _⟩ := hf b hb
    rcases List.mem_cons.mp (I.stkSub b z) with e | e
    · exact h1 e
    · exact h2 e
  funs := I.stack
  frf := I.stkFree
theorem Inv.nostk (I : Inv X pins σ H s) {b : Addr} (h1 : b ≠ X.env.locals) (h2 : b ∉ X.fs) : b ∉ frs X.stack := fun z => by
  rcases List.mem_cons.mp (I.stkSub b z) with e | e
  · exact h1 e
  · exact h2 e
theorem Inv.compIn {m : Str → Option Value} {n t' : Nat} (I : Inv X pins σ H s) (S : CompSc X scope cl x ys js) (hf : ∀ b ∈ fp, FpOk X pins H b) (hfb : ∀ b ∈ fp, b < s.heap.objs.size) (hC : s.heap.objs.size ≤ C) (hD : s.heap.objs.size ≤ D) (hDC : D ≠ C)
    (keep : ∀ b o, s.heap.get? b = some o → h'.get? b = some o) (ns : h'.Ns C m) (ho : h'.get? D = some (lstN [] n)) :
    Inv (cxComp X scope cl (x :: ys) fp s H C) ((X.pn ++ pins) ++ [(D, lstN [] n)]) (none :: got σ js) H { s with heap := h', toks := t' } where
  ok := I.compOk S hf hfb hC
  os := rfl
  bare := I.bare
  base := Un.kept keep
  loc := by
    refine ⟨m, ns, fun i y v e1 e2 e3 => ?_⟩
    cases i with
    | zero => simp at e2
    | succ k =>
      have e1 : ys[k]? = some y := by simpa [cxComp] using e1
      have e2 : (got σ js)[k]? = some (some v) := by simpa using e2
      obtain ⟨j, hj, hN, hk, hk2⟩ := S.free k y e1
      have e4 : σ[j]? = some (some v) := by
        unfold got at e2
        rw [List.getElem?_map, hj] at e2
        have e2 : σ.getD j none = some v := Option.some.inj e2
        rw [List.getD_eq_getElem?_getD] at e2
        cases q : σ[j]? with
        | none => rw [q] at e2; cases e2
        | some z => rw [q] at e2; exact congrArg some e2
      obtain ⟨m0, hn0, hl⟩ := I.loc
      obtain ⟨u, ru, l⟩ := hl j y v hN e4 (.inr (.inl hk))
      refine ⟨u, ru, .inr ⟨hk2, ?_⟩⟩
      obtain ⟨c, hc⟩ := S.has y hk2
      rcases l with ⟨z, _⟩ | ⟨_, c', hc', hcell⟩
      · have z : X.env.scope.names.lookup y = some .local := z
        rw [hk] at z; cases z
      · have q := S.cells y c hc
        rw [hc'] at q
        cases q
        obtain ⟨oc, a1, a2⟩ := hcell
        exact ⟨_, hc, oc, keep _ _ a1, a2⟩
  cell := fun y c e => by
    obtain ⟨v, oc, a1, a2⟩ := I.cell y c (S.cells y c e)
    exact ⟨v, oc, keep _ _ a1, a2⟩
  free := I.hok.fresh hC
  freeC := fun y c e => I.freeC y c (S.cells y c e)
  pin := fun p hp => by
    rcases List.mem_append.mp (show p ∈ (X.pn ++ pins) ++ [(D, lstN [] n)] from hp) with z | z
    · obtain ⟨e, nn, ne, nf, d⟩ := I.pin p z
      exact ⟨keep _ _ e, nn, Nat.ne_of_lt (Nat.lt_of_lt_of_le (Heap.lt_size e) hC), I.nostk ne nf, d⟩
    · rw [List.mem_singleton] at z
      subst z
      exact ⟨ho, I.hok.fresh hD, hDC, I.nostk (Nat.ne_of_gt (Nat.lt_of_lt_of_le I.lt hD)) (I.nofs hD), fun v z => by cases (show Data.seq _ _ = Data.cell v from z)⟩
  hok := I.hok.kept keep
  len := by simp [got, cxComp, S.len]
theorem Inv.compOut {s' : Shared} {σ' : St} {H' : Hp} {P : List (Addr × Obj)} {its : List Value} {vs : List V} {n : Nat} (I : Inv X pins σ H s) (hf : ∀ b ∈ fp, FpOk X pins H b) (hC : s.heap.objs.size ≤ C) (hD : s.heap.objs.size ≤ D) (hDC : D ≠ C)
    (I' : Inv (cxComp X scope cl (x :: ys) fp s H C) P σ' H' s') (hp : (D, lstN its n) ∈ P) (r : Vals vs its) (hz : vs.length ≤ sizeLine) (hs : Heap.SameBut C s'.heap h') : Inv X pins σ (upd H' D (.lst vs)) { s' with heap := h' } := by
  obtain ⟨pe, pn, _, _, _⟩ := I'.pin (D, lstN its n) (List.mem_append_right _ hp)
  have u : Un (frs X.stack) fp H H' s.heap s'.heap := I'.base
  have hCn : H' C = none := I'.free
  have lt : ∀ b o, s.heap.get? b = some o → b ≠ C ∧ b ≠ D := fun b o e => ⟨Nat.ne_of_lt (Nat.lt_of_lt_of_le (Heap.lt_size e) hC), Nat.ne_of_lt (Nat.lt_of_lt_of_le (Heap.lt_size e) hD)⟩
  have nD : ∀ b o, H' b = some o → b ≠ D := fun b o e => ne_of_none e pn
  refine I.call' (ch := fp) (s' := { s' with heap := h' }) I'.os ⟨fun b o q nn hb hx => ?_, fun b o q nn hb hx => ?_, fun b o q nn hx => ?_, fun b o q hx => ?_, fun b xs q => ?_, fun b o xs q => ?_, fun b ps q => ?_⟩ ?_ I'.bare fun b hb => ?_
  · exact (hs.2 b (lt b o q).1).trans (u.keep b o q nn hb hx)
  · obtain ⟨sl, e⟩ := u.slot b o q nn hb hx
    exact ⟨sl, (hs.2 b (lt b o q).1).trans e⟩
  · rw [upd_ne (lt b o q).2]; exact u.free b o q nn hx
  · obtain ⟨o', e⟩ := u.there b o q hx
    exact ⟨o', (hs.2 b (lt b o q).1).trans e⟩
  · have e := u.tups b xs q; rw [upd_ne (nD _ _ e)]; exact e
  · have e := u.frzs b o xs q; rw [upd_ne (nD _ _ e)]; exact e
  · obtain ⟨more, e⟩ := u.tbls b ps q
    exact ⟨more, by rw [upd_ne (nD _ _ e)]; exact e⟩
  · intro b ob e
    by_cases hb : b = D
    · subst hb
      rw [upd_same] at e
      cases e
      exact ⟨hz, its, n, r, (hs.2 b hDC).trans pe⟩
    · rw [upd_ne hb] at e
      refine (I'.hok b ob e).stay (fun c v hc q => (hs.2 c ?_).trans q) (fun c q => by rw [upd_ne (nD _ _ q)]; exact q) fun c xs q => by rw [upd_ne (nD _ _ q)]; exact q
      rcases hc with rfl | hc
      · exact ne_of_none e hCn
      · exact ne_of_none hc hCn
  · obtain ⟨_, h1, _, h3, h4, h5⟩ := hf b hb
    exact ⟨h3, h1, h4, h5⟩
end
/-- [e for x in it] -/
def tLC (wi : TI) (te : TE) (js : List Nat) : TE := fun σ H Q => wi σ H fun J H1 => ∃ W : Nat → Nat → List V → Hp → Prop, (∃ m, W 0 m [] H1) ∧ ∀ i m vs H, W i m vs H →
  (J.stop i H ∧ vs.length ≤ sizeLine ∧ ∀ p, H p = none → Q (.ref p) (upd H p (.lst vs))) ∨
  (J.go i H ∧ ∀ x H', J.yld i H x H' → te (some x :: got σ js) H' fun y H'' => vs.length < sizeLine ∧ ∃ m', m' < m ∧ W (i + 1) m' (vs ++ [y]) H'')
theorem pe_lc {X : Cx} {elt iter : Expr} {x : Str} {px : Pos} {scope : Scope} {cl : List (Str × Addr)} {pos : Pos} {ys : List Str} {js : List Nat} {wi : TI} {te : TE} (hc : X.calm = true) (S : CompSc X scope cl x ys js) (hi : PI X (.Name x px) iter wi)
    (he : ∀ (fp : List Addr) (s : Shared) (H : Hp) (C : Addr), PE (cxComp X scope cl (x :: ys) fp s H C) elt te) (hs : ∀ x, foldedSetIterable iter X.env x = pure x := by intro _; rfl) :
    PE X (.ListComp elt [⟨.Name x px, iter, [], 0⟩] scope pos) (tLC wi te js) := by
  intro pins s σ H Q I h
  rw [eval_ListComp]
  refine wpAny_comprehension_free (use := none) rfl hs S.clos S.kind S.names (thn (hi pins s σ H _ I h) fun v s1 h1 => thn h1 fun itv s2 h2 => ?_)
  obtain ⟨it, fp, tn, J, H2, e, I2, T, st2, f2, W, ⟨m0, w0⟩, turn⟩ := h2
  subst e
  have fpb : ∀ b ∈ fp, b < s2.heap.objs.size := fun b hb => by
    obtain ⟨o, e, _⟩ := T.obj _ _ st2 b hb
    exact Heap.lt_size e
  refine wpAny_newObj_type (wpAny_newFunctionEnv S.ncell (by intro y hy; simp at hy) (fun h₁ hns₁ hsb₁ => ?_) S.kind)
  dsimp only at hns₁ hsb₁ ⊢
  generalize hH2 : s2.heap.push { cls := .type "list", dict := none, data := .seq ([] : List Value).toArray } = G2 at hns₁ hsb₁ ⊢
  have hC : G2.objs.size = s2.heap.objs.size + 1 := by rw [← hH2, Heap.size_push]
  have hDC : s2.heap.objs.size ≠ G2.objs.size := by rw [hC]; exact Nat.ne_of_lt (Nat.lt_succ_self _)
  have hCle : s2.heap.objs.size ≤ G2.objs.size := by rw [hC]; exact Nat.le_succ _
  have below : ∀ b, b < s2.heap.objs.size → b ≠ G2.objs.size ∧ b ≠ s2.heap.objs.size := fun b hb => ⟨by rw [hC]; exact Nat.ne_of_lt (Nat.lt_succ_of_lt hb), Nat.ne_of_lt hb⟩
  have old : ∀ b o, s2.heap.get? b = some o → h₁.get? b = some o := fun b o e => hsb₁.extBut b o (below b (Heap.lt_size e)).1 (Heap.get?_push_of_some _ (hH2 ▸ Heap.get?_push_of_some _ e))
  have hacc : h₁.get? s2.heap.objs.size = some (lstN [] 0) := hsb₁.extBut _ _ hDC (Heap.get?_push_of_some _ (hH2 ▸ Heap.get?_push_size _ rfl))
  have st4 : tn 0 h₁ := T.keep _ _ _ st2 fun b _ o e => old b o e
  have I4 := fun (t' : Nat) => I2.compIn (t' := t') S f2 fpb hCle (Nat.le_refl _) hDC old hns₁ hacc
  have loop : ∀ t' : Nat, codeAny (model X.prog X.w) X.A (.compLoop (.ListComp elt [⟨.Name x px, iter, [], 0⟩] scope pos) 0 (.ref it) (.ref s2.heap.objs.size) (compEnvC scope cl G2.objs.size X.env))
      (compPost (model X.prog X.w) X.A X.xe none (EP X pins σ Q) (.ref s2.heap.objs.size) G2.objs.size) { s2 with heap := h₁, toks := t' } := by
    intro t'
    refine codeAny_compLoop_tests (fun n s' => ∃ i x0 H' vs its c, Inv (cxComp X scope cl (x :: ys) fp s2 H2 G2.objs.size) ((X.pn ++ pins) ++ [(s2.heap.objs.size, lstN its c)]) (x0 :: got σ js) H' s' ∧ tn i s'.heap ∧ (∀ b ∈ fp, H' b = none) ∧ Vals vs its ∧ W i n vs H') ?_ m0
      ⟨0, none, H2, [], [], 0, I4 t', st4, fun b hb => (f2 b hb).1, .nil, w0⟩
    rintro n s3 ⟨i, x0, H3, vs, its, c, I3, st3, fr3, rv, w3⟩
    have stat : ∀ {H' : Hp} {its' : List Value} {c' : Nat}, (∀ b ∈ fp, H' b = none) → ∀ b ∈ fp, FpOk (cxComp X scope cl (x :: ys) fp s2 H2 G2.objs.size) ((X.pn ++ pins) ++ [(s2.heap.objs.size, lstN its' c')]) H' b := fun hn b hb => by
      obtain ⟨_, h1, h2, h3, h4, h5⟩ := f2 b hb
      refine ⟨hn b hb, (below b (fpb b hb)).1, I2.nostk h1 h2, .inl hb, fun y c e => h4 y c (S.cells y c e), fun p hp => ?_⟩
      rcases List.mem_append.mp (show p ∈ (X.pn ++ pins) ++ [(s2.heap.objs.size, _)] from hp) with z | z
      · exact h5 p z
      · rw [List.mem_singleton] at z
        subst z
        exact Ne.symm (below b (fpb b hb)).2
    rcases turn i n vs H3 w3 with ⟨stop, hz, q⟩ | ⟨go, step⟩
    · refine thn (T.done (cxComp X scope cl (x :: ys) fp s2 H2 G2.objs.size) rfl rfl rfl hc i _ s3 _ H3 _ I3 (stat fr3) st3 stop) fun r s4 ⟨hr, I5⟩ => ?_
      subst hr
      obtain ⟨mm, hn, _⟩ := I5.loc
      refine ⟨mm, hn, fun h'' hs'' => ⟨.ref s2.heap.objs.size, _, I2.compOut f2 hCle (Nat.le_refl _) hDC I5 (List.mem_append_right _ (List.mem_singleton.mpr rfl)) rv hz hs'', rfl, q _ ?_⟩⟩
      exact (I5.pin _ (List.mem_append_right _ (List.mem_append_right _ (List.mem_singleton.mpr rfl)))).2.1
    · refine thn (T.item (cxComp X scope cl (x :: ys) fp s2 H2 G2.objs.size) rfl rfl rfl hc i _ s3 _ H3 _ I3 (stat fr3) st3 go) fun r s4 ⟨u, hr, h4⟩ => ?_
      subst hr
      have e0 : (letOwnedTupleGo (.Name x px) (.ref it) u >>= fun _ => assign (.Name x px) (compEnvC scope cl G2.objs.size X.env) u) = assign (.Name x px) (compEnvC scope cl G2.objs.size X.env) u := rfl
      show wpAny (model X.prog X.w) X.A (assign (.Name x px) (compEnvC scope cl G2.objs.size X.env) u) _ _ s4
      rw [← e0]
      refine wpAny_bind (thn h4 fun _ s5 ⟨xv, H5, I5, r5, y5, st5, fr5⟩ => ?_)
      have I5' := I5.pinned (stat fr5) (T.obj _ _ st5)
      refine wpAny_mono (pg_name (X := cxComp X scope cl (x :: ys) fp s2 H2 G2.objs.size) (i := 0) S.nd rfl (Or.inl (lookup_relabel_local S.loc)) (.inr (lookup_relabel_local S.loc)) _ s5 _ H5 xv u (fun σ' H' => σ' = some xv :: got σ js ∧ H' = H5) I5' r5 ⟨rfl, rfl⟩)
        (fun _ s6 ⟨σ6, H6, I6, e6, e7⟩ => ?_) (fun _ _ z => False.elim z)
      subst e6 e7
      refine wpAny_tests_nil ?_
      rw [if_pos rfl]
      refine wpAny_mono (he fp s2 H2 G2.objs.size _ s6 _ _ _ I6 (step xv H6 y5)) (fun y s7 ⟨yv, H7, I7, r7, hz, m', hm, w7⟩ => ?_) (fun _ _ z => False.elim z)
      have mD : (s2.heap.objs.size, lstN its c) ∈ (X.pn ++ pins) ++ [(s2.heap.objs.size, lstN its c)] := List.mem_append_right _ (List.mem_singleton.mpr rfl)
      have pD := I7.pin (s2.heap.objs.size, lstN its c) (List.mem_append_right _ (List.mem_append_left _ mD))
      have pfp : ∀ b ∈ fp, ∀ o, s5.heap.get? b = some o → s7.heap.get? b = some o ∧ H7 b = none := fun b hb o e => by
        have z := I7.pin (b, o) (List.mem_append_right _ (List.mem_append_right _ (mem_pinsAt hb e)))
        exact ⟨z.1, z.2.1⟩
      refine append_at pD.1 (fun h8 hs8 hD8 => ?_) (by rw [List.size_toArray, ← rv.length]; exact Nat.le_of_lt hz)
      have I7a : Inv (cxComp X scope cl (x :: ys) fp s2 H2 G2.objs.size) (X.pn ++ pins) (some xv :: got σ js) H7 s7 := I7.pins_of fun p hp => I7.pin p (List.mem_append_right _ (List.mem_append_left _ (List.mem_append_left _ hp)))
      have I8 := I7a.turned (t' := s7.toks) (it := s2.heap.objs.size) (fun b o hb e => (hs8.2 b hb).trans e) pD.2.1 pD.2.2.1 (.inr (Nat.le_refl _)) (fun z cc e => by
          obtain ⟨v, o, e1, e2⟩ := I2.cell z cc (S.cells z cc e)
          exact Nat.ne_of_lt (Heap.lt_size e1)) (fun p hp => by
          obtain ⟨e1, _⟩ := I2.pin p hp
          exact Nat.ne_of_lt (Heap.lt_size e1))
      refine ⟨m', hm, i + 1, some xv, H7, vs ++ [yv], its ++ [y], c + 1, I8.pins_of fun p hp => ?_, ?_, fun b hb => ?_, Vals.append rv (.cons r7 .nil), w7⟩
      · rcases List.mem_append.mp hp with z | z
        · exact I8.pin p (List.mem_append_right _ z)
        · rw [List.mem_singleton] at z
          subst z
          refine ⟨?_, pD.2.1, pD.2.2.1, pD.2.2.2.1, fun v z => by cases (show Data.seq _ _ = Data.cell v from z)⟩
          rw [show lstN (its ++ [y]) (c + 1) = { cls := .type "list", data := .seq (its.toArray.push y) (c + 1) } by unfold lstN; rw [List.push_toArray]]
          exact hD8
      · exact T.keep _ _ _ st5 fun b hb o e => (hs8.2 b (Nat.ne_of_lt (fpb b hb))).trans (pfp b hb o e).1
      · obtain ⟨o, e, _⟩ := T.obj _ _ st5 b hb
        exact (pfp b hb o e).2
  exact codeAny_compStart_list (loop _) (T.self _ 0 _ _ _ st4 (loop _))
end L2


set_option Elab.async false
set_option maxRecDepth 100000
set_option maxHeartbeats 4000000
namespace L2
open PySem PySem.Spec PyProof.Rows
section
variable {X : Cx}
/-- list(d) -/
theorem call_listD (hh : X.calm = true) : CallR X (.type "list") (fun xs H Q => ∃ a kvs, xs = [.ref a] ∧ Rd H a (.dK kvs) ∧ ∀ p, H p = none → Q (.ref p) (upd H p (.lst (keysV kvs)))) := by
  intro pins s σ H xs us Q I r h
  obtain ⟨a, kvs, rfl, ha, q⟩ := h
  obtain ⟨u, rfl, ru⟩ := vals1 r
  cases ru
  obtain ⟨z, hd, vs, rel, dd⟩ := dk_rd I.hok ha
  obtain ⟨ep, da⟩ := dd.dictAt
  refine PySem.W.kdl_call (PySem.W.kdl_dict hd) (I.ok.hd hh) da (by rw [← rel.length]; exact z) fun h' tk acc' c' hk hD hacc => ?_
  refine ⟨.ref s.heap.objs.size, _, I.laid (a := s.heap.objs.size) (o := .lst (keysV kvs)) hk (Nat.le_refl _) ⟨by simpa [keysV] using z, acc'.toList, c', keys_vals rel hacc, by simpa using hD⟩, rfl, q _ I.fresh⟩

end
section
variable {prog : Program} {w : World} {A : Around} {E : Value → Shared → Prop} {s : Shared} {κ : Type} [DecidableEq κ] {knd : KeyKind prog w κ} {d : Addr} {kvs : List (κ × Value)} {ep : Nat}
/-- the keys of a dict, collected -/
theorem collect_dict {Q : List Value → Shared → Prop} (lo : (d == sysModules) = false) (hh : A.handled = none) (da : s.heap.DictAt knd d kvs ep) (hn : kvs.length ≤ sizeLine)
    (h : ∀ h' tk acc, (∀ b o, s.heap.get? b = some o → h'.get? b = some o) → s.heap.objs.size < h'.objs.size → ItemsOf (fun i v => ∃ k x, kvs[i]? = some (k, x) ∧ knd.is k v = true) acc kvs.length → Q acc.toList { s with heap := h', toks := tk }) :
    wpAny (model prog w) A (collect (.ref d)) Q E s := by
  unfold collect
  refine wpAny_bind (wpAny_runValue (codeAny_builtin entry_proto_collect' ?_))
  show wpAny _ _ (do again (.builtin "list.__iadd__" ⟨[← newList [], .ref d], []⟩)) _ _ s
  refine wpAny_bind (wpAny_newList (wpAny_pure ⟨Code.quiet_builtin _ (by decide +kernel), codeAny_builtin entry_list_iadd' ?_⟩))
  show wpAny _ _ (Builtin.List.listExtendWith (.ref s.heap.objs.size) (.ref d) (.ref s.heap.objs.size)) _ _ { s with heap := s.heap.push (seqObj "list" #[] 0) }
  rw [Around.under_plainId (by decide +kernel) _]
  have hlt := da.lt_size
  have up : ∀ b o, s.heap.get? b = some o → (s.heap.push (seqObj "list" #[] 0)).get? b = some o := fun b o e => Heap.get?_push_of_some _ e
  have key := PySem.W.kdl_extend (A := A) (R := fun r s' => match r with
      | .ok (.ret v) => wpAny (model prog w) A (match v with
          | .ref a => do
            let o ← load a
            match o.data with
            | .seq xs _ => pure xs.toList
            | _ => unsupported "internal:collect"
          | _ => unsupported "internal:collect") Q E s'
      | .ok _ => False
      | .error e => E e s') (PySem.W.kdl_dict (knd := knd) lo) hh (s := { s with heap := s.heap.push (seqObj "list" #[] 0) }) (da.push _) s.heap.objs.size (Nat.ne_of_gt hlt) (Nat.ne_of_gt hlt) (.ref s.heap.objs.size) 0 (Heap.get?_push_size _ rfl) (fun h' tk acc c hk hS hacc => ?_) hn
  · refine wpAny_mono key (fun f s' h => ?_) fun e s' h => h
    cases f with
    | done f => exact h
    | again c => exact h
  · refine wpAny_bind (wpAny_load hS ?_)
    exact wpAny_pure (h h' tk acc (fun b o e => hk b o (Nat.ne_of_lt (Heap.lt_size e)) (up b o e)) (Heap.lt_size hS) hacc)
end
section
variable {X : Cx}
/-- sorted(d), its keys texts -/
theorem call_sortedD (hh : X.calm = true) : CallR X (.builtin "sorted") (fun xs H Q => ∃ a kvs ws, xs = [.ref a] ∧ Rd H a (.dK kvs) ∧ keysV kvs = ws.map V.str ∧ ws.length < 64 ∧ ∀ p ws', H p = none → ws'.Perm ws → sortedS ws' = true → Q (.ref p) (upd H p (.lst (ws'.map V.str)))) := by
  intro pins s σ H xs us Q I r h
  obtain ⟨a, kvs, ws, rfl, ha, ek, hl, q⟩ := h
  obtain ⟨u, rfl, ru⟩ := vals1 r
  cases ru
  obtain ⟨z, hd, vs, rel, dd⟩ := dk_rd I.hok ha
  obtain ⟨ep, da⟩ := dd.dictAt
  have hA := I.ok.hd hh
  refine Calls.call_function_entry PyProof.Rows.kind_sorted PyProof.Rows.plain_sorted PyProof.Rows.entry_sorted (PyProof.Rows.args_sorted1 _) ?_
  unfold Builtin.«sorted»
  refine wpAny_bind (m := checkCount "sorted" 1 1 _) (wpAny_pure ?_)
  refine wpAny_bind (collect_dict hd hA da (by rw [← rel.length]; exact z) fun h' tk acc keep hsz hacc => ?_)
  have hv := keys_vals rel hacc
  rw [ek] at hv
  have hS := strs_of hv
  have hlen : acc.toList.length < 64 := by rw [← hv.length]; simpa using hl
  refine wpAny_bind (wpAny_newList ?_)
  have hoL : (h'.push (seqObj "list" acc.toList.toArray 0)).get? h'.objs.size = some (seqObj "list" acc.toList.toArray 0) := Heap.get?_push_size _ rfl
  refine wpAny_bind (wpAny_holding (wpAny_call_entry slot_list_sort ⟨_, hoL, rfl⟩ entry_list_sort (list_sort_treeK strKind_oneLt (s := { s with heap := h'.push (seqObj "list" acc.toList.toArray 0), toks := tk }) hoL hS.keysOf (fun v₁ v₂ rest e => keyKind_strs (by rw [← e]; exact hS)) hlen fun st' a1 a2 => ⟨_, rfl, ?_⟩) (args_list_sort _)))
  refine wpAny_pure ⟨_, rfl, ?_⟩
  obtain ⟨ss', b1, b2, b3⟩ := sorted_out_str hS a1 a2
  obtain ⟨e, he⟩ := sortedHeap_at (out := (arrOf st').map (·.2)) hoL
  have hl2 : ss'.length < 64 := by rw [b2.length_eq]; exact hl
  have hn : H h'.objs.size = none := I.hok.fresh (Nat.le_of_lt hsz)
  refine ⟨.ref h'.objs.size, _, I.laid (a := h'.objs.size) (o := .lst (ss'.map V.str)) (t' := tk) (fun b o q => ?_) (Nat.le_of_lt hsz) ⟨by rw [List.length_map, sizeLine_eq]; omega, ((arrOf st').map (·.2)).toList, e, of_strs b1, he⟩, rfl, q _ ss' hn b2 b3⟩
  have hb := Heap.lt_size q
  rw [sortedHeap_old (Nat.ne_of_lt (Nat.lt_trans hb hsz)) (by rw [Heap.size_push]; exact Nat.lt_succ_of_lt (Nat.lt_trans hb hsz))]
  exact Heap.get?_push_of_some _ (keep b o q)
end
end L2


set_option Elab.async false
set_option linter.all false
set_option maxRecDepth 100000
set_option maxHeartbeats 4000000
namespace SW
open PySem L2
/-! ### heaps -/
def TupLe (H H' : Hp) : Prop := ∀ b xs, H b = some (.tup xs) → H' b = some (.tup xs)
theorem TupLe.refl {H : Hp} : TupLe H H := fun _ _ h => h
theorem TupLe.trans {H H1 H2 : Hp} (a : TupLe H H1) (b : TupLe H1 H2) : TupLe H H2 := fun c xs h => b c xs (a c xs h)
theorem tl_same {H H' : Hp} (s : Same H H') : TupLe H H' := fun b _ h => s b _ h
theorem tl_new {H : Hp} {p : Addr} {o : HO} (h : H p = none) : TupLe H (upd H p o) := fun b xs e => by rw [upd_ne (ne_of_none e h)]; exact e
theorem tl_lst {H : Hp} {l : Addr} {ys : List V} {o : HO} (h : H l = some (.lst ys)) : TupLe H (upd H l o) := fun b xs e => by rw [upd_ne (ne_of e h (by intro z; cases z))]; exact e
theorem tl_dk {H : Hp} {l : Addr} {ys : List (Key × V)} {o : HO} (h : H l = some (.dK ys)) : TupLe H (upd H l o) := fun b xs e => by rw [upd_ne (ne_of e h (by intro z; cases z))]; exact e
theorem same_new {H : Hp} {p : Addr} {o : HO} (h : H p = none) : Same H (upd H p o) := fun b u e => by rw [upd_ne (ne_of_none e h)]; exact e
theorem same_old {H₀ H : Hp} {l : Addr} {o : HO} (s : Same H₀ H) (h : H₀ l = none) : Same H₀ (upd H l o) := fun b u e => by rw [upd_ne (ne_of_none e h)]; exact s b u e
/-- all but what stands at l -/
def But (l : Addr) (H H' : Hp) : Prop := ∀ b o, b ≠ l → H b = some o → H' b = some o
/-! ### pieces in the heap -/
def kind : T → Str
  | .num _ => "number"
  | .name _ => "name"
  | .sum _ _ => "sum"
  | .less _ _ => "less"
  | .cho _ _ _ => "choose"
  | .lt _ _ _ => "let"
  | .st0 _ => "stamp"
  | .st1 _ _ => "stamp"
  | .st2 _ _ _ => "stamp"
def Den (H : Hp) : T → V → Prop
  | .num n, v => ∃ p, v = .ref p ∧ H p = some (.tup [.str "number", .int n])
  | .name w, v => ∃ p, v = .ref p ∧ H p = some (.tup [.str "name", .str w])
  | .sum a b, v => ∃ p x y, v = .ref p ∧ H p = some (.tup [.str "sum", x, y]) ∧ Den H a x ∧ Den H b y
  | .less a b, v => ∃ p x y, v = .ref p ∧ H p = some (.tup [.str "less", x, y]) ∧ Den H a x ∧ Den H b y
  | .cho a b c, v => ∃ p x y z, v = .ref p ∧ H p = some (.tup [.str "choose", x, y, z]) ∧ Den H a x ∧ Den H b y ∧ Den H c z
  | .lt w a b, v => ∃ p x y, v = .ref p ∧ H p = some (.tup [.str "let", .str w, x, y]) ∧ Den H a x ∧ Den H b y
  | .st0 w, v => ∃ p, v = .ref p ∧ H p = some (.tup [.str "stamp", .str w])
  | .st1 w a, v => ∃ p x, v = .ref p ∧ H p = some (.tup [.str "stamp", .str w, x]) ∧ Den H a x
  | .st2 w a b, v => ∃ p x y, v = .ref p ∧ H p = some (.tup [.str "stamp", .str w, x, y]) ∧ Den H a x ∧ Den H b y
theorem Den.mono {H H' : Hp} (k : TupLe H H') : ∀ {t : T} {v : V}, Den H t v → Den H' t v
  | .num _, _, ⟨p, e, h⟩ => ⟨p, e, k _ _ h⟩
  | .name _, _, ⟨p, e, h⟩ => ⟨p, e, k _ _ h⟩
  | .sum _ _, _, ⟨p, x, y, e, h, a, b⟩ => ⟨p, x, y, e, k _ _ h, Den.mono k a, Den.mono k b⟩
  | .less _ _, _, ⟨p, x, y, e, h, a, b⟩ => ⟨p, x, y, e, k _ _ h, Den.mono k a, Den.mono k b⟩
  | .cho _ _ _, _, ⟨p, x, y, z, e, h, a, b, c⟩ => ⟨p, x, y, z, e, k _ _ h, Den.mono k a, Den.mono k b, Den.mono k c⟩
  | .lt _ _ _, _, ⟨p, x, y, e, h, a, b⟩ => ⟨p, x, y, e, k _ _ h, Den.mono k a, Den.mono k b⟩
  | .st0 _, _, ⟨p, e, h⟩ => ⟨p, e, k _ _ h⟩
  | .st1 _ _, _, ⟨p, x, e, h, a⟩ => ⟨p, x, e, k _ _ h, Den.mono k a⟩
  | .st2 _ _ _, _, ⟨p, x, y, e, h, a, b⟩ => ⟨p, x, y, e, k _ _ h, Den.mono k a, Den.mono k b⟩
/-- several -/
inductive DenL (H : Hp) : List T → List V → Prop where
  | nil : DenL H [] []
  | cons {t : T} {v : V} {ts : List T} {vs : List V} : Den H t v → DenL H ts vs → DenL H (t :: ts) (v :: vs)
theorem DenL.mono {H H' : Hp} (k : TupLe H H') : ∀ {ts : List T} {vs : List V}, DenL H ts vs → DenL H' ts vs
  | _, _, .nil => .nil
  | _, _, .cons a r => .cons (a.mono k) (DenL.mono k r)
theorem DenL.length {H : Hp} : ∀ {ts : List T} {vs : List V}, DenL H ts vs → vs.length = ts.length
  | _, _, .nil => rfl
  | _, _, .cons _ r => by rw [List.length_cons, List.length_cons, DenL.length r]
theorem DenL.append {H : Hp} : ∀ {ts us : List T} {vs ws : List V}, DenL H ts vs → DenL H us ws → DenL H (ts ++ us) (vs ++ ws)
  | _, _, _, _, .nil, q => q
  | _, _, _, _, .cons a r, q => .cons a (DenL.append r q)
/-- the last ones -/
theorem DenL.snoc {H : Hp} : ∀ {ts : List T} {vs : List V} {v : V}, DenL H ts (vs ++ [v]) → ∃ us t, ts = us ++ [t] ∧ DenL H us vs ∧ Den H t v
  | _, [], v, .cons a .nil => ⟨[], _, rfl, .nil, a⟩
  | _, x :: vs, v, .cons a r => by
    obtain ⟨us, t, rfl, h1, h2⟩ := DenL.snoc (vs := vs) r
    exact ⟨_ :: us, t, rfl, .cons a h1, h2⟩
/-- what stands ahead of the pieces in it -/
def hd : T → List V
  | .num n => [.str "number", .int n]
  | .name w => [.str "name", .str w]
  | .sum _ _ => [.str "sum"]
  | .less _ _ => [.str "less"]
  | .cho _ _ _ => [.str "choose"]
  | .lt w _ _ => [.str "let", .str w]
  | .st0 w => [.str "stamp", .str w]
  | .st1 w _ => [.str "stamp", .str w]
  | .st2 w _ _ => [.str "stamp", .str w]
theorem Den.open {H : Hp} {t : T} {v : V} (h : Den H t v) : ∃ p us, v = .ref p ∧ H p = some (.tup (hd t ++ us)) ∧ DenL H t.kids us := by
  cases t with
  | num n => obtain ⟨p, e, h⟩ := h; exact ⟨p, [], e, h, .nil⟩
  | name n => obtain ⟨p, e, h⟩ := h; exact ⟨p, [], e, h, .nil⟩
  | sum a b => obtain ⟨p, x, y, e, h, d1, d2⟩ := h; exact ⟨p, [x, y], e, h, .cons d1 (.cons d2 .nil)⟩
  | less a b => obtain ⟨p, x, y, e, h, d1, d2⟩ := h; exact ⟨p, [x, y], e, h, .cons d1 (.cons d2 .nil)⟩
  | cho a b c => obtain ⟨p, x, y, z, e, h, d1, d2, d3⟩ := h; exact ⟨p, [x, y, z], e, h, .cons d1 (.cons d2 (.cons d3 .nil))⟩
  | lt w a b => obtain ⟨p, x, y, e, h, d1, d2⟩ := h; exact ⟨p, [x, y], e, h, .cons d1 (.cons d2 .nil)⟩
  | st0 w => obtain ⟨p, e, h⟩ := h; exact ⟨p, [], e, h, .nil⟩
  | st1 w a => obtain ⟨p, x, e, h, d1⟩ := h; exact ⟨p, [x], e, h, .cons d1 .nil⟩
  | st2 w a b => obtain ⟨p, x, y, e, h, d1, d2⟩ := h; exact ⟨p, [x, y], e, h, .cons d1 (.cons d2 .nil)⟩
/-! ### small words -/
theorem szl {n : Nat} (h : Nat.ble n 1000 = true := by rfl) : n ≤ sizeLine := Nat.le_trans (Nat.le_of_ble_eq_true h) (by decide)
theorem iteY {c : Bool} {A B : Prop} (h : c = true) (k : A) : if c = true then A else B := by rw [if_pos h]; exact k
theorem iteN {c : Bool} {A B : Prop} (h : c = false) (k : B) : if c = true then A else B := by rw [h]; exact iteF k
theorem hu0_of {A : Around} {k : Nat} (hr : Room k A) : A.units < cLine := hr.units0
end SW
namespace SW
open PySem L2
theorem atI_mem {xs : List V} {i : Int} (h0 : 0 ≤ i) (h1 : i < xs.length) : ∃ v, v ∈ xs ∧ atI xs i = some v := by
  obtain ⟨n, rfl⟩ := Int.eq_ofNat_of_zero_le h0
  have hn : n < xs.length := by omega
  exact ⟨xs[n], List.getElem_mem hn, atI_nat (by simp [hn])⟩
/-- a number, any -/
def spAny : Sp := fun vs H Q _ => ∃ c : Int, vs = [.int c] ∧ ∀ (n : Int) (H' : Hp), -(10 ^ 59) < n ∧ n < 10 ^ 59 → Same H H' → Q (.int n) H'
/-- a word -/
structure Wd (x : Str) : Prop where
  one : 1 ≤ x.length
  few : x.length ≤ 200
  abc : ∀ c ∈ x.cps.toList, 97 ≤ c ∧ c ≤ 122
def spWord : Sp := fun vs H Q _ => ∃ c : Int, vs = [.int c] ∧ ∀ x : Str, Wd x ∧ x.length ≤ 132 → Q (.str x) H
/-- while the word is made -/
structure WordTo (l : Int) (x : Str) : Prop where
  one : l < 0 → 1 ≤ x.length
  few : x.length ≤ 132
  sm : 0 ≤ l → ∃ m : Nat, l < 2 ^ m ∧ x.length + m ≤ 131
  abc : ∀ c ∈ x.cps.toList, 97 ≤ c ∧ c ≤ 122
theorem len_empty : (("" : Str)).length = 0 := by decide +kernel
theorem wordTo_start (c : Int) : WordTo (c % 10 ^ (39 : Int).toNat) "" := by
  have e : (10 : Int) ^ (39 : Int).toNat = 1000000000000000000000000000000000000000 := by decide
  rw [e]
  refine ⟨fun h => ?_, by rw [len_empty]; omega, fun _ => ⟨130, ?_, by rw [len_empty]; omega⟩, ?_⟩
  · omega
  · have e2 : (2 : Int) ^ 130 = 1361129467683753853853498429727072845824 := by decide
    rw [e2]; omega
  · have e3 : (("" : Str)).cps.toList = [] := by decide +kernel
    rw [e3]; intro c hc; cases hc
theorem wordTo_small {l : Int} {x : Str} {c : Nat} (h : WordTo l x) : (⟨#[c]⟩ : Str).length + x.length ≤ sizeLine := by
  have e : (⟨#[c]⟩ : Str).length = 1 := rfl
  have := h.few
  rw [e, sizeLine_eq]; omega
theorem wordTo_step {l : Int} {x : Str} {c : Nat} (h : WordTo l x) (hl : 0 ≤ l) (hc : 97 ≤ c ∧ c ≤ 122) : WordTo (l / 26 - 1) (⟨#[c]⟩ ++ x) := by
  have el : ((⟨#[c]⟩ : Str) ++ x).length = x.length + 1 := by
    show (#[c] ++ x.cps).size = x.cps.size + 1
    simp [Nat.add_comm]
  obtain ⟨m, h1, h2⟩ := h.sm hl
  refine ⟨fun _ => by rw [el]; omega, by rw [el]; omega, fun h0 => ?_, ?_⟩
  · cases m with
    | zero => simp at h1; omega
    | succ m =>
      refine ⟨m, ?_, by rw [el]; omega⟩
      have e : (2 : Int) ^ (m + 1) = 2 ^ m * 2 := Int.pow_succ ..
      rw [e] at h1
      generalize (2 : Int) ^ m = z at *
      omega
  · intro d hd
    have hd : d ∈ (#[c] ++ x.cps).toList := hd
    rw [Array.toList_append] at hd
    rcases List.mem_append.mp hd with q | q
    · have : d = c := by simpa using q
      rw [this]; exact hc
    · exact h.abc d q
theorem wordTo_end {l : Int} {x : Str} (h : WordTo l x) (hl : ¬ 0 ≤ l) : Wd x ∧ x.length ≤ 132 := ⟨⟨h.one (by omega), by have := h.few; omega, h.abc⟩, h.few⟩
theorem letters : (("abcdefghijklmnopqrstuvwxyz" : Str)).cps.toList = (List.range 26).map (· + 97) := by decide +kernel
theorem letter_at (l : Int) : ∃ c : Nat, (97 ≤ c ∧ c ≤ 122) ∧ atI (("abcdefghijklmnopqrstuvwxyz" : Str)).cps.toList (l % 26) = some c := by
  have h : 0 ≤ l % 26 ∧ l % 26 < 26 := by omega
  obtain ⟨n, e⟩ := Int.eq_ofNat_of_zero_le h.1
  rw [e] at h ⊢
  have hn : n < 26 := by omega
  refine ⟨n + 97, by omega, atI_nat ?_⟩
  rw [letters, List.getElem?_map, List.getElem?_range hn]
  rfl
end SW
namespace SW
open PySem L2
theorem rIn_is {K : PySem.W.Frag} {x y : V} {H : Hp} {Q : VK} (p : Addr) (xs : List V) (b : Bool) (hy : y = .ref p) (hs : SqL K H p xs ∨ SqT K H p xs) (f1 : flatV x = true) (f2 : xs.all flatV = true) (e : inV x xs = b) (q : Q (.bl b) H) : rIn K false x y H Q :=
  ⟨p, xs, hy, hs, f1, f2, by rw [if_neg Bool.false_ne_true, e]; exact q⟩
theorem rNin_is {K : PySem.W.Frag} {x y : V} {H : Hp} {Q : VK} (p : Addr) (xs : List V) (b : Bool) (hy : y = .ref p) (hs : SqL K H p xs ∨ SqT K H p xs) (f1 : flatV x = true) (f2 : xs.all flatV = true) (e : (!inV x xs) = b) (q : Q (.bl b) H) : rIn K true x y H Q :=
  ⟨p, xs, hy, hs, f1, f2, by rw [if_pos rfl, e]; exact q⟩
theorem rEq_is {x y : V} {H : Hp} {Q : VK} (b : Bool) (h : scal x y = true) (e : decide (x = y) = b) (q : Q (.bl b) H) : rEq x y H Q := ⟨h, by rw [e]; exact q⟩
theorem rNe_is {x y : V} {H : Hp} {Q : VK} (b : Bool) (h : scal x y = true) (e : (!decide (x = y)) = b) (q : Q (.bl b) H) : rNe x y H Q := ⟨h, by rw [e]; exact q⟩
theorem cut_not {n : Nat} (k : Nat) (h : 0 < k) (h2 : k ≤ n) : ¬ (HT.sIx n 0 (some (k : Int)) = 0 ∧ HT.sIx n n none = n) := by
  rintro ⟨z, _⟩
  rw [HT.sIx_nat, Nat.min_eq_left h2] at z
  omega
def spWithWord : Sp := fun vs H Q _ => ∃ d x v kvs, vs = [.ref d, .str x, v] ∧ H d = some (.dK kvs) ∧ kvs.length ≤ 1000 ∧ ∀ p H', H p = none → Same H H' → H' p = some (.dK (putK kvs (.inr x) v)) → Q (.ref p) H'
def spParts : Sp := fun vs H Q _ => ∃ t v, vs = [v] ∧ Den H t v ∧ ∀ p us H', Same H H' → H' p = some (.tup us) → DenL H' t.kids us → Q (.ref p) H'
def spInside : Sp := fun vs H Q _ => ∃ t v, vs = [v] ∧ Den H t v ∧ ∀ l us H', Same H H' → H l = none → H' l = some (.lst us) → DenL H' t.kids us → Q (.ref l) H'
end SW

namespace SW
open PySem L2
/-- words, numbers and stamps as they are handed in; S: the stamps there are, with how many places -/
def WT (S : Str → Nat → Prop) : T → Prop
  | .num n => -(10 ^ 60) < n ∧ n < 10 ^ 60
  | .name w => Wd w
  | .sum a b => WT S a ∧ WT S b
  | .less a b => WT S a ∧ WT S b
  | .cho a b c => WT S a ∧ WT S b ∧ WT S c
  | .lt w a b => Wd w ∧ WT S a ∧ WT S b
  | .st0 w => S w 0
  | .st1 w a => S w 1 ∧ WT S a
  | .st2 w a b => S w 2 ∧ WT S a ∧ WT S b
/-- the pile while a piece is drawn: the list at l, new since H₀ -/
structure Pile (S : Str → Nat → Prop) (H₀ H : Hp) (n : Nat) (l : Addr) (vs : List V) (ts : List T) : Prop where
  same : Same H₀ H
  new : H₀ l = none
  at_ : H l = some (.lst vs)
  den : DenL H ts vs
  sz : sizes ts ≤ n
  one : ts ≠ []
  wt : ∀ t ∈ ts, WT S t
theorem wd_sab : Wd "sab" := ⟨by decide +kernel, by decide +kernel, by decide +kernel⟩
theorem wd_tab : Wd "tab" := ⟨by decide +kernel, by decide +kernel, by decide +kernel⟩
theorem wd_sob : Wd "sob" := ⟨by decide +kernel, by decide +kernel, by decide +kernel⟩
theorem wd_sat : Wd "sat" := ⟨by decide +kernel, by decide +kernel, by decide +kernel⟩
theorem wd_menu {v : V} (h : v ∈ [V.str "sab", V.str "tab", V.str "sob", V.str "sat"]) : ∃ x, v = .str x ∧ Wd x := by
  rcases List.mem_cons.mp h with rfl | h
  · exact ⟨_, rfl, wd_sab⟩
  rcases List.mem_cons.mp h with rfl | h
  · exact ⟨_, rfl, wd_tab⟩
  rcases List.mem_cons.mp h with rfl | h
  · exact ⟨_, rfl, wd_sob⟩
  rcases List.mem_cons.mp h with rfl | h
  · exact ⟨_, rfl, wd_sat⟩
  · cases h
theorem wd_k {x : Str} (h : Wd x) (hl : x.length ≤ 132) : Wd (x ++ ("k" : Str)) := by
  have e : (("k" : Str)).cps = #[107] := by decide +kernel
  have el : (x ++ ("k" : Str)).length = x.length + 1 := by
    show (x.cps ++ (("k" : Str)).cps).size = _
    rw [e]; simp [Str.length]
  refine ⟨by rw [el]; omega, by rw [el]; omega, fun c hc => ?_⟩
  have hc : c ∈ (x.cps ++ (("k" : Str)).cps).toList := hc
  rw [e, Array.toList_append] at hc
  rcases List.mem_append.mp hc with q | q
  · exact h.abc c q
  · have : c = 107 := by simpa using q
    omega
/-- the stamps that may be drawn -/
def StampsAt (S : Str → Nat → Prop) (H : Hp) (xs : List V) : Prop := ∀ x ∈ xs, ∃ (q : Addr) (nm : Str) (m : Nat), x = .ref q ∧ H q = some (.tup [.str nm, .int m]) ∧ m ≤ 2 ∧ S nm m
def spDrawn (K : PySem.W.Frag) (S : Str → Nat → Prop) : Sp := fun vs H Q _ => ∃ (c st : Addr) (ns : List Int) (xs : List V), vs = [.ref c, .ref st] ∧ SqL K H c (ns.map V.int) ∧ ns.length ≤ 100 ∧ H st = some (.lst xs) ∧ xs.length ≤ 1000 ∧ StampsAt S H xs ∧
  ∀ (t : T) (v : V) (H' : Hp), Same H H' → Den H' t v → WT S t → t.size ≤ 2 * ns.length + 2 → t.names.length ≤ ns.length + 1 → Q v H'
end SW


set_option Elab.async false
set_option linter.all false
set_option maxRecDepth 100000
set_option maxHeartbeats 4000000
namespace SW
open PySem L2
abbrev rAddI : R2 := rI0 fun i j => .int (i + j)
abbrev rSubI : R2 := rI0 fun i j => .int (i - j)
abbrev rMulI : R2 := rI CMul fun i j => .int (i * j)
abbrev rDivI : R2 := rI CDiv fun i j => .int (i / j)
abbrev rModI : R2 := rI (fun _ j => 0 < j) fun i j => .int (i % j)
abbrev rPowI : R2 := rI CPow fun i j => .int (i ^ j.toNat)
abbrev rNegI : V → Hp → VK → Prop := rU fun i => .int (-i)
abbrev rLtI : R2 := rI0 fun i j => .bl (decide (i < j))
abbrev rLeI : R2 := rI0 fun i j => .bl (decide (i ≤ j))
abbrev rGtI : R2 := rI0 fun i j => .bl (decide (j < i))
abbrev rGeI : R2 := rI0 fun i j => .bl (decide (j ≤ i))
abbrev rAddS : R2 := fun x y H Q => ∃ i j, x = .str i ∧ y = .str j ∧ i.length + j.length ≤ sizeLine ∧ Q (.str (i ++ j)) H
abbrev rIsN : R2 := fun x y H Q => y = .non ∧ Q (.bl (decide (x = .non))) H
abbrev rNotN : R2 := fun x y H Q => y = .non ∧ Q (.bl (!decide (x = .non))) H
abbrev cLen (K : PySem.W.Frag) : List V → Hp → VK → Prop := fun xs H Q => ∃ p ys, xs = [.ref p] ∧ (SqL K H p ys ∨ SqT K H p ys) ∧ Q (.int ys.length) H
abbrev cLenS : List V → Hp → VK → Prop := fun xs H Q => ∃ z, xs = [.str z] ∧ z.length ≤ sizeLine ∧ Q (.int z.length) H
abbrev cLenD : List V → Hp → VK → Prop := fun xs H Q => ∃ a kvs, xs = [V.ref a] ∧ H a = some (.dK kvs) ∧ Q (.int kvs.length) H
abbrev cInt : List V → Hp → VK → Prop := fun xs H Q => (∃ i, xs = [.int i] ∧ Q (.int i) H) ∨ ∃ k, xs = [.bl k] ∧ Q (.int (if k then 1 else 0)) H
abbrev cAbs : List V → Hp → VK → Prop := fun xs H Q => ∃ i, xs = [.int i] ∧ Q (.int (if i < 0 then -i else i)) H
abbrev cMin : List V → Hp → VK → Prop := fun xs H Q => ∃ i j, xs = [.int i, .int j] ∧ Q (.int (if j < i then j else i)) H
abbrev cListOf (K : PySem.W.Frag) : List V → Hp → VK → Prop := fun xs H Q => ∃ p ys, xs = [.ref p] ∧ (SqL K H p ys ∨ SqT K H p ys) ∧ ∀ l, H l = none → Q (.ref l) (upd H l (.lst ys))
abbrev cTupleOf (K : PySem.W.Frag) : List V → Hp → VK → Prop := fun xs H Q => ∃ p ys, xs = [.ref p] ∧ ((SqL K H p ys ∧ ∀ l, H l = none → Q (.ref l) (upd H l (.tup ys))) ∨ (SqT K H p ys ∧ Q (.ref p) H))
abbrev cDictD : List V → Hp → VK → Prop := fun xs H Q => ∃ a kvs, xs = [.ref a] ∧ Rd H a (.dK kvs) ∧ ∀ p, H p = none → Q (.ref p) (upd H p (.dK kvs))
abbrev cListD : List V → Hp → VK → Prop := fun xs H Q => ∃ a kvs, xs = [.ref a] ∧ Rd H a (.dK kvs) ∧ ∀ p, H p = none → Q (.ref p) (upd H p (.lst (keysV kvs)))
abbrev cSortedL (K : PySem.W.Frag) : List V → Hp → VK → Prop := fun xs H Q => ∃ a ws, xs = [.ref a] ∧ SqL K H a (ws.map V.str) ∧ ws.length < 64 ∧ ∀ p ws', H p = none → ws'.Perm ws → PyProof.Rows.sortedS ws' = true → Q (.ref p) (upd H p (.lst (ws'.map V.str)))
abbrev cSortedD : List V → Hp → VK → Prop := fun xs H Q => ∃ a kvs ws, xs = [.ref a] ∧ Rd H a (.dK kvs) ∧ keysV kvs = ws.map V.str ∧ ws.length < 64 ∧ ∀ p ws', H p = none → ws'.Perm ws → PyProof.Rows.sortedS ws' = true → Q (.ref p) (upd H p (.lst (ws'.map V.str)))
abbrev cIsi (K : PySem.W.Frag) : List V → Hp → VK → Prop := fun xs H Q => ∃ x t c b, xs = [x, .ty c] ∧ TyOf K H x t ∧ PySem.W.kitOne K t (.type c) = some b ∧ Q (.bl b) H
end SW


set_option Elab.async false
set_option linter.all false
set_option maxRecDepth 100000
set_option maxHeartbeats 4000000
namespace SW
open PySem L2
def SMain : Str → Nat → Prop := fun x n => (x = "st" ∧ n = 2) ∨ (x = "sta" ∧ n = 1) ∨ (x = "star" ∧ n = 0)
def spMain (K : PySem.W.Frag) : Sp := fun vs H Q _ => ∃ (c : Addr) (ns : List Int), vs = [.ref c] ∧ SqL K H c (ns.map V.int) ∧ ns.length ≤ 100 ∧
  ∀ (t : T) (v : V) (H' : Hp), Same H H' → Den H' t v → WT SMain t → t.size ≤ 2 * ns.length + 2 → t.names.length ≤ ns.length + 1 → Q v H'
def spRoom (K : PySem.W.Frag) : Sp := fun vs H Q _ => ∃ (s : Addr) (xs : List V) (m b : Int), vs = [.ref s, .int m, .int b] ∧ SqL K H s xs ∧ xs.length ≤ 63 ∧ Q (.int m) H
def spAll : Sp := fun vs H Q _ => ∃ (t : T) (v : V), vs = [v] ∧ Den H t v ∧ t.size ≤ 900 ∧ t.names.length < 64 ∧
  ∀ (l : Addr) (ws : List Str) (H' : Hp), Same H H' → H l = none → H' l = some (.lst (ws.map V.str)) → Up ws → ws.length < 64 → (∀ x, x ∈ ws ↔ t.occ x) → Q (.ref l) H'
def spOut : Sp := fun vs H Q _ => ∃ (t : T) (v : V), vs = [v] ∧ Den H t v ∧ t.size ≤ 900 ∧ t.names.length < 64 ∧
  ∀ (l : Addr) (ws : List Str) (H' : Hp), Same H H' → H l = none → H' l = some (.lst (ws.map V.str)) → Up ws → (∀ x, x ∈ ws ↔ t.out x) → Q (.ref l) H'
/-- a pair of a piece and a dict, the dict where D says -/
def PairAt (D : Addr → Prop) (H : Hp) (q : T × List (Key × V)) (u : V) : Prop := ∃ p v d, u = .ref p ∧ H p = some (.tup [v, .ref d]) ∧ Den H q.1 v ∧ H d = some (.dK q.2) ∧ D d
inductive PairL (D : Addr → Prop) (H : Hp) : List (T × List (Key × V)) → List V → Prop where
  | nil : PairL D H [] []
  | cons {q : T × List (Key × V)} {u : V} {qs : List (T × List (Key × V))} {us : List V} : PairAt D H q u → PairL D H qs us → PairL D H (q :: qs) (u :: us)
theorem PairAt.mono {D D' : Addr → Prop} {H H' : Hp} {q : T × List (Key × V)} {u : V} (k1 : TupLe H H') (k2 : ∀ d kvs, D d → H d = some (.dK kvs) → H' d = some (.dK kvs) ∧ D' d) (h : PairAt D H q u) : PairAt D' H' q u := by
  obtain ⟨p, v, d, e, h1, h2, h3, h4⟩ := h
  exact ⟨p, v, d, e, k1 _ _ h1, h2.mono k1, (k2 _ _ h4 h3).1, (k2 _ _ h4 h3).2⟩
theorem PairL.mono {D D' : Addr → Prop} {H H' : Hp} (k1 : TupLe H H') (k2 : ∀ d kvs, D d → H d = some (.dK kvs) → H' d = some (.dK kvs) ∧ D' d) : ∀ {qs : List (T × List (Key × V))} {us : List V}, PairL D H qs us → PairL D' H' qs us
  | _, _, .nil => .nil
  | _, _, .cons a r => .cons (a.mono k1 k2) (PairL.mono k1 k2 r)
theorem PairL.append {D : Addr → Prop} {H : Hp} : ∀ {qs rs : List (T × List (Key × V))} {us ws : List V}, PairL D H qs us → PairL D H rs ws → PairL D H (qs ++ rs) (us ++ ws)
  | _, _, _, _, .nil, q => q
  | _, _, _, _, .cons a r, q => .cons a (PairL.append r q)
theorem PairL.snoc {D : Addr → Prop} {H : Hp} : ∀ {qs : List (T × List (Key × V))} {us : List V} {u : V}, PairL D H qs (us ++ [u]) → ∃ rs q, qs = rs ++ [q] ∧ PairL D H rs us ∧ PairAt D H q u
  | _, [], _, .cons a .nil => ⟨[], _, rfl, .nil, a⟩
  | _, _ :: us, _, .cons a r => by
    obtain ⟨rs, q, rfl, h1, h2⟩ := PairL.snoc (us := us) r
    exact ⟨_ :: rs, q, rfl, .cons a h1, h2⟩
theorem PairL.length {D : Addr → Prop} {H : Hp} : ∀ {qs : List (T × List (Key × V))} {us : List V}, PairL D H qs us → us.length = qs.length
  | _, _, .nil => rfl
  | _, _, .cons _ r => by rw [List.length_cons, List.length_cons, PairL.length r]
/-- what comes of a piece with the lets round it -/
def pwlM (t : T) (kvs : List (Key × V)) : List (T × List (Key × V)) := match t with
  | .lt x a b => [(b, putK kvs (.inr x) (.bl true)), (a, kvs)]
  | t => t.kids.map fun k => (k, kvs)
def spPwl : Sp := fun vs H Q _ => ∃ (t : T) (v : V) (d : Addr) (kvs : List (Key × V)), vs = [v, .ref d] ∧ Den H t v ∧ H d = some (.dK kvs) ∧ kvs.length ≤ 1000 ∧
  ∀ (l : Addr) (us : List V) (H' : Hp), Same H H' → H l = none → H' l = some (.lst us) → PairL (fun e => e = d ∨ H e = none) H' (pwlM t kvs) us → Q (.ref l) H'
end SW


set_option Elab.async false
set_option linter.all false
set_option maxRecDepth 100000
namespace SW
open PySem L2
def t_any (K : PySem.W.Frag) : TS := (tSeq (tAsg (tOp rModI (tOp rDivI (tVar 0) (tC (.int 2))) (tOp rPowI (tC (.int 10)) (tC (.int 59)))) (gName 1)) (tRet (tOp rMulI (tVar 1) (tOp (rIxL K) (tLst (tCons (tC (.int 1)) (tCons (tUn rNegI (tC (.int 1))) tNil))) (tOp rModI (tVar 0) (tC (.int 2)))))))
def t_aw_1 (K : PySem.W.Frag) : TS := (tSeq (tAsg (tOp rAddS (tOp rIxS (tC (.str "abcdefghijklmnopqrstuvwxyz")) (tOp rModI (tVar 1) (tC (.int 26)))) (tVar 2)) (gName 2)) (tAsg (tOp rSubI (tOp rDivI (tVar 1) (tC (.int 26))) (tC (.int 1))) (gName 1)))
def t_aw (K : PySem.W.Frag) : TS := (tSeq (tAsg (tOp rModI (tCB cAbs (tCons (tVar 0) tNil)) (tOp rPowI (tC (.int 10)) (tC (.int 39)))) (gName 1)) (tSeq (tAsg (tC (.str "")) (gName 2)) (tSeq (tWhile (tTest (tOp rGeI (tVar 1) (tC (.int 0)))) (t_aw_1 K)) (tRet (tVar 2)))))
def t_room_1 (K : PySem.W.Frag) : TS := (tRet (tVar 2))
def t_room_2 (K : PySem.W.Frag) : TS := (tIfS (tTest (tOp rGtI (tCB (cLen K) (tCons (tVar 0) tNil)) (tC (.int 63)))) (t_room_1 K) tNext)
def t_room (K : PySem.W.Frag) : TS := (tSeq (t_room_2 K) (tRet (tVar 1)))
def t_ww (K : PySem.W.Frag) : TS := (tSeq (tAsg (tCB cDictD (tCons (tVar 0) tNil)) (gName 3)) (tSeq (sDPut (tVar 3) (tVar 1) (tVar 2)) (tRet (tVar 3))))
def t_parts_1 (K : PySem.W.Frag) : TS := (tRet (tTup tNil))
def t_parts_2 (K : PySem.W.Frag) : TS := (tIfS (tOr (tTest (tOp rEq (tVar 1) (tC (.str "number")))) (tTest (tOp rEq (tVar 1) (tC (.str "name"))))) (t_parts_1 K) tNext)
def t_parts_3 (K : PySem.W.Frag) : TS := (tRet (tSl (rSlT K) (tVar 0) (tPart (tC (.int 2))) tNoPart))
def t_parts_4 (K : PySem.W.Frag) : TS := (tIfS (tOr (tTest (tOp rEq (tVar 1) (tC (.str "let")))) (tTest (tOp rEq (tVar 1) (tC (.str "stamp"))))) (t_parts_3 K) tNext)
def t_parts (K : PySem.W.Frag) : TS := (tSeq (tAsg (tOp (rIxT K) (tVar 0) (tC (.int 0))) (gName 1)) (tSeq (t_parts_2 K) (tSeq (t_parts_4 K) (tRet (tSl (rSlT K) (tVar 0) (tPart (tC (.int 1))) tNoPart)))))
def t_ins_1 (K : PySem.W.Frag) : TS := (tRet (tLst tNil))
def t_ins_2 (K : PySem.W.Frag) : TS := (tIfS (tTest (tOp (rIn K false) (tOp (rIxT K) (tVar 0) (tC (.int 0))) (tLst (tCons (tC (.str "number")) (tCons (tC (.str "name")) tNil))))) (t_ins_1 K) tNext)
def t_ins (K : PySem.W.Frag) : TS := (tSeq (t_ins_2 K) (tRet (tCB (cListOf K) (tCons (tSl (rSlT K) (tVar 0) (tPart (tOp rAddI (tC (.int 1)) (tCB cInt (tCons (tOp (rIn K false) (tOp (rIxT K) (tVar 0) (tC (.int 0))) (tLst (tCons (tC (.str "let")) (tCons (tC (.str "stamp")) tNil)))) tNil)))) tNoPart) tNil))))
def t_pwl_1 (K : PySem.W.Frag) : TS := (tRet (tLst (tCons (tTup (tCons (tOp (rIxT K) (tVar 0) (tC (.int 3))) (tCons (tCall spWithWord [] E0 (tCons (tVar 1) (tCons (tOp (rIxT K) (tVar 0) (tC (.int 1))) (tCons (tC (.bl true)) tNil)))) tNil))) (tCons (tTup (tCons (tOp (rIxT K) (tVar 0) (tC (.int 2))) (tCons (tVar 1) tNil))) tNil))))
def t_pwl_2 (K : PySem.W.Frag) : TS := (tIfS (tTest (tOp rEq (tOp (rIxT K) (tVar 0) (tC (.int 0))) (tC (.str "let")))) (t_pwl_1 K) tNext)
def t_pwl (K : PySem.W.Frag) : TS := (tSeq (t_pwl_2 K) (tRet (tLC (iTup K (tCall spParts [] E0 (tCons (tVar 0) tNil))) (tTup (tCons (tVar 0) (tCons (tVar 1) tNil))) [1])))
def t_out_1 (K : PySem.W.Frag) : TS := (sDPut (tVar 1) (tOp (rIxT K) (tVar 4) (tC (.int 1))) (tC (.bl true)))
def t_out_2 (K : PySem.W.Frag) : TS := (tIfS (tAnd (tTest (tOp rEq (tOp (rIxT K) (tVar 4) (tC (.int 0))) (tC (.str "name")))) (tB (tDNotIn (tOp (rIxT K) (tVar 4) (tC (.int 1))) (tVar 5)))) (t_out_1 K) tNext)
def t_out_3 (K : PySem.W.Frag) : TS := (tSeq (tAsg (tBM0 K "list" rPop (tVar 2)) (gName 3)) (tSeq (tAsg (tOp (rIxT K) (tVar 3) (tC (.int 0))) (gName 4)) (tSeq (tAsg (tOp (rIxT K) (tVar 3) (tC (.int 1))) (gName 5)) (tSeq (t_out_2 K) (tDrop (tBM K "list" rExtend (tVar 2) (tCons (tCall spPwl [] E0 (tCons (tVar 4) (tCons (tVar 5) tNil))) tNil)))))))
def t_out (K : PySem.W.Frag) : TS := (tSeq (tAsg tDNewK (gName 1)) (tSeq (tAsg (tLst (tCons (tTup (tCons (tVar 0) (tCons tDNewK tNil))) tNil)) (gName 2)) (tSeq (tWhile (tTest (tOp rGtI (tCB (cLen K) (tCons (tVar 2) tNil)) (tC (.int 0)))) (t_out_3 K)) (tRet (tCB cSortedD (tCons (tVar 1) tNil))))))
def t_dp_1 (K : PySem.W.Frag) : TS := (tAsg (tOp rAddS (tCall spWord [] E0 (tCons (tOp rDivI (tVar 4) (tC (.int 29))) tNil)) (tC (.str "k"))) (gName 6))
def t_dp_2 (K : PySem.W.Frag) : TS := (tIfS (tTest (tOp rEq (tOp rModI (tVar 4) (tC (.int 29))) (tC (.int 7)))) (t_dp_1 K) tNext)
def t_dp_3 (K : PySem.W.Frag) : TS := (tDrop (tBM K "list" rAppend (tVar 2) (tCons (tTup (tCons (tC (.str "number")) (tCons (tOp (rIxL K) (tLst (tCons (tOp rSubI (tOp rModI (tVar 4) (tC (.int 4))) (tC (.int 1))) (tCons (tCall spAny [] E0 (tCons (tVar 4) tNil)) tNil))) (tCB cInt (tCons (tOp rEq (tOp rModI (tVar 4) (tC (.int 5))) (tC (.int 3))) tNil))) tNil))) tNil)))
def t_dp_4 (K : PySem.W.Frag) : TS := (tDrop (tBM K "list" rAppend (tVar 2) (tCons (tTup (tCons (tC (.str "name")) (tCons (tVar 6) tNil))) tNil)))
def t_dp_5 (K : PySem.W.Frag) : TS := (tAsg (tOp rCat (tSl (rSlL K) (tVar 2) tNoPart (tPart (tUn rNegI (tC (.int 3))))) (tLst (tCons (tTup (tCons (tC (.str "choose")) (tCons (tOp (rIxL K) (tVar 7) (tC (.int 0))) (tCons (tOp (rIxL K) (tVar 7) (tC (.int 1))) (tCons (tOp (rIxL K) (tVar 7) (tC (.int 2))) tNil))))) tNil))) (gName 2))
def t_dp_6 (K : PySem.W.Frag) : TS := (tAsg (tOp rCat (tSl (rSlL K) (tVar 2) tNoPart (tPart (tUn rNegI (tC (.int 2))))) (tLst (tCons (tTup (tCons (tOp (rIxL K) (tLst (tCons (tC (.str "sum")) (tCons (tC (.str "less")) tNil))) (tOp rModI (tVar 5) (tC (.int 2)))) (tCons (tOp (rIxL K) (tVar 7) (tUn rNegI (tC (.int 2)))) (tCons (tOp (rIxL K) (tVar 7) (tUn rNegI (tC (.int 1)))) tNil)))) tNil))) (gName 2))
def t_dp_7 (K : PySem.W.Frag) : TS := (tAsg (tOp (rIxT K) (tVar 8) (tC (.int 2))) (gName 8))
def t_dp_8 (K : PySem.W.Frag) : TS := (tIfS (tTest (tOp (rIn K false) (tOp (rIxT K) (tVar 8) (tC (.int 0))) (tLst (tCons (tC (.str "sum")) (tCons (tC (.str "less")) tNil))))) (t_dp_7 K) tNext)
def t_dp_9 (K : PySem.W.Frag) : TS := (tAsg (tOp (rIxT K) (tVar 8) (tC (.int 1))) (gName 6))
def t_dp_10 (K : PySem.W.Frag) : TS := (tIfS (tAnd (tTest (tOp rEq (tOp (rIxT K) (tVar 8) (tC (.int 0))) (tC (.str "name")))) (tTest (tOp rGtI (tOp rModI (tVar 4) (tC (.int 3))) (tC (.int 0))))) (t_dp_9 K) tNext)
def t_dp_11 (K : PySem.W.Frag) : TS := (tSeq (tAsg (tOp (rIxL K) (tVar 7) (tUn rNegI (tC (.int 1)))) (gName 8)) (tSeq (t_dp_8 K) (tSeq (t_dp_10 K) (tAsg (tOp rCat (tSl (rSlL K) (tVar 2) tNoPart (tPart (tUn rNegI (tC (.int 2))))) (tLst (tCons (tTup (tCons (tC (.str "let")) (tCons (tVar 6) (tCons (tOp (rIxL K) (tVar 7) (tUn rNegI (tC (.int 2)))) (tCons (tOp (rIxL K) (tVar 7) (tUn rNegI (tC (.int 1)))) tNil))))) tNil))) (gName 2)))))
def t_dp_12 (K : PySem.W.Frag) : TS := (tSeq (tAsg (tCB (cTupleOf K) (tCons (tOp rCat (tLst (tCons (tC (.str "stamp")) (tCons (tVar 9) tNil))) (tSl (rSlL K) (tVar 2) (tPart (tOp rSubI (tCB (cLen K) (tCons (tVar 2) tNil)) (tVar 10))) tNoPart)) tNil)) (gName 11)) (tAsg (tOp rCat (tSl (rSlL K) (tVar 2) tNoPart (tPart (tOp rSubI (tCB (cLen K) (tCons (tVar 2) tNil)) (tVar 10)))) (tLst (tCons (tVar 11) tNil))) (gName 2)))
def t_dp_13 (K : PySem.W.Frag) : TS := (tIfS (tTest (tOp rEq (tVar 10) (tOp (rIxT K) (tOp (rIxL K) (tVar 1) (tOp rModI (tVar 4) (tCB (cLen K) (tCons (tVar 1) tNil)))) (tC (.int 1))))) (t_dp_12 K) tNext)
def t_dp_14 (K : PySem.W.Frag) : TS := (tSeq (tAsg (tOp (rIxL K) (tVar 1) (tOp rModI (tVar 4) (tCB (cLen K) (tCons (tVar 1) tNil)))) (gTup K 2 (gCons (gName 9) (gCons (gName 10) gNil)))) (tSeq (tAsg (tCB cMin (tCons (tVar 10) (tCons (tCB (cLen K) (tCons (tVar 2) tNil)) tNil))) (gName 10)) (t_dp_13 K)))
def t_dp_15 (K : PySem.W.Frag) : TS := (tIfS (tTest (tOp (rNeNil K) (tVar 1) (tLst tNil))) (t_dp_14 K) tNext)
def t_dp_16 (K : PySem.W.Frag) : TS := (tIfS (tTest (tOp rEq (tVar 5) (tC (.int 6)))) (t_dp_11 K) (t_dp_15 K))
def t_dp_17 (K : PySem.W.Frag) : TS := (tIfS (tTest (tOp rLtI (tVar 5) (tC (.int 6)))) (t_dp_6 K) (t_dp_16 K))
def t_dp_18 (K : PySem.W.Frag) : TS := (tIfS (tAnd (tTest (tOp rEq (tVar 5) (tC (.int 5)))) (tTest (tOp rEq (tCB (cLen K) (tCons (tVar 7) tNil)) (tC (.int 3))))) (t_dp_5 K) (t_dp_17 K))
def t_dp_19 (K : PySem.W.Frag) : TS := (tIfS (tTest (tOp rLtI (tVar 5) (tC (.int 3)))) (t_dp_4 K) (t_dp_18 K))
def t_dp_20 (K : PySem.W.Frag) : TS := (tIfS (tOr (tTest (tOp rEq (tVar 5) (tC (.int 0)))) (tAnd (tTest (tOp rEq (tCB (cLen K) (tCons (tVar 7) tNil)) (tC (.int 1)))) (tTest (tChain rLtI rLtI (tC (.int 2)) (tVar 5) (tC (.int 7)))))) (t_dp_3 K) (t_dp_19 K))
def t_dp_21 (K : PySem.W.Frag) : TS := (tSeq (tAsg (tOp rDivI (tVar 3) (tC (.int 9))) (gName 4)) (tSeq (tAsg (tOp rModI (tVar 3) (tC (.int 9))) (gName 5)) (tSeq (tAsg (tOp (rIxL K) (tLst (tCons (tC (.str "sab")) (tCons (tC (.str "tab")) (tCons (tC (.str "sob")) (tCons (tC (.str "sat")) tNil))))) (tOp rModI (tVar 4) (tC (.int 4)))) (gName 6)) (tSeq (t_dp_2 K) (tSeq (tAsg (tSl (rSlL K) (tVar 2) (tPart (tUn rNegI (tC (.int 3)))) tNoPart) (gName 7)) (t_dp_20 K))))))
def t_dp_22 (K : PySem.W.Frag) : TS := (tSeq (tAsg (tBM0 K "list" rPop (tVar 2)) (gName 12)) (tDrop (tBM K "list" rAppend (tVar 2) (tCons (tTup (tCons (tC (.str "sum")) (tCons (tBM0 K "list" rPop (tVar 2)) (tCons (tVar 12) tNil)))) tNil))))
def t_dp (K : PySem.W.Frag) : TS := (tSeq (tAsg (tLst (tCons (tTup (tCons (tC (.str "name")) (tCons (tC (.str "sab")) tNil))) tNil)) (gName 2)) (tSeq (tFor (iList K (tVar 0)) (gName 3) (t_dp_21 K)) (tSeq (tWhile (tTest (tOp rGtI (tCB (cLen K) (tCons (tVar 2) tNil)) (tC (.int 1)))) (t_dp_22 K)) (tRet (tOp (rIxL K) (tVar 2) (tC (.int 0)))))))
def t_main (K : PySem.W.Frag) (S : Str → Nat → Prop) : TS := (tRet (tCall (spDrawn K S) [] E0 (tCons (tVar 0) (tCons (tLst (tCons (tTup (tCons (tC (.str "st")) (tCons (tC (.int 2)) tNil))) (tCons (tTup (tCons (tC (.str "sta")) (tCons (tC (.int 1)) tNil))) (tCons (tTup (tCons (tC (.str "st")) (tCons (tC (.int 2)) tNil))) (tCons (tTup (tCons (tC (.str "star")) (tCons (tC (.int 0)) tNil))) tNil))))) tNil))))
def t_all_1 (K : PySem.W.Frag) : TS := (sDPut (tVar 1) (tOp (rIxT K) (tVar 3) (tC (.int 1))) (tC (.bl true)))
def t_all_2 (K : PySem.W.Frag) : TS := (tIfS (tTest (tOp rEq (tOp (rIxT K) (tVar 3) (tC (.int 0))) (tC (.str "name")))) (t_all_1 K) tNext)
def t_all_3 (K : PySem.W.Frag) : TS := (tSeq (tAsg (tBM0 K "list" rPop (tVar 2)) (gName 3)) (tSeq (t_all_2 K) (tAsg (tOp rCat (tVar 2) (tCall spInside [] E0 (tCons (tVar 3) tNil))) (gName 2))))
def t_all (K : PySem.W.Frag) : TS := (tSeq (tAsg tDNewK (gName 1)) (tSeq (tAsg (tLst (tCons (tVar 0) tNil)) (gName 2)) (tSeq (tWhile (tTest (tOp (rNeNil K) (tVar 2) (tLst tNil))) (t_all_3 K)) (tRet (tCB (cSortedL K) (tCons (tCB cListD (tCons (tVar 1) tNil)) tNil))))))
def t_law_1 (K : PySem.W.Frag) : TS := (tSeq (tAsg (tTup (tCons (tC (.str "let")) (tCons (tC (.str "sat")) (tCons (tVar 1) (tCons (tTup (tCons (tC (.str "sum")) (tCons (tTup (tCons (tC (.str "name")) (tCons (tC (.str "sob")) tNil))) (tCons (tTup (tCons (tC (.str "name")) (tCons (tC (.str "sat")) tNil))) tNil)))) tNil))))) (gName 2)) (tAsg (tTup (tCons (tC (.str "let")) (tCons (tC (.str "sob")) (tCons (tTup (tCons (tC (.str "number")) (tCons (tC (.int 1)) tNil))) (tCons (tVar 2) tNil))))) (gName 1)))
def t_law_2 (K : PySem.W.Frag) : TS := (tIfS (tTest (tOp rEq (tOp rModI (tCB (cLen K) (tCons (tVar 0) tNil)) (tC (.int 3))) (tC (.int 1)))) (t_law_1 K) tNext)
def t_law_3 (K : PySem.W.Frag) : TS := (tDrop (tBM K "list" rAppend (tVar 3) (tCons (tVar 4) tNil)))
def t_law_4 (K : PySem.W.Frag) : TS := (tIfS (tAnd (tTest (tOp (rEqT2 K) (tVar 6) (tTup (tCons (tC (.str "name")) (tCons (tVar 4) tNil))))) (tTest (tOp (rIn K true) (tVar 4) (tVar 3)))) (t_law_3 K) tNext)
def t_law_5 (K : PySem.W.Frag) : TS := (tDrop (tBM K "list" rAppend (tVar 5) (tCons (tOp (rIxT K) (tVar 6) (tC (.int 2))) tNil)))
def t_law_6 (K : PySem.W.Frag) : TS := (tAsg (tOp rCat (tVar 5) (tCall spInside [] E0 (tCons (tVar 6) tNil))) (gName 5))
def t_law_7 (K : PySem.W.Frag) : TS := (tIfS (tAnd (tTest (tOp rEq (tOp (rIxT K) (tVar 6) (tC (.int 0))) (tC (.str "let")))) (tTest (tOp rEq (tOp (rIxT K) (tVar 6) (tC (.int 1))) (tVar 4)))) (t_law_5 K) (t_law_6 K))
def t_law_8 (K : PySem.W.Frag) : TS := (tSeq (tAsg (tBM0 K "list" rPop (tVar 5)) (gName 6)) (tSeq (t_law_4 K) (t_law_7 K)))
def t_law_9 (K : PySem.W.Frag) : TS := (tSeq (tAsg (tLst (tCons (tVar 1) tNil)) (gName 5)) (tWhile (tTest (tOp (rNeNil K) (tVar 5) (tLst tNil))) (t_law_8 K)))
def t_law_10 (K : PySem.W.Frag) : TS := (tRet (tC (.bl false)))
def t_law_11 (K : PySem.W.Frag) : TS := (tIfS (tOr (tNot (tB (tCB (cIsi K) (tCons (tVar 7) (tCons (tC (.ty "list")) tNil))))) (tTest (tOp rNe (tCB (cLen K) (tCons (tVar 7) tNil)) (tCB (cLen K) (tCons (tVar 3) tNil))))) (t_law_10 K) tNext)
def t_law_12 (K : PySem.W.Frag) : TS := (tRet (tC (.bl false)))
def t_law_13 (K : PySem.W.Frag) : TS := (tIfS (tOr (tNot (tB (tCB (cIsi K) (tCons (tOp (rIxL K) (tVar 7) (tVar 8)) (tCons (tC (.ty "str")) tNil))))) (tTest (tOp rNe (tOp (rIxL K) (tVar 7) (tVar 8)) (tOp (rIxL K) (tVar 3) (tVar 8))))) (t_law_12 K) tNext)
def t_law (K : PySem.W.Frag) : TS := (tSeq (tAsg (tCall (spMain K) [] E0 (tCons (tSl (rSlL K) (tVar 0) (tPart (tC (.int 1))) (tPart (tOp rAddI (tC (.int 1)) (tCall (spRoom K) [] E0 (tCons (tVar 0) (tCons (tC (.int 40)) (tCons (tC (.int 94)) tNil))))))) tNil)) (gName 1)) (tSeq (t_law_2 K) (tSeq (tAsg (tLst tNil) (gName 3)) (tSeq (tFor (iList K (tCall spAll [] E0 (tCons (tVar 1) tNil))) (gName 4) (t_law_9 K)) (tSeq (tAsg (tCall spOut [] E0 (tCons (tVar 1) tNil)) (gName 7)) (tSeq (t_law_11 K) (tSeq (tFor (iRng1 (tCons (tCB (cLen K) (tCons (tVar 3) tNil)) tNil)) (gName 8) (t_law_13 K)) (tRet (tC (.bl true))))))))))
end SW


set_option Elab.async false
set_option linter.all false
set_option maxRecDepth 100000
set_option maxHeartbeats 4000000
namespace SW
open PySem L2
variable {K : PySem.W.Frag} {vs : List V} {H : Hp} {Q : VK} {E : XK}
abbrev fin (Q : VK) : Ends := { nx := fun _ H' => Q .non H', rt := Q }
theorem rd_any (h : spAny vs H Q E) : t_any K (fin Q) (start ["_law_cell", "_law_size"] vs) H := by
  obtain ⟨c, rfl, k⟩ := h
  refine ⟨_, rfl, _, _, rfl, rfl, ⟨by decide, by decide⟩, _, _, rfl, rfl, ⟨by decide, by decide, by decide⟩, _, _, rfl, rfl, (show (0 : Int) < 10 ^ (59 : Int).toNat by decide), ?_⟩
  refine ⟨_, rfl, _, rfl, szl, fun p hp => ?_⟩
  have h2 : 0 ≤ c % 2 ∧ c % 2 < 2 := by omega
  obtain ⟨v, hv, e⟩ := atI_mem (xs := [V.int 1, V.int (-1)]) h2.1 h2.2
  refine ⟨_, rfl, _, _, rfl, rfl, (show (0 : Int) < 2 by decide), p, _, _, v, rfl, rfl, SqL.of upd_same, e, ?_⟩
  have b0 := Int.emod_nonneg (c / 2) (show (10 : Int) ^ (59 : Int).toNat ≠ 0 by decide)
  have b1 := Int.emod_lt_of_pos (c / 2) (show (0 : Int) < 10 ^ (59 : Int).toNat by decide)
  have e59 : (10 : Int) ^ (59 : Int).toNat = 10 ^ 59 := rfl
  rw [e59] at b0 b1
  rcases List.mem_cons.mp hv with rfl | hv
  · refine ⟨_, _, rfl, rfl, .inr ⟨by decide, by decide⟩, k _ _ ?_ (same_new hp)⟩
    rw [e59]
    generalize c / 2 % 10 ^ 59 = z at *
    generalize (10 : Int) ^ 59 = y at *
    omega
  · rw [List.mem_singleton] at hv
    subst hv
    refine ⟨_, _, rfl, rfl, .inr ⟨by decide, by decide⟩, k _ _ ?_ (same_new hp)⟩
    rw [e59]
    generalize c / 2 % 10 ^ 59 = z at *
    generalize (10 : Int) ^ 59 = y at *
    omega
theorem rd_aw (h : spWord vs H Q E) : t_aw K (fin Q) (start ["_law_cell", "_law_left", "_law_word"] vs) H := by
  obtain ⟨c, rfl, k⟩ := h
  refine ⟨_, rfl, _, rfl, _, _, rfl, rfl, ⟨by decide, by decide, by decide⟩, _, _, rfl, rfl, (show (0 : Int) < 10 ^ (39 : Int).toNat by decide), ?_⟩
  refine ⟨fun m σ H' => H' = H ∧ ∃ (l : Int) (x : Str), σ = [some (.int c), some (.int l), some (.str x)] ∧ WordTo l x ∧ -1 ≤ l ∧ (m : Int) = l + 1, ⟨((if c < 0 then -c else c) % 10 ^ (39 : Int).toNat + 1).toNat, rfl, _, _, rfl, wordTo_start _, ?_, ?_⟩, ?_⟩
  · have := Int.emod_nonneg (if c < 0 then -c else c) (show (10 : Int) ^ (39 : Int).toNat ≠ 0 by decide)
    omega
  · have := Int.emod_nonneg (if c < 0 then -c else c) (show (10 : Int) ^ (39 : Int).toNat ≠ 0 by decide)
    exact Int.toNat_of_nonneg (by omega)
  · rintro m σ H' ⟨rfl, l, x, rfl, hw, hl1, hm⟩
    refine ⟨_, rfl, _, _, rfl, rfl, _, rfl, ?_⟩
    refine ite2 (fun hl => ?_) (fun hl => ?_)
    · have hl : (0 : Int) ≤ l := of_decide_eq_true hl
      refine ⟨fun σ' H'' => ∃ m', m' < m ∧ (H'' = H' ∧ ∃ (l : Int) (x : Str), σ' = [some (.int c), some (.int l), some (.str x)] ∧ WordTo l x ∧ -1 ≤ l ∧ (m' : Int) = l + 1), fun _ _ h => h, ?_⟩
      obtain ⟨ch, hc, e⟩ := letter_at l
      refine ⟨_, rfl, _, _, rfl, rfl, (show (0 : Int) < 26 by decide), _, _, ch, rfl, rfl, szl (by decide +kernel), e, _, rfl, _, _, rfl, rfl, wordTo_small hw, ?_⟩
      refine ⟨_, rfl, _, _, rfl, rfl, ⟨by decide, by decide⟩, _, _, rfl, rfl, ?_⟩
      refine ⟨(l / 26 - 1 + 1).toNat, ?_, rfl, _, _, rfl, wordTo_step hw hl hc, ?_, ?_⟩
      · omega
      · omega
      · omega
    · have hl : ¬ (0 : Int) ≤ l := fun z => hl (decide_eq_true z)
      exact ⟨_, rfl, k _ (wordTo_end hw hl)⟩
theorem rd_room (h : spRoom K vs H Q E) : t_room K (fin Q) (start ["_law_script", "_law_most", "_law_bound"] vs) H := by
  obtain ⟨s, xs, m, b, rfl, hs, hl, k⟩ := h
  refine ⟨_, rfl, s, xs, rfl, .inl hs, _, _, rfl, rfl, _, rfl, ?_⟩
  refine iteN (decide_eq_false (by omega)) ?_
  exact ⟨_, rfl, k⟩
theorem rd_ww (h : spWithWord vs H Q E) : t_ww K (fin Q) (start ["words", "word", "value", "more"] vs) H := by
  obtain ⟨d, x, v, kvs, rfl, hd, hl, k⟩ := h
  refine ⟨_, rfl, d, kvs, rfl, .inl hd, fun p hp => ?_⟩
  refine ⟨_, rfl, _, rfl, _, rfl, p, _, rfl, DPut.k (k := .inr x) upd_same (small1000 hl), ?_⟩
  exact ⟨_, rfl, k p _ hp (same_old (same_new hp) hp) upd_same⟩
theorem rd_parts (h : spParts vs H Q E) : t_parts K (fin Q) (start ["piece", "kind"] vs) H := by
    obtain ⟨t, v, rfl, hd, k⟩ := h
    cases t with
    | num n =>
      obtain ⟨p, rfl, hp⟩ := hd
      refine ⟨_, rfl, p, _, _, _, rfl, rfl, SqT.of hp, rfl, ?_⟩
      refine ⟨_, rfl, rfl, _, rfl, ?_⟩
      refine iteY (by decide +kernel) (iteT ?_)
      exact ⟨szl, fun q hq => k q [] _ (same_new hq) upd_same .nil⟩
    | name x =>
      obtain ⟨p, rfl, hp⟩ := hd
      refine ⟨_, rfl, p, _, _, _, rfl, rfl, SqT.of hp, rfl, ?_⟩
      refine ⟨_, rfl, rfl, _, rfl, ?_⟩
      refine iteN (by decide +kernel) ?_
      refine ⟨_, rfl, rfl, _, rfl, ?_⟩
      refine iteY (by decide +kernel) ?_
      exact ⟨szl, fun q hq => k q [] _ (same_new hq) upd_same .nil⟩
    | sum a b =>
      obtain ⟨p, x, y, rfl, hp, d1, d2⟩ := hd
      refine ⟨_, rfl, p, _, _, _, rfl, rfl, SqT.of hp, rfl, ?_⟩
      refine ⟨_, rfl, rfl, _, rfl, ?_⟩
      refine iteN (by decide +kernel) ?_
      refine ⟨_, rfl, rfl, _, rfl, ?_⟩
      refine iteN (by decide +kernel) ?_
      refine ⟨_, rfl, rfl, _, rfl, ?_⟩
      refine iteN (by decide +kernel) ?_
      refine ⟨_, rfl, rfl, _, rfl, ?_⟩
      refine iteN (by decide +kernel) ?_
      exact ⟨_, rfl, _, rfl, p, _, rfl, SqT.of hp, cut_not 1 (by decide) (Nat.le_of_ble_eq_true rfl), fun q hq => k q [x, y] _ (same_new hq) upd_same (.cons (d1.mono (tl_new hq)) (.cons (d2.mono (tl_new hq)) .nil))⟩
    | less a b =>
      obtain ⟨p, x, y, rfl, hp, d1, d2⟩ := hd
      refine ⟨_, rfl, p, _, _, _, rfl, rfl, SqT.of hp, rfl, ?_⟩
      refine ⟨_, rfl, rfl, _, rfl, ?_⟩
      refine iteN (by decide +kernel) ?_
      refine ⟨_, rfl, rfl, _, rfl, ?_⟩
      refine iteN (by decide +kernel) ?_
      refine ⟨_, rfl, rfl, _, rfl, ?_⟩
      refine iteN (by decide +kernel) ?_
      refine ⟨_, rfl, rfl, _, rfl, ?_⟩
      refine iteN (by decide +kernel) ?_
      exact ⟨_, rfl, _, rfl, p, _, rfl, SqT.of hp, cut_not 1 (by decide) (Nat.le_of_ble_eq_true rfl), fun q hq => k q [x, y] _ (same_new hq) upd_same (.cons (d1.mono (tl_new hq)) (.cons (d2.mono (tl_new hq)) .nil))⟩
    | cho a b c =>
      obtain ⟨p, x, y, z, rfl, hp, d1, d2, d3⟩ := hd
      refine ⟨_, rfl, p, _, _, _, rfl, rfl, SqT.of hp, rfl, ?_⟩
      refine ⟨_, rfl, rfl, _, rfl, ?_⟩
      refine iteN (by decide +kernel) ?_
      refine ⟨_, rfl, rfl, _, rfl, ?_⟩
      refine iteN (by decide +kernel) ?_
      refine ⟨_, rfl, rfl, _, rfl, ?_⟩
      refine iteN (by decide +kernel) ?_
      refine ⟨_, rfl, rfl, _, rfl, ?_⟩
      refine iteN (by decide +kernel) ?_
      exact ⟨_, rfl, _, rfl, p, _, rfl, SqT.of hp, cut_not 1 (by decide) (Nat.le_of_ble_eq_true rfl), fun q hq => k q [x, y, z] _ (same_new hq) upd_same (.cons (d1.mono (tl_new hq)) (.cons (d2.mono (tl_new hq)) (.cons (d3.mono (tl_new hq)) .nil)))⟩
    | lt w a b =>
      obtain ⟨p, x, y, rfl, hp, d1, d2⟩ := hd
      refine ⟨_, rfl, p, _, _, _, rfl, rfl, SqT.of hp, rfl, ?_⟩
      refine ⟨_, rfl, rfl, _, rfl, ?_⟩
      refine iteN (by decide +kernel) ?_
      refine ⟨_, rfl, rfl, _, rfl, ?_⟩
      refine iteN (by decide +kernel) ?_
      refine ⟨_, rfl, rfl, _, rfl, ?_⟩
      refine iteY (by decide +kernel) (iteT ?_)
      exact ⟨_, rfl, _, rfl, p, _, rfl, SqT.of hp, cut_not 2 (by decide) (Nat.le_of_ble_eq_true rfl), fun q hq => k q [x, y] _ (same_new hq) upd_same (.cons (d1.mono (tl_new hq)) (.cons (d2.mono (tl_new hq)) .nil))⟩
    | st0 w =>
      obtain ⟨p, rfl, hp⟩ := hd
      refine ⟨_, rfl, p, _, _, _, rfl, rfl, SqT.of hp, rfl, ?_⟩
      refine ⟨_, rfl, rfl, _, rfl, ?_⟩
      refine iteN (by decide +kernel) ?_
      refine ⟨_, rfl, rfl, _, rfl, ?_⟩
      refine iteN (by decide +kernel) ?_
      refine ⟨_, rfl, rfl, _, rfl, ?_⟩
      refine iteN (by decide +kernel) ?_
      refine ⟨_, rfl, rfl, _, rfl, ?_⟩
      refine iteY (by decide +kernel) ?_
      exact ⟨_, rfl, _, rfl, p, _, rfl, SqT.of hp, cut_not 2 (by decide) (Nat.le_of_ble_eq_true rfl), fun q hq => k q [] _ (same_new hq) upd_same .nil⟩
    | st1 w a =>
      obtain ⟨p, x, rfl, hp, d1⟩ := hd
      refine ⟨_, rfl, p, _, _, _, rfl, rfl, SqT.of hp, rfl, ?_⟩
      refine ⟨_, rfl, rfl, _, rfl, ?_⟩
      refine iteN (by decide +kernel) ?_
      refine ⟨_, rfl, rfl, _, rfl, ?_⟩
      refine iteN (by decide +kernel) ?_
      refine ⟨_, rfl, rfl, _, rfl, ?_⟩
      refine iteN (by decide +kernel) ?_
      refine ⟨_, rfl, rfl, _, rfl, ?_⟩
      refine iteY (by decide +kernel) ?_
      exact ⟨_, rfl, _, rfl, p, _, rfl, SqT.of hp, cut_not 2 (by decide) (Nat.le_of_ble_eq_true rfl), fun q hq => k q [x] _ (same_new hq) upd_same (.cons (d1.mono (tl_new hq)) .nil)⟩
    | st2 w a b =>
      obtain ⟨p, x, y, rfl, hp, d1, d2⟩ := hd
      refine ⟨_, rfl, p, _, _, _, rfl, rfl, SqT.of hp, rfl, ?_⟩
      refine ⟨_, rfl, rfl, _, rfl, ?_⟩
      refine iteN (by decide +kernel) ?_
      refine ⟨_, rfl, rfl, _, rfl, ?_⟩
      refine iteN (by decide +kernel) ?_
      refine ⟨_, rfl, rfl, _, rfl, ?_⟩
      refine iteN (by decide +kernel) ?_
      refine ⟨_, rfl, rfl, _, rfl, ?_⟩
      refine iteY (by decide +kernel) ?_
      exact ⟨_, rfl, _, rfl, p, _, rfl, SqT.of hp, cut_not 2 (by decide) (Nat.le_of_ble_eq_true rfl), fun q hq => k q [x, y] _ (same_new hq) upd_same (.cons (d1.mono (tl_new hq)) (.cons (d2.mono (tl_new hq)) .nil))⟩
theorem rd_ins (h : spInside vs H Q E) : t_ins K (fin Q) (start ["_law_piece"] vs) H := by
    obtain ⟨t, v, rfl, hd, k⟩ := h
    cases t with
    | num n =>
      obtain ⟨p, rfl, hp⟩ := hd
      refine ⟨_, rfl, p, _, _, _, rfl, rfl, SqT.of hp, rfl, szl, fun q hq => ?_⟩
      refine ⟨q, _, rfl, .inl (SqL.of upd_same), rfl, rfl, _, rfl, ?_⟩
      refine iteY (by decide +kernel) ⟨szl, fun l hl => ?_⟩
      exact k l [] _ ((same_new hq).trans (same_new hl)) ((same_new hq).free hl) upd_same .nil
    | name x =>
      obtain ⟨p, rfl, hp⟩ := hd
      refine ⟨_, rfl, p, _, _, _, rfl, rfl, SqT.of hp, rfl, szl, fun q hq => ?_⟩
      refine ⟨q, _, rfl, .inl (SqL.of upd_same), rfl, rfl, _, rfl, ?_⟩
      refine iteY (by decide +kernel) ⟨szl, fun l hl => ?_⟩
      exact k l [] _ ((same_new hq).trans (same_new hl)) ((same_new hq).free hl) upd_same .nil
    | sum a b =>
      obtain ⟨p, x, y, rfl, hp, d1, d2⟩ := hd
      refine ⟨_, rfl, p, _, _, _, rfl, rfl, SqT.of hp, rfl, szl, fun q hq => ?_⟩
      refine ⟨q, _, rfl, .inl (SqL.of upd_same), rfl, rfl, _, rfl, ?_⟩
      have h1 := tl_new (o := .lst [.str "number", .str "name"]) hq _ _ hp
      refine iteN (by decide +kernel) ⟨_, rfl, _, rfl, p, _, _, _, rfl, rfl, SqT.of h1, rfl, szl, fun q2 hq2 => ?_⟩
      have h2 := tl_new (o := .lst [.str "let", .str "stamp"]) hq2 _ _ h1
      refine ⟨q2, _, rfl, .inl (SqL.of upd_same), rfl, rfl, ?_⟩
      rw [if_neg Bool.false_ne_true, show inV (V.str "sum") [V.str "let", V.str "stamp"] = false from by decide +kernel]
      refine .inr ⟨_, rfl, ?_⟩
      refine ⟨_, _, rfl, rfl, _, rfl, p, _, rfl, SqT.of h2, cut_not 1 (by decide) (Nat.le_of_ble_eq_true rfl), fun q3 hq3 => ?_⟩
      refine ⟨q3, [x, y], rfl, .inr (SqT.of upd_same), fun l hl => ?_⟩
      have s := (((same_new (o := .lst [.str "number", .str "name"]) hq).trans (same_new (o := .lst [.str "let", .str "stamp"]) hq2)).trans (same_new (o := .tup [x, y]) hq3)).trans (same_new (o := .lst [x, y]) hl)
      have s3 := ((same_new (o := .lst [.str "number", .str "name"]) hq).trans (same_new (o := .lst [.str "let", .str "stamp"]) hq2)).trans (same_new (o := .tup [x, y]) hq3)
      exact k l [x, y] _ s (s3.free hl) upd_same (.cons (d1.mono (tl_same s)) (.cons (d2.mono (tl_same s)) .nil))
    | less a b =>
      obtain ⟨p, x, y, rfl, hp, d1, d2⟩ := hd
      refine ⟨_, rfl, p, _, _, _, rfl, rfl, SqT.of hp, rfl, szl, fun q hq => ?_⟩
      refine ⟨q, _, rfl, .inl (SqL.of upd_same), rfl, rfl, _, rfl, ?_⟩
      have h1 := tl_new (o := .lst [.str "number", .str "name"]) hq _ _ hp
      refine iteN (by decide +kernel) ⟨_, rfl, _, rfl, p, _, _, _, rfl, rfl, SqT.of h1, rfl, szl, fun q2 hq2 => ?_⟩
      have h2 := tl_new (o := .lst [.str "let", .str "stamp"]) hq2 _ _ h1
      refine ⟨q2, _, rfl, .inl (SqL.of upd_same), rfl, rfl, ?_⟩
      rw [if_neg Bool.false_ne_true, show inV (V.str "less") [V.str "let", V.str "stamp"] = false from by decide +kernel]
      refine .inr ⟨_, rfl, ?_⟩
      refine ⟨_, _, rfl, rfl, _, rfl, p, _, rfl, SqT.of h2, cut_not 1 (by decide) (Nat.le_of_ble_eq_true rfl), fun q3 hq3 => ?_⟩
      refine ⟨q3, [x, y], rfl, .inr (SqT.of upd_same), fun l hl => ?_⟩
      have s := (((same_new (o := .lst [.str "number", .str "name"]) hq).trans (same_new (o := .lst [.str "let", .str "stamp"]) hq2)).trans (same_new (o := .tup [x, y]) hq3)).trans (same_new (o := .lst [x, y]) hl)
      have s3 := ((same_new (o := .lst [.str "number", .str "name"]) hq).trans (same_new (o := .lst [.str "let", .str "stamp"]) hq2)).trans (same_new (o := .tup [x, y]) hq3)
      exact k l [x, y] _ s (s3.free hl) upd_same (.cons (d1.mono (tl_same s)) (.cons (d2.mono (tl_same s)) .nil))
    | cho a b c =>
      obtain ⟨p, x, y, z, rfl, hp, d1, d2, d3⟩ := hd
      refine ⟨_, rfl, p, _, _, _, rfl, rfl, SqT.of hp, rfl, szl, fun q hq => ?_⟩
      refine ⟨q, _, rfl, .inl (SqL.of upd_same), rfl, rfl, _, rfl, ?_⟩
      have h1 := tl_new (o := .lst [.str "number", .str "name"]) hq _ _ hp
      refine iteN (by decide +kernel) ⟨_, rfl, _, rfl, p, _, _, _, rfl, rfl, SqT.of h1, rfl, szl, fun q2 hq2 => ?_⟩
      have h2 := tl_new (o := .lst [.str "let", .str "stamp"]) hq2 _ _ h1
      refine ⟨q2, _, rfl, .inl (SqL.of upd_same), rfl, rfl, ?_⟩
      rw [if_neg Bool.false_ne_true, show inV (V.str "choose") [V.str "let", V.str "stamp"] = false from by decide +kernel]
      refine .inr ⟨_, rfl, ?_⟩
      refine ⟨_, _, rfl, rfl, _, rfl, p, _, rfl, SqT.of h2, cut_not 1 (by decide) (Nat.le_of_ble_eq_true rfl), fun q3 hq3 => ?_⟩
      refine ⟨q3, [x, y, z], rfl, .inr (SqT.of upd_same), fun l hl => ?_⟩
      have s := (((same_new (o := .lst [.str "number", .str "name"]) hq).trans (same_new (o := .lst [.str "let", .str "stamp"]) hq2)).trans (same_new (o := .tup [x, y, z]) hq3)).trans (same_new (o := .lst [x, y, z]) hl)
      have s3 := ((same_new (o := .lst [.str "number", .str "name"]) hq).trans (same_new (o := .lst [.str "let", .str "stamp"]) hq2)).trans (same_new (o := .tup [x, y, z]) hq3)
      exact k l [x, y, z] _ s (s3.free hl) upd_same (.cons (d1.mono (tl_same s)) (.cons (d2.mono (tl_same s)) (.cons (d3.mono (tl_same s)) .nil)))
    | lt w a b =>
      obtain ⟨p, x, y, rfl, hp, d1, d2⟩ := hd
      refine ⟨_, rfl, p, _, _, _, rfl, rfl, SqT.of hp, rfl, szl, fun q hq => ?_⟩
      refine ⟨q, _, rfl, .inl (SqL.of upd_same), rfl, rfl, _, rfl, ?_⟩
      have h1 := tl_new (o := .lst [.str "number", .str "name"]) hq _ _ hp
      refine iteN (by decide +kernel) ⟨_, rfl, _, rfl, p, _, _, _, rfl, rfl, SqT.of h1, rfl, szl, fun q2 hq2 => ?_⟩
      have h2 := tl_new (o := .lst [.str "let", .str "stamp"]) hq2 _ _ h1
      refine ⟨q2, _, rfl, .inl (SqL.of upd_same), rfl, rfl, ?_⟩
      rw [if_neg Bool.false_ne_true, show inV (V.str "let") [V.str "let", V.str "stamp"] = true from by decide +kernel]
      refine .inr ⟨_, rfl, ?_⟩
      refine ⟨_, _, rfl, rfl, _, rfl, p, _, rfl, SqT.of h2, cut_not 2 (by decide) (Nat.le_of_ble_eq_true rfl), fun q3 hq3 => ?_⟩
      refine ⟨q3, [x, y], rfl, .inr (SqT.of upd_same), fun l hl => ?_⟩
      have s := (((same_new (o := .lst [.str "number", .str "name"]) hq).trans (same_new (o := .lst [.str "let", .str "stamp"]) hq2)).trans (same_new (o := .tup [x, y]) hq3)).trans (same_new (o := .lst [x, y]) hl)
      have s3 := ((same_new (o := .lst [.str "number", .str "name"]) hq).trans (same_new (o := .lst [.str "let", .str "stamp"]) hq2)).trans (same_new (o := .tup [x, y]) hq3)
      exact k l [x, y] _ s (s3.free hl) upd_same (.cons (d1.mono (tl_same s)) (.cons (d2.mono (tl_same s)) .nil))
    | st0 w =>
      obtain ⟨p, rfl, hp⟩ := hd
      refine ⟨_, rfl, p, _, _, _, rfl, rfl, SqT.of hp, rfl, szl, fun q hq => ?_⟩
      refine ⟨q, _, rfl, .inl (SqL.of upd_same), rfl, rfl, _, rfl, ?_⟩
      have h1 := tl_new (o := .lst [.str "number", .str "name"]) hq _ _ hp
      refine iteN (by decide +kernel) ⟨_, rfl, _, rfl, p, _, _, _, rfl, rfl, SqT.of h1, rfl, szl, fun q2 hq2 => ?_⟩
      have h2 := tl_new (o := .lst [.str "let", .str "stamp"]) hq2 _ _ h1
      refine ⟨q2, _, rfl, .inl (SqL.of upd_same), rfl, rfl, ?_⟩
      rw [if_neg Bool.false_ne_true, show inV (V.str "stamp") [V.str "let", V.str "stamp"] = true from by decide +kernel]
      refine .inr ⟨_, rfl, ?_⟩
      refine ⟨_, _, rfl, rfl, _, rfl, p, _, rfl, SqT.of h2, cut_not 2 (by decide) (Nat.le_of_ble_eq_true rfl), fun q3 hq3 => ?_⟩
      refine ⟨q3, [], rfl, .inr (SqT.of upd_same), fun l hl => ?_⟩
      have s := (((same_new (o := .lst [.str "number", .str "name"]) hq).trans (same_new (o := .lst [.str "let", .str "stamp"]) hq2)).trans (same_new (o := .tup []) hq3)).trans (same_new (o := .lst []) hl)
      have s3 := ((same_new (o := .lst [.str "number", .str "name"]) hq).trans (same_new (o := .lst [.str "let", .str "stamp"]) hq2)).trans (same_new (o := .tup []) hq3)
      exact k l [] _ s (s3.free hl) upd_same .nil
    | st1 w a =>
      obtain ⟨p, x, rfl, hp, d1⟩ := hd
      refine ⟨_, rfl, p, _, _, _, rfl, rfl, SqT.of hp, rfl, szl, fun q hq => ?_⟩
      refine ⟨q, _, rfl, .inl (SqL.of upd_same), rfl, rfl, _, rfl, ?_⟩
      have h1 := tl_new (o := .lst [.str "number", .str "name"]) hq _ _ hp
      refine iteN (by decide +kernel) ⟨_, rfl, _, rfl, p, _, _, _, rfl, rfl, SqT.of h1, rfl, szl, fun q2 hq2 => ?_⟩
      have h2 := tl_new (o := .lst [.str "let", .str "stamp"]) hq2 _ _ h1
      refine ⟨q2, _, rfl, .inl (SqL.of upd_same), rfl, rfl, ?_⟩
      rw [if_neg Bool.false_ne_true, show inV (V.str "stamp") [V.str "let", V.str "stamp"] = true from by decide +kernel]
      refine .inr ⟨_, rfl, ?_⟩
      refine ⟨_, _, rfl, rfl, _, rfl, p, _, rfl, SqT.of h2, cut_not 2 (by decide) (Nat.le_of_ble_eq_true rfl), fun q3 hq3 => ?_⟩
      refine ⟨q3, [x], rfl, .inr (SqT.of upd_same), fun l hl => ?_⟩
      have s := (((same_new (o := .lst [.str "number", .str "name"]) hq).trans (same_new (o := .lst [.str "let", .str "stamp"]) hq2)).trans (same_new (o := .tup [x]) hq3)).trans (same_new (o := .lst [x]) hl)
      have s3 := ((same_new (o := .lst [.str "number", .str "name"]) hq).trans (same_new (o := .lst [.str "let", .str "stamp"]) hq2)).trans (same_new (o := .tup [x]) hq3)
      exact k l [x] _ s (s3.free hl) upd_same (.cons (d1.mono (tl_same s)) .nil)
    | st2 w a b =>
      obtain ⟨p, x, y, rfl, hp, d1, d2⟩ := hd
      refine ⟨_, rfl, p, _, _, _, rfl, rfl, SqT.of hp, rfl, szl, fun q hq => ?_⟩
      refine ⟨q, _, rfl, .inl (SqL.of upd_same), rfl, rfl, _, rfl, ?_⟩
      have h1 := tl_new (o := .lst [.str "number", .str "name"]) hq _ _ hp
      refine iteN (by decide +kernel) ⟨_, rfl, _, rfl, p, _, _, _, rfl, rfl, SqT.of h1, rfl, szl, fun q2 hq2 => ?_⟩
      have h2 := tl_new (o := .lst [.str "let", .str "stamp"]) hq2 _ _ h1
      refine ⟨q2, _, rfl, .inl (SqL.of upd_same), rfl, rfl, ?_⟩
      rw [if_neg Bool.false_ne_true, show inV (V.str "stamp") [V.str "let", V.str "stamp"] = true from by decide +kernel]
      refine .inr ⟨_, rfl, ?_⟩
      refine ⟨_, _, rfl, rfl, _, rfl, p, _, rfl, SqT.of h2, cut_not 2 (by decide) (Nat.le_of_ble_eq_true rfl), fun q3 hq3 => ?_⟩
      refine ⟨q3, [x, y], rfl, .inr (SqT.of upd_same), fun l hl => ?_⟩
      have s := (((same_new (o := .lst [.str "number", .str "name"]) hq).trans (same_new (o := .lst [.str "let", .str "stamp"]) hq2)).trans (same_new (o := .tup [x, y]) hq3)).trans (same_new (o := .lst [x, y]) hl)
      have s3 := ((same_new (o := .lst [.str "number", .str "name"]) hq).trans (same_new (o := .lst [.str "let", .str "stamp"]) hq2)).trans (same_new (o := .tup [x, y]) hq3)
      exact k l [x, y] _ s (s3.free hl) upd_same (.cons (d1.mono (tl_same s)) (.cons (d2.mono (tl_same s)) .nil))
end SW


set_option Elab.async false
set_option linter.all false
set_option maxRecDepth 100000
set_option maxHeartbeats 4000000
namespace SW
open PySem L2
def addW (ws : List Str) (x : Str) : List Str := if x ∈ ws then ws else ws ++ [x]
def trues (ws : List Str) : List (Key × V) := ws.map fun x => (Sum.inr x, V.bl true)
theorem mem_addW {ws : List Str} {x y : Str} : y ∈ addW ws x ↔ y ∈ ws ∨ y = x := by
  unfold addW
  split
  · rename_i h
    exact ⟨.inl, fun z => z.elim id fun e => e ▸ h⟩
  · simp
theorem addW_nodup {ws : List Str} {x : Str} (h : ws.Nodup) : (addW ws x).Nodup := by
  unfold addW
  split
  · exact h
  · rename_i n
    exact nd_snoc h n
theorem addW_length (ws : List Str) (x : Str) : (addW ws x).length ≤ ws.length + 1 := by
  unfold addW
  split
  · omega
  · simp
theorem keys_trues (ws : List Str) : keysV (trues ws) = ws.map V.str := by simp [keysV, trues, kV]
theorem len_trues (ws : List Str) : (trues ws).length = ws.length := by simp [trues]
theorem val_trues (ws : List Str) (x : Str) : (valV (trues ws) (Sum.inr x : Key)).isSome = decide (x ∈ ws) := by
  rw [← valV_any]
  unfold trues
  rw [List.any_map]
  by_cases h : x ∈ ws
  · rw [decide_eq_true h]
    exact List.any_eq_true.mpr ⟨x, h, by simp⟩
  · rw [decide_eq_false h]
    refine List.any_eq_false.mpr fun y hy => ?_
    simp only [Function.comp_apply, decide_eq_true_eq]
    intro e
    cases e
    exact h hy
theorem put_trues (ws : List Str) (x : Str) : putK (trues ws) (Sum.inr x : Key) (.bl true) = trues (addW ws x) := by
  unfold addW
  by_cases h : x ∈ ws
  · rw [if_pos h]
    unfold putK
    rw [valV_any, val_trues, decide_eq_true h, if_pos rfl]
    unfold trues
    rw [List.map_map]
    refine List.map_congr_left fun y _ => ?_
    simp only [Function.comp_apply]
    split
    · rename_i e; rw [e]
    · rfl
  · rw [if_neg h, putK_new _ (by cases e : valV (trues ws) (Sum.inr x : Key) with | none => rfl | some z => have := val_trues ws x; rw [e, decide_eq_false h] at this; cases this)]
    simp [trues]
theorem kind_name {t : T} (h : kind t = "name") : ∃ x, t = .name x := by
  cases t with
  | name x => exact ⟨x, rfl⟩
  | _ => simp only [kind] at h; exact absurd h (by decide +kernel)
theorem kind_let {t : T} (h : kind t = "let") : ∃ x a b, t = .lt x a b := by
  cases t with
  | lt x a b => exact ⟨x, a, b, rfl⟩
  | _ => simp only [kind] at h; exact absurd h (by decide +kernel)
theorem hd_kind (t : T) (us : List V) : atI (hd t ++ us) 0 = some (.str (kind t)) := by cases t <;> exact atI_nat (j := 0) rfl
def occL (x : Str) (ts : List T) : Prop := ∃ t ∈ ts, t.occ x
theorem occL_append {x : Str} {a b : List T} : occL x (a ++ b) ↔ occL x a ∨ occL x b := by
  unfold occL
  constructor
  · rintro ⟨t, h, o⟩
    rcases List.mem_append.mp h with z | z
    · exact .inl ⟨t, z, o⟩
    · exact .inr ⟨t, z, o⟩
  · rintro (⟨t, h, o⟩ | ⟨t, h, o⟩)
    · exact ⟨t, List.mem_append_left _ h, o⟩
    · exact ⟨t, List.mem_append_right _ h, o⟩
theorem occL_one {x : Str} {t : T} : occL x [t] ↔ t.occ x := by simp [occL]
theorem occL_nil {x : Str} : ¬ occL x [] := by simp [occL]
theorem occ_kids {x : Str} {t : T} (h : ∀ y, t ≠ .name y) : t.occ x ↔ occL x t.kids := by
  cases t with
  | name y => exact absurd rfl (h y)
  | _ => simp [occL, T.kids, T.occ]
theorem namesAll_append (a b : List T) : namesAll (a ++ b) = namesAll a + namesAll b := by simp [namesAll]
theorem namesAll_one (t : T) : namesAll [t] = t.names.length := by simp [namesAll]
theorem namesAll_kids {t : T} (h : ∀ y, t ≠ .name y) : namesAll t.kids = t.names.length := by
  cases t with
  | name y => exact absurd rfl (h y)
  | _ => simp [namesAll, T.kids, T.names] <;> omega
theorem snoc_of_ne {α : Type} {l : List α} (h : l ≠ []) : ∃ us u, l = us ++ [u] := ⟨l.dropLast, l.getLast h, (List.dropLast_concat_getLast h).symm⟩
theorem pop_at {us : List V} {u : V} : (us ++ [u])[(us ++ [u]).length - 1]? = some u := by simp
theorem drop_at {us : List V} {u : V} : (us ++ [u]).dropLast = us := by simp
end SW


set_option Elab.async false
set_option linter.all false
set_option maxRecDepth 100000
set_option maxHeartbeats 4000000
namespace SW
open PySem L2
variable {K : PySem.W.Frag} {vs : List V} {H : Hp} {Q : VK} {E : XK}
structure AllSt (t : T) (H₀ H : Hp) (f l : Addr) (ws : List Str) (ts : List T) (vs : List V) : Prop where
  same : Same H₀ H
  nf : H₀ f = none
  nl : H₀ l = none
  f_ : H f = some (.dK (trues ws))
  l_ : H l = some (.lst vs)
  den : DenL H ts vs
  nd : ws.Nodup
  cnt : ws.length + namesAll ts ≤ t.names.length
  sz : sizes ts ≤ 900
  iff : ∀ x, x ∈ ws ∨ occL x ts ↔ t.occ x
theorem AllSt.mono {t : T} {H₀ H H' : Hp} {f l : Addr} {ws : List Str} {ts : List T} {vs : List V} (s : Same H H') (a : AllSt t H₀ H f l ws ts vs) : AllSt t H₀ H' f l ws ts vs :=
  ⟨a.same.trans s, a.nf, a.nl, s _ _ a.f_, s _ _ a.l_, a.den.mono (tl_same s), a.nd, a.cnt, a.sz, a.iff⟩
theorem rd_all (h : spAll vs H Q E) : t_all K (fin Q) (start ["_law_piece", "_law_words", "_law_todo", "_law_part"] vs) H := by
  obtain ⟨t, v, rfl, hd, hsz, hnm, k⟩ := h
  intro f hf
  refine ⟨_, rfl, szl, fun l hl => ?_⟩
  have hl0 : H l = none := (same_new hf).free hl
  refine ⟨fun m σ H' => ∃ f l j ws ts vs, σ = [some v, some (.ref f), some (.ref l), j] ∧ AllSt t H H' f l ws ts vs ∧ m = sizes ts, ⟨_, f, l, none, [], [t], [v], rfl, ?_, rfl⟩, ?_⟩
  · refine ⟨(same_new hf).trans (same_new hl), hf, hl0, same_new hl _ _ upd_same, upd_same, .cons (hd.mono ((tl_new hf).trans (tl_new hl))) .nil, List.nodup_nil, ?_, ?_, fun x => ?_⟩
    · rw [namesAll_one]; simp
    · rw [sizes_cons, sizes_nil]; omega
    · rw [occL_one]; simp
  · rintro m σ H1 ⟨f, l, j, ws, ts, vs, rfl, A, rfl⟩
    refine ⟨_, rfl, szl, fun e he => ?_⟩
    have A := A.mono (same_new (o := .lst []) he)
    have he1 : (upd H1 e (.lst [])) e = some (.lst []) := upd_same
    generalize upd H1 e (.lst []) = H2 at A he1 ⊢
    refine ⟨l, e, vs, rfl, rfl, SqL.of A.l_, SqL.of he1, _, rfl, ?_⟩
    by_cases hv : vs = []
    · subst hv
      cases A.den
      refine iteN rfl ?_
      refine ⟨_, rfl, f, _, rfl, .inl A.f_, fun p hp => ?_⟩
      have hlen : ws.length < 64 := Nat.lt_of_le_of_lt (Nat.le_trans (Nat.le_add_right _ _) A.cnt) hnm
      refine ⟨p, ws, rfl, SqL.of (by rw [upd_same, keys_trues]), hlen, fun q ws' hq pm so => ?_⟩
      have s1 := (A.same.trans (same_new (o := .lst (keysV (trues ws))) hp))
      refine k q ws' _ (s1.trans (same_new hq)) (s1.free hq) upd_same (up_of (sorted_pw so) (pm.nodup_iff.mpr A.nd)) (by rw [pm.length_eq]; exact hlen) fun x => ?_
      rw [pm.mem_iff, ← A.iff x]
      exact ⟨.inl, fun z => z.elim id fun z => (occL_nil z).elim⟩
    · obtain ⟨us, u, rfl⟩ := snoc_of_ne hv
      refine iteY (by simp) ?_
      obtain ⟨us', t', rfl, d1, d2⟩ := A.den.snoc
      obtain ⟨p, ks, rfl, hp, dk⟩ := d2.open
      refine ⟨fun σ' H' => ∃ m', m' < sizes (us' ++ [t']) ∧ ∃ f l j ws ts vs, σ' = [some v, some (.ref f), some (.ref l), j] ∧ AllSt t H H' f l ws ts vs ∧ m' = sizes ts, fun _ _ h => h, ?_⟩
      refine ⟨_, rfl, .inl ⟨rfl, _, SqL.of A.l_⟩, l, _, _, rfl, rfl, A.l_, pop_at, ?_⟩
      rw [drop_at]
      have hfl : f ≠ l := ne_of A.f_ A.l_ (by intro z; cases z)
      have tl1 : TupLe H2 (upd H2 l (.lst us)) := tl_lst A.l_
      have s3 : Same H (upd H2 l (.lst us)) := same_old A.same A.nl
      have f3 : (upd H2 l (.lst us)) f = some (.dK (trues ws)) := by rw [upd_ne hfl]; exact A.f_
      have l3 : (upd H2 l (.lst us)) l = some (.lst us) := upd_same
      have d3 := d1.mono tl1
      have e3 := d2.mono tl1
      have hp3 := tl1 _ _ hp
      generalize upd H2 l (.lst us) = H3 at s3 f3 l3 d3 e3 hp3 ⊢
      have hcnt := A.cnt
      have hsz2 := A.sz
      rw [sizes_append, sizes_cons, sizes_nil] at hsz2
      rw [namesAll_append, namesAll_one] at hcnt
      -- the rest of a turn, from the words as they are now
      have rest : ∀ (ws' : List Str) (H4 : Hp), Same H H4 → H4 f = some (.dK (trues ws')) → H4 l = some (.lst us) → DenL H4 us' us → Den H4 t' (.ref p) → ws'.Nodup → ws'.length + namesAll us' + namesAll t'.kids ≤ t.names.length →
          (∀ x, x ∈ ws' ∨ occL x us' ∨ occL x t'.kids ↔ t.occ x) →
          (tAsg (tOp rCat (tVar 2) (tCall spInside [] E0 (tCons (tVar 3) tNil))) (gName 2)) { fin Q with nx := fun σ' H' => ∃ m', m' < sizes (us' ++ [t']) ∧ ∃ f l j ws ts vs, σ' = [some v, some (.ref f), some (.ref l), j] ∧ AllSt t H H' f l ws ts vs ∧ m' = sizes ts } [some v, some (.ref f), some (.ref l), some (.ref p)] H4 := by
        intro ws' H4 s4 f4 l4 d4 e4 nd4 c4 i4
        refine ⟨_, rfl, _, rfl, t', .ref p, rfl, e4, fun l2 us2 H5 s5 n5 h5 d5 => ?_⟩
        have hk := sizes_kids t'
        have q1 := d4.length
        have q2 := d5.length
        have q3 := length_le_sizes us'
        have q4 := length_le_sizes t'.kids
        refine ⟨l, l2, us, us2, rfl, rfl, s5 _ _ l4, h5, by rw [sizeLine_eq]; omega, fun p6 hp6 => ?_⟩
        have n6 : H p6 = none := (s4.trans s5).free hp6
        have t6 : TupLe H5 (upd H5 p6 (.lst (us ++ us2))) := tl_new hp6
        refine ⟨sizes (us' ++ t'.kids), by rw [sizes_append, sizes_append, sizes_cons, sizes_nil]; omega, f, p6, _, ws', us' ++ t'.kids, us ++ us2, rfl, ⟨(s4.trans s5).trans (same_new hp6), A.nf, n6, same_new hp6 _ _ (s5 _ _ f4), upd_same, ?_, nd4, ?_, ?_, fun x => ?_⟩, rfl⟩
        · exact ((d4.mono (tl_same s5)).append d5).mono t6
        · rw [namesAll_append]; omega
        · rw [sizes_append]; omega
        · rw [occL_append]; exact i4 x
      refine ⟨_, rfl, p, _, _, _, rfl, rfl, SqT.of hp3, hd_kind t' ks, rfl, _, rfl, ?_⟩
      refine ite2 (fun hn => ?_) (fun hn => ?_)
      · obtain ⟨x, rfl⟩ := kind_name (V.str.inj (of_decide_eq_true hn))
        refine ⟨_, rfl, _, rfl, p, _, _, _, rfl, rfl, SqT.of hp3, atI_nat (j := 1) rfl, f, _, rfl, DPut.k (k := .inr x) f3 (small1000 (by rw [len_trues]; omega)), ?_⟩
        rw [put_trues]
        have tf : TupLe H3 (upd H3 f (.dK (trues (addW ws x)))) := tl_dk f3
        refine rest (addW ws x) _ (same_old s3 A.nf) upd_same ?_ (d3.mono tf) (e3.mono tf) (addW_nodup A.nd) ?_ fun y => ?_
        · rw [upd_ne hfl.symm]; exact l3
        · have q1 := addW_length ws x
          have q2 : (T.name x).names.length = 1 := rfl
          have q3 : namesAll (T.name x).kids = 0 := rfl
          omega
        · rw [mem_addW, ← A.iff y, occL_append, occL_one]
          have q3 : ¬ occL y (T.name x).kids := occL_nil
          have q4 : (T.name x).occ y ↔ y = x := eq_comm
          rw [q4]
          constructor
          · rintro ((z | z) | z | z)
            · exact .inl z
            · exact .inr (.inr z)
            · exact .inr (.inl z)
            · exact (q3 z).elim
          · rintro (z | z | z)
            · exact .inl (.inl z)
            · exact .inr (.inl z)
            · exact .inl (.inr z)
      · have nn : ∀ y, t' ≠ .name y := fun y z => hn (by rw [z]; exact decide_eq_true rfl)
        refine rest ws _ s3 f3 l3 d3 e3 A.nd ?_ fun y => ?_
        · rw [namesAll_kids nn]; omega
        · rw [← occ_kids nn, ← A.iff y, occL_append, occL_one]
end SW


set_option Elab.async false
set_option linter.all false
set_option maxRecDepth 100000
set_option maxHeartbeats 4000000
namespace SW
open PySem L2
variable {K : PySem.W.Frag} {vs : List V} {H : Hp} {Q : VK} {E : XK}
theorem pair_map {D : Addr → Prop} {H : Hp} {d : Addr} (hD : D d) {kvs : List (Key × V)} : ∀ {ts : List T} {us : List V} {vs : List V}, DenL H ts vs → H d = some (.dK kvs) → us.length = vs.length → (∀ (i : Nat) u v, us[i]? = some u → vs[i]? = some v → ∃ p, u = .ref p ∧ H p = some (.tup [v, .ref d])) → PairL D H (ts.map fun k => (k, kvs)) us
  | _, us, _, .nil, _, hl, _ => by
    have : us = [] := by simpa using hl
    subst this
    exact .nil
  | _, [], _, .cons _ _, _, hl, _ => by simp at hl
  | _, u :: us, _, .cons a r, hd, hl, k => by
    obtain ⟨p, e, hp⟩ := k 0 u _ rfl rfl
    exact .cons ⟨p, _, d, e, hp, a, hd, hD⟩ (pair_map hD r hd (by simpa using hl) fun i u v h1 h2 => k (i + 1) u v (by simpa using h1) (by simpa using h2))
theorem rd_pwl (h : spPwl vs H Q E) : t_pwl K (fin Q) (start ["piece", "lets"] vs) H := by
  obtain ⟨t, v, d, kvs, rfl, hd, hk, hl, k⟩ := h
  obtain ⟨p, ks, rfl, hp, dk⟩ := hd.open
  refine ⟨_, rfl, p, _, _, _, rfl, rfl, SqT.of hp, hd_kind t ks, rfl, _, rfl, ?_⟩
  refine ite2 (fun hn => ?_) (fun hn => ?_)
  · obtain ⟨x, a, b, rfl⟩ := kind_let (V.str.inj (of_decide_eq_true hn))
    obtain ⟨p', u1, u2, e, hp', d1, d2⟩ := hd
    cases e
    -- [(piece[3], with_word(lets, piece[1], True)), (piece[2], lets)]
    refine ⟨_, rfl, p, _, _, _, rfl, rfl, SqT.of hp', rfl, _, rfl, _, rfl, p, _, _, _, rfl, rfl, SqT.of hp', rfl, ?_⟩
    refine ⟨d, x, .bl true, kvs, rfl, hk, hl, fun e1 H1 n1 s1 h1 => ?_⟩
    refine ⟨szl, fun q1 hq1 => ?_⟩
    have s2 : Same H1 (upd H1 q1 (.tup [u2, .ref e1])) := same_new hq1
    have g2 : (upd H1 q1 (.tup [u2, .ref e1])) q1 = some (.tup [u2, .ref e1]) := upd_same
    generalize upd H1 q1 (.tup [u2, .ref e1]) = H2 at s2 g2 ⊢
    refine ⟨_, rfl, p, _, _, _, rfl, rfl, SqT.of (s2 _ _ (s1 _ _ hp')), rfl, _, rfl, szl, fun q2 hq2 => ?_⟩
    have s3 : Same H2 (upd H2 q2 (.tup [u1, .ref d])) := same_new hq2
    have g3 : (upd H2 q2 (.tup [u1, .ref d])) q2 = some (.tup [u1, .ref d]) := upd_same
    generalize upd H2 q2 (.tup [u1, .ref d]) = H3 at s3 g3 ⊢
    refine ⟨szl, fun l hl => ?_⟩
    have s4 : Same H3 (upd H3 l (.lst [.ref q1, .ref q2])) := same_new hl
    have s := (s1.trans s2).trans (s3.trans s4)
    refine k l [.ref q1, .ref q2] _ s (((s1.trans s2).trans s3).free hl) upd_same (.cons ⟨q1, u2, e1, rfl, s4 _ _ (s3 _ _ g2), d2.mono (tl_same s), s4 _ _ (s3 _ _ (s2 _ _ h1)), .inr n1⟩ (.cons ⟨q2, u1, d, rfl, s4 _ _ g3, d1.mono (tl_same s), s _ _ hk, .inl rfl⟩ .nil))
  · have nn : ∀ x a b, t ≠ .lt x a b := fun x a b z => hn (by rw [z]; exact decide_eq_true rfl)
    have em : pwlM t kvs = t.kids.map fun k => (k, kvs) := by
      cases t with
      | lt x a b => exact absurd rfl (nn x a b)
      | _ => rfl
    rw [em] at k
    refine ⟨_, rfl, t, .ref p, rfl, hd, fun q us H1 s1 h1 d1 => ⟨q, rfl, ⟨us, SqT.of h1⟩, ?_⟩⟩
    have hlen := d1.length
    have hks := length_le_sizes t.kids
    have hsm : us.length ≤ 3 := by rw [hlen]; cases t <;> simp [T.kids]
    refine ⟨fun i m zs H' => m = us.length - i ∧ i ≤ us.length ∧ zs.length = i ∧ Same H1 H' ∧ ∀ (j : Nat) z v, zs[j]? = some z → us[j]? = some v → ∃ p, z = .ref p ∧ H' p = some (.tup [v, .ref d]), ⟨us.length, by simp, Nat.zero_le _, rfl, fun _ _ h => h, fun j z v h => by simp at h⟩, ?_⟩
    rintro i m zs H' ⟨rfl, hi, hz, s2, hw⟩
    by_cases hlt : i < us.length
    · refine .inr ⟨⟨us, us[i], SqT.of (s2 _ _ h1), by simp [hlt]⟩, fun x H2 y => ?_⟩
      obtain ⟨e, y⟩ := y
      subst e
      have hx := y us (SqT.of (s2 _ _ h1))
      refine ⟨_, rfl, _, rfl, szl, fun p2 hp2 => ⟨by rw [hz, sizeLine_eq]; omega, us.length - (i + 1), by omega, rfl, hlt, by simp [hz], s2.trans (same_new hp2), fun j z v h1 h2 => ?_⟩⟩
      rcases Nat.lt_or_ge j zs.length with hj | hj
      · rw [List.getElem?_append_left hj] at h1
        obtain ⟨p3, e3, g3⟩ := hw j z v h1 h2
        exact ⟨p3, e3, same_new hp2 _ _ g3⟩
      · rw [List.getElem?_append_right hj] at h1
        have hj0 : j - zs.length = 0 := by
          cases q : j - zs.length with
          | zero => rfl
          | succ n => rw [q] at h1; simp at h1
        rw [hj0] at h1
        have ej : j = i := by omega
        subst ej
        rw [hx] at h2
        cases h2
        have : z = .ref p2 := by simpa using h1.symm
        exact ⟨p2, this, upd_same⟩
    · have e : i = us.length := by omega
      refine .inl ⟨⟨us, SqT.of (s2 _ _ h1), by omega⟩, by rw [hz, sizeLine_eq]; omega, fun l hl => ?_⟩
      have s3 := s2.trans (same_new (o := .lst zs) hl)
      refine k l zs _ (s1.trans s3) ((s1.trans s2).free hl) upd_same (pair_map (.inl rfl) (d1.mono (tl_same s3)) (s3 _ _ (s1 _ _ hk)) (by omega) fun i u v h1 h2 => ?_)
      obtain ⟨p3, e3, g3⟩ := hw i u v h1 h2
      exact ⟨p3, e3, same_new hl _ _ g3⟩
end SW


set_option Elab.async false
set_option linter.all false
set_option maxRecDepth 100000
set_option maxHeartbeats 4000000
namespace SW
open PySem L2
variable {K : PySem.W.Frag} {vs : List V} {H : Hp} {Q : VK} {E : XK}
def fsts (qs : List (T × List (Key × V))) : List T := qs.map (·.1)
theorem fsts_append (a b : List (T × List (Key × V))) : fsts (a ++ b) = fsts a ++ fsts b := by simp [fsts]
def outQ (x : Str) (qs : List (T × List (Key × V))) : Prop := ∃ q ∈ qs, q.1.out x ∧ valV q.2 (Sum.inr x : Key) = none
theorem outQ_append {x : Str} {a b : List (T × List (Key × V))} : outQ x (a ++ b) ↔ outQ x a ∨ outQ x b := by
  unfold outQ
  constructor
  · rintro ⟨t, h, o⟩
    rcases List.mem_append.mp h with z | z
    · exact .inl ⟨t, z, o⟩
    · exact .inr ⟨t, z, o⟩
  · rintro (⟨t, h, o⟩ | ⟨t, h, o⟩)
    · exact ⟨t, List.mem_append_left _ h, o⟩
    · exact ⟨t, List.mem_append_right _ h, o⟩
theorem outQ_one {x : Str} {q : T × List (Key × V)} : outQ x [q] ↔ q.1.out x ∧ valV q.2 (Sum.inr x : Key) = none := by simp [outQ]
theorem outQ_nil {x : Str} : ¬ outQ x [] := by simp [outQ]
theorem outQ_map {x : Str} {ts : List T} {kvs : List (Key × V)} : outQ x (ts.map fun k => (k, kvs)) ↔ (∃ k ∈ ts, k.out x) ∧ valV kvs (Sum.inr x : Key) = none := by
  unfold outQ
  constructor
  · rintro ⟨q, h, o, v⟩
    obtain ⟨k, hk, rfl⟩ := List.mem_map.mp h
    exact ⟨⟨k, hk, o⟩, v⟩
  · rintro ⟨⟨k, hk, o⟩, v⟩
    exact ⟨(k, kvs), List.mem_map.mpr ⟨k, hk, rfl⟩, o, v⟩
theorem sizes_pwl (t : T) (kvs : List (Key × V)) : sizes (fsts (pwlM t kvs)) + 1 = t.size := by
  have h := sizes_kids t
  cases t with
  | lt x a b => simp [fsts, pwlM, sizes, T.size] <;> omega
  | _ => rw [← h]; simp [fsts, pwlM, T.kids, sizes]
theorem names_pwl {t : T} (kvs : List (Key × V)) (h : ∀ y, t ≠ .name y) : namesAll (fsts (pwlM t kvs)) = t.names.length := by
  have e := namesAll_kids h
  cases t with
  | lt x a b => simp [fsts, pwlM, namesAll, T.names] <;> omega
  | _ => rw [← e]; simp [fsts, pwlM, T.kids, namesAll]
theorem out_pwl {x : Str} {t : T} {kvs : List (Key × V)} (h : ∀ y, t ≠ .name y) : outQ x (pwlM t kvs) ↔ t.out x ∧ valV kvs (Sum.inr x : Key) = none := by
  cases t with
  | name y => exact absurd rfl (h y)
  | lt w a b =>
    have e : valV (putK kvs (Sum.inr w : Key) (.bl true)) (Sum.inr x : Key) = none ↔ w ≠ x ∧ valV kvs (Sum.inr x : Key) = none := by
      rw [valV_put]
      by_cases q : w = x
      · subst q; simp
      · have q' : ¬ (Sum.inr x : Key) = Sum.inr w := fun z => q (Sum.inr.inj z).symm
        rw [if_neg q']; simp [q]
    simp only [outQ, pwlM, List.mem_cons, List.not_mem_nil, or_false, T.out]
    constructor
    · rintro ⟨q, rfl | rfl, o, v⟩
      · exact ⟨.inr ⟨(e.mp v).1, o⟩, (e.mp v).2⟩
      · exact ⟨.inl o, v⟩
    · rintro ⟨o | ⟨n, o⟩, v⟩
      · exact ⟨_, .inr rfl, o, v⟩
      · exact ⟨_, .inl rfl, o, e.mpr ⟨n, v⟩⟩
  | _ =>
    rw [show pwlM _ kvs = (T.kids _).map (fun k => (k, kvs)) from rfl, outQ_map]
    simp [T.kids, T.out]
theorem deep_pwl {t : T} {kvs : List (Key × V)} {n : Nat} (h : kvs.length + t.size ≤ n) : ∀ q ∈ pwlM t kvs, q.2.length + q.1.size ≤ n := by
  have e := length_putK kvs (Sum.inr (match t with | .lt x _ _ => x | _ => "") : Key) (.bl true)
  cases t with
  | lt x a b =>
    have e := length_putK kvs (Sum.inr x : Key) (.bl true)
    simp only [T.size] at h
    intro q hq
    simp only [pwlM, List.mem_cons, List.not_mem_nil, or_false] at hq
    rcases hq with rfl | rfl
    · show (putK kvs (Sum.inr x) (V.bl true)).length + b.size ≤ n; omega
    · show kvs.length + a.size ≤ n; omega
  | _ =>
    simp only [T.size] at h
    intro q hq
    simp only [pwlM, T.kids, List.map_cons, List.map_nil, List.mem_cons, List.not_mem_nil, or_false] at hq <;> first
      | exact hq.elim
      | (rcases hq with rfl | rfl | rfl <;> (simp only; omega))
      | (rcases hq with rfl | rfl <;> (simp only; omega))
      | (subst hq; simp only; omega)
structure OutSt (t : T) (H₀ H : Hp) (f l : Addr) (ws : List Str) (qs : List (T × List (Key × V))) (us : List V) : Prop where
  same : Same H₀ H
  nf : H₀ f = none
  nl : H₀ l = none
  f_ : H f = some (.dK (trues ws))
  l_ : H l = some (.lst us)
  pr : PairL (fun e => e ≠ f) H qs us
  nd : ws.Nodup
  cnt : ws.length + namesAll (fsts qs) ≤ t.names.length
  sz : sizes (fsts qs) ≤ 900
  dp : ∀ q ∈ qs, q.2.length + q.1.size ≤ 950
  iff : ∀ x, x ∈ ws ∨ outQ x qs ↔ t.out x
theorem rd_out (h : spOut vs H Q E) : t_out K (fin Q) (start ["piece", "found", "waiting", "pair", "current", "lets"] vs) H := by
  obtain ⟨t, v, rfl, hd, hsz, hnm, k⟩ := h
  intro f hf
  refine ⟨_, rfl, fun d hdn => ⟨szl, fun p hp => ⟨szl, fun l hl => ?_⟩⟩⟩
  have s1 : Same H (upd H f (.dK [])) := same_new hf
  have s2 := same_new (o := .dK []) hdn
  have s3 := same_new (o := .tup [v, .ref d]) hp
  have s4 := same_new (o := .lst [.ref p]) hl
  have hfd : d ≠ f := (ne_of_none (upd_same (H := H) (a := f) (o := .dK [])) hdn).symm
  refine ⟨fun m σ H' => ∃ f l j3 j4 j5 ws qs us, σ = [some v, some (.ref f), some (.ref l), j3, j4, j5] ∧ OutSt t H H' f l ws qs us ∧ m = sizes (fsts qs), ⟨_, f, l, none, none, none, [], [(t, [])], [.ref p], rfl, ?_, rfl⟩, ?_⟩
  · refine ⟨s1.trans (s2.trans (s3.trans s4)), hf, ((s1.trans s2).trans s3).free hl, s4 _ _ (s3 _ _ (s2 _ _ upd_same)), upd_same, .cons ⟨p, v, d, rfl, s4 _ _ upd_same, hd.mono (tl_same (s1.trans (s2.trans (s3.trans s4)))), s4 _ _ (s3 _ _ upd_same), hfd⟩ .nil, List.nodup_nil, ?_, ?_, ?_, fun x => ?_⟩
    · simp [fsts, namesAll]
    · simp [fsts, sizes]; omega
    · intro q hq
      rw [List.mem_singleton] at hq
      subst hq
      simp; omega
    · rw [outQ_one]; simp [valV_nil]
  · rintro m σ H1 ⟨f, l, j3, j4, j5, ws, qs, us, rfl, A, rfl⟩
    refine ⟨_, rfl, l, us, rfl, .inl (SqL.of A.l_), _, _, rfl, rfl, _, rfl, ?_⟩
    by_cases hv : us = []
    · subst hv
      cases A.pr
      refine iteN rfl ?_
      have hlen : ws.length < 64 := Nat.lt_of_le_of_lt (Nat.le_trans (Nat.le_add_right _ _) A.cnt) hnm
      refine ⟨_, rfl, f, _, ws, rfl, .inl A.f_, keys_trues ws, hlen, fun q ws' hq pm so => ?_⟩
      refine k q ws' _ (A.same.trans (same_new hq)) (A.same.free hq) upd_same (up_of (sorted_pw so) (pm.nodup_iff.mpr A.nd)) fun x => ?_
      rw [pm.mem_iff, ← A.iff x]
      exact ⟨.inl, fun z => z.elim id fun z => (outQ_nil z).elim⟩
    · obtain ⟨us, u, rfl⟩ := snoc_of_ne hv
      refine iteY (decide_eq_true (by simp)) ?_
      obtain ⟨qs', ⟨t', kvs⟩, rfl, d1, p', v', d', rfl, hp', dn, hd', hdf⟩ := A.pr.snoc
      refine ⟨fun σ' H' => ∃ m', m' < sizes (fsts (qs' ++ [(t', kvs)])) ∧ ∃ f l j3 j4 j5 ws qs us, σ' = [some v, some (.ref f), some (.ref l), j3, j4, j5] ∧ OutSt t H H' f l ws qs us ∧ m' = sizes (fsts qs), fun _ _ h => h, ?_⟩
      refine ⟨_, rfl, .inl ⟨rfl, _, SqL.of A.l_⟩, l, _, _, rfl, rfl, A.l_, pop_at, ?_⟩
      rw [drop_at]
      have hfl : f ≠ l := ne_of A.f_ A.l_ (by intro z; cases z)
      have hdl : d' ≠ l := ne_of hd' A.l_ (by intro z; cases z)
      have tl1 : TupLe H1 (upd H1 l (.lst us)) := tl_lst A.l_
      have s3 : Same H (upd H1 l (.lst us)) := same_old A.same A.nl
      have f3 : (upd H1 l (.lst us)) f = some (.dK (trues ws)) := by rw [upd_ne hfl]; exact A.f_
      have l3 : (upd H1 l (.lst us)) l = some (.lst us) := upd_same
      have g3 : (upd H1 l (.lst us)) d' = some (.dK kvs) := by rw [upd_ne hdl]; exact hd'
      have d3 : PairL (fun e => e ≠ f) (upd H1 l (.lst us)) qs' us := d1.mono tl1 fun e kv h1 h2 => ⟨by rw [upd_ne (ne_of h2 A.l_ (by intro z; cases z))]; exact h2, h1⟩
      have e3 := dn.mono tl1
      have hp3 := tl1 _ _ hp'
      generalize upd H1 l (.lst us) = H3 at s3 f3 l3 d3 e3 hp3 g3 ⊢
      have hcnt := A.cnt
      have hsz2 := A.sz
      have hdp := A.dp (t', kvs) (List.mem_append_right _ (List.mem_singleton.mpr rfl))
      simp only at hdp
      rw [fsts_append, sizes_append] at hsz2
      rw [fsts_append, namesAll_append] at hcnt
      have eq1 : sizes (fsts [(t', kvs)]) = t'.size := by simp [fsts, sizes]
      have eq2 : namesAll (fsts [(t', kvs)]) = t'.names.length := by simp [fsts, namesAll]
      rw [eq1] at hsz2
      rw [eq2] at hcnt
      obtain ⟨pc, ks, rfl, hpc, dk⟩ := e3.open
      refine ⟨_, rfl, p', _, _, _, rfl, rfl, SqT.of hp3, rfl, ?_⟩
      refine ⟨_, rfl, p', _, _, _, rfl, rfl, SqT.of hp3, rfl, ?_⟩
      have rest : ∀ (ws' : List Str) (H4 : Hp), Same H H4 → H4 f = some (.dK (trues ws')) → H4 l = some (.lst us) → H4 d' = some (.dK kvs) → PairL (fun e => e ≠ f) H4 qs' us → Den H4 t' (.ref pc) → ws'.Nodup → ws'.length + namesAll (fsts qs') + namesAll (fsts (pwlM t' kvs)) ≤ t.names.length →
          (∀ x, x ∈ ws' ∨ outQ x qs' ∨ outQ x (pwlM t' kvs) ↔ t.out x) →
          (tDrop (tBM K "list" rExtend (tVar 2) (tCons (tCall spPwl [] E0 (tCons (tVar 4) (tCons (tVar 5) tNil))) tNil))) { fin Q with nx := fun σ' H' => ∃ m', m' < sizes (fsts (qs' ++ [(t', kvs)])) ∧ ∃ f l j3 j4 j5 ws qs us, σ' = [some v, some (.ref f), some (.ref l), j3, j4, j5] ∧ OutSt t H H' f l ws qs us ∧ m' = sizes (fsts qs) }
            [some v, some (.ref f), some (.ref l), some (.ref p'), some (.ref pc), some (.ref d')] H4 := by
        intro ws' H4 s4 f4 l4 g4 d4 e4 nd4 c4 i4
        refine ⟨_, rfl, .inl ⟨rfl, _, SqL.of l4⟩, _, rfl, _, rfl, t', .ref pc, d', kvs, rfl, e4, g4, by omega, fun l2 us2 H5 s5 n5 h5 d5 => ?_⟩
        have hk := sizes_pwl t' kvs
        have q1 := d4.length
        have q2 := d5.length
        have q3 := length_le_sizes (fsts qs')
        have q4 := length_le_sizes (fsts (pwlM t' kvs))
        have q5 : (fsts qs').length = qs'.length := by simp [fsts]
        have q6 : (fsts (pwlM t' kvs)).length = (pwlM t' kvs).length := by simp [fsts]
        refine ⟨l, l2, us, us2, rfl, rfl, s5 _ _ l4, h5, by rw [sizeLine_eq]; omega, ?_⟩
        have l5 := s5 _ _ l4
        have t6 : TupLe H5 (upd H5 l (.lst (us ++ us2))) := tl_lst l5
        have dl6 : ∀ (D : Addr → Prop) e kv, D e → H5 e = some (.dK kv) → (upd H5 l (.lst (us ++ us2))) e = some (.dK kv) ∧ D e := fun D e kv h1 h2 => ⟨by rw [upd_ne (ne_of h2 l5 (by intro z; cases z))]; exact h2, h1⟩
        have d6 : PairL (fun e => e ≠ f) H5 (pwlM t' kvs) us2 := d5.mono TupLe.refl fun e kv h1 h2 => ⟨h2, by
          rcases h1 with rfl | h1
          · exact hdf
          · exact (ne_of_none f4 h1).symm⟩
        have d7 : PairL (fun e => e ≠ f) H5 qs' us := d4.mono (tl_same s5) fun e kv h1 h2 => ⟨s5 _ _ h2, h1⟩
        refine ⟨sizes (fsts (qs' ++ pwlM t' kvs)), by rw [fsts_append, fsts_append, sizes_append, sizes_append, eq1]; omega, f, l, _, _, _, ws', qs' ++ pwlM t' kvs, us ++ us2, rfl, ⟨same_old (s4.trans s5) A.nl, A.nf, A.nl, ?_, upd_same, (d7.append d6).mono t6 (dl6 _), nd4, ?_, ?_, fun q hq => ?_, fun x => ?_⟩, rfl⟩
        · rw [upd_ne hfl]; exact s5 _ _ f4
        · rw [fsts_append, namesAll_append]; omega
        · rw [fsts_append, sizes_append]; omega
        · rcases List.mem_append.mp hq with z | z
          · exact A.dp q (List.mem_append_left _ z)
          · exact deep_pwl hdp q z
        · rw [outQ_append]; exact i4 x
      have nameOnly : ∀ x, t' = .name x → pwlM t' kvs = [] := fun x e => by subst e; rfl
      refine ⟨_, rfl, pc, _, _, _, rfl, rfl, SqT.of hpc, hd_kind t' ks, rfl, _, rfl, ?_⟩
      refine ite2 (fun hn => ?_) (fun hn => ?_)
      · obtain ⟨x, rfl⟩ := kind_name (V.str.inj (of_decide_eq_true hn))
        refine ⟨_, rfl, pc, _, _, _, rfl, rfl, SqT.of hpc, atI_nat (j := 1) rfl, _, rfl, d', _, rfl, DGet.k (k := .inr x) g3, _, rfl, ?_⟩
        have q2 : (T.name x).names.length = 1 := rfl
        have q3 : namesAll (fsts (pwlM (T.name x) kvs)) = 0 := rfl
        have q4 : ∀ y, ¬ outQ y (pwlM (T.name x) kvs) := fun y => outQ_nil
        refine ite2 (fun hx => ?_) (fun hx => ?_)
        · have hx : valV kvs (Sum.inr x : Key) = none := by
            cases q : valV kvs (Sum.inr x : Key) with
            | none => rfl
            | some z => rw [q] at hx; cases hx
          refine ⟨_, rfl, _, rfl, pc, _, _, _, rfl, rfl, SqT.of hpc, atI_nat (j := 1) rfl, f, _, rfl, DPut.k (k := .inr x) f3 (small1000 (by rw [len_trues]; omega)), ?_⟩
          rw [put_trues]
          have tf : TupLe H3 (upd H3 f (.dK (trues (addW ws x)))) := tl_dk f3
          refine rest (addW ws x) _ (same_old s3 A.nf) upd_same ?_ ?_ (d3.mono tf fun e kv h1 h2 => ⟨by rw [upd_ne h1]; exact h2, h1⟩) (e3.mono tf) (addW_nodup A.nd) ?_ fun y => ?_
          · rw [upd_ne hfl.symm]; exact l3
          · rw [upd_ne hdf]; exact g3
          · have q1 := addW_length ws x
            omega
          · rw [mem_addW, ← A.iff y, outQ_append, outQ_one]
            have q5 : (T.name x).out y ∧ valV kvs (Sum.inr y : Key) = none ↔ y = x := ⟨fun z => z.1.symm, fun z => ⟨z.symm, z ▸ hx⟩⟩
            show _ ↔ y ∈ ws ∨ outQ y qs' ∨ ((T.name x).out y ∧ valV kvs (Sum.inr y : Key) = none)
            rw [q5]
            constructor
            · rintro ((z | z) | z | z)
              · exact .inl z
              · exact .inr (.inr z)
              · exact .inr (.inl z)
              · exact (q4 y z).elim
            · rintro (z | z | z)
              · exact .inl (.inl z)
              · exact .inr (.inl z)
              · exact .inl (.inr z)
        · refine rest ws _ s3 f3 l3 g3 d3 e3 A.nd (by omega) fun y => ?_
          rw [← A.iff y, outQ_append, outQ_one]
          have q5 : ¬ ((T.name x).out y ∧ valV kvs (Sum.inr y : Key) = none) := fun z => by
            have e : x = y := z.1
            subst e
            rw [z.2] at hx
            exact hx rfl
          constructor
          · rintro (z | z | z)
            · exact .inl z
            · exact .inr (.inl z)
            · exact (q4 y z).elim
          · rintro (z | z | z)
            · exact .inl z
            · exact .inr (.inl z)
            · exact (q5 z).elim
      · have nn : ∀ y, t' ≠ .name y := fun y z => hn (by rw [z]; exact decide_eq_true rfl)
        refine iteF ?_
        refine rest ws _ s3 f3 l3 g3 d3 e3 A.nd ?_ fun y => ?_
        · rw [names_pwl kvs nn]; omega
        · rw [out_pwl nn, ← A.iff y, outQ_append, outQ_one]
end SW


set_option Elab.async false
set_option linter.all false
set_option maxRecDepth 100000
set_option maxHeartbeats 4000000
namespace SW
open PySem L2
variable {K : PySem.W.Frag} {vs : List V} {H : Hp} {Q : VK} {E : XK}
theorem cut_back (xs : List V) (k : Nat) (hk : 0 < k) : cutV xs (some (-(k : Int))) none = xs.drop (xs.length - k) := by
  unfold cutV HT.sIx
  have h1 : (-(k : Int)) < 0 := by omega
  simp only [h1, if_true]
  have e : (-(k : Int) + (xs.length : Int)).toNat = xs.length - k := by omega
  rw [e, List.take_of_length_le]
  rw [List.length_drop]; omega
theorem cut_front (xs : List V) (k : Nat) (hk : 0 < k) : cutV xs none (some (-(k : Int))) = xs.take (xs.length - k) := by
  unfold cutV HT.sIx
  have h1 : (-(k : Int)) < 0 := by omega
  simp only [h1, if_true, List.drop_zero, Nat.sub_zero]
  have e : (-(k : Int) + (xs.length : Int)).toNat = xs.length - k := by omega
  rw [e]
theorem cut_from (xs : List V) (k : Nat) (hk : k ≤ xs.length) : cutV xs (some (k : Int)) none = xs.drop k := by
  unfold cutV
  rw [HT.sIx_nat, HT.sIx_none, Nat.min_eq_left hk, List.take_of_length_le]
  rw [List.length_drop]; omega
theorem cut_to (xs : List V) (k : Nat) (hk : k ≤ xs.length) : cutV xs none (some (k : Int)) = xs.take k := by
  unfold cutV
  rw [HT.sIx_nat, HT.sIx_none, Nat.min_eq_left hk, List.drop_zero, Nat.sub_zero]
theorem DenL.split {H : Hp} : ∀ {us : List V} {ts : List T} {ws : List V}, DenL H ts (us ++ ws) → ∃ ta tb, ts = ta ++ tb ∧ DenL H ta us ∧ DenL H tb ws
  | [], ts, ws, h => ⟨[], ts, rfl, .nil, h⟩
  | u :: us, _, ws, .cons a r => by
    obtain ⟨ta, tb, rfl, h1, h2⟩ := DenL.split (us := us) r
    exact ⟨_ :: ta, tb, rfl, .cons a h1, h2⟩
theorem atI_end2 (xs : List V) (a b : V) : atI (xs ++ [a, b]) (-2) = some a := by
  unfold atI ixN
  have h1 : ¬ (0 : Int) ≤ -2 := by decide
  have h2 : -((xs ++ [a, b]).length : Int) ≤ -2 := by simp; omega
  rw [if_neg h1, if_pos h2]
  have e : (-2 + ((xs ++ [a, b]).length : Int)).toNat = xs.length := by simp; omega
  show (xs ++ [a, b])[(-2 + ((xs ++ [a, b]).length : Int)).toNat]? = some a
  rw [e]; simp
theorem atI_end1 (xs : List V) (a b : V) : atI (xs ++ [a, b]) (-1) = some b := by
  have := atI_last (xs ++ [a]) b
  rw [List.append_assoc] at this
  exact this
section
variable {S : Str → Nat → Prop} {H₀ H1 : Hp} {n : Nat} {l p : Addr} {ts : List T} {t : T} {v : V}
theorem Pile.mono (P : Pile S H₀ H n l vs ts) (s : Same H H1) : Pile S H₀ H1 n l vs ts := ⟨P.same.trans s, P.new, s _ _ P.at_, P.den.mono (tl_same s), P.sz, P.one, P.wt⟩
theorem Pile.push (P : Pile S H₀ H n l vs ts) (hd : Den H t v) (wt : WT S t) (hs : t.size = 1) : Pile S H₀ (upd H l (.lst (vs ++ [v]))) (n + 1) l (vs ++ [v]) (ts ++ [t]) := by
  have tl := tl_lst (o := .lst (vs ++ [v])) P.at_
  refine ⟨same_old P.same P.new, P.new, upd_same, (P.den.mono tl).append (.cons (hd.mono tl) .nil), ?_, by simp, fun u hu => ?_⟩
  · rw [sizes_append, sizes_cons, sizes_nil]; have := P.sz; omega
  · rcases List.mem_append.mp hu with z | z
    · exact P.wt u z
    · rw [List.mem_singleton] at z; subst z; exact wt
theorem Pile.fold {us ws : List V} {ta tb : List T} (P : Pile S H₀ H n l (us ++ ws) (ta ++ tb)) (s : Same H H1) (hp : H1 p = none) (d : DenL H ta us) (hd : Den H1 t v) (wt : WT S t) (hs : t.size = sizes tb + 1) : Pile S H₀ (upd H1 p (.lst (us ++ [v]))) (n + 1) p (us ++ [v]) (ta ++ [t]) := by
  have tl := tl_new (o := .lst (us ++ [v])) hp
  refine ⟨(P.same.trans s).trans (same_new hp), (P.same.trans s).free hp, upd_same, ((d.mono (tl_same s)).mono tl).append (.cons (hd.mono tl) .nil), ?_, by simp, fun u hu => ?_⟩
  · have := P.sz
    rw [sizes_append] at this ⊢
    rw [sizes_cons, sizes_nil]; omega
  · rcases List.mem_append.mp hu with z | z
    · exact P.wt u (List.mem_append_left _ z)
    · rw [List.mem_singleton] at z; subst z; exact wt
/-- behind a turn -/
def DpN (S : Str → Nat → Prop) (H₀ : Hp) (c st : Addr) (n : Nat) (σ : L2.St) (H : Hp) : Prop :=
  ∃ l vs ts j3 j4 j5 j6 j7 j8 j9 j10 j11 j12, σ = [some (.ref c), some (.ref st), some (.ref l), j3, j4, j5, j6, j7, j8, j9, j10, j11, j12] ∧ Pile S H₀ H n l vs ts
end
section
variable {S : Str → Nat → Prop} {H₀ : Hp} {n : Nat} {l c st li : Addr} {ts : List T} {D : Ends} {cell rest way : Int} {x : Str} {j8 j9 j10 j11 j12 : Option V}
theorem rd_dp_number (P : Pile S H₀ H n l vs ts) (hn : n ≤ 1000) (hD : ∀ σ H, DpN S H₀ c st (n + 1) σ H → D.nx σ H) :
    t_dp_3 K D [some (.ref c), some (.ref st), some (.ref l), some (.int cell), some (.int rest), some (.int way), some (.str x), some (.ref li), j8, j9, j10, j11, j12] H := by
  refine ⟨_, rfl, .inl ⟨rfl, _, SqL.of P.at_⟩, ?_⟩
  refine ⟨_, rfl, _, _, rfl, rfl, (show (0 : Int) < 4 by decide), _, _, rfl, rfl, _, rfl, rest, rfl, fun z H1 hz s1 => ⟨szl, fun q hq => ?_⟩⟩
  have P1 := (P.mono s1).mono (same_new (o := .lst [.int (rest % 4 - 1), .int z]) hq)
  have hq1 : (upd H1 q (.lst [.int (rest % 4 - 1), .int z])) q = some (.lst [.int (rest % 4 - 1), .int z]) := upd_same
  generalize upd H1 q (.lst [.int (rest % 4 - 1), .int z]) = H2 at P1 hq1 ⊢
  refine ⟨_, rfl, _, _, rfl, rfl, (show (0 : Int) < 5 by decide), rfl, .inr ⟨_, rfl, ?_⟩⟩
  have hi : 0 ≤ (if decide (V.int (rest % 5) = V.int 3) = true then (1 : Int) else 0) ∧ (if decide (V.int (rest % 5) = V.int 3) = true then (1 : Int) else 0) < ([V.int (rest % 4 - 1), V.int z] : List V).length := by
    constructor
    · split <;> decide
    · show _ < ((2 : Nat) : Int)
      split <;> decide
  obtain ⟨u, hu, e⟩ := atI_mem hi.1 hi.2
  obtain ⟨y, rfl, hy⟩ : ∃ y, u = .int y ∧ (-(10 ^ 60) < y ∧ y < 10 ^ 60) := by
    have e60 : (10 : Int) ^ 60 = 1000000000000000000000000000000000000000000000000000000000000 := by decide
    have e59 : (10 : Int) ^ 59 = 100000000000000000000000000000000000000000000000000000000000 := by decide
    rw [e60]; rw [e59] at hz
    rcases List.mem_cons.mp hu with rfl | hu
    · exact ⟨_, rfl, by omega⟩
    · rw [List.mem_singleton] at hu
      exact ⟨_, hu, by omega⟩
  refine ⟨q, _, _, .int y, rfl, rfl, SqL.of hq1, e, szl, fun p hp => ?_⟩
  have P2 := P1.mono (same_new (o := .tup [.str "number", .int y]) hp)
  have hl : vs.length ≤ n := by rw [P.den.length]; exact Nat.le_trans (length_le_sizes ts) P.sz
  refine ⟨l, vs, .ref p, rfl, rfl, P2.at_, by rw [sizeLine_eq]; omega, hD _ _ ⟨l, vs ++ [.ref p], ts ++ [.num y], _, _, _, _, _, _, _, _, _, _, rfl, P2.push (t := .num y) (v := .ref p) ⟨p, rfl, upd_same⟩ hy rfl⟩⟩
theorem rd_dp_name (P : Pile S H₀ H n l vs ts) (hn : n ≤ 1000) (hx : Wd x) (hD : ∀ σ H, DpN S H₀ c st (n + 1) σ H → D.nx σ H) :
    t_dp_4 K D [some (.ref c), some (.ref st), some (.ref l), some (.int cell), some (.int rest), some (.int way), some (.str x), some (.ref li), j8, j9, j10, j11, j12] H := by
  refine ⟨_, rfl, .inl ⟨rfl, _, SqL.of P.at_⟩, _, rfl, szl, fun p hp => ?_⟩
  have P2 := P.mono (same_new (o := .tup [.str "name", .str x]) hp)
  have hl : vs.length ≤ n := by rw [P.den.length]; exact Nat.le_trans (length_le_sizes ts) P.sz
  refine ⟨l, vs, .ref p, rfl, rfl, P2.at_, by rw [sizeLine_eq]; omega, hD _ _ ⟨l, vs ++ [.ref p], ts ++ [.name x], _, _, _, _, _, _, _, _, _, _, rfl, P2.push (t := .name x) (v := .ref p) ⟨p, rfl, upd_same⟩ hx rfl⟩⟩
theorem rd_dp_choose {us : List V} {a b d : V} {ta : List T} {t1 t2 t3 : T} (P : Pile S H₀ H n l (us ++ [a, b, d]) (ta ++ [t1, t2, t3])) (hn : n ≤ 1000) (d0 : DenL H ta us) (d1 : Den H t1 a) (d2 : Den H t2 b) (d3 : Den H t3 d) (hli : H li = some (.lst [a, b, d])) (hD : ∀ σ H, DpN S H₀ c st (n + 1) σ H → D.nx σ H) :
    t_dp_5 K D [some (.ref c), some (.ref st), some (.ref l), some (.int cell), some (.int rest), some (.int way), some (.str x), some (.ref li), j8, j9, j10, j11, j12] H := by
  refine ⟨_, rfl, _, rfl, _, rfl, l, _, rfl, SqL.of P.at_, fun q hq => ?_⟩
  rw [show (-3 : Int) = -((3 : Nat) : Int) from rfl, cut_front _ 3 (by decide), show (us ++ [a, b, d]).length - 3 = us.length by simp, List.take_left']
  have s1 := same_new (o := .lst us) hq
  have g1 : (upd H q (.lst us)) q = some (.lst us) := upd_same
  generalize upd H q (.lst us) = G1 at s1 g1 ⊢
  refine ⟨_, rfl, li, _, _, _, rfl, rfl, SqL.of (s1 _ _ hli), rfl, _, rfl, li, _, _, _, rfl, rfl, SqL.of (s1 _ _ hli), rfl, _, rfl, li, _, _, _, rfl, rfl, SqL.of (s1 _ _ hli), rfl, szl, fun p hp => ?_⟩
  have s2 := same_new (o := .tup [.str "choose", a, b, d]) hp
  have g2 : (upd G1 p (.tup [.str "choose", a, b, d])) p = some (.tup [.str "choose", a, b, d]) := upd_same
  generalize upd G1 p (.tup [.str "choose", a, b, d]) = G2 at s2 g2 ⊢
  refine ⟨szl, fun q2 hq2 => ?_⟩
  have s3 := same_new (o := .lst [.ref p]) hq2
  have g3 : (upd G2 q2 (.lst [.ref p])) q2 = some (.lst [.ref p]) := upd_same
  generalize upd G2 q2 (.lst [.ref p]) = G3 at s3 g3 ⊢
  have sA := s1.trans (s2.trans s3)
  have hl : (us ++ [a, b, d]).length ≤ n := by rw [P.den.length]; exact Nat.le_trans (length_le_sizes _) P.sz
  rw [List.length_append] at hl
  refine ⟨q, q2, us, [.ref p], rfl, rfl, s3 _ _ (s2 _ _ g1), g3, by rw [sizeLine_eq]; simp; omega, fun p3 hp3 => hD _ _ ⟨p3, us ++ [.ref p], ta ++ [.cho t1 t2 t3], _, _, _, _, _, _, _, _, _, _, rfl, P.fold (t := .cho t1 t2 t3) (v := .ref p) sA hp3 d0 ⟨p, a, b, d, rfl, s3 _ _ g2, d1.mono (tl_same sA), d2.mono (tl_same sA), d3.mono (tl_same sA)⟩ ⟨P.wt _ (by simp), P.wt _ (by simp), P.wt _ (by simp)⟩ (by simp [T.size, sizes]; omega)⟩⟩
  simp
theorem rd_dp_sum {us zs : List V} {a b : V} {ta : List T} {t1 t2 : T} (P : Pile S H₀ H n l (us ++ [a, b]) (ta ++ [t1, t2])) (hn : n ≤ 1000) (d0 : DenL H ta us) (d1 : Den H t1 a) (d2 : Den H t2 b) (hli : H li = some (.lst (zs ++ [a, b]))) (hD : ∀ σ H, DpN S H₀ c st (n + 1) σ H → D.nx σ H) :
    t_dp_6 K D [some (.ref c), some (.ref st), some (.ref l), some (.int cell), some (.int rest), some (.int way), some (.str x), some (.ref li), j8, j9, j10, j11, j12] H := by
  refine ⟨_, rfl, _, rfl, _, rfl, l, _, rfl, SqL.of P.at_, fun q hq => ?_⟩
  rw [show (-2 : Int) = -((2 : Nat) : Int) from rfl, cut_front _ 2 (by decide), show (us ++ [a, b]).length - 2 = us.length by simp, List.take_left']
  have s1 := same_new (o := .lst us) hq
  have g1 : (upd H q (.lst us)) q = some (.lst us) := upd_same
  generalize upd H q (.lst us) = G1 at s1 g1 ⊢
  refine ⟨szl, fun q1 hq1 => ?_⟩
  have s1b := same_new (o := .lst [.str "sum", .str "less"]) hq1
  have g1b : (upd G1 q1 (.lst [.str "sum", .str "less"])) q1 = some (.lst [.str "sum", .str "less"]) := upd_same
  generalize upd G1 q1 (.lst [.str "sum", .str "less"]) = G1b at s1b g1b ⊢
  have sB := s1.trans s1b
  have hw : 0 ≤ way % 2 ∧ way % 2 < 2 := by omega
  obtain ⟨u, hu, e⟩ := atI_mem (xs := [V.str "sum", V.str "less"]) hw.1 hw.2
  refine ⟨_, rfl, _, _, rfl, rfl, (show (0 : Int) < 2 by decide), q1, _, _, u, rfl, rfl, SqL.of g1b, e, ?_⟩
  refine ⟨_, rfl, _, rfl, li, _, _, _, rfl, rfl, SqL.of (sB _ _ hli), atI_end2 zs a b, _, rfl, _, rfl, li, _, _, _, rfl, rfl, SqL.of (sB _ _ hli), atI_end1 zs a b, szl, fun p hp => ?_⟩
  have s2 := same_new (o := .tup [u, a, b]) hp
  have g2 : (upd G1b p (.tup [u, a, b])) p = some (.tup [u, a, b]) := upd_same
  generalize upd G1b p (.tup [u, a, b]) = G2 at s2 g2 ⊢
  refine ⟨szl, fun q2 hq2 => ?_⟩
  have s3 := same_new (o := .lst [.ref p]) hq2
  have g3 : (upd G2 q2 (.lst [.ref p])) q2 = some (.lst [.ref p]) := upd_same
  generalize upd G2 q2 (.lst [.ref p]) = G3 at s3 g3 ⊢
  have sA := sB.trans (s2.trans s3)
  have hl : (us ++ [a, b]).length ≤ n := by rw [P.den.length]; exact Nat.le_trans (length_le_sizes _) P.sz
  rw [List.length_append] at hl
  have e1 := d1.mono (tl_same sA)
  have e2 := d2.mono (tl_same sA)
  have w1 : WT S t1 := P.wt _ (by simp)
  have w2 : WT S t2 := P.wt _ (by simp)
  refine ⟨q, q2, us, [.ref p], rfl, rfl, s3 _ _ (s2 _ _ (s1b _ _ g1)), g3, by rw [sizeLine_eq]; simp; omega, fun p3 hp3 => ?_⟩
  rcases List.mem_cons.mp hu with rfl | hu
  · exact hD _ _ ⟨p3, us ++ [.ref p], ta ++ [.sum t1 t2], _, _, _, _, _, _, _, _, _, _, rfl, P.fold (t := .sum t1 t2) (v := .ref p) sA hp3 d0 ⟨p, a, b, rfl, s3 _ _ g2, e1, e2⟩ ⟨w1, w2⟩ (by simp [T.size, sizes])⟩
  · rw [List.mem_singleton] at hu
    subst hu
    exact hD _ _ ⟨p3, us ++ [.ref p], ta ++ [.less t1 t2], _, _, _, _, _, _, _, _, _, _, rfl, P.fold (t := .less t1 t2) (v := .ref p) sA hp3 d0 ⟨p, a, b, rfl, s3 _ _ g2, e1, e2⟩ ⟨w1, w2⟩ (by simp [T.size, sizes])⟩
  all_goals simp
end
end SW


set_option Elab.async false
set_option linter.all false
set_option maxRecDepth 100000
set_option maxHeartbeats 4000000
namespace SW
open PySem L2
variable {K : PySem.W.Frag} {vs : List V} {H : Hp} {Q : VK} {E : XK}
theorem in_sumless {t : T} (h : (if false = true then !inV (V.str (kind t)) [V.str "sum", V.str "less"] else inV (V.str (kind t)) [V.str "sum", V.str "less"]) = true) : (∃ a b, t = .sum a b) ∨ ∃ a b, t = .less a b := by
  rw [if_neg Bool.false_ne_true] at h
  cases t with
  | sum a b => exact .inl ⟨a, b, rfl⟩
  | less a b => exact .inr ⟨a, b, rfl⟩
  | _ => simp only [kind] at h; exact absurd h (by decide +kernel)
section
variable {S : Str → Nat → Prop} {H₀ : Hp} {n : Nat} {l c st li : Addr} {ts : List T} {D : Ends} {cell rest way : Int} {x : Str} {j8 j9 j10 j11 j12 : Option V}
theorem rd_dp_let {us zs : List V} {a b : V} {ta : List T} {t1 t2 : T} (P : Pile S H₀ H n l (us ++ [a, b]) (ta ++ [t1, t2])) (hn : n ≤ 1000) (d0 : DenL H ta us) (d1 : Den H t1 a) (d2 : Den H t2 b) (hli : H li = some (.lst (zs ++ [a, b]))) (hx : Wd x) (hD : ∀ σ H, DpN S H₀ c st (n + 1) σ H → D.nx σ H) :
    t_dp_11 K D [some (.ref c), some (.ref st), some (.ref l), some (.int cell), some (.int rest), some (.int way), some (.str x), some (.ref li), j8, j9, j10, j11, j12] H := by
  have w1 : WT S t1 := P.wt _ (by simp)
  have w2 : WT S t2 := P.wt _ (by simp)
  -- the last row, for any word and heap
  have last : ∀ (y : Str) (vl : V) (G : Hp), Wd y → Same H G →
      (tAsg (tOp rCat (tSl (rSlL K) (tVar 2) tNoPart (tPart (tUn rNegI (tC (.int 2))))) (tLst (tCons (tTup (tCons (tC (.str "let")) (tCons (tVar 6) (tCons (tOp (rIxL K) (tVar 7) (tUn rNegI (tC (.int 2)))) (tCons (tOp (rIxL K) (tVar 7) (tUn rNegI (tC (.int 1)))) tNil))))) tNil))) (gName 2)) D
        [some (.ref c), some (.ref st), some (.ref l), some (.int cell), some (.int rest), some (.int way), some (.str y), some (.ref li), some vl, j9, j10, j11, j12] G := by
    intro y vl G hy sG
    have PG := P.mono sG
    refine ⟨_, rfl, _, rfl, _, rfl, l, _, rfl, SqL.of PG.at_, fun q hq => ?_⟩
    rw [show (-2 : Int) = -((2 : Nat) : Int) from rfl, cut_front _ 2 (by decide), show (us ++ [a, b]).length - 2 = us.length by simp, List.take_left']
    have s1 := same_new (o := .lst us) hq
    have g1 : (upd G q (.lst us)) q = some (.lst us) := upd_same
    generalize upd G q (.lst us) = G1 at s1 g1 ⊢
    have hli1 := s1 _ _ (sG _ _ hli)
    refine ⟨_, rfl, _, rfl, _, rfl, li, _, _, _, rfl, rfl, SqL.of hli1, atI_end2 zs a b, _, rfl, _, rfl, li, _, _, _, rfl, rfl, SqL.of hli1, atI_end1 zs a b, szl, fun p hp => ?_⟩
    have s2 := same_new (o := .tup [.str "let", .str y, a, b]) hp
    have g2 : (upd G1 p (.tup [.str "let", .str y, a, b])) p = some (.tup [.str "let", .str y, a, b]) := upd_same
    generalize upd G1 p (.tup [.str "let", .str y, a, b]) = G2 at s2 g2 ⊢
    refine ⟨szl, fun q2 hq2 => ?_⟩
    have s3 := same_new (o := .lst [.ref p]) hq2
    have g3 : (upd G2 q2 (.lst [.ref p])) q2 = some (.lst [.ref p]) := upd_same
    generalize upd G2 q2 (.lst [.ref p]) = G3 at s3 g3 ⊢
    have sA := s1.trans (s2.trans s3)
    have hl : (us ++ [a, b]).length ≤ n := by rw [P.den.length]; exact Nat.le_trans (length_le_sizes _) P.sz
    rw [List.length_append] at hl
    have e1 := (d1.mono (tl_same sG)).mono (tl_same sA)
    have e2 := (d2.mono (tl_same sG)).mono (tl_same sA)
    refine ⟨q, q2, us, [.ref p], rfl, rfl, s3 _ _ (s2 _ _ g1), g3, by rw [sizeLine_eq]; simp; omega, fun p3 hp3 => ?_⟩
    exact hD _ _ ⟨p3, us ++ [.ref p], ta ++ [.lt y t1 t2], _, _, _, _, _, _, _, _, _, _, rfl, PG.fold (t := .lt y t1 t2) (v := .ref p) sA hp3 (d0.mono (tl_same sG)) ⟨p, a, b, rfl, s3 _ _ g2, e1, e2⟩ ⟨hy, w1, w2⟩ (by simp [T.size, sizes])⟩
    simp
  have rest2 : ∀ (tl : T) (vl : V) (G : Hp), Same H G → Den G tl vl → WT S tl →
      (tSeq (t_dp_10 K) (tAsg (tOp rCat (tSl (rSlL K) (tVar 2) tNoPart (tPart (tUn rNegI (tC (.int 2))))) (tLst (tCons (tTup (tCons (tC (.str "let")) (tCons (tVar 6) (tCons (tOp (rIxL K) (tVar 7) (tUn rNegI (tC (.int 2)))) (tCons (tOp (rIxL K) (tVar 7) (tUn rNegI (tC (.int 1)))) tNil))))) tNil))) (gName 2))) D
        [some (.ref c), some (.ref st), some (.ref l), some (.int cell), some (.int rest), some (.int way), some (.str x), some (.ref li), some vl, j9, j10, j11, j12] G := by
    intro tl vl G sG dl wl
    obtain ⟨pl, ks, rfl, hpl, _⟩ := dl.open
    refine ⟨_, rfl, pl, _, _, _, rfl, rfl, SqT.of hpl, hd_kind tl ks, rfl, _, rfl, ?_⟩
    refine ite2 (fun hk => ?_) (fun hk => ?_)
    · obtain ⟨y, rfl⟩ := kind_name (V.str.inj (of_decide_eq_true hk))
      refine ⟨_, rfl, _, _, rfl, rfl, (show (0 : Int) < 3 by decide), _, _, rfl, rfl, _, rfl, ?_⟩
      refine ite2 (fun _ => ?_) (fun _ => ?_)
      · exact ⟨_, rfl, pl, _, _, _, rfl, rfl, SqT.of hpl, atI_nat (j := 1) rfl, last y _ G wl sG⟩
      · exact last x _ G hx sG
    · exact iteF (last x _ G hx sG)
  obtain ⟨pb, ks, rfl, hpb, _⟩ := d2.open
  refine ⟨_, rfl, _, rfl, li, _, _, _, rfl, rfl, SqL.of hli, atI_end1 zs a _, ?_⟩
  refine ⟨_, rfl, pb, _, _, _, rfl, rfl, SqT.of hpb, hd_kind t2 ks, szl, fun q hq => ?_⟩
  have s1 := same_new (o := .lst [.str "sum", .str "less"]) hq
  have g1 : (upd H q (.lst [.str "sum", .str "less"])) q = some (.lst [.str "sum", .str "less"]) := upd_same
  generalize upd H q (.lst [.str "sum", .str "less"]) = G1 at s1 g1 ⊢
  refine ⟨q, _, rfl, .inl (SqL.of g1), rfl, rfl, _, rfl, ?_⟩
  refine ite2 (fun hk => ?_) (fun hk => ?_)
  · rcases in_sumless hk with ⟨a', b', rfl⟩ | ⟨a', b', rfl⟩
    · obtain ⟨p', u1, u2, e, h3, e1, e2⟩ := d2
      cases e
      exact ⟨_, rfl, pb, _, _, _, rfl, rfl, SqT.of (s1 _ _ h3), rfl, rest2 b' u2 G1 s1 (e2.mono (tl_same s1)) w2.2⟩
    · obtain ⟨p', u1, u2, e, h3, e1, e2⟩ := d2
      cases e
      exact ⟨_, rfl, pb, _, _, _, rfl, rfl, SqT.of (s1 _ _ h3), rfl, rest2 b' u2 G1 s1 (e2.mono (tl_same s1)) w2.2⟩
  · exact rest2 t2 _ G1 s1 (d2.mono (tl_same s1)) w2
/-- the stamp of m pieces -/
theorem stamp_of {S : Str → Nat → Prop} {H : Hp} {nm : Str} {m : Nat} {ws : List V} {tb : List T} {p : Addr} (hm : m ≤ 2) (hS : S nm m) (hl : ws.length = m) (d : DenL H tb ws) (wt : ∀ t ∈ tb, WT S t) (hp : H p = some (.tup ([.str "stamp", .str nm] ++ ws))) :
    ∃ t, Den H t (.ref p) ∧ WT S t ∧ t.size = sizes tb + 1 := by
  cases d with
  | nil =>
    subst hl
    exact ⟨.st0 nm, ⟨p, rfl, hp⟩, hS, rfl⟩
  | @cons t1 v1 tb ws a r =>
    cases r with
    | nil =>
      subst hl
      exact ⟨.st1 nm t1, ⟨p, v1, rfl, hp, a⟩, ⟨hS, wt _ (by simp)⟩, by simp [T.size, sizes]⟩
    | @cons t2 v2 tb ws b r =>
      cases r with
      | nil =>
        subst hl
        exact ⟨.st2 nm t1 t2, ⟨p, v1, v2, rfl, hp, a, b⟩, ⟨hS, wt _ (by simp), wt _ (by simp)⟩, by simp [T.size, sizes]⟩
      | cons _ _ => simp at hl; omega
theorem rd_dp_stamp {xs : List V} (P : Pile S H₀ H n l vs ts) (hn : n ≤ 1000) (hst : H st = some (.lst xs)) (hxs : xs ≠ []) (hS : StampsAt S H xs) (hD : ∀ σ H, DpN S H₀ c st (n + 1) σ H → D.nx σ H) (hD0 : ∀ σ H, DpN S H₀ c st n σ H → D.nx σ H) :
    t_dp_14 K D [some (.ref c), some (.ref st), some (.ref l), some (.int cell), some (.int rest), some (.int way), some (.str x), some (.ref li), j8, j9, j10, j11, j12] H := by
  have hpos : (0 : Int) < (xs.length : Int) := by
    cases xs with
    | nil => exact absurd rfl hxs
    | cons _ _ => simp
  have hr := Int.emod_nonneg rest (Int.ne_of_gt hpos)
  have hr2 := Int.emod_lt_of_pos rest hpos
  obtain ⟨v, hv, e⟩ := atI_mem hr hr2
  obtain ⟨q, nm, m, rfl, hq, hm, hSm⟩ := hS v hv
  refine ⟨_, rfl, _, rfl, _, rfl, st, xs, rfl, .inl (SqL.of hst), _, _, rfl, rfl, hpos, st, xs, _, _, rfl, rfl, SqL.of hst, e, q, _, rfl, SqT.of hq, rfl, _, _, rfl, _, _, rfl, rfl, ?_⟩
  refine ⟨_, rfl, _, rfl, l, vs, rfl, .inl (SqL.of P.at_), _, _, rfl, ?_⟩
  refine ⟨_, rfl, _, rfl, _, rfl, _, rfl, st, xs, rfl, .inl (SqL.of hst), _, _, rfl, rfl, hpos, st, xs, _, _, rfl, rfl, SqL.of hst, e, q, _, _, _, rfl, rfl, SqT.of hq, atI_nat (j := 1) rfl, rfl, _, rfl, ?_⟩
  refine ite2 (fun hk => ?_) (fun hk => ?_)
  · have hk : (if (vs.length : Int) < (m : Int) then (vs.length : Int) else (m : Int)) = m := V.int.inj (of_decide_eq_true hk)
    have hml : m ≤ vs.length := by
      split at hk
      · omega
      · omega
    rw [hk]
    obtain ⟨us, ws, rfl, hws⟩ : ∃ us ws, vs = us ++ ws ∧ ws.length = m := ⟨vs.take (vs.length - m), vs.drop (vs.length - m), (List.take_append_drop _ _).symm, by rw [List.length_drop]; omega⟩
    obtain ⟨ta, tb, rfl, d0, d1⟩ := P.den.split
    have hel : ((us ++ ws).length : Int) - (m : Int) = ((us.length : Nat) : Int) := by rw [List.length_append]; omega
    have hl : (us ++ ws).length ≤ n := by rw [P.den.length]; exact Nat.le_trans (length_le_sizes _) P.sz
    rw [List.length_append] at hl
    refine ⟨_, rfl, szl, fun q1 hq1 => ?_⟩
    have s1 := same_new (o := .lst [.str "stamp", .str nm]) hq1
    have g1 : (upd H q1 (.lst [.str "stamp", .str nm])) q1 = some (.lst [.str "stamp", .str nm]) := upd_same
    generalize upd H q1 (.lst [.str "stamp", .str nm]) = G1 at s1 g1 ⊢
    refine ⟨_, rfl, _, rfl, l, _, rfl, .inl (SqL.of (s1 _ _ P.at_)), _, rfl, _, _, rfl, rfl, _, rfl, l, _, rfl, SqL.of (s1 _ _ P.at_), fun q2 hq2 => ?_⟩
    rw [hel, cut_from _ _ (by simp), List.drop_left']
    have s2 := same_new (o := .lst ws) hq2
    have g2 : (upd G1 q2 (.lst ws)) q2 = some (.lst ws) := upd_same
    generalize upd G1 q2 (.lst ws) = G2 at s2 g2 ⊢
    refine ⟨q1, q2, _, _, rfl, rfl, s2 _ _ g1, g2, by rw [sizeLine_eq]; simp; omega, fun q3 hq3 => ?_⟩
    have s3 := same_new (o := .lst ([.str "stamp", .str nm] ++ ws)) hq3
    have g3 : (upd G2 q3 (.lst ([.str "stamp", .str nm] ++ ws))) q3 = some (.lst ([.str "stamp", .str nm] ++ ws)) := upd_same
    generalize upd G2 q3 (.lst ([.str "stamp", .str nm] ++ ws)) = G3 at s3 g3 ⊢
    refine ⟨q3, _, rfl, .inl ⟨SqL.of g3, fun q4 hq4 => ?_⟩⟩
    have s4 := same_new (o := .tup ([.str "stamp", .str nm] ++ ws)) hq4
    have g4 : (upd G3 q4 (.tup ([.str "stamp", .str nm] ++ ws))) q4 = some (.tup ([.str "stamp", .str nm] ++ ws)) := upd_same
    generalize upd G3 q4 (.tup ([.str "stamp", .str nm] ++ ws)) = G4 at s4 g4 ⊢
    have sB := (s1.trans s2).trans (s3.trans s4)
    refine ⟨_, rfl, _, rfl, l, _, rfl, .inl (SqL.of (sB _ _ P.at_)), _, rfl, _, _, rfl, rfl, _, rfl, l, _, rfl, SqL.of (sB _ _ P.at_), fun q5 hq5 => ?_⟩
    rw [hel, cut_to _ _ (by simp), List.take_left']
    have s5 := same_new (o := .lst us) hq5
    have g5 : (upd G4 q5 (.lst us)) q5 = some (.lst us) := upd_same
    generalize upd G4 q5 (.lst us) = G5 at s5 g5 ⊢
    refine ⟨_, rfl, szl, fun q6 hq6 => ?_⟩
    have s6 := same_new (o := .lst [.ref q4]) hq6
    have g6 : (upd G5 q6 (.lst [.ref q4])) q6 = some (.lst [.ref q4]) := upd_same
    generalize upd G5 q6 (.lst [.ref q4]) = G6 at s6 g6 ⊢
    have sA := sB.trans (s5.trans s6)
    obtain ⟨t, dt, wt, hs⟩ := stamp_of hm hSm hws (d1.mono (tl_same sA)) (fun t ht => P.wt t (List.mem_append_right _ ht)) (s6 _ _ (s5 _ _ g4))
    refine ⟨q5, q6, us, [.ref q4], rfl, rfl, s6 _ _ g5, g6, by rw [sizeLine_eq]; simp; omega, fun p3 hp3 => ?_⟩
    exact hD _ _ ⟨p3, us ++ [.ref q4], ta ++ [t], _, _, _, _, _, _, _, _, _, _, rfl, P.fold sA hp3 d0 dt wt hs⟩
    all_goals rfl
  · exact hD0 _ _ ⟨l, vs, ts, _, _, _, _, _, _, _, _, _, _, rfl, P⟩
end
end SW


set_option Elab.async false
set_option linter.all false
set_option maxRecDepth 100000
set_option maxHeartbeats 4000000
namespace SW
open PySem L2
variable {K : PySem.W.Frag} {vs : List V} {H : Hp} {Q : VK} {E : XK}
theorem two_ends {α : Type} : ∀ {l : List α}, 2 ≤ l.length → ∃ us a b, l = us ++ [a, b] := fun {l} h => by
  have hne : l ≠ [] := by intro e; subst e; simp at h
  obtain ⟨us, b, rfl⟩ := snoc_of_ne hne
  have hne : us ≠ [] := by intro e; subst e; simp at h
  obtain ⟨us, a, rfl⟩ := snoc_of_ne hne
  exact ⟨us, a, b, by simp⟩
theorem three_ends {α : Type} : ∀ {l : List α}, 3 ≤ l.length → ∃ us a b c, l = us ++ [a, b, c] := fun {l} h => by
  have hne : l ≠ [] := by intro e; subst e; simp at h
  obtain ⟨us, c, rfl⟩ := snoc_of_ne hne
  obtain ⟨us, a, b, rfl⟩ := two_ends (l := us) (by simp at h; omega)
  exact ⟨us, a, b, c, by simp⟩
section
variable {S : Str → Nat → Prop} {H₀ : Hp} {n : Nat} {l c st li : Addr} {ts : List T} {D : Ends} {cell rest way : Int} {x : Str} {j8 j9 j10 j11 j12 : Option V}
theorem rd_dp_if {xs : List V} (P : Pile S H₀ H n l vs ts) (hn : n ≤ 1000) (hli : H li = some (.lst (vs.drop (vs.length - 3)))) (hw : 0 ≤ way ∧ way < 9) (hx : Wd x) (hst : H st = some (.lst xs)) (hS : StampsAt S H xs)
    (hD : ∀ σ H, DpN S H₀ c st (n + 1) σ H → D.nx σ H) :
    t_dp_20 K D [some (.ref c), some (.ref st), some (.ref l), some (.int cell), some (.int rest), some (.int way), some (.str x), some (.ref li), j8, j9, j10, j11, j12] H := by
  have hD0 : ∀ σ H, DpN S H₀ c st n σ H → D.nx σ H := fun σ H h => hD σ H (by
    obtain ⟨l, vs, ts, j3, j4, j5, j6, j7, j8, j9, j10, j11, j12, e, P⟩ := h
    exact ⟨l, vs, ts, j3, j4, j5, j6, j7, j8, j9, j10, j11, j12, e, P.same, P.new, P.at_, P.den, by have := P.sz; omega, P.one, P.wt⟩)
  have hlen : (vs.drop (vs.length - 3)).length = min 3 vs.length := by rw [List.length_drop]; omega
  have h1 : 1 ≤ vs.length := by
    rw [P.den.length]
    cases ts with
    | nil => exact absurd rfl P.one
    | cons _ _ => simp
  -- two at the end
  have two : 2 ≤ vs.length → ∃ us a b ta t1 t2, vs = us ++ [a, b] ∧ ts = ta ++ [t1, t2] ∧ DenL H ta us ∧ Den H t1 a ∧ Den H t2 b ∧ ∃ zs, vs.drop (vs.length - 3) = zs ++ [a, b] := fun h2 => by
    obtain ⟨us, a, b, rfl⟩ := two_ends h2
    obtain ⟨ta, tb, rfl, d0, d1⟩ := P.den.split
    cases d1 with
    | cons e1 r =>
    cases r with
    | cons e2 r =>
    cases r
    refine ⟨us, a, b, ta, _, _, rfl, rfl, d0, e1, e2, us.drop (us.length - 1), ?_⟩
    rw [show (us ++ [a, b]).length - 3 = us.length - 1 by simp, List.drop_append_of_le_length (by omega)]
  have other : way ≠ 0 → ((vs.drop (vs.length - 3)).length = 1 → ¬ (2 < way ∧ way < 7)) →
      t_dp_19 K D [some (.ref c), some (.ref st), some (.ref l), some (.int cell), some (.int rest), some (.int way), some (.str x), some (.ref li), j8, j9, j10, j11, j12] H := by
    intro h0 hno
    have hge : 2 < way → way < 7 → 2 ≤ vs.length := fun a b => by
      rcases Nat.lt_or_ge vs.length 2 with z | z
      · exact absurd ⟨a, b⟩ (hno (by rw [hlen]; omega))
      · exact z
    refine ⟨_, rfl, _, _, rfl, rfl, _, rfl, ?_⟩
    refine ite2 (fun h3 => rd_dp_name P hn hx hD) (fun h3 => ?_)
    have h3 : ¬ way < 3 := fun z => h3 (decide_eq_true z)
    have low : t_dp_17 K D [some (.ref c), some (.ref st), some (.ref l), some (.int cell), some (.int rest), some (.int way), some (.str x), some (.ref li), j8, j9, j10, j11, j12] H := by
      refine ⟨_, rfl, _, _, rfl, rfl, _, rfl, ?_⟩
      refine ite2 (fun h6 => ?_) (fun h6 => ?_)
      · have h6 : way < 6 := of_decide_eq_true h6
        obtain ⟨us, a, b, ta, t1, t2, rfl, rfl, d0, d1, d2, zs, ez⟩ := two (hge (by omega) (by omega))
        rw [ez] at hli
        exact rd_dp_sum P hn d0 d1 d2 hli hD
      · have h6 : ¬ way < 6 := fun z => h6 (decide_eq_true z)
        refine ⟨_, rfl, rfl, _, rfl, ?_⟩
        refine ite2 (fun h7 => ?_) (fun h7 => ?_)
        · have h7 : way = 6 := V.int.inj (of_decide_eq_true h7)
          obtain ⟨us, a, b, ta, t1, t2, rfl, rfl, d0, d1, d2, zs, ez⟩ := two (hge (by omega) (by omega))
          rw [ez] at hli
          exact rd_dp_let P hn d0 d1 d2 hli hx hD
        · refine ⟨_, rfl, szl, fun e he => ?_⟩
          have s1 := same_new (o := .lst []) he
          have g1 : (upd H e (.lst [])) e = some (.lst []) := upd_same
          generalize upd H e (.lst []) = G at s1 g1 ⊢
          refine ⟨st, e, xs, rfl, rfl, SqL.of (s1 _ _ hst), SqL.of g1, _, rfl, ?_⟩
          have hSG : StampsAt S G xs := fun v hv => by
            obtain ⟨q, nm, m, e1, e2, e3⟩ := hS v hv
            exact ⟨q, nm, m, e1, s1 _ _ e2, e3⟩
          refine ite2 (fun hk => ?_) (fun hk => ?_)
          · exact rd_dp_stamp (P.mono s1) hn (s1 _ _ hst) (by intro z; subst z; cases hk) hSG hD hD0
          · exact hD0 _ _ ⟨l, vs, ts, _, _, _, _, _, _, _, _, _, _, rfl, P.mono s1⟩
    refine ⟨_, rfl, rfl, _, rfl, ?_⟩
    refine ite2 (fun h5 => ?_) (fun h5 => iteF low)
    refine ⟨_, rfl, li, _, rfl, .inl (SqL.of hli), rfl, _, rfl, ?_⟩
    refine ite2 (fun hl3 => ?_) (fun hl3 => low)
    have hl3 : (((vs.drop (vs.length - 3)).length : Nat) : Int) = 3 := V.int.inj (of_decide_eq_true hl3)
    obtain ⟨us, a, b, d, rfl⟩ := three_ends (l := vs) (by omega)
    obtain ⟨ta, tb, rfl, d0, d1⟩ := P.den.split
    cases d1 with
    | cons e1 r =>
    cases r with
    | cons e2 r =>
    cases r with
    | cons e3 r =>
    cases r
    rw [show (us ++ [a, b, d]).length - 3 = us.length by simp, List.drop_left'] at hli
    exact rd_dp_choose P hn d0 e1 e2 e3 hli hD
    rfl
  refine ⟨_, rfl, rfl, _, rfl, ?_⟩
  refine ite2 (fun h0 => iteT (rd_dp_number P hn hD)) (fun h0 => ?_)
  have h0 : way ≠ 0 := fun z => h0 (by rw [z]; exact decide_eq_true rfl)
  refine ⟨_, rfl, li, _, rfl, .inl (SqL.of hli), rfl, _, rfl, ?_⟩
  refine ite2 (fun hl1 => ?_) (fun hl1 => ?_)
  · refine ⟨_, rfl, _, _, rfl, rfl, _, rfl, ?_⟩
    refine ite2 (fun h2 => ⟨_, _, rfl, rfl, _, rfl, ?_⟩) (fun h2 => ⟨_, rfl, ?_⟩)
    · refine ite2 (fun _ => rd_dp_number P hn hD) (fun h7 => ?_)
      exact other h0 fun _ z => h7 (decide_eq_true z.2)
    · exact iteF (other h0 fun _ z => h2 (decide_eq_true z.1))
  · refine iteF (other h0 fun z => ?_)
    exact absurd (decide_eq_true (congrArg V.int (by rw [z]; rfl))) hl1
/-- one turn -/
theorem rd_dp_turn {xs : List V} {j4 j5 j6 j7 : Option V} (P : Pile S H₀ H n l vs ts) (hn : n ≤ 1000) (hst : H st = some (.lst xs)) (hS : StampsAt S H xs) (hD : ∀ σ H, DpN S H₀ c st (n + 1) σ H → D.nx σ H) :
    t_dp_21 K D [some (.ref c), some (.ref st), some (.ref l), some (.int cell), j4, j5, j6, j7, j8, j9, j10, j11, j12] H := by
  refine ⟨_, rfl, _, _, rfl, rfl, ⟨by decide, by decide⟩, _, rfl, _, _, rfl, rfl, (show (0 : Int) < 9 by decide), szl, fun q hq => ?_⟩
  have hw : 0 ≤ cell % 9 ∧ cell % 9 < 9 := by omega
  have s1 := same_new (o := .lst [.str "sab", .str "tab", .str "sob", .str "sat"]) hq
  have g1 : (upd H q (.lst [.str "sab", .str "tab", .str "sob", .str "sat"])) q = some (.lst [.str "sab", .str "tab", .str "sob", .str "sat"]) := upd_same
  generalize upd H q (.lst [.str "sab", .str "tab", .str "sob", .str "sat"]) = G at s1 g1 ⊢
  have h4 : 0 ≤ (cell / 9) % 4 ∧ (cell / 9) % 4 < 4 := by omega
  obtain ⟨v, hv, e⟩ := atI_mem (xs := [V.str "sab", V.str "tab", V.str "sob", V.str "sat"]) h4.1 h4.2
  obtain ⟨x, rfl, hx⟩ := wd_menu hv
  refine ⟨_, rfl, _, _, rfl, rfl, (show (0 : Int) < 4 by decide), q, _, _, _, rfl, rfl, SqL.of g1, e, ?_⟩
  have PG := P.mono s1
  have hSG : ∀ {G'}, Same G G' → StampsAt S G' xs := fun {G'} s v hv => by
    obtain ⟨q, nm, m, e1, e2, e3⟩ := hS v hv
    exact ⟨q, nm, m, e1, s _ _ (s1 _ _ e2), e3⟩
  have go : ∀ y, Wd y → (tSeq (tAsg (tSl (rSlL K) (tVar 2) (tPart (tUn rNegI (tC (.int 3)))) tNoPart) (gName 7)) (t_dp_20 K)) D [some (.ref c), some (.ref st), some (.ref l), some (.int cell), some (.int (cell / 9)), some (.int (cell % 9)), some (.str y), j7, j8, j9, j10, j11, j12] G := by
    intro y hy
    refine ⟨_, rfl, _, rfl, _, rfl, l, vs, rfl, SqL.of PG.at_, fun li hli => ?_⟩
    rw [show (-3 : Int) = -((3 : Nat) : Int) from rfl, cut_back _ 3 (by decide)]
    have s2 := same_new (o := .lst (vs.drop (vs.length - 3))) hli
    exact rd_dp_if (PG.mono s2) hn upd_same hw hy (s2 _ _ (s1 _ _ hst)) (hSG s2) hD
  refine ⟨_, rfl, _, _, rfl, rfl, (show (0 : Int) < 29 by decide), rfl, _, rfl, ?_⟩
  refine ite2 (fun _ => ?_) (fun _ => go x hx)
  refine ⟨_, rfl, _, _, rfl, rfl, ⟨by decide, by decide⟩, _, rfl, fun y hy => ?_⟩
  refine ⟨_, _, rfl, rfl, ?_, go _ (wd_k hy.1 hy.2)⟩
  have : (("k" : Str)).length = 1 := by decide +kernel
  have := hy.2
  rw [sizeLine_eq]; omega
/-- the sums at the end -/
structure Tail (S : Str → Nat → Prop) (H₀ H : Hp) (n : Nat) (l : Addr) (vs : List V) (ts : List T) : Prop where
  same : Same H₀ H
  new : H₀ l = none
  at_ : H l = some (.lst vs)
  den : DenL H ts vs
  sz : sizes ts + ts.length ≤ 2 * n
  nm : namesAll ts ≤ n
  one : ts ≠ []
  wt : ∀ t ∈ ts, WT S t
theorem namesAll_le : ∀ ts : List T, namesAll ts ≤ sizes ts
  | [] => Nat.le_refl _
  | t :: ts => by
    have h := namesAll_le ts
    have h2 := t.names_len
    simp only [namesAll, sizes, List.map_cons, List.sum_cons] at *
    omega
theorem rd_dp (h : spDrawn K S vs H Q E) : t_dp K (fin Q) (start ["_law_cells", "_law_stamps", "_law_pile", "_law_cell", "_law_rest", "_law_way", "_law_word", "_law_inner", "_law_look", "_law_name", "_law_many", "_law_made", "_law_last"] vs) H := by
  obtain ⟨c, st, ns, xs, rfl, hc, hns, hst, hxl, hS, k⟩ := h
  refine ⟨szl, fun p hp => ⟨szl, fun l hl => ?_⟩⟩
  have s1 := same_new (o := .tup [.str "name", .str "sab"]) hp
  have s2 := same_new (o := .lst [.ref p]) hl
  have P0 : Pile S H (upd (upd H p (.tup [.str "name", .str "sab"])) l (.lst [.ref p])) 1 l [.ref p] [.name "sab"] :=
    ⟨s1.trans s2, s1.free hl, upd_same, .cons ⟨p, rfl, s2 _ _ upd_same⟩ .nil, by simp [sizes, T.size], by simp, fun t ht => by rw [List.mem_singleton] at ht; subst ht; exact wd_sab⟩
  refine ⟨_, rfl, c, rfl, ⟨_, (s1.trans s2).seq hc⟩, for_list (K := K) (a := c) (xs := ns.map V.int) (fun i σ H2 => DpN S H c st (i + 1) σ H2) ⟨l, _, _, _, _, _, _, _, _, _, _, _, _, rfl, P0⟩ (fun i σ H2 _ hN => ?_) ?_ ?_⟩
  · obtain ⟨l, vs, ts, j3, j4, j5, j6, j7, j8, j9, j10, j11, j12, e, P⟩ := hN
    exact P.same.seq hc
  · rintro i y σ H2 hi ⟨l, vs, ts, j3, j4, j5, j6, j7, j8, j9, j10, j11, j12, rfl, P⟩
    have hil : i < (ns.map V.int).length := (List.getElem?_eq_some_iff.mp hi).1
    rw [List.length_map] at hil
    obtain ⟨z, rfl⟩ : ∃ z, y = V.int z := by
      rw [List.getElem?_map] at hi
      cases e : ns[i]? with
      | none => rw [e] at hi; cases hi
      | some z => rw [e] at hi; exact ⟨z, (Option.some.inj hi).symm⟩
    refine rd_dp_turn P (by omega) (P.same _ _ hst) (fun v hv => ?_) (fun σ H h => h)
    obtain ⟨q, nm, m, e1, e2, e3⟩ := hS v hv
    exact ⟨q, nm, m, e1, P.same _ _ e2, e3⟩
  · rintro σ H2 ⟨l, vs, ts, j3, j4, j5, j6, j7, j8, j9, j10, j11, j12, rfl, P⟩
    rw [List.length_map] at P
    refine ⟨fun m σ H' => ∃ l vs ts j3 j4 j5 j6 j7 j8 j9 j10 j11 j12, σ = [some (.ref c), some (.ref st), some (.ref l), j3, j4, j5, j6, j7, j8, j9, j10, j11, j12] ∧ Tail S H H' (ns.length + 1) l vs ts ∧ m = ts.length, ⟨_, l, vs, ts, _, _, _, _, _, _, _, _, _, _, rfl, ?_, rfl⟩, ?_⟩
    · refine ⟨P.same, P.new, P.at_, P.den, ?_, ?_, P.one, P.wt⟩
      · have := length_le_sizes ts; have := P.sz; omega
      · have := namesAll_le ts; have := P.sz; omega
    · clear P j3 j4 j5 j6 j7 j8 j9 j10 j11 j12
      rintro m σ H3 ⟨l, vs, ts, j3, j4, j5, j6, j7, j8, j9, j10, j11, j12, rfl, A, rfl⟩
      refine ⟨_, rfl, l, vs, rfl, .inl (SqL.of A.at_), _, _, rfl, rfl, _, rfl, ?_⟩
      refine ite2 (fun h1 => ?_) (fun h1 => ?_)
      · have h1 : (1 : Int) < (vs.length : Int) := of_decide_eq_true h1
        obtain ⟨us, a, b, rfl⟩ := two_ends (l := vs) (by omega)
        obtain ⟨ta, tb, rfl, d0, d1⟩ := A.den.split
        cases d1 with
        | @cons t1 _ _ _ e1 r =>
        cases r with
        | @cons t2 _ _ _ e2 r =>
        cases r
        refine ⟨fun σ' H' => ∃ m', m' < (ta ++ [t1, t2]).length ∧ ∃ l vs ts j3 j4 j5 j6 j7 j8 j9 j10 j11 j12, σ' = [some (.ref c), some (.ref st), some (.ref l), j3, j4, j5, j6, j7, j8, j9, j10, j11, j12] ∧ Tail S H H' (ns.length + 1) l vs ts ∧ m' = ts.length, fun _ _ h => h, ?_⟩
        have ha := A.at_
        rw [show us ++ [a, b] = (us ++ [a]) ++ [b] by simp] at ha
        refine ⟨_, rfl, .inl ⟨rfl, _, SqL.of ha⟩, l, _, _, rfl, rfl, ha, pop_at, ?_⟩
        rw [drop_at]
        have tl1 := tl_lst (o := .lst (us ++ [a])) ha
        have sO := same_old (o := .lst (us ++ [a])) A.same A.new
        have g1 : (upd H3 l (.lst (us ++ [a]))) l = some (.lst (us ++ [a])) := upd_same
        generalize upd H3 l (.lst (us ++ [a])) = G1 at tl1 sO g1 ⊢
        refine ⟨_, rfl, .inl ⟨rfl, _, SqL.of g1⟩, _, rfl, .inl ⟨rfl, _, SqL.of g1⟩, l, _, _, rfl, rfl, g1, pop_at, ?_⟩
        rw [drop_at]
        have tl2 := tl_lst (o := .lst us) g1
        have sO2 := same_old (o := .lst us) sO A.new
        have g2 : (upd G1 l (.lst us)) l = some (.lst us) := upd_same
        generalize upd G1 l (.lst us) = G2 at tl2 sO2 g2 ⊢
        refine ⟨_, rfl, szl, fun p hp => ?_⟩
        have s3 := same_new (o := .tup [.str "sum", a, b]) hp
        have g3 : (upd G2 p (.tup [.str "sum", a, b])) p = some (.tup [.str "sum", a, b]) := upd_same
        generalize upd G2 p (.tup [.str "sum", a, b]) = G3 at s3 g3 ⊢
        have hlen := d0.length
        have hsz := A.sz
        rw [sizes_append, List.length_append] at hsz
        have hq := length_le_sizes ta
        have tl4 := tl_lst (o := .lst (us ++ [.ref p])) (s3 _ _ g2)
        have tlA := tl1.trans (tl2.trans ((tl_same s3).trans tl4))
        refine ⟨l, us, .ref p, rfl, rfl, s3 _ _ g2, by rw [sizeLine_eq]; omega, (ta ++ [T.sum t1 t2]).length, by simp, l, us ++ [.ref p], ta ++ [T.sum t1 t2], _, _, _, _, _, _, _, _, _, _, rfl, ⟨same_old (sO2.trans s3) A.new, A.new, upd_same, (d0.mono tlA).append (.cons (show Den _ (T.sum t1 t2) (.ref p) from ⟨p, a, b, rfl, tl4 _ _ g3, e1.mono tlA, e2.mono tlA⟩) .nil), ?_, ?_, by simp, fun t ht => ?_⟩, rfl⟩
        · rw [sizes_append, List.length_append]
          simp [sizes, T.size] at hsz ⊢
          omega
        · have := A.nm
          rw [namesAll_append] at this ⊢
          simp [namesAll, T.names] at this ⊢
          omega
        · rcases List.mem_append.mp ht with z | z
          · exact A.wt t (List.mem_append_left _ z)
          · rw [List.mem_singleton] at z
            subst z
            exact ⟨A.wt _ (by simp), A.wt _ (by simp)⟩
      · have h1 : ¬ (1 : Int) < (vs.length : Int) := fun z => h1 (decide_eq_true z)
        have hlen := A.den.length
        obtain ⟨t, rfl⟩ : ∃ t, ts = [t] := by
          cases ts with
          | nil => exact absurd rfl A.one
          | cons t ts =>
            cases ts with
            | nil => exact ⟨t, rfl⟩
            | cons _ _ => simp at hlen; omega
        obtain ⟨v, rfl⟩ : ∃ v, vs = [v] := by
          cases A.den with
          | cons a r => cases r; exact ⟨_, rfl⟩
        have d1 : Den H3 t v := by cases A.den with | cons a r => exact a
        have hsz := A.sz
        have hnm := A.nm
        refine ⟨_, rfl, l, _, _, _, rfl, rfl, SqL.of A.at_, rfl, k t v H3 A.same d1 (A.wt t (by simp)) ?_ ?_⟩
        · simp [sizes] at hsz; omega
        · simp [namesAll] at hnm; omega
end
theorem rd_main (h : spMain K vs H Q E) : t_main K SMain (fin Q) (start ["_law_cells"] vs) H := by
  obtain ⟨c, ns, rfl, hc, hns, k⟩ := h
  refine ⟨_, rfl, szl, fun q1 h1 => ⟨szl, fun q2 h2 => ⟨szl, fun q3 h3 => ⟨szl, fun q4 h4 => ⟨szl, fun l hl => ?_⟩⟩⟩⟩⟩
  have s1 := same_new (o := .tup [.str "st", .int 2]) h1
  have g1 : (upd H q1 (.tup [.str "st", .int 2])) q1 = some (.tup [.str "st", .int 2]) := upd_same
  generalize upd H q1 (.tup [.str "st", .int 2]) = G1 at *
  have s2 := same_new (o := .tup [.str "sta", .int 1]) h2
  have g2 : (upd G1 q2 (.tup [.str "sta", .int 1])) q2 = some (.tup [.str "sta", .int 1]) := upd_same
  generalize upd G1 q2 (.tup [.str "sta", .int 1]) = G2 at *
  have s3 := same_new (o := .tup [.str "st", .int 2]) h3
  have g3 : (upd G2 q3 (.tup [.str "st", .int 2])) q3 = some (.tup [.str "st", .int 2]) := upd_same
  generalize upd G2 q3 (.tup [.str "st", .int 2]) = G3 at *
  have s4 := same_new (o := .tup [.str "star", .int 0]) h4
  have g4 : (upd G3 q4 (.tup [.str "star", .int 0])) q4 = some (.tup [.str "star", .int 0]) := upd_same
  generalize upd G3 q4 (.tup [.str "star", .int 0]) = G4 at *
  have s5 := same_new (o := .lst [.ref q1, .ref q2, .ref q3, .ref q4]) hl
  have g5 : (upd G4 l (.lst [.ref q1, .ref q2, .ref q3, .ref q4])) l = some (.lst [.ref q1, .ref q2, .ref q3, .ref q4]) := upd_same
  generalize upd G4 l (.lst [.ref q1, .ref q2, .ref q3, .ref q4]) = G5 at *
  have sA := (s1.trans s2).trans ((s3.trans s4).trans s5)
  refine ⟨c, l, ns, _, rfl, sA.seq hc, hns, g5, by simp, fun x hx => ?_, fun t v H' s d w a b => k t v H' (sA.trans s) d w a b⟩
  rcases List.mem_cons.mp hx with rfl | hx
  · exact ⟨q1, "st", 2, rfl, s5 _ _ (s4 _ _ (s3 _ _ (s2 _ _ g1))), by decide, .inl ⟨rfl, rfl⟩⟩
  rcases List.mem_cons.mp hx with rfl | hx
  · exact ⟨q2, "sta", 1, rfl, s5 _ _ (s4 _ _ (s3 _ _ g2)), by decide, .inr (.inl ⟨rfl, rfl⟩)⟩
  rcases List.mem_cons.mp hx with rfl | hx
  · exact ⟨q3, "st", 2, rfl, s5 _ _ (s4 _ _ g3), by decide, .inl ⟨rfl, rfl⟩⟩
  rcases List.mem_cons.mp hx with rfl | hx
  · exact ⟨q4, "star", 0, rfl, s5 _ _ g4, by decide, .inr (.inr ⟨rfl, rfl⟩)⟩
  · cases hx
end SW


set_option Elab.async false
set_option linter.all false
set_option maxRecDepth 100000
set_option maxHeartbeats 4000000
namespace SW
open PySem L2
variable {K : PySem.W.Frag} {vs : List V} {H : Hp} {Q : VK} {E : XK}
def spLaw (K : PySem.W.Frag) : Sp := fun vs H Q _ => ∃ (a : Addr) (ns : List Int), vs = [.ref a] ∧ SqL K H a (ns.map V.int) ∧ ns.length ≤ 63 ∧ ∀ H', Q (.bl true) H'
theorem cut_ints (ns : List Int) : ∃ ms : List Int, cutV (ns.map V.int) (some 1) (some (1 + 40)) = ms.map V.int ∧ ms.length ≤ 40 := by
  refine ⟨(ns.drop (min 1 ns.length)).take (min 41 ns.length - min 1 ns.length), ?_, ?_⟩
  · unfold cutV
    have e1 : HT.sIx (ns.map V.int).length 0 (some 1) = min 1 ns.length := by rw [show (1 : Int) = ((1 : Nat) : Int) from rfl, HT.sIx_nat, List.length_map]
    have e2 : HT.sIx (ns.map V.int).length (ns.map V.int).length (some (1 + 40)) = min 41 ns.length := by rw [show (1 + 40 : Int) = ((41 : Nat) : Int) from rfl, HT.sIx_nat, List.length_map]
    rw [e1, e2, List.map_take, List.map_drop]
  · rw [List.length_take]; omega
def outL (x : Str) (ts : List T) : Prop := ∃ t ∈ ts, t.out x
theorem outL_append {x : Str} {a b : List T} : outL x (a ++ b) ↔ outL x a ∨ outL x b := by
  unfold outL
  constructor
  · rintro ⟨t, h, o⟩
    rcases List.mem_append.mp h with z | z
    · exact .inl ⟨t, z, o⟩
    · exact .inr ⟨t, z, o⟩
  · rintro (⟨t, h, o⟩ | ⟨t, h, o⟩)
    · exact ⟨t, List.mem_append_left _ h, o⟩
    · exact ⟨t, List.mem_append_right _ h, o⟩
theorem outL_one {x : Str} {t : T} : outL x [t] ↔ t.out x := by simp [outL]
theorem outL_nil {x : Str} : ¬ outL x [] := by simp [outL]
theorem out_kids {x : Str} {t : T} (h : ∀ y, t ≠ .name y) (h2 : ∀ a b, t ≠ .lt x a b) : t.out x ↔ outL x t.kids := by
  cases t with
  | name y => exact absurd rfl (h y)
  | lt w a b =>
    have : w ≠ x := fun e => h2 a b (by rw [e])
    simp [outL, T.kids, T.out, this]
  | _ => simp [outL, T.kids, T.out]
theorem is_name {t : T} {ks : List V} {H : Hp} {x : Str} (dk : DenL H t.kids ks) : hd t ++ ks = [.str "name", .str x] ↔ t = .name x := by
  constructor
  · intro h
    have h0 : V.str (kind t) = .str "name" := by
      have := hd_kind t ks
      rw [h] at this
      exact (Option.some.inj this).symm
    obtain ⟨y, rfl⟩ := kind_name (V.str.inj h0)
    cases dk
    have : V.str y = V.str x := by
      have := (List.cons.inj h).2
      exact (List.cons.inj this).1
    rw [V.str.inj this]
  · rintro rfl
    cases dk
    rfl
theorem denL_plain {H : Hp} : ∀ {ts : List T} {ks : List V}, DenL H ts ks → ∀ v ∈ ks, plainV K H v
  | _, _, .nil, v, hv => by cases hv
  | _, _, .cons a r, v, hv => by
    rcases List.mem_cons.mp hv with rfl | hv
    · obtain ⟨p, ks, rfl, hp, _⟩ := a.open
      exact ⟨_, SqT.of hp⟩
    · exact denL_plain r v hv
theorem plain_two {H : Hp} {t : T} {ks : List V} (dk : DenL H t.kids ks) : ∀ v ∈ (hd t ++ ks).take 2, plainV K H v := by
  have h1 : ∀ v ∈ ks, plainV K H v := denL_plain dk
  intro v hv
  rcases List.mem_append.mp (List.mem_of_mem_take hv) with z | z
  · cases t <;> simp only [hd, List.mem_cons, List.not_mem_nil, or_false] at z <;> first | (subst z; exact True.intro) | (rcases z with rfl | rfl <;> exact True.intro)
  · exact h1 v z
theorem inV_strs (x : Str) (ws : List Str) : inV (.str x) (ws.map V.str) = decide (x ∈ ws) := by
  unfold inV
  rw [List.any_map]
  by_cases h : x ∈ ws
  · rw [decide_eq_true h]
    exact List.any_eq_true.mpr ⟨x, h, by simp [eqV]⟩
  · rw [decide_eq_false h]
    refine List.any_eq_false.mpr fun y hy => ?_
    simp only [Function.comp_apply, eqV, beq_iff_eq]
    rintro rfl
    exact h hy
theorem flat_strs (ws : List Str) : (ws.map V.str).all flatV = true := by
  rw [List.all_map]
  exact List.all_eq_true.mpr fun _ _ => rfl
/-- a word is looked for -/
structure LookSt (t : T) (x : Str) (Hb H : Hp) (dl l tl : Addr) (ws due : List Str) (ts : List T) (us : List V) : Prop where
  same : Same Hb H
  nd : Hb dl = none
  nt : Hb tl = none
  ndl : tl ≠ dl
  l_ : H l = some (.lst (ws.map V.str))
  nl : tl ≠ l
  t_ : H tl = some (.lst us)
  den : DenL H ts us
  sz : sizes ts ≤ 900
  d_ : (H dl = some (.lst (due.map V.str)) ∧ (outL x ts ↔ t.out x)) ∨ (H dl = some (.lst ((due ++ [x]).map V.str)) ∧ t.out x)
def Looked (t : T) (Hb : Hp) (dl l : Addr) (ws due : List Str) (x : Str) (H : Hp) : Prop := Same Hb H ∧ H l = some (.lst (ws.map V.str)) ∧ ((H dl = some (.lst (due.map V.str)) ∧ ¬ t.out x) ∨ (H dl = some (.lst ((due ++ [x]).map V.str)) ∧ t.out x))
theorem rd_law_look {t : T} {x : Str} {Hb : Hp} {dl l : Addr} {ws due : List Str} {a : Addr} {v : V} {D : Ends} {j2 j5 j6 j7 j8 : Option V} (hsz : t.size ≤ 900) (hd : Den Hb t v) (same : Same Hb H) (nd : Hb dl = none) (hdl : H dl = some (.lst (due.map V.str))) (hl : H l = some (.lst (ws.map V.str))) (hld : l ≠ dl) (hx : x ∉ due) (hdue : due.length ≤ 100)
    (hD : ∀ H' j5 j6, Looked t Hb dl l ws due x H' → D.nx [some (.ref a), some v, j2, some (.ref dl), some (.str x), j5, j6, j7, j8] H') :
    t_law_9 K D [some (.ref a), some v, j2, some (.ref dl), some (.str x), j5, j6, j7, j8] H := by
  refine ⟨_, rfl, szl, fun tl htl => ?_⟩
  have s1 := same_new (o := .lst [v]) htl
  have g1 : (upd H tl (.lst [v])) tl = some (.lst [v]) := upd_same
  have n1 : tl ≠ dl := (ne_of_none hdl htl).symm
  have n2 : tl ≠ l := (ne_of_none hl htl).symm
  have n3 : Hb tl = none := same.free htl
  generalize upd H tl (.lst [v]) = G at s1 g1 ⊢
  refine ⟨fun m σ H' => ∃ tl j6 ts us, σ = [some (.ref a), some v, j2, some (.ref dl), some (.str x), some (.ref tl), j6, j7, j8] ∧ LookSt t x Hb H' dl l tl ws due ts us ∧ m = sizes ts, ⟨_, tl, j6, [t], [v], rfl, ?_, rfl⟩, ?_⟩
  · refine ⟨same.trans s1, nd, n3, n1, s1 _ _ hl, n2, g1, .cons (hd.mono (tl_same (same.trans s1))) .nil, ?_, .inl ⟨s1 _ _ hdl, outL_one⟩⟩
    rw [sizes_cons, sizes_nil]; omega
  · clear s1 g1 n1 n2 n3 htl j6
    rintro m σ H1 ⟨tl, j6, ts, us, rfl, A, rfl⟩
    refine ⟨_, rfl, szl, fun e he => ?_⟩
    have s1 := same_new (o := .lst []) he
    have A1 : LookSt t x Hb (upd H1 e (.lst [])) dl l tl ws due ts us := ⟨A.same.trans s1, A.nd, A.nt, A.ndl, s1 _ _ A.l_, A.nl, s1 _ _ A.t_, A.den.mono (tl_same s1), A.sz, A.d_.imp (fun z => ⟨s1 _ _ z.1, z.2⟩) fun z => ⟨s1 _ _ z.1, z.2⟩⟩
    have he1 : (upd H1 e (.lst [])) e = some (.lst []) := upd_same
    generalize upd H1 e (.lst []) = H2 at A1 he1 ⊢
    clear A s1
    rename LookSt t x Hb H2 dl l tl ws due ts us => A
    refine ⟨tl, e, us, rfl, rfl, SqL.of A.t_, SqL.of he1, _, rfl, ?_⟩
    by_cases hv : us = []
    · subst hv
      cases A.den
      refine iteN rfl (hD _ _ _ ⟨A.same, A.l_, A.d_.imp (fun z => ⟨z.1, fun o => outL_nil (z.2.mpr o)⟩) id⟩)
    · obtain ⟨us, u, rfl⟩ := snoc_of_ne hv
      refine iteY (by simp) ?_
      obtain ⟨us', t', rfl, d1, d2⟩ := A.den.snoc
      obtain ⟨p, ks, rfl, hp, dk⟩ := d2.open
      refine ⟨fun σ' H' => ∃ m', m' < sizes (us' ++ [t']) ∧ ∃ tl j6 ts us, σ' = [some (.ref a), some v, j2, some (.ref dl), some (.str x), some (.ref tl), j6, j7, j8] ∧ LookSt t x Hb H' dl l tl ws due ts us ∧ m' = sizes ts, fun _ _ h => h, ?_⟩
      refine ⟨_, rfl, .inl ⟨rfl, _, SqL.of A.t_⟩, tl, _, _, rfl, rfl, A.t_, pop_at, ?_⟩
      rw [drop_at]
      have tl1 : TupLe H2 (upd H2 tl (.lst us)) := tl_lst A.t_
      have s3 : Same Hb (upd H2 tl (.lst us)) := same_old A.same A.nt
      have l3 : (upd H2 tl (.lst us)) l = some (.lst (ws.map V.str)) := by rw [upd_ne A.nl.symm]; exact A.l_
      have t3 : (upd H2 tl (.lst us)) tl = some (.lst us) := upd_same
      have d3 := d1.mono tl1
      have e3 := d2.mono tl1
      have k3 := dk.mono tl1
      have hp3 := tl1 _ _ hp
      have w3 : ((upd H2 tl (.lst us)) dl = some (.lst (due.map V.str)) ∧ (outL x us' ∨ t'.out x ↔ t.out x)) ∨ ((upd H2 tl (.lst us)) dl = some (.lst ((due ++ [x]).map V.str)) ∧ t.out x) := by
        rw [upd_ne A.ndl.symm]
        refine A.d_.imp (fun z => ⟨z.1, ?_⟩) id
        have := z.2
        rw [outL_append, outL_one] at this
        exact this
      generalize upd H2 tl (.lst us) = H3 at s3 l3 t3 d3 e3 k3 hp3 w3 ⊢
      have hsz2 := A.sz
      rw [sizes_append, sizes_cons, sizes_nil] at hsz2
      -- from behind the first test on
      have rest : ∀ (H4 : Hp), Same Hb H4 → H4 l = some (.lst (ws.map V.str)) → H4 tl = some (.lst us) → DenL H4 us' us → Den H4 t' (.ref p) →
          ((H4 dl = some (.lst (due.map V.str)) ∧ (outL x us' ∨ t'.out x ↔ t.out x) ∧ t' ≠ .name x) ∨ (H4 dl = some (.lst ((due ++ [x]).map V.str)) ∧ t.out x)) →
          (t_law_7 K) { D with nx := fun σ' H' => ∃ m', m' < sizes (us' ++ [t']) ∧ ∃ tl j6 ts us, σ' = [some (.ref a), some v, j2, some (.ref dl), some (.str x), some (.ref tl), j6, j7, j8] ∧ LookSt t x Hb H' dl l tl ws due ts us ∧ m' = sizes ts, ct := fun σ' H' => ∃ m', m' < sizes (us' ++ [t']) ∧ ∃ tl j6 ts us, σ' = [some (.ref a), some v, j2, some (.ref dl), some (.str x), some (.ref tl), j6, j7, j8] ∧ LookSt t x Hb H' dl l tl ws due ts us ∧ m' = sizes ts, bk := D.nx }
            [some (.ref a), some v, j2, some (.ref dl), some (.str x), some (.ref tl), some (.ref p), j7, j8] H4 := by
        intro H4 s4 l4 t4 d4 e4 w4
        obtain ⟨p', ks', ep, hp4, dk4⟩ := e4.open
        cases ep
        have q1 := d4.length
        have q3 := length_le_sizes us'
        have hk := sizes_kids t'
        have q4 := length_le_sizes t'.kids
        have kidsWay : (∀ b c, t' ≠ .lt x b c) → t_law_6 K { D with nx := fun σ' H' => ∃ m', m' < sizes (us' ++ [t']) ∧ ∃ tl j6 ts us, σ' = [some (.ref a), some v, j2, some (.ref dl), some (.str x), some (.ref tl), j6, j7, j8] ∧ LookSt t x Hb H' dl l tl ws due ts us ∧ m' = sizes ts, ct := fun σ' H' => ∃ m', m' < sizes (us' ++ [t']) ∧ ∃ tl j6 ts us, σ' = [some (.ref a), some v, j2, some (.ref dl), some (.str x), some (.ref tl), j6, j7, j8] ∧ LookSt t x Hb H' dl l tl ws due ts us ∧ m' = sizes ts, bk := D.nx }
            [some (.ref a), some v, j2, some (.ref dl), some (.str x), some (.ref tl), some (.ref p), j7, j8] H4 := by
          intro hno
          refine ⟨_, rfl, _, rfl, t', .ref p, rfl, e4, fun l2 us2 H5 s5 n5 h5 d5 => ?_⟩
          have q2 := d5.length
          refine ⟨tl, l2, us, us2, rfl, rfl, s5 _ _ t4, h5, by rw [sizeLine_eq]; omega, fun p6 hp6 => ?_⟩
          have s6 := same_new (o := .lst (us ++ us2)) hp6
          have s56 := s5.trans s6
          refine ⟨sizes (us' ++ t'.kids), by rw [sizes_append, sizes_append, sizes_cons, sizes_nil]; omega, p6, _, us' ++ t'.kids, us ++ us2, rfl, ⟨s4.trans s56, A.nd, (s4.trans s5).free hp6, ?_, s56 _ _ l4, (ne_of_none (s5 _ _ l4) hp6).symm, upd_same, (d4.mono (tl_same s56)).append (d5.mono (tl_same s6)), ?_, ?_⟩, rfl⟩
          · rcases w4 with ⟨z, _⟩ | ⟨z, _⟩ <;> exact (ne_of_none (s5 _ _ z) hp6).symm
          · rw [sizes_append]; omega
          · refine w4.imp (fun z => ⟨s56 _ _ z.1, ?_⟩) fun z => ⟨s56 _ _ z.1, z.2⟩
            rw [outL_append, ← z.2.1]
            by_cases hnm : ∃ y, t' = .name y
            · obtain ⟨y, rfl⟩ := hnm
              have : ¬ (T.name y).out x := fun o => z.2.2 (by have e : y = x := o; rw [e])
              have q : ¬ outL x (T.name y).kids := outL_nil
              constructor
              · rintro (o | o)
                · exact .inl o
                · exact (q o).elim
              · rintro (o | o)
                · exact .inl o
                · exact (this o).elim
            · rw [out_kids (fun y e => hnm ⟨y, e⟩) hno]
        refine ⟨_, rfl, p, _, _, _, rfl, rfl, SqT.of hp4, hd_kind t' ks', rfl, _, rfl, ?_⟩
        refine ite2 (fun hlt => ?_) (fun hlt => ?_)
        · obtain ⟨y, b1, b2, rfl⟩ := kind_let (V.str.inj (of_decide_eq_true hlt))
          obtain ⟨p5, u1, u2, ep, h5, c1, c2⟩ := e4
          cases ep
          refine ⟨_, rfl, p, _, _, _, rfl, rfl, SqT.of h5, atI_nat (j := 1) rfl, _, rfl, rfl, _, rfl, ?_⟩
          refine ite2 (fun hy => ?_) (fun hy => ?_)
          · have hy : y = x := V.str.inj (of_decide_eq_true hy)
            subst hy
            refine ⟨_, rfl, .inl ⟨rfl, _, SqL.of t4⟩, _, rfl, p, _, _, _, rfl, rfl, SqT.of h5, atI_nat (j := 2) rfl, tl, us, _, rfl, rfl, t4, by rw [sizeLine_eq]; omega, ?_⟩
            have t6 := tl_lst (o := .lst (us ++ [u1])) t4
            simp only [T.kids, T.size] at *
            refine ⟨sizes (us' ++ [b1]), ?_, tl, _, us' ++ [b1], us ++ [u1], rfl, ⟨same_old s4 A.nt, A.nd, A.nt, A.ndl, ?_, A.nl, upd_same, (d4.mono t6).append (.cons (c1.mono t6) .nil), ?_, ?_⟩, rfl⟩
            · simp only [sizes_append, sizes_cons, sizes_nil, T.size]; omega
            · rw [upd_ne A.nl.symm]; exact l4
            · simp only [sizes_append, sizes_cons, sizes_nil]; omega
            · rw [upd_ne A.ndl.symm]
              refine w4.imp (fun z => ⟨z.1, ?_⟩) id
              rw [outL_append, outL_one, ← z.2.1]
              have : (T.lt y b1 b2).out y ↔ b1.out y := by simp [T.out]
              rw [this]
          · exact kidsWay fun b c e => hy (by cases e; exact decide_eq_true rfl)
        · exact iteF (kidsWay fun b c e => hlt (by rw [e]; exact decide_eq_true rfl))
      -- part == ("name", word)
      refine ⟨_, rfl, _, rfl, szl, fun q hq => ?_⟩
      have s4 := same_new (o := .tup [.str "name", .str x]) hq
      have g4 : (upd H3 q (.tup [.str "name", .str x])) q = some (.tup [.str "name", .str x]) := upd_same
      generalize upd H3 q (.tup [.str "name", .str x]) = H4 at s4 g4 ⊢
      refine ⟨p, q, _, _, _, rfl, rfl, SqT.of (s4 _ _ hp3), SqT.of g4, plain_two (k3.mono (tl_same s4)), _, rfl, ?_⟩
      have w4 := w3.imp (fun z => (⟨s4 _ _ z.1, z.2⟩ : H4 dl = some (.lst (due.map V.str)) ∧ _)) fun z => (⟨s4 _ _ z.1, z.2⟩ : H4 dl = some (.lst ((due ++ [x]).map V.str)) ∧ _)
      refine ite2 (fun hn => ?_) (fun hn => ?_)
      · have hn := (is_name k3).mp (of_decide_eq_true hn)
        subst hn
        rcases w4 with ⟨z, zi⟩ | ⟨z, zi⟩
        · refine ⟨_, rfl, _, rfl, dl, _, rfl, .inl (SqL.of z), rfl, flat_strs due, _, rfl, ?_⟩
          rw [inV_strs, decide_eq_false hx]
          refine iteY rfl ?_
          refine ⟨_, rfl, .inl ⟨rfl, _, SqL.of z⟩, _, rfl, dl, _, _, rfl, rfl, z, by rw [List.length_map, sizeLine_eq]; omega, ?_⟩
          rw [show due.map V.str ++ [V.str x] = (due ++ [x]).map V.str by simp]
          have t6 := tl_lst (o := .lst ((due ++ [x]).map V.str)) z
          refine rest _ (same_old (s3.trans s4) A.nd) ?_ ?_ ((d3.mono (tl_same s4)).mono t6) ((e3.mono (tl_same s4)).mono t6) (.inr ⟨upd_same, zi.mp (.inr rfl)⟩)
          · rw [upd_ne hld]; exact s4 _ _ l3
          · rw [upd_ne A.ndl]; exact s4 _ _ t3
        · refine ⟨_, rfl, _, rfl, dl, _, rfl, .inl (SqL.of z), rfl, flat_strs _, _, rfl, ?_⟩
          rw [inV_strs, decide_eq_true (by simp)]
          refine iteN rfl ?_
          exact rest _ (s3.trans s4) (s4 _ _ l3) (s4 _ _ t3) (d3.mono (tl_same s4)) (e3.mono (tl_same s4)) (.inr ⟨z, zi⟩)
      · refine iteF ?_
        have hn : t' ≠ .name x := fun e => hn (decide_eq_true ((is_name k3).mpr e))
        exact rest _ (s3.trans s4) (s4 _ _ l3) (s4 _ _ t3) (d3.mono (tl_same s4)) (e3.mono (tl_same s4)) (w4.imp (fun z => ⟨z.1, z.2, hn⟩) id)
end SW


set_option Elab.async false
set_option linter.all false
set_option maxRecDepth 100000
set_option maxHeartbeats 4000000
namespace SW
open PySem L2
variable {K : PySem.W.Frag} {vs : List V} {H : Hp} {Q : VK} {E : XK}
theorem kit_same (n : String) : PySem.W.kitOne K (.type n) (.type n) = some true := by
  unfold PySem.W.kitOne
  rw [if_pos (beq_self_eq_true _)]
theorem up_snoc {ws : List Str} {x : Str} (h : Up ws) (k : ∀ y ∈ ws, SLt y x) : Up (ws ++ [x]) := by
  refine List.pairwise_append.mpr ⟨h, List.pairwise_singleton _ _, fun y hy z hz => ?_⟩
  rw [List.mem_singleton] at hz
  subst hz
  exact k y hy
theorem up_take {ws : List Str} (h : Up ws) {i : Nat} {x : Str} (hx : ws[i]? = some x) : ∀ y ∈ ws.take i, SLt y x := by
  intro y hy
  obtain ⟨j, hj, rfl⟩ := List.mem_iff_getElem.mp hy
  have hjl : j < i := by rw [List.length_take] at hj; omega
  obtain ⟨hi, rfl⟩ := List.getElem?_eq_some_iff.mp hx
  rw [List.getElem_take]
  exact (List.pairwise_iff_getElem.mp h) j i (by omega) hi hjl
theorem rd_law_rest {a : Addr} {t : T} {v : V} {Hb : Hp} {j2 : Option V} (hd : Den Hb t v) (hsz : t.size ≤ 900) (hnm : t.names.length < 64) (hQ : ∀ H', Q (.bl true) H') :
    (tSeq (tAsg (tLst tNil) (gName 3)) (tSeq (tFor (iList K (tCall spAll [] E0 (tCons (tVar 1) tNil))) (gName 4) (t_law_9 K)) (tSeq (tAsg (tCall spOut [] E0 (tCons (tVar 1) tNil)) (gName 7)) (tSeq (t_law_11 K) (tSeq (tFor (iRng1 (tCons (tCB (cLen K) (tCons (tVar 3) tNil)) tNil)) (gName 8) (t_law_13 K)) (tRet (tC (.bl true)))))))) (fin Q)
      [some (.ref a), some v, j2, none, none, none, none, none, none] Hb := by
  refine ⟨szl, fun dl hdl => ?_⟩
  have s1 := same_new (o := .lst []) hdl
  have g1 : (upd Hb dl (.lst [])) dl = some (.lst []) := upd_same
  generalize upd Hb dl (.lst []) = G1 at s1 g1 ⊢
  refine ⟨_, rfl, t, v, rfl, hd.mono (tl_same s1), hsz, hnm, fun l ws G2 s2 n2 h2 up hlen mem => ⟨l, rfl, ⟨_, SqL.of h2⟩, ?_⟩⟩
  have hld : l ≠ dl := (ne_of_none g1 n2).symm
  refine for_list (K := K) (a := l) (xs := ws.map V.str) (fun i σ H' => ∃ due j4 j5 j6, σ = [some (.ref a), some v, j2, some (.ref dl), j4, j5, j6, none, none] ∧ Same Hb H' ∧ H' l = some (.lst (ws.map V.str)) ∧ H' dl = some (.lst (due.map V.str)) ∧ Up due ∧ due.length ≤ i ∧ ∀ x, x ∈ due ↔ x ∈ ws.take i ∧ t.out x)
    ⟨[], none, none, none, rfl, s1.trans s2, h2, s2 _ _ g1, .nil, Nat.le_refl _, fun x => by simp⟩ (fun i σ H' _ hP => ?_) ?_ ?_
  · obtain ⟨_, _, _, _, _, _, z, _⟩ := hP
    exact SqL.of z
  · rintro i y σ H3 hi ⟨due, j4, j5, j6, rfl, s3, l3, d3, u3, len3, m3⟩
    obtain ⟨x, hx, rfl⟩ : ∃ x, ws[i]? = some x ∧ y = V.str x := by
      rw [List.getElem?_map] at hi
      cases e : ws[i]? with
      | none => rw [e] at hi; cases hi
      | some z => rw [e] at hi; exact ⟨z, rfl, (Option.some.inj hi).symm⟩
    have hil : i < ws.length := (List.getElem?_eq_some_iff.mp hx).1
    have hxt := up_take up hx
    have hnx : x ∉ due := fun z => SLt.irrefl x (hxt x ((m3 x).mp z).1)
    have htk : ∀ y, y ∈ ws.take (i + 1) ↔ y ∈ ws.take i ∨ y = x := fun y => by rw [List.take_add_one, hx]; simp
    refine rd_law_look hsz hd s3 hdl d3 l3 hld hnx (by omega) fun H4 j5 j6 hL => ?_
    obtain ⟨s4, l4, w4⟩ := hL
    rcases w4 with ⟨d4, no⟩ | ⟨d4, yes⟩
    · refine ⟨due, _, _, _, rfl, s4, l4, d4, u3, by omega, fun y => ?_⟩
      rw [m3 y, htk y]
      constructor
      · exact fun z => ⟨.inl z.1, z.2⟩
      · rintro ⟨z | rfl, o⟩
        · exact ⟨z, o⟩
        · exact (no o).elim
    · refine ⟨due ++ [x], _, _, _, rfl, s4, l4, d4, up_snoc u3 fun y hy => hxt y ((m3 y).mp hy).1, by simp; omega, fun y => ?_⟩
      rw [List.mem_append, List.mem_singleton, m3 y, htk y]
      constructor
      · rintro (z | rfl)
        · exact ⟨.inl z.1, z.2⟩
        · exact ⟨.inr rfl, yes⟩
      · rintro ⟨z | rfl, o⟩
        · exact .inl ⟨z, o⟩
        · exact .inr rfl
  · rintro σ H3 ⟨due, j4, j5, j6, rfl, s3, l3, d3, u3, len3, m3⟩
    rw [List.length_map] at len3 m3
    refine ⟨_, rfl, t, v, rfl, hd.mono (tl_same s3), hsz, hnm, fun l2 ws2 H4 s4 n4 h4 up2 mem2 => ?_⟩
    have e : ws2 = due := up_uniq up2 u3 fun x => by
      rw [mem2 x, m3 x, List.take_length]
      exact ⟨fun o => ⟨(mem x).mpr (T.out_occ o), o⟩, fun z => z.2⟩
    subst e
    have d4 := s4 _ _ d3
    refine ⟨_, rfl, _, _, _, true, rfl, .lst h4, kit_same _, _, rfl, ?_⟩
    refine iteF ?_
    refine ⟨_, rfl, l2, _, rfl, .inl (SqL.of h4), _, rfl, dl, _, rfl, .inl (SqL.of d4), rfl, _, rfl, ?_⟩
    refine iteN (by simp) ?_
    refine ⟨_, rfl, dl, _, rfl, .inl (SqL.of d4), _, rfl, ?_, ?_, ?_⟩
    · have : (0 : Int) ≤ ((ws2.map V.str).length : Int) := Int.natCast_nonneg _
      have e : (2 : Int) ^ 62 = 4611686018427387904 := by decide
      rw [e]; omega
    · have e : (2 : Int) ^ 62 = 4611686018427387904 := by decide
      rw [e, List.length_map]; omega
    · refine for_range (n := ((ws2.map V.str).length : Int).toNat) (fun i σ H' => H' = H4 ∧ ∃ j8, σ = [some (.ref a), some v, j2, some (.ref dl), j4, j5, j6, some (.ref l2), j8]) ⟨rfl, none, rfl⟩ ?_ ?_
      · rintro i σ H5 hi ⟨rfl, j8, rfl⟩
        rw [List.length_map, Int.toNat_natCast] at hi
        have hx : (ws2.map V.str)[i]? = some (.str ws2[i]) := by rw [List.getElem?_map, List.getElem?_eq_getElem hi]; rfl
        have hx0 : atI (ws2.map V.str) (0 + (i : Int)) = some (.str ws2[i]) := by rw [Int.zero_add]; exact atI_nat hx
        refine ⟨_, rfl, _, rfl, l2, _, _, _, rfl, rfl, SqL.of h4, hx0, _, _, _, true, rfl, .str _, kit_same _, _, rfl, ?_⟩
        refine iteF ?_
        refine ⟨_, rfl, _, rfl, l2, _, _, _, rfl, rfl, SqL.of h4, hx0, _, rfl, _, rfl, dl, _, _, _, rfl, rfl, SqL.of d4, hx0, rfl, _, rfl, ?_⟩
        refine iteN (by simp) ⟨rfl, _, rfl⟩
      · rintro σ H5 ⟨rfl, j8, rfl⟩
        exact hQ _
theorem rd_law (h : spLaw K vs H Q E) : t_law K (fin Q) (start ["_law_script", "_law_piece", "_law_inner", "_law_due", "_law_word", "_law_todo", "_law_part", "_law_found", "_law_k"] vs) H := by
  obtain ⟨a, ns, rfl, ha, hl, hQ⟩ := h
  have hl' : (ns.map V.int).length ≤ 63 := by rw [List.length_map]; exact hl
  obtain ⟨ms, em, hms⟩ := cut_ints ns
  refine ⟨_, rfl, _, rfl, _, rfl, a, _, _, _, rfl, ha, hl', _, _, rfl, rfl, _, rfl, a, _, rfl, ha, fun q hq => ?_⟩
  refine ⟨q, ms, rfl, SqL.of (by rw [upd_same, em]), by omega, fun t v H1 s1 d w hsz hnm => ?_⟩
  have sA := (same_new (o := .lst (cutV (ns.map V.int) (some 1) (some (1 + 40)))) hq).trans s1
  refine ⟨_, rfl, a, _, rfl, .inl (sA.seq ha), _, _, rfl, rfl, (show (0 : Int) < 3 by decide), rfl, _, rfl, ?_⟩
  refine ite2 (fun _ => ?_) (fun _ => ?_)
  · refine ⟨_, rfl, szl, fun q1 h1 => ⟨szl, fun q2 h2 => ⟨szl, fun q3 h3 => ⟨szl, fun q4 h4 => ?_⟩⟩⟩⟩
    have s2 := same_new (o := .tup [.str "name", .str "sob"]) h1
    have g2 : (upd H1 q1 (.tup [.str "name", .str "sob"])) q1 = some (.tup [.str "name", .str "sob"]) := upd_same
    generalize upd H1 q1 (.tup [.str "name", .str "sob"]) = G2 at *
    have s3 := same_new (o := .tup [.str "name", .str "sat"]) h2
    have g3 : (upd G2 q2 (.tup [.str "name", .str "sat"])) q2 = some (.tup [.str "name", .str "sat"]) := upd_same
    generalize upd G2 q2 (.tup [.str "name", .str "sat"]) = G3 at *
    have s4 := same_new (o := .tup [.str "sum", .ref q1, .ref q2]) h3
    have g4 : (upd G3 q3 (.tup [.str "sum", .ref q1, .ref q2])) q3 = some (.tup [.str "sum", .ref q1, .ref q2]) := upd_same
    generalize upd G3 q3 (.tup [.str "sum", .ref q1, .ref q2]) = G4 at *
    have s5 := same_new (o := .tup [.str "let", .str "sat", v, .ref q3]) h4
    have g5 : (upd G4 q4 (.tup [.str "let", .str "sat", v, .ref q3])) q4 = some (.tup [.str "let", .str "sat", v, .ref q3]) := upd_same
    generalize upd G4 q4 (.tup [.str "let", .str "sat", v, .ref q3]) = G5 at *
    refine ⟨szl, fun q5 h5 => ⟨_, rfl, szl, fun q6 h6 => ?_⟩⟩
    have s6 := same_new (o := .tup [.str "number", .int 1]) h5
    have g6 : (upd G5 q5 (.tup [.str "number", .int 1])) q5 = some (.tup [.str "number", .int 1]) := upd_same
    generalize upd G5 q5 (.tup [.str "number", .int 1]) = G6 at *
    have s7 := same_new (o := .tup [.str "let", .str "sob", .ref q5, .ref q4]) h6
    have g7 : (upd G6 q6 (.tup [.str "let", .str "sob", .ref q5, .ref q4])) q6 = some (.tup [.str "let", .str "sob", .ref q5, .ref q4]) := upd_same
    generalize upd G6 q6 (.tup [.str "let", .str "sob", .ref q5, .ref q4]) = G7 at *
    have s47 := s5.trans (s6.trans s7)
    have s37 := s4.trans s47
    have s27 := s3.trans s37
    have s17 := s2.trans s27
    have dn : Den G7 (.lt "sob" (.num 1) (.lt "sat" t (.sum (.name "sob") (.name "sat")))) (.ref q6) :=
      ⟨q6, _, _, rfl, g7, ⟨q5, rfl, s7 _ _ g6⟩, q4, _, _, rfl, s7 _ _ (s6 _ _ g5), d.mono (tl_same s17), q3, _, _, rfl, s47 _ _ g4, ⟨q1, rfl, s27 _ _ g2⟩, ⟨q2, rfl, s37 _ _ g3⟩⟩
    refine rd_law_rest dn ?_ ?_ hQ
    · simp only [T.size]; omega
    · simp only [T.names, List.length_append, List.length_cons, List.length_nil]; omega
  · exact rd_law_rest d (by omega) (by omega) hQ
end SW


set_option Elab.async false
set_option linter.all false
set_option maxRecDepth 100000
set_option maxHeartbeats 4000000
namespace K2
open PySem L2 SW
def top (i : Nat) : Stmt := PySem.Challenge.pw_stampword_k02_outside_names.main.body.getD i (.Pass ⟨0, 0, 0, 0⟩)
structure Adr where
  a__law_any : Addr
  a__law_any_word : Addr
  a__law_room : Addr
  a_with_word : Addr
  a_parts : Addr
  a__law_inside : Addr
  a_pieces_with_lets : Addr
  a_outside_names : Addr
  a__law_drawn_piece : Addr
  a__law_drawn_main : Addr
  a__law_all_names : Addr
structure Txt (mg : Str → Option Value) (a : Adr) : Prop where
  n_abs : mg "abs" = none
  n_len : mg "len" = none
  n_dict : mg "dict" = none
  n_int : mg "int" = none
  n_list : mg "list" = none
  n_sorted : mg "sorted" = none
  n_min : mg "min" = none
  n_tuple : mg "tuple" = none
  n_isinstance : mg "isinstance" = none
  n_range : mg "range" = none
  n_str : mg "str" = none
  g__law_any : mg "_law_any" = some (.ref a.a__law_any)
  g__law_any_word : mg "_law_any_word" = some (.ref a.a__law_any_word)
  g__law_room : mg "_law_room" = some (.ref a.a__law_room)
  g_with_word : mg "with_word" = some (.ref a.a_with_word)
  g_parts : mg "parts" = some (.ref a.a_parts)
  g__law_inside : mg "_law_inside" = some (.ref a.a__law_inside)
  g_pieces_with_lets : mg "pieces_with_lets" = some (.ref a.a_pieces_with_lets)
  g_outside_names : mg "outside_names" = some (.ref a.a_outside_names)
  g__law_drawn_piece : mg "_law_drawn_piece" = some (.ref a.a__law_drawn_piece)
  g__law_drawn_main : mg "_law_drawn_main" = some (.ref a.a__law_drawn_main)
  g__law_all_names : mg "_law_all_names" = some (.ref a.a__law_all_names)
section
variable {P : Program} {w : World} {K : PySem.W.Frag} {mg : Str → Option Value} {base : Heap} {a : Adr} {f : Addr} {fd : FuncData}
theorem sc_any : FnScope ["_law_cell", "_law_size"] ["_law_cell"] (defScope (top 10)) := ⟨rfl, rfl, rfl, by decide +kernel, rfl, by decide +kernel, by decide +kernel⟩
theorem ok_any (F : Fun K "_law_any" "_law_any" (top 10) f fd) (T : Txt mg a) : FnOk P w K mg base CX0 1 f fd ["_law_cell"] spAny := by
  refine F.ok sc_any (fun vs H Q E h => ?_) (fun cdv A outer s H vs Q E hr h => ⟨t_any K, ?_, rd_any h⟩)
  · obtain ⟨c, rfl, _⟩ := h
    rfl
  have nd := sc_any.nd
  have hu := hu_of hr
  have hu0 := hr.units0
  have p0 : ∀ {pos : Pos}, PE ((cxOf CX0 P w K mg base ["_law_cell", "_law_size"] "_law_any" (defScope (top 10)) f cdv A outer s H E).nox) (.Name "_law_cell" pos) (tVar 0) := fun {pos} => pv 0
  have p1 : ∀ {pos : Pos}, PE ((cxOf CX0 P w K mg base ["_law_cell", "_law_size"] "_law_any" (defScope (top 10)) f cdv A outer s H E).nox) (.Name "_law_size" pos) (tVar 1) := fun {pos} => pv 1
  have l1 : Loc (((cxOf CX0 P w K mg base ["_law_cell", "_law_size"] "_law_any" (defScope (top 10)) f cdv A outer s H E).nox)).env.scope "_law_size" := Or.inl rfl
  have g1 : ∀ {pos : Pos}, PG ((cxOf CX0 P w K mg base ["_law_cell", "_law_size"] "_law_any" (defScope (top 10)) f cdv A outer s H E).nox) (.Name "_law_size" pos) (gName 1) := fun {pos} => pg_name (i := 1) nd rfl l1
  exact (pss_cons (ps_set (i := 1) nd rfl l1 (pe_op op_mod (pe_op op_fdiv p0 pe_int) (pe_op op_pow pe_int pe_int))) (pss_one (ps_ret (pe_op op_mul p1 (pe_ix ix_list (pe_lst (pa_cons pe_int (pa_cons (pe_un un_neg pe_int) pa_nil))) (pe_op op_mod p0 pe_int) (fun _ _ => rfl))))))
theorem sc_aw : FnScope ["_law_cell", "_law_left", "_law_word"] ["_law_cell"] (defScope (top 9)) := ⟨rfl, rfl, rfl, by decide +kernel, rfl, by decide +kernel, by decide +kernel⟩
theorem ok_aw (F : Fun K "_law_any_word" "_law_any_word" (top 9) f fd) (T : Txt mg a) : FnOk P w K mg base CX0 1 f fd ["_law_cell"] spWord := by
  refine F.ok sc_aw (fun vs H Q E h => ?_) (fun cdv A outer s H vs Q E hr h => ⟨t_aw K, ?_, rd_aw h⟩)
  · obtain ⟨c, rfl, _⟩ := h
    rfl
  have nd := sc_aw.nd
  have hu := hu_of hr
  have hu0 := hr.units0
  have p0 : ∀ {pos : Pos}, PE ((cxOf CX0 P w K mg base ["_law_cell", "_law_left", "_law_word"] "_law_any_word" (defScope (top 9)) f cdv A outer s H E).nox) (.Name "_law_cell" pos) (tVar 0) := fun {pos} => pv 0
  have p1 : ∀ {pos : Pos}, PE ((cxOf CX0 P w K mg base ["_law_cell", "_law_left", "_law_word"] "_law_any_word" (defScope (top 9)) f cdv A outer s H E).nox) (.Name "_law_left" pos) (tVar 1) := fun {pos} => pv 1
  have p2 : ∀ {pos : Pos}, PE ((cxOf CX0 P w K mg base ["_law_cell", "_law_left", "_law_word"] "_law_any_word" (defScope (top 9)) f cdv A outer s H E).nox) (.Name "_law_word" pos) (tVar 2) := fun {pos} => pv 2
  have l1 : Loc (((cxOf CX0 P w K mg base ["_law_cell", "_law_left", "_law_word"] "_law_any_word" (defScope (top 9)) f cdv A outer s H E).nox)).env.scope "_law_left" := Or.inl rfl
  have g1 : ∀ {pos : Pos}, PG ((cxOf CX0 P w K mg base ["_law_cell", "_law_left", "_law_word"] "_law_any_word" (defScope (top 9)) f cdv A outer s H E).nox) (.Name "_law_left" pos) (gName 1) := fun {pos} => pg_name (i := 1) nd rfl l1
  have l2 : Loc (((cxOf CX0 P w K mg base ["_law_cell", "_law_left", "_law_word"] "_law_any_word" (defScope (top 9)) f cdv A outer s H E).nox)).env.scope "_law_word" := Or.inl rfl
  have g2 : ∀ {pos : Pos}, PG ((cxOf CX0 P w K mg base ["_law_cell", "_law_left", "_law_word"] "_law_any_word" (defScope (top 9)) f cdv A outer s H E).nox) (.Name "_law_word" pos) (gName 2) := fun {pos} => pg_name (i := 2) nd rfl l2
  have k_abs : Gl ((cxOf CX0 P w K mg base ["_law_cell", "_law_left", "_law_word"] "_law_any_word" (defScope (top 9)) f cdv A outer s H E).nox) "abs" := by rfl
  exact (pss_cons (ps_set (i := 1) nd rfl l1 (pe_op op_mod (pe_callB call_abs k_abs T.n_abs bo_abs (pa_cons p0 pa_nil)) (pe_op op_pow pe_int pe_int))) (pss_cons (ps_set (i := 2) nd rfl l2 pe_str) (pss_cons (ps_while PassesOwn.never (pt_cmpR op_ge p1 pe_int (nomark _)) (pss_cons (ps_set (i := 2) nd rfl l2 (pe_op op_add_str (pe_ix ix_str pe_str (pe_op op_mod p1 pe_int) (fun _ _ => rfl)) p2)) (pss_one (ps_set (i := 1) nd rfl l1 (pe_op op_sub (pe_op op_fdiv p1 pe_int) pe_int))))) (pss_one (ps_ret p2)))))
theorem sc_room : FnScope ["_law_script", "_law_most", "_law_bound"] ["_law_script", "_law_most", "_law_bound"] (defScope (top 11)) := ⟨rfl, rfl, rfl, by decide +kernel, rfl, by decide +kernel, by decide +kernel⟩
theorem ok_room (F : Fun K "_law_room" "_law_room" (top 11) f fd) (T : Txt mg a) : FnOk P w K mg base CX0 1 f fd ["_law_script", "_law_most", "_law_bound"] (spRoom K) := by
  refine F.ok sc_room (fun vs H Q E h => ?_) (fun cdv A outer s H vs Q E hr h => ⟨t_room K, ?_, rd_room h⟩)
  · obtain ⟨a, b, c, d, rfl, _⟩ := h
    rfl
  have nd := sc_room.nd
  have hu := hu_of hr
  have hu0 := hr.units0
  have p0 : ∀ {pos : Pos}, PE ((cxOf CX0 P w K mg base ["_law_script", "_law_most", "_law_bound"] "_law_room" (defScope (top 11)) f cdv A outer s H E).nox) (.Name "_law_script" pos) (tVar 0) := fun {pos} => pv 0
  have p1 : ∀ {pos : Pos}, PE ((cxOf CX0 P w K mg base ["_law_script", "_law_most", "_law_bound"] "_law_room" (defScope (top 11)) f cdv A outer s H E).nox) (.Name "_law_most" pos) (tVar 1) := fun {pos} => pv 1
  have p2 : ∀ {pos : Pos}, PE ((cxOf CX0 P w K mg base ["_law_script", "_law_most", "_law_bound"] "_law_room" (defScope (top 11)) f cdv A outer s H E).nox) (.Name "_law_bound" pos) (tVar 2) := fun {pos} => pv 2
  have k_len : Gl ((cxOf CX0 P w K mg base ["_law_script", "_law_most", "_law_bound"] "_law_room" (defScope (top 11)) f cdv A outer s H E).nox) "len" := by rfl
  exact (pss_cons (ps_if (pt_cmpR op_gt (pe_callB call_len_seq k_len T.n_len bo_len (pa_cons p0 pa_nil)) pe_int (nomark _)) (pss_one (ps_ret p2)) pss_nil) (pss_one (ps_ret p1)))
theorem sc_ww : FnScope ["words", "word", "value", "more"] ["words", "word", "value"] (defScope (top 2)) := ⟨rfl, rfl, rfl, by decide +kernel, rfl, by decide +kernel, by decide +kernel⟩
theorem ok_ww (F : Fun K "with_word" "with_word" (top 2) f fd) (T : Txt mg a) : FnOk P w K mg base CX0 1 f fd ["words", "word", "value"] spWithWord := by
  refine F.ok sc_ww (fun vs H Q E h => ?_) (fun cdv A outer s H vs Q E hr h => ⟨t_ww K, ?_, rd_ww h⟩)
  · obtain ⟨a, b, c, d, rfl, _⟩ := h
    rfl
  have nd := sc_ww.nd
  have hu := hu_of hr
  have hu0 := hr.units0
  have p0 : ∀ {pos : Pos}, PE ((cxOf CX0 P w K mg base ["words", "word", "value", "more"] "with_word" (defScope (top 2)) f cdv A outer s H E).nox) (.Name "words" pos) (tVar 0) := fun {pos} => pv 0
  have p1 : ∀ {pos : Pos}, PE ((cxOf CX0 P w K mg base ["words", "word", "value", "more"] "with_word" (defScope (top 2)) f cdv A outer s H E).nox) (.Name "word" pos) (tVar 1) := fun {pos} => pv 1
  have p2 : ∀ {pos : Pos}, PE ((cxOf CX0 P w K mg base ["words", "word", "value", "more"] "with_word" (defScope (top 2)) f cdv A outer s H E).nox) (.Name "value" pos) (tVar 2) := fun {pos} => pv 2
  have p3 : ∀ {pos : Pos}, PE ((cxOf CX0 P w K mg base ["words", "word", "value", "more"] "with_word" (defScope (top 2)) f cdv A outer s H E).nox) (.Name "more" pos) (tVar 3) := fun {pos} => pv 3
  have l3 : Loc (((cxOf CX0 P w K mg base ["words", "word", "value", "more"] "with_word" (defScope (top 2)) f cdv A outer s H E).nox)).env.scope "more" := Or.inl rfl
  have g3 : ∀ {pos : Pos}, PG ((cxOf CX0 P w K mg base ["words", "word", "value", "more"] "with_word" (defScope (top 2)) f cdv A outer s H E).nox) (.Name "more" pos) (gName 3) := fun {pos} => pg_name (i := 3) nd rfl l3
  have k_dict : Gl ((cxOf CX0 P w K mg base ["words", "word", "value", "more"] "with_word" (defScope (top 2)) f cdv A outer s H E).nox) "dict" := by rfl
  exact (pss_cons (ps_set (i := 3) nd rfl l3 (pe_callTy call_dictD k_dict T.n_dict bo_dict (pa_cons p0 pa_nil))) (pss_cons (ps_dput hu p3 p1 p2 rfl) (pss_one (ps_ret p3))))
theorem sc_parts : FnScope ["piece", "kind"] ["piece"] (defScope (top 1)) := ⟨rfl, rfl, rfl, by decide +kernel, rfl, by decide +kernel, by decide +kernel⟩
theorem ok_parts (F : Fun K "parts" "parts" (top 1) f fd) (T : Txt mg a) : FnOk P w K mg base CX0 1 f fd ["piece"] spParts := by
  refine F.ok sc_parts (fun vs H Q E h => ?_) (fun cdv A outer s H vs Q E hr h => ⟨t_parts K, ?_, rd_parts h⟩)
  · obtain ⟨a, b, rfl, _⟩ := h
    rfl
  have nd := sc_parts.nd
  have hu := hu_of hr
  have hu0 := hr.units0
  have p0 : ∀ {pos : Pos}, PE ((cxOf CX0 P w K mg base ["piece", "kind"] "parts" (defScope (top 1)) f cdv A outer s H E).nox) (.Name "piece" pos) (tVar 0) := fun {pos} => pv 0
  have p1 : ∀ {pos : Pos}, PE ((cxOf CX0 P w K mg base ["piece", "kind"] "parts" (defScope (top 1)) f cdv A outer s H E).nox) (.Name "kind" pos) (tVar 1) := fun {pos} => pv 1
  have l1 : Loc (((cxOf CX0 P w K mg base ["piece", "kind"] "parts" (defScope (top 1)) f cdv A outer s H E).nox)).env.scope "kind" := Or.inl rfl
  have g1 : ∀ {pos : Pos}, PG ((cxOf CX0 P w K mg base ["piece", "kind"] "parts" (defScope (top 1)) f cdv A outer s H E).nox) (.Name "kind" pos) (gName 1) := fun {pos} => pg_name (i := 1) nd rfl l1
  exact (pss_cons (ps_set (i := 1) nd rfl l1 (pe_ix ix_tup p0 pe_int (fun _ _ => rfl))) (pss_cons (ps_if (pw_or (pt_cmpR op_eq p1 pe_str (nomark _)) (pw_or1 (pt_cmpR op_eq p1 pe_str (nomark _)))).pt (pss_one (ps_ret (pe_tup pa_nil))) pss_nil) (pss_cons (ps_if (pw_or (pt_cmpR op_eq p1 pe_str (nomark _)) (pw_or1 (pt_cmpR op_eq p1 pe_str (nomark _)))).pt (pss_one (ps_ret (pe_slice sl_tup p0 (po_some pe_int) po_none))) pss_nil) (pss_one (ps_ret (pe_slice sl_tup p0 (po_some pe_int) po_none))))))
theorem sc_ins : FnScope ["_law_piece"] ["_law_piece"] (defScope (top 7)) := ⟨rfl, rfl, rfl, by decide +kernel, rfl, by decide +kernel, by decide +kernel⟩
theorem ok_ins (F : Fun K "_law_inside" "_law_inside" (top 7) f fd) (T : Txt mg a) : FnOk P w K mg base CX0 1 f fd ["_law_piece"] spInside := by
  refine F.ok sc_ins (fun vs H Q E h => ?_) (fun cdv A outer s H vs Q E hr h => ⟨t_ins K, ?_, rd_ins h⟩)
  · obtain ⟨a, b, rfl, _⟩ := h
    rfl
  have nd := sc_ins.nd
  have hu := hu_of hr
  have hu0 := hr.units0
  have p0 : ∀ {pos : Pos}, PE ((cxOf CX0 P w K mg base ["_law_piece"] "_law_inside" (defScope (top 7)) f cdv A outer s H E).nox) (.Name "_law_piece" pos) (tVar 0) := fun {pos} => pv 0
  have k_int : Gl ((cxOf CX0 P w K mg base ["_law_piece"] "_law_inside" (defScope (top 7)) f cdv A outer s H E).nox) "int" := by rfl
  have k_list : Gl ((cxOf CX0 P w K mg base ["_law_piece"] "_law_inside" (defScope (top 7)) f cdv A outer s H E).nox) "list" := by rfl
  exact (pss_cons (ps_if (pt_cmpR op_in_seq (pe_ix ix_tup p0 pe_int (fun _ _ => rfl)) (pe_lst (pa_cons pe_str (pa_cons pe_str pa_nil))) (by with_unfolding_all rfl)) (pss_one (ps_ret (pe_lst pa_nil))) pss_nil) (pss_one (ps_ret (pe_callTy call_list_of k_list T.n_list bo_list (pa_cons (pe_slice sl_tup p0 (po_some (pe_op op_add pe_int (pe_callTy call_int1 k_int T.n_int bo_int (pa_cons (pe_cmpR op_in_seq (pe_ix ix_tup p0 pe_int (fun _ _ => rfl)) (pe_lst (pa_cons pe_str (pa_cons pe_str pa_nil))) (by with_unfolding_all rfl)) pa_nil)))) po_none) pa_nil)))))
theorem sc_pwl : FnScope ["piece", "lets"] ["piece", "lets"] (defScope (top 3)) := ⟨rfl, rfl, rfl, by decide +kernel, rfl, by decide +kernel, by decide +kernel⟩
def lcScope (s : Stmt) : Scope := match defBody s with
  | [_, .Return (some (.ListComp _ _ sc _)) _] => sc
  | _ => defScope s
theorem lc_pwl {cdv : Value} {A : Around} {outer : List Env} {s : Shared} {H : Hp} {E : XK} : CompSc (cxOf CX0 P w K mg base ["piece", "lets"] "pieces_with_lets" (defScope (top 3)) f cdv A outer s H E).nox (lcScope (top 3)) [("lets", s.heap.objs.size + 1)] "part" ["lets"] [1] where
  clos := rfl
  ncell := by decide +kernel
  kind := rfl
  names := by decide +kernel
  loc := rfl
  cells := fun y c h => h
  has := fun y h => by
    have e : (relabel (lcScope (top 3)) (cxOf CX0 P w K mg base ["piece", "lets"] "pieces_with_lets" (defScope (top 3)) f cdv A outer s H E).nox.env).names = ([((".0" : Str), NameKind.local), (("part" : Str), NameKind.local), (("lets" : Str), NameKind.cell)] : List (Str × NameKind)) := rfl
    rw [e] at h
    by_cases e1 : y = "lets"
    · subst e1; exact ⟨_, rfl⟩
    · exfalso
      have q1 : (y == ("lets" : Str)) = false := beq_eq_false_iff_ne.mpr e1
      by_cases e2 : y = ".0"
      · subst e2; revert h; decide +kernel
      · by_cases e3 : y = "part"
        · subst e3; revert h; decide +kernel
        · have q2 : (y == (".0" : Str)) = false := beq_eq_false_iff_ne.mpr e2
          have q3 : (y == ("part" : Str)) = false := beq_eq_false_iff_ne.mpr e3
          simp [List.lookup, q1, q2, q3] at h
  nd := by decide +kernel
  free := fun k y hy => by
    cases k with
    | zero =>
      have : y = "lets" := (Option.some.inj hy).symm
      subst this
      exact ⟨1, rfl, rfl, rfl, .inl rfl⟩
    | succ k => simp at hy
  len := rfl
theorem ok_pwl (F : Fun K "pieces_with_lets" "pieces_with_lets" (top 3) f fd) (T : Txt mg a)
    {fd_with_word : FuncData} (G_with_word : FnOk P w K mg base CX0 1 a.a_with_word fd_with_word ["words", "word", "value"] spWithWord) (F_with_word : Fun K "with_word" "with_word" (top 2) a.a_with_word fd_with_word) (b_with_word : Binds K fd_with_word ["words", "word", "value"] [])
    {fd_parts : FuncData} (G_parts : FnOk P w K mg base CX0 1 a.a_parts fd_parts ["piece"] spParts) (F_parts : Fun K "parts" "parts" (top 1) a.a_parts fd_parts) (b_parts : Binds K fd_parts ["piece"] []) : FnOk P w K mg base CX0 2 f fd ["piece", "lets"] spPwl := by
  refine F.ok sc_pwl (fun vs H Q E h => ?_) (fun cdv A outer s H vs Q E hr h => ⟨t_pwl K, ?_, rd_pwl h⟩)
  · obtain ⟨a, b, c, d, rfl, _⟩ := h
    rfl
  have nd := sc_pwl.nd
  have hu := hu_of hr
  have hu0 := hr.units0
  have p0 : ∀ {pos : Pos}, PE ((cxOf CX0 P w K mg base ["piece", "lets"] "pieces_with_lets" (defScope (top 3)) f cdv A outer s H E).nox) (.Name "piece" pos) (tVar 0) := fun {pos} => pv 0
  have p1 : ∀ {pos : Pos}, PE ((cxOf CX0 P w K mg base ["piece", "lets"] "pieces_with_lets" (defScope (top 3)) f cdv A outer s H E).nox) (.Name "lets" pos) (tVar 1) := fun {pos} => pv 1
  have k_with_word : Gl ((cxOf CX0 P w K mg base ["piece", "lets"] "pieces_with_lets" (defScope (top 3)) f cdv A outer s H E).nox) "with_word" := by rfl
  have k_parts : Gl ((cxOf CX0 P w K mg base ["piece", "lets"] "pieces_with_lets" (defScope (top 3)) f cdv A outer s H E).nox) "parts" := by rfl
  have LS : CompSc (cxOf CX0 P w K mg base ["piece", "lets"] "pieces_with_lets" (defScope (top 3)) f cdv A outer s H E).nox (lcScope (top 3)) [("lets", s.heap.objs.size + 1)] "part" ["lets"] [1] := lc_pwl
  exact (pss_cons (ps_if (pt_cmpR op_eq (pe_ix ix_tup p0 pe_int (fun _ _ => rfl)) pe_str (nomark _)) (pss_one (ps_ret (pe_lst (pa_cons (pe_tup (pa_cons (pe_ix ix_tup p0 pe_int (fun _ _ => rfl)) (pa_cons (pe_call G_with_word (hr.mono (by decide)) k_with_word T.g_with_word F_with_word.kp b_with_word .nil pass0 (pa_cons p1 (pa_cons (pe_ix ix_tup p0 pe_int (fun _ _ => rfl)) (pa_cons pe_bl pa_nil)))) pa_nil))) (pa_cons (pe_tup (pa_cons (pe_ix ix_tup p0 pe_int (fun _ _ => rfl)) (pa_cons p1 pa_nil))) pa_nil))))) pss_nil) (pss_one (ps_ret (pe_lc rfl LS (pi_tup (pe_call G_parts (hr.mono (by decide)) k_parts T.g_parts F_parts.kp b_parts .nil pass0 (pa_cons p0 pa_nil))) (fun fp s H C => (pe_tup (pa_cons (pv 0) (pa_cons (pv 1) pa_nil))))))))
theorem sc_out : FnScope ["piece", "found", "waiting", "pair", "current", "lets"] ["piece"] (defScope (top 4)) := ⟨rfl, rfl, rfl, by decide +kernel, rfl, by decide +kernel, by decide +kernel⟩
theorem ok_out (F : Fun K "outside_names" "outside_names" (top 4) f fd) (T : Txt mg a)
    {fd_pieces_with_lets : FuncData} (G_pieces_with_lets : FnOk P w K mg base CX0 2 a.a_pieces_with_lets fd_pieces_with_lets ["piece", "lets"] spPwl) (F_pieces_with_lets : Fun K "pieces_with_lets" "pieces_with_lets" (top 3) a.a_pieces_with_lets fd_pieces_with_lets) (b_pieces_with_lets : Binds K fd_pieces_with_lets ["piece", "lets"] []) : FnOk P w K mg base CX0 3 f fd ["piece"] spOut := by
  refine F.ok sc_out (fun vs H Q E h => ?_) (fun cdv A outer s H vs Q E hr h => ⟨t_out K, ?_, rd_out h⟩)
  · obtain ⟨a, b, rfl, _⟩ := h
    rfl
  have nd := sc_out.nd
  have hu := hu_of hr
  have hu0 := hr.units0
  have p0 : ∀ {pos : Pos}, PE ((cxOf CX0 P w K mg base ["piece", "found", "waiting", "pair", "current", "lets"] "outside_names" (defScope (top 4)) f cdv A outer s H E).nox) (.Name "piece" pos) (tVar 0) := fun {pos} => pv 0
  have p1 : ∀ {pos : Pos}, PE ((cxOf CX0 P w K mg base ["piece", "found", "waiting", "pair", "current", "lets"] "outside_names" (defScope (top 4)) f cdv A outer s H E).nox) (.Name "found" pos) (tVar 1) := fun {pos} => pv 1
  have p2 : ∀ {pos : Pos}, PE ((cxOf CX0 P w K mg base ["piece", "found", "waiting", "pair", "current", "lets"] "outside_names" (defScope (top 4)) f cdv A outer s H E).nox) (.Name "waiting" pos) (tVar 2) := fun {pos} => pv 2
  have p3 : ∀ {pos : Pos}, PE ((cxOf CX0 P w K mg base ["piece", "found", "waiting", "pair", "current", "lets"] "outside_names" (defScope (top 4)) f cdv A outer s H E).nox) (.Name "pair" pos) (tVar 3) := fun {pos} => pv 3
  have p4 : ∀ {pos : Pos}, PE ((cxOf CX0 P w K mg base ["piece", "found", "waiting", "pair", "current", "lets"] "outside_names" (defScope (top 4)) f cdv A outer s H E).nox) (.Name "current" pos) (tVar 4) := fun {pos} => pv 4
  have p5 : ∀ {pos : Pos}, PE ((cxOf CX0 P w K mg base ["piece", "found", "waiting", "pair", "current", "lets"] "outside_names" (defScope (top 4)) f cdv A outer s H E).nox) (.Name "lets" pos) (tVar 5) := fun {pos} => pv 5
  have l1 : Loc (((cxOf CX0 P w K mg base ["piece", "found", "waiting", "pair", "current", "lets"] "outside_names" (defScope (top 4)) f cdv A outer s H E).nox)).env.scope "found" := Or.inl rfl
  have g1 : ∀ {pos : Pos}, PG ((cxOf CX0 P w K mg base ["piece", "found", "waiting", "pair", "current", "lets"] "outside_names" (defScope (top 4)) f cdv A outer s H E).nox) (.Name "found" pos) (gName 1) := fun {pos} => pg_name (i := 1) nd rfl l1
  have l2 : Loc (((cxOf CX0 P w K mg base ["piece", "found", "waiting", "pair", "current", "lets"] "outside_names" (defScope (top 4)) f cdv A outer s H E).nox)).env.scope "waiting" := Or.inl rfl
  have g2 : ∀ {pos : Pos}, PG ((cxOf CX0 P w K mg base ["piece", "found", "waiting", "pair", "current", "lets"] "outside_names" (defScope (top 4)) f cdv A outer s H E).nox) (.Name "waiting" pos) (gName 2) := fun {pos} => pg_name (i := 2) nd rfl l2
  have l3 : Loc (((cxOf CX0 P w K mg base ["piece", "found", "waiting", "pair", "current", "lets"] "outside_names" (defScope (top 4)) f cdv A outer s H E).nox)).env.scope "pair" := Or.inl rfl
  have g3 : ∀ {pos : Pos}, PG ((cxOf CX0 P w K mg base ["piece", "found", "waiting", "pair", "current", "lets"] "outside_names" (defScope (top 4)) f cdv A outer s H E).nox) (.Name "pair" pos) (gName 3) := fun {pos} => pg_name (i := 3) nd rfl l3
  have l4 : Loc (((cxOf CX0 P w K mg base ["piece", "found", "waiting", "pair", "current", "lets"] "outside_names" (defScope (top 4)) f cdv A outer s H E).nox)).env.scope "current" := Or.inl rfl
  have g4 : ∀ {pos : Pos}, PG ((cxOf CX0 P w K mg base ["piece", "found", "waiting", "pair", "current", "lets"] "outside_names" (defScope (top 4)) f cdv A outer s H E).nox) (.Name "current" pos) (gName 4) := fun {pos} => pg_name (i := 4) nd rfl l4
  have l5 : Loc (((cxOf CX0 P w K mg base ["piece", "found", "waiting", "pair", "current", "lets"] "outside_names" (defScope (top 4)) f cdv A outer s H E).nox)).env.scope "lets" := Or.inl rfl
  have g5 : ∀ {pos : Pos}, PG ((cxOf CX0 P w K mg base ["piece", "found", "waiting", "pair", "current", "lets"] "outside_names" (defScope (top 4)) f cdv A outer s H E).nox) (.Name "lets" pos) (gName 5) := fun {pos} => pg_name (i := 5) nd rfl l5
  have k_len : Gl ((cxOf CX0 P w K mg base ["piece", "found", "waiting", "pair", "current", "lets"] "outside_names" (defScope (top 4)) f cdv A outer s H E).nox) "len" := by rfl
  have k_sorted : Gl ((cxOf CX0 P w K mg base ["piece", "found", "waiting", "pair", "current", "lets"] "outside_names" (defScope (top 4)) f cdv A outer s H E).nox) "sorted" := by rfl
  have k_pieces_with_lets : Gl ((cxOf CX0 P w K mg base ["piece", "found", "waiting", "pair", "current", "lets"] "outside_names" (defScope (top 4)) f cdv A outer s H E).nox) "pieces_with_lets" := by rfl
  exact (pss_cons (ps_set (i := 1) nd rfl l1 pe_dnewK) (pss_cons (ps_set (i := 2) nd rfl l2 (pe_lst (pa_cons (pe_tup (pa_cons p0 (pa_cons pe_dnewK pa_nil))) pa_nil))) (pss_cons (ps_while PassesOwn.never (pt_cmpR op_gt (pe_callB call_len_seq k_len T.n_len bo_len (pa_cons p2 pa_nil)) pe_int (nomark _)) (pss_cons (ps_set (i := 3) nd rfl l3 (pe_bm0 PySem.F.plainAttrs_list PySem.F.slot_list_pop PySem.F.type_list_pop mt_pop p2)) (pss_cons (ps_set (i := 4) nd rfl l4 (pe_ix ix_tup p3 pe_int (fun _ _ => rfl))) (pss_cons (ps_set (i := 5) nd rfl l5 (pe_ix ix_tup p3 pe_int (fun _ _ => rfl))) (pss_cons (ps_if (pw_and (pt_cmpR op_eq (pe_ix ix_tup p4 pe_int (fun _ _ => rfl)) pe_str (nomark _)) (pw_and1 (pt_cmp (pc_dnotin hu (pe_ix ix_tup p4 pe_int (fun _ _ => rfl)) p5)))).pt (pss_one (ps_dput hu p1 (pe_ix ix_tup p4 pe_int (fun _ _ => rfl)) pe_bl rfl)) pss_nil) (pss_one (ps_expr (pe_bm PySem.F.plainAttrs_list PySem.F.slot_list_extend PySem.F.type_list_extend mt_extend p2 (pa_cons (pe_call G_pieces_with_lets (hr.mono (by decide)) k_pieces_with_lets T.g_pieces_with_lets F_pieces_with_lets.kp b_pieces_with_lets .nil pass0 (pa_cons p4 (pa_cons p5 pa_nil))) pa_nil))))))))) (pss_one (ps_ret (pe_callB (call_sortedD rfl) k_sorted T.n_sorted bo_sorted (pa_cons p1 pa_nil)))))))
theorem sc_dp : FnScope ["_law_cells", "_law_stamps", "_law_pile", "_law_cell", "_law_rest", "_law_way", "_law_word", "_law_inner", "_law_look", "_law_name", "_law_many", "_law_made", "_law_last"] ["_law_cells", "_law_stamps"] (defScope (top 6)) := ⟨rfl, rfl, rfl, by decide +kernel, rfl, by decide +kernel, by decide +kernel⟩
theorem ok_dp (F : Fun K "_law_drawn_piece" "_law_drawn_piece" (top 6) f fd) (T : Txt mg a)
    {fd__law_any_word : FuncData} (G__law_any_word : FnOk P w K mg base CX0 1 a.a__law_any_word fd__law_any_word ["_law_cell"] spWord) (F__law_any_word : Fun K "_law_any_word" "_law_any_word" (top 9) a.a__law_any_word fd__law_any_word) (b__law_any_word : Binds K fd__law_any_word ["_law_cell"] [])
    {fd__law_any : FuncData} (G__law_any : FnOk P w K mg base CX0 1 a.a__law_any fd__law_any ["_law_cell"] spAny) (F__law_any : Fun K "_law_any" "_law_any" (top 10) a.a__law_any fd__law_any) (b__law_any : Binds K fd__law_any ["_law_cell"] []) : FnOk P w K mg base CX0 2 f fd ["_law_cells", "_law_stamps"] (spDrawn K SMain) := by
  refine F.ok sc_dp (fun vs H Q E h => ?_) (fun cdv A outer s H vs Q E hr h => ⟨t_dp K, ?_, rd_dp h⟩)
  · obtain ⟨a, b, c, d, rfl, _⟩ := h
    rfl
  have nd := sc_dp.nd
  have hu := hu_of hr
  have hu0 := hr.units0
  have p0 : ∀ {pos : Pos}, PE ((cxOf CX0 P w K mg base ["_law_cells", "_law_stamps", "_law_pile", "_law_cell", "_law_rest", "_law_way", "_law_word", "_law_inner", "_law_look", "_law_name", "_law_many", "_law_made", "_law_last"] "_law_drawn_piece" (defScope (top 6)) f cdv A outer s H E).nox) (.Name "_law_cells" pos) (tVar 0) := fun {pos} => pv 0
  have p1 : ∀ {pos : Pos}, PE ((cxOf CX0 P w K mg base ["_law_cells", "_law_stamps", "_law_pile", "_law_cell", "_law_rest", "_law_way", "_law_word", "_law_inner", "_law_look", "_law_name", "_law_many", "_law_made", "_law_last"] "_law_drawn_piece" (defScope (top 6)) f cdv A outer s H E).nox) (.Name "_law_stamps" pos) (tVar 1) := fun {pos} => pv 1
  have p2 : ∀ {pos : Pos}, PE ((cxOf CX0 P w K mg base ["_law_cells", "_law_stamps", "_law_pile", "_law_cell", "_law_rest", "_law_way", "_law_word", "_law_inner", "_law_look", "_law_name", "_law_many", "_law_made", "_law_last"] "_law_drawn_piece" (defScope (top 6)) f cdv A outer s H E).nox) (.Name "_law_pile" pos) (tVar 2) := fun {pos} => pv 2
  have p3 : ∀ {pos : Pos}, PE ((cxOf CX0 P w K mg base ["_law_cells", "_law_stamps", "_law_pile", "_law_cell", "_law_rest", "_law_way", "_law_word", "_law_inner", "_law_look", "_law_name", "_law_many", "_law_made", "_law_last"] "_law_drawn_piece" (defScope (top 6)) f cdv A outer s H E).nox) (.Name "_law_cell" pos) (tVar 3) := fun {pos} => pv 3
  have p4 : ∀ {pos : Pos}, PE ((cxOf CX0 P w K mg base ["_law_cells", "_law_stamps", "_law_pile", "_law_cell", "_law_rest", "_law_way", "_law_word", "_law_inner", "_law_look", "_law_name", "_law_many", "_law_made", "_law_last"] "_law_drawn_piece" (defScope (top 6)) f cdv A outer s H E).nox) (.Name "_law_rest" pos) (tVar 4) := fun {pos} => pv 4
  have p5 : ∀ {pos : Pos}, PE ((cxOf CX0 P w K mg base ["_law_cells", "_law_stamps", "_law_pile", "_law_cell", "_law_rest", "_law_way", "_law_word", "_law_inner", "_law_look", "_law_name", "_law_many", "_law_made", "_law_last"] "_law_drawn_piece" (defScope (top 6)) f cdv A outer s H E).nox) (.Name "_law_way" pos) (tVar 5) := fun {pos} => pv 5
  have p6 : ∀ {pos : Pos}, PE ((cxOf CX0 P w K mg base ["_law_cells", "_law_stamps", "_law_pile", "_law_cell", "_law_rest", "_law_way", "_law_word", "_law_inner", "_law_look", "_law_name", "_law_many", "_law_made", "_law_last"] "_law_drawn_piece" (defScope (top 6)) f cdv A outer s H E).nox) (.Name "_law_word" pos) (tVar 6) := fun {pos} => pv 6
  have p7 : ∀ {pos : Pos}, PE ((cxOf CX0 P w K mg base ["_law_cells", "_law_stamps", "_law_pile", "_law_cell", "_law_rest", "_law_way", "_law_word", "_law_inner", "_law_look", "_law_name", "_law_many", "_law_made", "_law_last"] "_law_drawn_piece" (defScope (top 6)) f cdv A outer s H E).nox) (.Name "_law_inner" pos) (tVar 7) := fun {pos} => pv 7
  have p8 : ∀ {pos : Pos}, PE ((cxOf CX0 P w K mg base ["_law_cells", "_law_stamps", "_law_pile", "_law_cell", "_law_rest", "_law_way", "_law_word", "_law_inner", "_law_look", "_law_name", "_law_many", "_law_made", "_law_last"] "_law_drawn_piece" (defScope (top 6)) f cdv A outer s H E).nox) (.Name "_law_look" pos) (tVar 8) := fun {pos} => pv 8
  have p9 : ∀ {pos : Pos}, PE ((cxOf CX0 P w K mg base ["_law_cells", "_law_stamps", "_law_pile", "_law_cell", "_law_rest", "_law_way", "_law_word", "_law_inner", "_law_look", "_law_name", "_law_many", "_law_made", "_law_last"] "_law_drawn_piece" (defScope (top 6)) f cdv A outer s H E).nox) (.Name "_law_name" pos) (tVar 9) := fun {pos} => pv 9
  have p10 : ∀ {pos : Pos}, PE ((cxOf CX0 P w K mg base ["_law_cells", "_law_stamps", "_law_pile", "_law_cell", "_law_rest", "_law_way", "_law_word", "_law_inner", "_law_look", "_law_name", "_law_many", "_law_made", "_law_last"] "_law_drawn_piece" (defScope (top 6)) f cdv A outer s H E).nox) (.Name "_law_many" pos) (tVar 10) := fun {pos} => pv 10
  have p11 : ∀ {pos : Pos}, PE ((cxOf CX0 P w K mg base ["_law_cells", "_law_stamps", "_law_pile", "_law_cell", "_law_rest", "_law_way", "_law_word", "_law_inner", "_law_look", "_law_name", "_law_many", "_law_made", "_law_last"] "_law_drawn_piece" (defScope (top 6)) f cdv A outer s H E).nox) (.Name "_law_made" pos) (tVar 11) := fun {pos} => pv 11
  have p12 : ∀ {pos : Pos}, PE ((cxOf CX0 P w K mg base ["_law_cells", "_law_stamps", "_law_pile", "_law_cell", "_law_rest", "_law_way", "_law_word", "_law_inner", "_law_look", "_law_name", "_law_many", "_law_made", "_law_last"] "_law_drawn_piece" (defScope (top 6)) f cdv A outer s H E).nox) (.Name "_law_last" pos) (tVar 12) := fun {pos} => pv 12
  have l2 : Loc (((cxOf CX0 P w K mg base ["_law_cells", "_law_stamps", "_law_pile", "_law_cell", "_law_rest", "_law_way", "_law_word", "_law_inner", "_law_look", "_law_name", "_law_many", "_law_made", "_law_last"] "_law_drawn_piece" (defScope (top 6)) f cdv A outer s H E).nox)).env.scope "_law_pile" := Or.inl rfl
  have g2 : ∀ {pos : Pos}, PG ((cxOf CX0 P w K mg base ["_law_cells", "_law_stamps", "_law_pile", "_law_cell", "_law_rest", "_law_way", "_law_word", "_law_inner", "_law_look", "_law_name", "_law_many", "_law_made", "_law_last"] "_law_drawn_piece" (defScope (top 6)) f cdv A outer s H E).nox) (.Name "_law_pile" pos) (gName 2) := fun {pos} => pg_name (i := 2) nd rfl l2
  have l3 : Loc (((cxOf CX0 P w K mg base ["_law_cells", "_law_stamps", "_law_pile", "_law_cell", "_law_rest", "_law_way", "_law_word", "_law_inner", "_law_look", "_law_name", "_law_many", "_law_made", "_law_last"] "_law_drawn_piece" (defScope (top 6)) f cdv A outer s H E).nox)).env.scope "_law_cell" := Or.inl rfl
  have g3 : ∀ {pos : Pos}, PG ((cxOf CX0 P w K mg base ["_law_cells", "_law_stamps", "_law_pile", "_law_cell", "_law_rest", "_law_way", "_law_word", "_law_inner", "_law_look", "_law_name", "_law_many", "_law_made", "_law_last"] "_law_drawn_piece" (defScope (top 6)) f cdv A outer s H E).nox) (.Name "_law_cell" pos) (gName 3) := fun {pos} => pg_name (i := 3) nd rfl l3
  have l4 : Loc (((cxOf CX0 P w K mg base ["_law_cells", "_law_stamps", "_law_pile", "_law_cell", "_law_rest", "_law_way", "_law_word", "_law_inner", "_law_look", "_law_name", "_law_many", "_law_made", "_law_last"] "_law_drawn_piece" (defScope (top 6)) f cdv A outer s H E).nox)).env.scope "_law_rest" := Or.inl rfl
  have g4 : ∀ {pos : Pos}, PG ((cxOf CX0 P w K mg base ["_law_cells", "_law_stamps", "_law_pile", "_law_cell", "_law_rest", "_law_way", "_law_word", "_law_inner", "_law_look", "_law_name", "_law_many", "_law_made", "_law_last"] "_law_drawn_piece" (defScope (top 6)) f cdv A outer s H E).nox) (.Name "_law_rest" pos) (gName 4) := fun {pos} => pg_name (i := 4) nd rfl l4
  have l5 : Loc (((cxOf CX0 P w K mg base ["_law_cells", "_law_stamps", "_law_pile", "_law_cell", "_law_rest", "_law_way", "_law_word", "_law_inner", "_law_look", "_law_name", "_law_many", "_law_made", "_law_last"] "_law_drawn_piece" (defScope (top 6)) f cdv A outer s H E).nox)).env.scope "_law_way" := Or.inl rfl
  have g5 : ∀ {pos : Pos}, PG ((cxOf CX0 P w K mg base ["_law_cells", "_law_stamps", "_law_pile", "_law_cell", "_law_rest", "_law_way", "_law_word", "_law_inner", "_law_look", "_law_name", "_law_many", "_law_made", "_law_last"] "_law_drawn_piece" (defScope (top 6)) f cdv A outer s H E).nox) (.Name "_law_way" pos) (gName 5) := fun {pos} => pg_name (i := 5) nd rfl l5
  have l6 : Loc (((cxOf CX0 P w K mg base ["_law_cells", "_law_stamps", "_law_pile", "_law_cell", "_law_rest", "_law_way", "_law_word", "_law_inner", "_law_look", "_law_name", "_law_many", "_law_made", "_law_last"] "_law_drawn_piece" (defScope (top 6)) f cdv A outer s H E).nox)).env.scope "_law_word" := Or.inl rfl
  have g6 : ∀ {pos : Pos}, PG ((cxOf CX0 P w K mg base ["_law_cells", "_law_stamps", "_law_pile", "_law_cell", "_law_rest", "_law_way", "_law_word", "_law_inner", "_law_look", "_law_name", "_law_many", "_law_made", "_law_last"] "_law_drawn_piece" (defScope (top 6)) f cdv A outer s H E).nox) (.Name "_law_word" pos) (gName 6) := fun {pos} => pg_name (i := 6) nd rfl l6
  have l7 : Loc (((cxOf CX0 P w K mg base ["_law_cells", "_law_stamps", "_law_pile", "_law_cell", "_law_rest", "_law_way", "_law_word", "_law_inner", "_law_look", "_law_name", "_law_many", "_law_made", "_law_last"] "_law_drawn_piece" (defScope (top 6)) f cdv A outer s H E).nox)).env.scope "_law_inner" := Or.inl rfl
  have g7 : ∀ {pos : Pos}, PG ((cxOf CX0 P w K mg base ["_law_cells", "_law_stamps", "_law_pile", "_law_cell", "_law_rest", "_law_way", "_law_word", "_law_inner", "_law_look", "_law_name", "_law_many", "_law_made", "_law_last"] "_law_drawn_piece" (defScope (top 6)) f cdv A outer s H E).nox) (.Name "_law_inner" pos) (gName 7) := fun {pos} => pg_name (i := 7) nd rfl l7
  have l8 : Loc (((cxOf CX0 P w K mg base ["_law_cells", "_law_stamps", "_law_pile", "_law_cell", "_law_rest", "_law_way", "_law_word", "_law_inner", "_law_look", "_law_name", "_law_many", "_law_made", "_law_last"] "_law_drawn_piece" (defScope (top 6)) f cdv A outer s H E).nox)).env.scope "_law_look" := Or.inl rfl
  have g8 : ∀ {pos : Pos}, PG ((cxOf CX0 P w K mg base ["_law_cells", "_law_stamps", "_law_pile", "_law_cell", "_law_rest", "_law_way", "_law_word", "_law_inner", "_law_look", "_law_name", "_law_many", "_law_made", "_law_last"] "_law_drawn_piece" (defScope (top 6)) f cdv A outer s H E).nox) (.Name "_law_look" pos) (gName 8) := fun {pos} => pg_name (i := 8) nd rfl l8
  have l9 : Loc (((cxOf CX0 P w K mg base ["_law_cells", "_law_stamps", "_law_pile", "_law_cell", "_law_rest", "_law_way", "_law_word", "_law_inner", "_law_look", "_law_name", "_law_many", "_law_made", "_law_last"] "_law_drawn_piece" (defScope (top 6)) f cdv A outer s H E).nox)).env.scope "_law_name" := Or.inl rfl
  have g9 : ∀ {pos : Pos}, PG ((cxOf CX0 P w K mg base ["_law_cells", "_law_stamps", "_law_pile", "_law_cell", "_law_rest", "_law_way", "_law_word", "_law_inner", "_law_look", "_law_name", "_law_many", "_law_made", "_law_last"] "_law_drawn_piece" (defScope (top 6)) f cdv A outer s H E).nox) (.Name "_law_name" pos) (gName 9) := fun {pos} => pg_name (i := 9) nd rfl l9
  have l10 : Loc (((cxOf CX0 P w K mg base ["_law_cells", "_law_stamps", "_law_pile", "_law_cell", "_law_rest", "_law_way", "_law_word", "_law_inner", "_law_look", "_law_name", "_law_many", "_law_made", "_law_last"] "_law_drawn_piece" (defScope (top 6)) f cdv A outer s H E).nox)).env.scope "_law_many" := Or.inl rfl
  have g10 : ∀ {pos : Pos}, PG ((cxOf CX0 P w K mg base ["_law_cells", "_law_stamps", "_law_pile", "_law_cell", "_law_rest", "_law_way", "_law_word", "_law_inner", "_law_look", "_law_name", "_law_many", "_law_made", "_law_last"] "_law_drawn_piece" (defScope (top 6)) f cdv A outer s H E).nox) (.Name "_law_many" pos) (gName 10) := fun {pos} => pg_name (i := 10) nd rfl l10
  have l11 : Loc (((cxOf CX0 P w K mg base ["_law_cells", "_law_stamps", "_law_pile", "_law_cell", "_law_rest", "_law_way", "_law_word", "_law_inner", "_law_look", "_law_name", "_law_many", "_law_made", "_law_last"] "_law_drawn_piece" (defScope (top 6)) f cdv A outer s H E).nox)).env.scope "_law_made" := Or.inl rfl
  have g11 : ∀ {pos : Pos}, PG ((cxOf CX0 P w K mg base ["_law_cells", "_law_stamps", "_law_pile", "_law_cell", "_law_rest", "_law_way", "_law_word", "_law_inner", "_law_look", "_law_name", "_law_many", "_law_made", "_law_last"] "_law_drawn_piece" (defScope (top 6)) f cdv A outer s H E).nox) (.Name "_law_made" pos) (gName 11) := fun {pos} => pg_name (i := 11) nd rfl l11
  have l12 : Loc (((cxOf CX0 P w K mg base ["_law_cells", "_law_stamps", "_law_pile", "_law_cell", "_law_rest", "_law_way", "_law_word", "_law_inner", "_law_look", "_law_name", "_law_many", "_law_made", "_law_last"] "_law_drawn_piece" (defScope (top 6)) f cdv A outer s H E).nox)).env.scope "_law_last" := Or.inl rfl
  have g12 : ∀ {pos : Pos}, PG ((cxOf CX0 P w K mg base ["_law_cells", "_law_stamps", "_law_pile", "_law_cell", "_law_rest", "_law_way", "_law_word", "_law_inner", "_law_look", "_law_name", "_law_many", "_law_made", "_law_last"] "_law_drawn_piece" (defScope (top 6)) f cdv A outer s H E).nox) (.Name "_law_last" pos) (gName 12) := fun {pos} => pg_name (i := 12) nd rfl l12
  have k_len : Gl ((cxOf CX0 P w K mg base ["_law_cells", "_law_stamps", "_law_pile", "_law_cell", "_law_rest", "_law_way", "_law_word", "_law_inner", "_law_look", "_law_name", "_law_many", "_law_made", "_law_last"] "_law_drawn_piece" (defScope (top 6)) f cdv A outer s H E).nox) "len" := by rfl
  have k_int : Gl ((cxOf CX0 P w K mg base ["_law_cells", "_law_stamps", "_law_pile", "_law_cell", "_law_rest", "_law_way", "_law_word", "_law_inner", "_law_look", "_law_name", "_law_many", "_law_made", "_law_last"] "_law_drawn_piece" (defScope (top 6)) f cdv A outer s H E).nox) "int" := by rfl
  have k_min : Gl ((cxOf CX0 P w K mg base ["_law_cells", "_law_stamps", "_law_pile", "_law_cell", "_law_rest", "_law_way", "_law_word", "_law_inner", "_law_look", "_law_name", "_law_many", "_law_made", "_law_last"] "_law_drawn_piece" (defScope (top 6)) f cdv A outer s H E).nox) "min" := by rfl
  have k_tuple : Gl ((cxOf CX0 P w K mg base ["_law_cells", "_law_stamps", "_law_pile", "_law_cell", "_law_rest", "_law_way", "_law_word", "_law_inner", "_law_look", "_law_name", "_law_many", "_law_made", "_law_last"] "_law_drawn_piece" (defScope (top 6)) f cdv A outer s H E).nox) "tuple" := by rfl
  have k__law_any_word : Gl ((cxOf CX0 P w K mg base ["_law_cells", "_law_stamps", "_law_pile", "_law_cell", "_law_rest", "_law_way", "_law_word", "_law_inner", "_law_look", "_law_name", "_law_many", "_law_made", "_law_last"] "_law_drawn_piece" (defScope (top 6)) f cdv A outer s H E).nox) "_law_any_word" := by rfl
  have k__law_any : Gl ((cxOf CX0 P w K mg base ["_law_cells", "_law_stamps", "_law_pile", "_law_cell", "_law_rest", "_law_way", "_law_word", "_law_inner", "_law_look", "_law_name", "_law_many", "_law_made", "_law_last"] "_law_drawn_piece" (defScope (top 6)) f cdv A outer s H E).nox) "_law_any" := by rfl
  exact (pss_cons (ps_set (i := 2) nd rfl l2 (pe_lst (pa_cons (pe_tup (pa_cons pe_str (pa_cons pe_str pa_nil))) pa_nil))) (pss_cons (ps_for PassesOwn.never rfl (pi_list p0) g3 (pss_cons (ps_set (i := 4) nd rfl l4 (pe_op op_fdiv p3 pe_int)) (pss_cons (ps_set (i := 5) nd rfl l5 (pe_op op_mod p3 pe_int)) (pss_cons (ps_set (i := 6) nd rfl l6 (pe_ix ix_list (pe_lst (pa_cons pe_str (pa_cons pe_str (pa_cons pe_str (pa_cons pe_str pa_nil))))) (pe_op op_mod p4 pe_int) (fun _ _ => rfl))) (pss_cons (ps_if (pt_cmpR op_eq (pe_op op_mod p4 pe_int) pe_int (nomark _)) (pss_one (ps_set (i := 6) nd rfl l6 (pe_op op_add_str (pe_call G__law_any_word (hr.mono (by decide)) k__law_any_word T.g__law_any_word F__law_any_word.kp b__law_any_word .nil pass0 (pa_cons (pe_op op_fdiv p4 pe_int) pa_nil)) pe_str))) pss_nil) (pss_cons (ps_set (i := 7) nd rfl l7 (pe_slice sl_list p2 (po_some (pe_un un_neg pe_int)) po_none)) (pss_one (ps_if (pw_or (pt_cmpR op_eq p5 pe_int (nomark _)) (pw_or1 (pw_and (pt_cmpR op_eq (pe_callB call_len_seq k_len T.n_len bo_len (pa_cons p7 pa_nil)) pe_int (nomark _)) (pw_and1 (pt_chain op_lt op_lt pe_int p5 pe_int))).pt)).pt (pss_one (ps_expr (pe_bm PySem.F.plainAttrs_list PySem.F.slot_list_append PySem.F.type_list_append mt_append p2 (pa_cons (pe_tup (pa_cons pe_str (pa_cons (pe_ix ix_list (pe_lst (pa_cons (pe_op op_sub (pe_op op_mod p4 pe_int) pe_int) (pa_cons (pe_call G__law_any (hr.mono (by decide)) k__law_any T.g__law_any F__law_any.kp b__law_any .nil pass0 (pa_cons p4 pa_nil)) pa_nil))) (pe_callTy call_int1 k_int T.n_int bo_int (pa_cons (pe_cmpR op_eq (pe_op op_mod p4 pe_int) pe_int (nomark _)) pa_nil)) (fun _ _ => rfl)) pa_nil))) pa_nil)))) (pss_one (ps_if (pt_cmpR op_lt p5 pe_int (nomark _)) (pss_one (ps_expr (pe_bm PySem.F.plainAttrs_list PySem.F.slot_list_append PySem.F.type_list_append mt_append p2 (pa_cons (pe_tup (pa_cons pe_str (pa_cons p6 pa_nil))) pa_nil)))) (pss_one (ps_if (pw_and (pt_cmpR op_eq p5 pe_int (nomark _)) (pw_and1 (pt_cmpR op_eq (pe_callB call_len_seq k_len T.n_len bo_len (pa_cons p7 pa_nil)) pe_int (nomark _)))).pt (pss_one (ps_set (i := 2) nd rfl l2 (pe_op op_cat (pe_slice sl_list p2 po_none (po_some (pe_un un_neg pe_int))) (pe_lst (pa_cons (pe_tup (pa_cons pe_str (pa_cons (pe_ix ix_list p7 pe_int (fun _ _ => rfl)) (pa_cons (pe_ix ix_list p7 pe_int (fun _ _ => rfl)) (pa_cons (pe_ix ix_list p7 pe_int (fun _ _ => rfl)) pa_nil))))) pa_nil))))) (pss_one (ps_if (pt_cmpR op_lt p5 pe_int (nomark _)) (pss_one (ps_set (i := 2) nd rfl l2 (pe_op op_cat (pe_slice sl_list p2 po_none (po_some (pe_un un_neg pe_int))) (pe_lst (pa_cons (pe_tup (pa_cons (pe_ix ix_list (pe_lst (pa_cons pe_str (pa_cons pe_str pa_nil))) (pe_op op_mod p5 pe_int) (fun _ _ => rfl)) (pa_cons (pe_ix ix_list p7 (pe_un un_neg pe_int) (fun _ _ => rfl)) (pa_cons (pe_ix ix_list p7 (pe_un un_neg pe_int) (fun _ _ => rfl)) pa_nil)))) pa_nil))))) (pss_one (ps_if (pt_cmpR op_eq p5 pe_int (nomark _)) (pss_cons (ps_set (i := 8) nd rfl l8 (pe_ix ix_list p7 (pe_un un_neg pe_int) (fun _ _ => rfl))) (pss_cons (ps_if (pt_cmpR op_in_seq (pe_ix ix_tup p8 pe_int (fun _ _ => rfl)) (pe_lst (pa_cons pe_str (pa_cons pe_str pa_nil))) (by with_unfolding_all rfl)) (pss_one (ps_set (i := 8) nd rfl l8 (pe_ix ix_tup p8 pe_int (fun _ _ => rfl)))) pss_nil) (pss_cons (ps_if (pw_and (pt_cmpR op_eq (pe_ix ix_tup p8 pe_int (fun _ _ => rfl)) pe_str (nomark _)) (pw_and1 (pt_cmpR op_gt (pe_op op_mod p4 pe_int) pe_int (nomark _)))).pt (pss_one (ps_set (i := 6) nd rfl l6 (pe_ix ix_tup p8 pe_int (fun _ _ => rfl)))) pss_nil) (pss_one (ps_set (i := 2) nd rfl l2 (pe_op op_cat (pe_slice sl_list p2 po_none (po_some (pe_un un_neg pe_int))) (pe_lst (pa_cons (pe_tup (pa_cons pe_str (pa_cons p6 (pa_cons (pe_ix ix_list p7 (pe_un un_neg pe_int) (fun _ _ => rfl)) (pa_cons (pe_ix ix_list p7 (pe_un un_neg pe_int) (fun _ _ => rfl)) pa_nil))))) pa_nil)))))))) (pss_one (ps_if (pt_cmpR (op_neNil hu0) p1 (pe_lst pa_nil) (nomark _)) (pss_cons (ps_asg (pe_ix ix_list p1 (pe_op op_mod p4 (pe_callB call_len_seq k_len T.n_len bo_len (pa_cons p1 pa_nil))) (fun _ _ => rfl)) (pg_tup rfl (pgs_cons g9 (pgs_cons g10 pgs_nil)))) (pss_cons (ps_set (i := 10) nd rfl l10 (pe_callB (call_min2 rfl) k_min T.n_min bo_min (pa_cons p10 (pa_cons (pe_callB call_len_seq k_len T.n_len bo_len (pa_cons p2 pa_nil)) pa_nil)))) (pss_one (ps_if (pt_cmpR op_eq p10 (pe_ix ix_tup (pe_ix ix_list p1 (pe_op op_mod p4 (pe_callB call_len_seq k_len T.n_len bo_len (pa_cons p1 pa_nil))) (fun _ _ => rfl)) pe_int (fun _ _ => rfl)) (nomark _)) (pss_cons (ps_set (i := 11) nd rfl l11 (pe_callTy call_tuple_of k_tuple T.n_tuple bo_tuple (pa_cons (pe_op op_cat (pe_lst (pa_cons pe_str (pa_cons p9 pa_nil))) (pe_slice sl_list p2 (po_some (pe_op op_sub (pe_callB call_len_seq k_len T.n_len bo_len (pa_cons p2 pa_nil)) p10)) po_none)) pa_nil))) (pss_one (ps_set (i := 2) nd rfl l2 (pe_op op_cat (pe_slice sl_list p2 po_none (po_some (pe_op op_sub (pe_callB call_len_seq k_len T.n_len bo_len (pa_cons p2 pa_nil)) p10))) (pe_lst (pa_cons p11 pa_nil)))))) pss_nil)))) pss_nil)))))))))))))))))) (pss_cons (ps_while PassesOwn.never (pt_cmpR op_gt (pe_callB call_len_seq k_len T.n_len bo_len (pa_cons p2 pa_nil)) pe_int (nomark _)) (pss_cons (ps_set (i := 12) nd rfl l12 (pe_bm0 PySem.F.plainAttrs_list PySem.F.slot_list_pop PySem.F.type_list_pop mt_pop p2)) (pss_one (ps_expr (pe_bm PySem.F.plainAttrs_list PySem.F.slot_list_append PySem.F.type_list_append mt_append p2 (pa_cons (pe_tup (pa_cons pe_str (pa_cons (pe_bm0 PySem.F.plainAttrs_list PySem.F.slot_list_pop PySem.F.type_list_pop mt_pop p2) (pa_cons p12 pa_nil)))) pa_nil)))))) (pss_one (ps_ret (pe_ix ix_list p2 pe_int (fun _ _ => rfl)))))))
theorem sc_main : FnScope ["_law_cells"] ["_law_cells"] (defScope (top 8)) := ⟨rfl, rfl, rfl, by decide +kernel, rfl, by decide +kernel, by decide +kernel⟩
theorem ok_main (F : Fun K "_law_drawn_main" "_law_drawn_main" (top 8) f fd) (T : Txt mg a)
    {fd__law_drawn_piece : FuncData} (G__law_drawn_piece : FnOk P w K mg base CX0 2 a.a__law_drawn_piece fd__law_drawn_piece ["_law_cells", "_law_stamps"] (spDrawn K SMain)) (F__law_drawn_piece : Fun K "_law_drawn_piece" "_law_drawn_piece" (top 6) a.a__law_drawn_piece fd__law_drawn_piece) (b__law_drawn_piece : Binds K fd__law_drawn_piece ["_law_cells", "_law_stamps"] []) : FnOk P w K mg base CX0 3 f fd ["_law_cells"] (spMain K) := by
  refine F.ok sc_main (fun vs H Q E h => ?_) (fun cdv A outer s H vs Q E hr h => ⟨t_main K SMain, ?_, rd_main h⟩)
  · obtain ⟨a, b, rfl, _⟩ := h
    rfl
  have nd := sc_main.nd
  have hu := hu_of hr
  have hu0 := hr.units0
  have p0 : ∀ {pos : Pos}, PE ((cxOf CX0 P w K mg base ["_law_cells"] "_law_drawn_main" (defScope (top 8)) f cdv A outer s H E).nox) (.Name "_law_cells" pos) (tVar 0) := fun {pos} => pv 0
  have k__law_drawn_piece : Gl ((cxOf CX0 P w K mg base ["_law_cells"] "_law_drawn_main" (defScope (top 8)) f cdv A outer s H E).nox) "_law_drawn_piece" := by rfl
  exact (pss_one (ps_ret (pe_call G__law_drawn_piece (hr.mono (by decide)) k__law_drawn_piece T.g__law_drawn_piece F__law_drawn_piece.kp b__law_drawn_piece .nil pass0 (pa_cons p0 (pa_cons (pe_lst (pa_cons (pe_tup (pa_cons pe_str (pa_cons pe_int pa_nil))) (pa_cons (pe_tup (pa_cons pe_str (pa_cons pe_int pa_nil))) (pa_cons (pe_tup (pa_cons pe_str (pa_cons pe_int pa_nil))) (pa_cons (pe_tup (pa_cons pe_str (pa_cons pe_int pa_nil))) pa_nil))))) pa_nil)))))
theorem sc_all : FnScope ["_law_piece", "_law_words", "_law_todo", "_law_part"] ["_law_piece"] (defScope (top 12)) := ⟨rfl, rfl, rfl, by decide +kernel, rfl, by decide +kernel, by decide +kernel⟩
theorem ok_all (F : Fun K "_law_all_names" "_law_all_names" (top 12) f fd) (T : Txt mg a)
    {fd__law_inside : FuncData} (G__law_inside : FnOk P w K mg base CX0 1 a.a__law_inside fd__law_inside ["_law_piece"] spInside) (F__law_inside : Fun K "_law_inside" "_law_inside" (top 7) a.a__law_inside fd__law_inside) (b__law_inside : Binds K fd__law_inside ["_law_piece"] []) : FnOk P w K mg base CX0 2 f fd ["_law_piece"] spAll := by
  refine F.ok sc_all (fun vs H Q E h => ?_) (fun cdv A outer s H vs Q E hr h => ⟨t_all K, ?_, rd_all h⟩)
  · obtain ⟨a, b, rfl, _⟩ := h
    rfl
  have nd := sc_all.nd
  have hu := hu_of hr
  have hu0 := hr.units0
  have p0 : ∀ {pos : Pos}, PE ((cxOf CX0 P w K mg base ["_law_piece", "_law_words", "_law_todo", "_law_part"] "_law_all_names" (defScope (top 12)) f cdv A outer s H E).nox) (.Name "_law_piece" pos) (tVar 0) := fun {pos} => pv 0
  have p1 : ∀ {pos : Pos}, PE ((cxOf CX0 P w K mg base ["_law_piece", "_law_words", "_law_todo", "_law_part"] "_law_all_names" (defScope (top 12)) f cdv A outer s H E).nox) (.Name "_law_words" pos) (tVar 1) := fun {pos} => pv 1
  have p2 : ∀ {pos : Pos}, PE ((cxOf CX0 P w K mg base ["_law_piece", "_law_words", "_law_todo", "_law_part"] "_law_all_names" (defScope (top 12)) f cdv A outer s H E).nox) (.Name "_law_todo" pos) (tVar 2) := fun {pos} => pv 2
  have p3 : ∀ {pos : Pos}, PE ((cxOf CX0 P w K mg base ["_law_piece", "_law_words", "_law_todo", "_law_part"] "_law_all_names" (defScope (top 12)) f cdv A outer s H E).nox) (.Name "_law_part" pos) (tVar 3) := fun {pos} => pv 3
  have l1 : Loc (((cxOf CX0 P w K mg base ["_law_piece", "_law_words", "_law_todo", "_law_part"] "_law_all_names" (defScope (top 12)) f cdv A outer s H E).nox)).env.scope "_law_words" := Or.inl rfl
  have g1 : ∀ {pos : Pos}, PG ((cxOf CX0 P w K mg base ["_law_piece", "_law_words", "_law_todo", "_law_part"] "_law_all_names" (defScope (top 12)) f cdv A outer s H E).nox) (.Name "_law_words" pos) (gName 1) := fun {pos} => pg_name (i := 1) nd rfl l1
  have l2 : Loc (((cxOf CX0 P w K mg base ["_law_piece", "_law_words", "_law_todo", "_law_part"] "_law_all_names" (defScope (top 12)) f cdv A outer s H E).nox)).env.scope "_law_todo" := Or.inl rfl
  have g2 : ∀ {pos : Pos}, PG ((cxOf CX0 P w K mg base ["_law_piece", "_law_words", "_law_todo", "_law_part"] "_law_all_names" (defScope (top 12)) f cdv A outer s H E).nox) (.Name "_law_todo" pos) (gName 2) := fun {pos} => pg_name (i := 2) nd rfl l2
  have l3 : Loc (((cxOf CX0 P w K mg base ["_law_piece", "_law_words", "_law_todo", "_law_part"] "_law_all_names" (defScope (top 12)) f cdv A outer s H E).nox)).env.scope "_law_part" := Or.inl rfl
  have g3 : ∀ {pos : Pos}, PG ((cxOf CX0 P w K mg base ["_law_piece", "_law_words", "_law_todo", "_law_part"] "_law_all_names" (defScope (top 12)) f cdv A outer s H E).nox) (.Name "_law_part" pos) (gName 3) := fun {pos} => pg_name (i := 3) nd rfl l3
  have k_list : Gl ((cxOf CX0 P w K mg base ["_law_piece", "_law_words", "_law_todo", "_law_part"] "_law_all_names" (defScope (top 12)) f cdv A outer s H E).nox) "list" := by rfl
  have k_sorted : Gl ((cxOf CX0 P w K mg base ["_law_piece", "_law_words", "_law_todo", "_law_part"] "_law_all_names" (defScope (top 12)) f cdv A outer s H E).nox) "sorted" := by rfl
  have k__law_inside : Gl ((cxOf CX0 P w K mg base ["_law_piece", "_law_words", "_law_todo", "_law_part"] "_law_all_names" (defScope (top 12)) f cdv A outer s H E).nox) "_law_inside" := by rfl
  exact (pss_cons (ps_set (i := 1) nd rfl l1 pe_dnewK) (pss_cons (ps_set (i := 2) nd rfl l2 (pe_lst (pa_cons p0 pa_nil))) (pss_cons (ps_while PassesOwn.never (pt_cmpR (op_neNil hu0) p2 (pe_lst pa_nil) (nomark _)) (pss_cons (ps_set (i := 3) nd rfl l3 (pe_bm0 PySem.F.plainAttrs_list PySem.F.slot_list_pop PySem.F.type_list_pop mt_pop p2)) (pss_cons (ps_if (pt_cmpR op_eq (pe_ix ix_tup p3 pe_int (fun _ _ => rfl)) pe_str (nomark _)) (pss_one (ps_dput hu p1 (pe_ix ix_tup p3 pe_int (fun _ _ => rfl)) pe_bl rfl)) pss_nil) (pss_one (ps_set (i := 2) nd rfl l2 (pe_op op_cat p2 (pe_call G__law_inside (hr.mono (by decide)) k__law_inside T.g__law_inside F__law_inside.kp b__law_inside .nil pass0 (pa_cons p3 pa_nil)))))))) (pss_one (ps_ret (pe_callB call_sortedL k_sorted T.n_sorted bo_sorted (pa_cons (pe_callTy (call_listD rfl) k_list T.n_list bo_list (pa_cons p1 pa_nil)) pa_nil)))))))
theorem sc_law : FnScope ["_law_script", "_law_piece", "_law_inner", "_law_due", "_law_word", "_law_todo", "_law_part", "_law_found", "_law_k"] ["_law_script"] (defScope (top 13)) := ⟨rfl, rfl, rfl, by decide +kernel, rfl, by decide +kernel, by decide +kernel⟩
theorem ok_law (F : Fun K "law" "law" (top 13) f fd) (T : Txt mg a)
    {fd__law_room : FuncData} (G__law_room : FnOk P w K mg base CX0 1 a.a__law_room fd__law_room ["_law_script", "_law_most", "_law_bound"] (spRoom K)) (F__law_room : Fun K "_law_room" "_law_room" (top 11) a.a__law_room fd__law_room) (b__law_room : Binds K fd__law_room ["_law_script", "_law_most", "_law_bound"] [])
    {fd__law_drawn_main : FuncData} (G__law_drawn_main : FnOk P w K mg base CX0 3 a.a__law_drawn_main fd__law_drawn_main ["_law_cells"] (spMain K)) (F__law_drawn_main : Fun K "_law_drawn_main" "_law_drawn_main" (top 8) a.a__law_drawn_main fd__law_drawn_main) (b__law_drawn_main : Binds K fd__law_drawn_main ["_law_cells"] [])
    {fd__law_all_names : FuncData} (G__law_all_names : FnOk P w K mg base CX0 2 a.a__law_all_names fd__law_all_names ["_law_piece"] spAll) (F__law_all_names : Fun K "_law_all_names" "_law_all_names" (top 12) a.a__law_all_names fd__law_all_names) (b__law_all_names : Binds K fd__law_all_names ["_law_piece"] [])
    {fd__law_inside : FuncData} (G__law_inside : FnOk P w K mg base CX0 1 a.a__law_inside fd__law_inside ["_law_piece"] spInside) (F__law_inside : Fun K "_law_inside" "_law_inside" (top 7) a.a__law_inside fd__law_inside) (b__law_inside : Binds K fd__law_inside ["_law_piece"] [])
    {fd_outside_names : FuncData} (G_outside_names : FnOk P w K mg base CX0 3 a.a_outside_names fd_outside_names ["piece"] spOut) (F_outside_names : Fun K "outside_names" "outside_names" (top 4) a.a_outside_names fd_outside_names) (b_outside_names : Binds K fd_outside_names ["piece"] []) : FnOk P w K mg base CX0 4 f fd ["_law_script"] (spLaw K) := by
  refine F.ok sc_law (fun vs H Q E h => ?_) (fun cdv A outer s H vs Q E hr h => ⟨t_law K, ?_, rd_law h⟩)
  · obtain ⟨a, b, rfl, _⟩ := h
    rfl
  have nd := sc_law.nd
  have hu := hu_of hr
  have hu0 := hr.units0
  have p0 : ∀ {pos : Pos}, PE ((cxOf CX0 P w K mg base ["_law_script", "_law_piece", "_law_inner", "_law_due", "_law_word", "_law_todo", "_law_part", "_law_found", "_law_k"] "law" (defScope (top 13)) f cdv A outer s H E).nox) (.Name "_law_script" pos) (tVar 0) := fun {pos} => pv 0
  have p1 : ∀ {pos : Pos}, PE ((cxOf CX0 P w K mg base ["_law_script", "_law_piece", "_law_inner", "_law_due", "_law_word", "_law_todo", "_law_part", "_law_found", "_law_k"] "law" (defScope (top 13)) f cdv A outer s H E).nox) (.Name "_law_piece" pos) (tVar 1) := fun {pos} => pv 1
  have p2 : ∀ {pos : Pos}, PE ((cxOf CX0 P w K mg base ["_law_script", "_law_piece", "_law_inner", "_law_due", "_law_word", "_law_todo", "_law_part", "_law_found", "_law_k"] "law" (defScope (top 13)) f cdv A outer s H E).nox) (.Name "_law_inner" pos) (tVar 2) := fun {pos} => pv 2
  have p3 : ∀ {pos : Pos}, PE ((cxOf CX0 P w K mg base ["_law_script", "_law_piece", "_law_inner", "_law_due", "_law_word", "_law_todo", "_law_part", "_law_found", "_law_k"] "law" (defScope (top 13)) f cdv A outer s H E).nox) (.Name "_law_due" pos) (tVar 3) := fun {pos} => pv 3
  have p4 : ∀ {pos : Pos}, PE ((cxOf CX0 P w K mg base ["_law_script", "_law_piece", "_law_inner", "_law_due", "_law_word", "_law_todo", "_law_part", "_law_found", "_law_k"] "law" (defScope (top 13)) f cdv A outer s H E).nox) (.Name "_law_word" pos) (tVar 4) := fun {pos} => pv 4
  have p5 : ∀ {pos : Pos}, PE ((cxOf CX0 P w K mg base ["_law_script", "_law_piece", "_law_inner", "_law_due", "_law_word", "_law_todo", "_law_part", "_law_found", "_law_k"] "law" (defScope (top 13)) f cdv A outer s H E).nox) (.Name "_law_todo" pos) (tVar 5) := fun {pos} => pv 5
  have p6 : ∀ {pos : Pos}, PE ((cxOf CX0 P w K mg base ["_law_script", "_law_piece", "_law_inner", "_law_due", "_law_word", "_law_todo", "_law_part", "_law_found", "_law_k"] "law" (defScope (top 13)) f cdv A outer s H E).nox) (.Name "_law_part" pos) (tVar 6) := fun {pos} => pv 6
  have p7 : ∀ {pos : Pos}, PE ((cxOf CX0 P w K mg base ["_law_script", "_law_piece", "_law_inner", "_law_due", "_law_word", "_law_todo", "_law_part", "_law_found", "_law_k"] "law" (defScope (top 13)) f cdv A outer s H E).nox) (.Name "_law_found" pos) (tVar 7) := fun {pos} => pv 7
  have p8 : ∀ {pos : Pos}, PE ((cxOf CX0 P w K mg base ["_law_script", "_law_piece", "_law_inner", "_law_due", "_law_word", "_law_todo", "_law_part", "_law_found", "_law_k"] "law" (defScope (top 13)) f cdv A outer s H E).nox) (.Name "_law_k" pos) (tVar 8) := fun {pos} => pv 8
  have l1 : Loc (((cxOf CX0 P w K mg base ["_law_script", "_law_piece", "_law_inner", "_law_due", "_law_word", "_law_todo", "_law_part", "_law_found", "_law_k"] "law" (defScope (top 13)) f cdv A outer s H E).nox)).env.scope "_law_piece" := Or.inl rfl
  have g1 : ∀ {pos : Pos}, PG ((cxOf CX0 P w K mg base ["_law_script", "_law_piece", "_law_inner", "_law_due", "_law_word", "_law_todo", "_law_part", "_law_found", "_law_k"] "law" (defScope (top 13)) f cdv A outer s H E).nox) (.Name "_law_piece" pos) (gName 1) := fun {pos} => pg_name (i := 1) nd rfl l1
  have l2 : Loc (((cxOf CX0 P w K mg base ["_law_script", "_law_piece", "_law_inner", "_law_due", "_law_word", "_law_todo", "_law_part", "_law_found", "_law_k"] "law" (defScope (top 13)) f cdv A outer s H E).nox)).env.scope "_law_inner" := Or.inl rfl
  have g2 : ∀ {pos : Pos}, PG ((cxOf CX0 P w K mg base ["_law_script", "_law_piece", "_law_inner", "_law_due", "_law_word", "_law_todo", "_law_part", "_law_found", "_law_k"] "law" (defScope (top 13)) f cdv A outer s H E).nox) (.Name "_law_inner" pos) (gName 2) := fun {pos} => pg_name (i := 2) nd rfl l2
  have l3 : Loc (((cxOf CX0 P w K mg base ["_law_script", "_law_piece", "_law_inner", "_law_due", "_law_word", "_law_todo", "_law_part", "_law_found", "_law_k"] "law" (defScope (top 13)) f cdv A outer s H E).nox)).env.scope "_law_due" := Or.inl rfl
  have g3 : ∀ {pos : Pos}, PG ((cxOf CX0 P w K mg base ["_law_script", "_law_piece", "_law_inner", "_law_due", "_law_word", "_law_todo", "_law_part", "_law_found", "_law_k"] "law" (defScope (top 13)) f cdv A outer s H E).nox) (.Name "_law_due" pos) (gName 3) := fun {pos} => pg_name (i := 3) nd rfl l3
  have l4 : Loc (((cxOf CX0 P w K mg base ["_law_script", "_law_piece", "_law_inner", "_law_due", "_law_word", "_law_todo", "_law_part", "_law_found", "_law_k"] "law" (defScope (top 13)) f cdv A outer s H E).nox)).env.scope "_law_word" := Or.inl rfl
  have g4 : ∀ {pos : Pos}, PG ((cxOf CX0 P w K mg base ["_law_script", "_law_piece", "_law_inner", "_law_due", "_law_word", "_law_todo", "_law_part", "_law_found", "_law_k"] "law" (defScope (top 13)) f cdv A outer s H E).nox) (.Name "_law_word" pos) (gName 4) := fun {pos} => pg_name (i := 4) nd rfl l4
  have l5 : Loc (((cxOf CX0 P w K mg base ["_law_script", "_law_piece", "_law_inner", "_law_due", "_law_word", "_law_todo", "_law_part", "_law_found", "_law_k"] "law" (defScope (top 13)) f cdv A outer s H E).nox)).env.scope "_law_todo" := Or.inl rfl
  have g5 : ∀ {pos : Pos}, PG ((cxOf CX0 P w K mg base ["_law_script", "_law_piece", "_law_inner", "_law_due", "_law_word", "_law_todo", "_law_part", "_law_found", "_law_k"] "law" (defScope (top 13)) f cdv A outer s H E).nox) (.Name "_law_todo" pos) (gName 5) := fun {pos} => pg_name (i := 5) nd rfl l5
  have l6 : Loc (((cxOf CX0 P w K mg base ["_law_script", "_law_piece", "_law_inner", "_law_due", "_law_word", "_law_todo", "_law_part", "_law_found", "_law_k"] "law" (defScope (top 13)) f cdv A outer s H E).nox)).env.scope "_law_part" := Or.inl rfl
  have g6 : ∀ {pos : Pos}, PG ((cxOf CX0 P w K mg base ["_law_script", "_law_piece", "_law_inner", "_law_due", "_law_word", "_law_todo", "_law_part", "_law_found", "_law_k"] "law" (defScope (top 13)) f cdv A outer s H E).nox) (.Name "_law_part" pos) (gName 6) := fun {pos} => pg_name (i := 6) nd rfl l6
  have l7 : Loc (((cxOf CX0 P w K mg base ["_law_script", "_law_piece", "_law_inner", "_law_due", "_law_word", "_law_todo", "_law_part", "_law_found", "_law_k"] "law" (defScope (top 13)) f cdv A outer s H E).nox)).env.scope "_law_found" := Or.inl rfl
  have g7 : ∀ {pos : Pos}, PG ((cxOf CX0 P w K mg base ["_law_script", "_law_piece", "_law_inner", "_law_due", "_law_word", "_law_todo", "_law_part", "_law_found", "_law_k"] "law" (defScope (top 13)) f cdv A outer s H E).nox) (.Name "_law_found" pos) (gName 7) := fun {pos} => pg_name (i := 7) nd rfl l7
  have l8 : Loc (((cxOf CX0 P w K mg base ["_law_script", "_law_piece", "_law_inner", "_law_due", "_law_word", "_law_todo", "_law_part", "_law_found", "_law_k"] "law" (defScope (top 13)) f cdv A outer s H E).nox)).env.scope "_law_k" := Or.inl rfl
  have g8 : ∀ {pos : Pos}, PG ((cxOf CX0 P w K mg base ["_law_script", "_law_piece", "_law_inner", "_law_due", "_law_word", "_law_todo", "_law_part", "_law_found", "_law_k"] "law" (defScope (top 13)) f cdv A outer s H E).nox) (.Name "_law_k" pos) (gName 8) := fun {pos} => pg_name (i := 8) nd rfl l8
  have k_len : Gl ((cxOf CX0 P w K mg base ["_law_script", "_law_piece", "_law_inner", "_law_due", "_law_word", "_law_todo", "_law_part", "_law_found", "_law_k"] "law" (defScope (top 13)) f cdv A outer s H E).nox) "len" := by rfl
  have k_list : Gl ((cxOf CX0 P w K mg base ["_law_script", "_law_piece", "_law_inner", "_law_due", "_law_word", "_law_todo", "_law_part", "_law_found", "_law_k"] "law" (defScope (top 13)) f cdv A outer s H E).nox) "list" := by rfl
  have k_isinstance : Gl ((cxOf CX0 P w K mg base ["_law_script", "_law_piece", "_law_inner", "_law_due", "_law_word", "_law_todo", "_law_part", "_law_found", "_law_k"] "law" (defScope (top 13)) f cdv A outer s H E).nox) "isinstance" := by rfl
  have k_range : Gl ((cxOf CX0 P w K mg base ["_law_script", "_law_piece", "_law_inner", "_law_due", "_law_word", "_law_todo", "_law_part", "_law_found", "_law_k"] "law" (defScope (top 13)) f cdv A outer s H E).nox) "range" := by rfl
  have k_str : Gl ((cxOf CX0 P w K mg base ["_law_script", "_law_piece", "_law_inner", "_law_due", "_law_word", "_law_todo", "_law_part", "_law_found", "_law_k"] "law" (defScope (top 13)) f cdv A outer s H E).nox) "str" := by rfl
  have k__law_room : Gl ((cxOf CX0 P w K mg base ["_law_script", "_law_piece", "_law_inner", "_law_due", "_law_word", "_law_todo", "_law_part", "_law_found", "_law_k"] "law" (defScope (top 13)) f cdv A outer s H E).nox) "_law_room" := by rfl
  have k__law_drawn_main : Gl ((cxOf CX0 P w K mg base ["_law_script", "_law_piece", "_law_inner", "_law_due", "_law_word", "_law_todo", "_law_part", "_law_found", "_law_k"] "law" (defScope (top 13)) f cdv A outer s H E).nox) "_law_drawn_main" := by rfl
  have k__law_all_names : Gl ((cxOf CX0 P w K mg base ["_law_script", "_law_piece", "_law_inner", "_law_due", "_law_word", "_law_todo", "_law_part", "_law_found", "_law_k"] "law" (defScope (top 13)) f cdv A outer s H E).nox) "_law_all_names" := by rfl
  have k__law_inside : Gl ((cxOf CX0 P w K mg base ["_law_script", "_law_piece", "_law_inner", "_law_due", "_law_word", "_law_todo", "_law_part", "_law_found", "_law_k"] "law" (defScope (top 13)) f cdv A outer s H E).nox) "_law_inside" := by rfl
  have k_outside_names : Gl ((cxOf CX0 P w K mg base ["_law_script", "_law_piece", "_law_inner", "_law_due", "_law_word", "_law_todo", "_law_part", "_law_found", "_law_k"] "law" (defScope (top 13)) f cdv A outer s H E).nox) "outside_names" := by rfl
  exact (pss_cons (ps_set (i := 1) nd rfl l1 (pe_call G__law_drawn_main (hr.mono (by decide)) k__law_drawn_main T.g__law_drawn_main F__law_drawn_main.kp b__law_drawn_main .nil pass0 (pa_cons (pe_slice sl_list p0 (po_some pe_int) (po_some (pe_op op_add pe_int (pe_call G__law_room (hr.mono (by decide)) k__law_room T.g__law_room F__law_room.kp b__law_room .nil pass0 (pa_cons p0 (pa_cons pe_int (pa_cons pe_int pa_nil))))))) pa_nil))) (pss_cons (ps_if (pt_cmpR op_eq (pe_op op_mod (pe_callB call_len_seq k_len T.n_len bo_len (pa_cons p0 pa_nil)) pe_int) pe_int (nomark _)) (pss_cons (ps_set (i := 2) nd rfl l2 (pe_tup (pa_cons pe_str (pa_cons pe_str (pa_cons p1 (pa_cons (pe_tup (pa_cons pe_str (pa_cons (pe_tup (pa_cons pe_str (pa_cons pe_str pa_nil))) (pa_cons (pe_tup (pa_cons pe_str (pa_cons pe_str pa_nil))) pa_nil)))) pa_nil)))))) (pss_one (ps_set (i := 1) nd rfl l1 (pe_tup (pa_cons pe_str (pa_cons pe_str (pa_cons (pe_tup (pa_cons pe_str (pa_cons pe_int pa_nil))) (pa_cons p2 pa_nil)))))))) pss_nil) (pss_cons (ps_set (i := 3) nd rfl l3 (pe_lst pa_nil)) (pss_cons (ps_for PassesOwn.never rfl (pi_list (pe_call G__law_all_names (hr.mono (by decide)) k__law_all_names T.g__law_all_names F__law_all_names.kp b__law_all_names .nil pass0 (pa_cons p1 pa_nil))) g4 (pss_cons (ps_set (i := 5) nd rfl l5 (pe_lst (pa_cons p1 pa_nil))) (pss_one (ps_while PassesOwn.never (pt_cmpR (op_neNil hu0) p5 (pe_lst pa_nil) (nomark _)) (pss_cons (ps_set (i := 6) nd rfl l6 (pe_bm0 PySem.F.plainAttrs_list PySem.F.slot_list_pop PySem.F.type_list_pop mt_pop p5)) (pss_cons (ps_if (pw_and (pt_cmpR (op_eqT2 hu) p6 (pe_tup (pa_cons pe_str (pa_cons p4 pa_nil))) (nomark _)) (pw_and1 (pt_cmpR op_notIn_seq p4 p3 (by with_unfolding_all rfl)))).pt (pss_one (ps_expr (pe_bm PySem.F.plainAttrs_list PySem.F.slot_list_append PySem.F.type_list_append mt_append p3 (pa_cons p4 pa_nil)))) pss_nil) (pss_one (ps_if (pw_and (pt_cmpR op_eq (pe_ix ix_tup p6 pe_int (fun _ _ => rfl)) pe_str (nomark _)) (pw_and1 (pt_cmpR op_eq (pe_ix ix_tup p6 pe_int (fun _ _ => rfl)) p4 (nomark _)))).pt (pss_one (ps_expr (pe_bm PySem.F.plainAttrs_list PySem.F.slot_list_append PySem.F.type_list_append mt_append p5 (pa_cons (pe_ix ix_tup p6 pe_int (fun _ _ => rfl)) pa_nil)))) (pss_one (ps_set (i := 5) nd rfl l5 (pe_op op_cat p5 (pe_call G__law_inside (hr.mono (by decide)) k__law_inside T.g__law_inside F__law_inside.kp b__law_inside .nil pass0 (pa_cons p6 pa_nil))))))))))))) (pss_cons (ps_set (i := 7) nd rfl l7 (pe_call G_outside_names (hr.mono (by decide)) k_outside_names T.g_outside_names F_outside_names.kp b_outside_names .nil pass0 (pa_cons p1 pa_nil))) (pss_cons (ps_if (pw_or (pt_not (pt_val (pe_callB call_isi k_isinstance T.n_isinstance bo_isinstance (pa_cons p7 (pa_cons (pe_bltn (v := .ty "list") k_list T.n_list bo_list rfl) pa_nil))))) (pw_or1 (pt_cmpR op_ne (pe_callB call_len_seq k_len T.n_len bo_len (pa_cons p7 pa_nil)) (pe_callB call_len_seq k_len T.n_len bo_len (pa_cons p3 pa_nil)) (nomark _)))).pt (pss_one (ps_ret pe_bl)) pss_nil) (pss_cons (ps_for PassesOwn.never rfl (pi_range1 k_range T.n_range (pa_cons (pe_callB call_len_seq k_len T.n_len bo_len (pa_cons p3 pa_nil)) pa_nil)) g8 (pss_one (ps_if (pw_or (pt_not (pt_val (pe_callB call_isi k_isinstance T.n_isinstance bo_isinstance (pa_cons (pe_ix ix_list p7 p8 (fun _ _ => rfl)) (pa_cons (pe_bltn (v := .ty "str") k_str T.n_str bo_str rfl) pa_nil))))) (pw_or1 (pt_cmpR op_ne (pe_ix ix_list p7 p8 (fun _ _ => rfl)) (pe_ix ix_list p3 p8 (fun _ _ => rfl)) (nomark _)))).pt (pss_one (ps_ret pe_bl)) pss_nil))) (pss_one (ps_ret pe_bl)))))))))
end
end K2


set_option Elab.async false
set_option linter.all false
set_option maxRecDepth 100000
set_option maxHeartbeats 4000000
namespace K2
open PySem L2 SW
theorem all_mk {l : PySem.W.OpenLaw} {w : World} {K : PySem.W.Frag} {h : Heap} {mg : Str → Option Value} {fa : Addr} (X : K.In h) (G : h.Ns mainGlobals mg) (hfa : mg "law" = some (.ref fa))
    {f0 : Addr} {od0 an0 : Option Addr} {sl0 : Array (Option Value)} {oc0 kV0 dc0 pm0 cd0 ct0 : Value}
    {f1 : Addr} {od1 an1 : Option Addr} {sl1 : Array (Option Value)} {oc1 kV1 dc1 pm1 cd1 ct1 : Value}
    {f2 : Addr} {od2 an2 : Option Addr} {sl2 : Array (Option Value)} {oc2 kV2 dc2 pm2 cd2 ct2 : Value}
    {f3 : Addr} {od3 an3 : Option Addr} {sl3 : Array (Option Value)} {oc3 kV3 dc3 pm3 cd3 ct3 : Value}
    {f4 : Addr} {od4 an4 : Option Addr} {sl4 : Array (Option Value)} {oc4 kV4 dc4 pm4 cd4 ct4 : Value}
    {f5 : Addr} {od5 an5 : Option Addr} {sl5 : Array (Option Value)} {oc5 kV5 dc5 pm5 cd5 ct5 : Value}
    {f6 : Addr} {od6 an6 : Option Addr} {sl6 : Array (Option Value)} {oc6 kV6 dc6 pm6 cd6 ct6 : Value}
    {f7 : Addr} {od7 an7 : Option Addr} {sl7 : Array (Option Value)} {oc7 kV7 dc7 pm7 cd7 ct7 : Value}
    {f8 : Addr} {od8 an8 : Option Addr} {sl8 : Array (Option Value)} {oc8 kV8 dc8 pm8 cd8 ct8 : Value}
    {f9 : Addr} {od9 an9 : Option Addr} {sl9 : Array (Option Value)} {oc9 kV9 dc9 pm9 cd9 ct9 : Value}
    {f10 : Addr} {od10 an10 : Option Addr} {sl10 : Array (Option Value)} {oc10 kV10 dc10 pm10 cd10 ct10 : Value}
    {f11 : Addr} {od11 an11 : Option Addr} {sl11 : Array (Option Value)} {oc11 kV11 dc11 pm11 cd11 ct11 : Value}
    (a0 : PySem.W.nsIn K mainGlobals "_law_any" = some (some (.ref f0))) (l0 : K.lookup f0 = some ⟨oc0, od0, .func (PySem.W.fnOf "_law_any" "_law_any" (defArgs (top 10)) (defBody (top 10)) (defScope (top 10)) .none kV0 dc0 pm0 an0 cd0 ct0), sl0⟩) (c0 : PySem.W.codeIn K cd0 "_law_any" = true) (k0 : PySem.W.keepIn K (.ref f0) = true)
    (a1 : PySem.W.nsIn K mainGlobals "_law_any_word" = some (some (.ref f1))) (l1 : K.lookup f1 = some ⟨oc1, od1, .func (PySem.W.fnOf "_law_any_word" "_law_any_word" (defArgs (top 9)) (defBody (top 9)) (defScope (top 9)) .none kV1 dc1 pm1 an1 cd1 ct1), sl1⟩) (c1 : PySem.W.codeIn K cd1 "_law_any_word" = true) (k1 : PySem.W.keepIn K (.ref f1) = true)
    (a2 : PySem.W.nsIn K mainGlobals "_law_room" = some (some (.ref f2))) (l2 : K.lookup f2 = some ⟨oc2, od2, .func (PySem.W.fnOf "_law_room" "_law_room" (defArgs (top 11)) (defBody (top 11)) (defScope (top 11)) .none kV2 dc2 pm2 an2 cd2 ct2), sl2⟩) (c2 : PySem.W.codeIn K cd2 "_law_room" = true) (k2 : PySem.W.keepIn K (.ref f2) = true)
    (a3 : PySem.W.nsIn K mainGlobals "with_word" = some (some (.ref f3))) (l3 : K.lookup f3 = some ⟨oc3, od3, .func (PySem.W.fnOf "with_word" "with_word" (defArgs (top 2)) (defBody (top 2)) (defScope (top 2)) .none kV3 dc3 pm3 an3 cd3 ct3), sl3⟩) (c3 : PySem.W.codeIn K cd3 "with_word" = true) (k3 : PySem.W.keepIn K (.ref f3) = true)
    (a4 : PySem.W.nsIn K mainGlobals "parts" = some (some (.ref f4))) (l4 : K.lookup f4 = some ⟨oc4, od4, .func (PySem.W.fnOf "parts" "parts" (defArgs (top 1)) (defBody (top 1)) (defScope (top 1)) .none kV4 dc4 pm4 an4 cd4 ct4), sl4⟩) (c4 : PySem.W.codeIn K cd4 "parts" = true) (k4 : PySem.W.keepIn K (.ref f4) = true)
    (a5 : PySem.W.nsIn K mainGlobals "_law_inside" = some (some (.ref f5))) (l5 : K.lookup f5 = some ⟨oc5, od5, .func (PySem.W.fnOf "_law_inside" "_law_inside" (defArgs (top 7)) (defBody (top 7)) (defScope (top 7)) .none kV5 dc5 pm5 an5 cd5 ct5), sl5⟩) (c5 : PySem.W.codeIn K cd5 "_law_inside" = true) (k5 : PySem.W.keepIn K (.ref f5) = true)
    (a6 : PySem.W.nsIn K mainGlobals "pieces_with_lets" = some (some (.ref f6))) (l6 : K.lookup f6 = some ⟨oc6, od6, .func (PySem.W.fnOf "pieces_with_lets" "pieces_with_lets" (defArgs (top 3)) (defBody (top 3)) (defScope (top 3)) .none kV6 dc6 pm6 an6 cd6 ct6), sl6⟩) (c6 : PySem.W.codeIn K cd6 "pieces_with_lets" = true) (k6 : PySem.W.keepIn K (.ref f6) = true)
    (a7 : PySem.W.nsIn K mainGlobals "outside_names" = some (some (.ref f7))) (l7 : K.lookup f7 = some ⟨oc7, od7, .func (PySem.W.fnOf "outside_names" "outside_names" (defArgs (top 4)) (defBody (top 4)) (defScope (top 4)) .none kV7 dc7 pm7 an7 cd7 ct7), sl7⟩) (c7 : PySem.W.codeIn K cd7 "outside_names" = true) (k7 : PySem.W.keepIn K (.ref f7) = true)
    (a8 : PySem.W.nsIn K mainGlobals "_law_drawn_piece" = some (some (.ref f8))) (l8 : K.lookup f8 = some ⟨oc8, od8, .func (PySem.W.fnOf "_law_drawn_piece" "_law_drawn_piece" (defArgs (top 6)) (defBody (top 6)) (defScope (top 6)) .none kV8 dc8 pm8 an8 cd8 ct8), sl8⟩) (c8 : PySem.W.codeIn K cd8 "_law_drawn_piece" = true) (k8 : PySem.W.keepIn K (.ref f8) = true)
    (a9 : PySem.W.nsIn K mainGlobals "_law_drawn_main" = some (some (.ref f9))) (l9 : K.lookup f9 = some ⟨oc9, od9, .func (PySem.W.fnOf "_law_drawn_main" "_law_drawn_main" (defArgs (top 8)) (defBody (top 8)) (defScope (top 8)) .none kV9 dc9 pm9 an9 cd9 ct9), sl9⟩) (c9 : PySem.W.codeIn K cd9 "_law_drawn_main" = true) (k9 : PySem.W.keepIn K (.ref f9) = true)
    (a10 : PySem.W.nsIn K mainGlobals "_law_all_names" = some (some (.ref f10))) (l10 : K.lookup f10 = some ⟨oc10, od10, .func (PySem.W.fnOf "_law_all_names" "_law_all_names" (defArgs (top 12)) (defBody (top 12)) (defScope (top 12)) .none kV10 dc10 pm10 an10 cd10 ct10), sl10⟩) (c10 : PySem.W.codeIn K cd10 "_law_all_names" = true) (k10 : PySem.W.keepIn K (.ref f10) = true)
    (a11 : PySem.W.nsIn K mainGlobals "law" = some (some (.ref f11))) (l11 : K.lookup f11 = some ⟨oc11, od11, .func (PySem.W.fnOf "law" "law" (defArgs (top 13)) (defBody (top 13)) (defScope (top 13)) .none kV11 dc11 pm11 an11 cd11 ct11), sl11⟩) (c11 : PySem.W.codeIn K cd11 "law" = true) (k11 : PySem.W.keepIn K (.ref f11) = true)
    (z0 : PySem.W.nsIn K mainGlobals "abs" = some none)
    (z1 : PySem.W.nsIn K mainGlobals "len" = some none)
    (z2 : PySem.W.nsIn K mainGlobals "dict" = some none)
    (z3 : PySem.W.nsIn K mainGlobals "int" = some none)
    (z4 : PySem.W.nsIn K mainGlobals "list" = some none)
    (z5 : PySem.W.nsIn K mainGlobals "sorted" = some none)
    (z6 : PySem.W.nsIn K mainGlobals "min" = some none)
    (z7 : PySem.W.nsIn K mainGlobals "tuple" = some none)
    (z8 : PySem.W.nsIn K mainGlobals "isinstance" = some none)
    (z9 : PySem.W.nsIn K mainGlobals "range" = some none)
    (z10 : PySem.W.nsIn K mainGlobals "str" = some none) :
    ∃ fd : FuncData, (∀ (s : Shared) (v : Value), BindsTo s fd ⟨[v], []⟩ [("_law_script", v)]) ∧ ∀ base : Heap, K.In base → base.Ns mainGlobals mg → FnOk l.prog w K mg base CX0 4 fa fd ["_law_script"] (spLaw K) := by
  have e := hfa.symm.trans (PySem.W.mg_of X G a11)
  cases e
  have T : Txt mg ⟨f0, f1, f2, f3, f4, f5, f6, f7, f8, f9, f10⟩ := ⟨PySem.W.mg_none_of X G z0, PySem.W.mg_none_of X G z1, PySem.W.mg_none_of X G z2, PySem.W.mg_none_of X G z3, PySem.W.mg_none_of X G z4, PySem.W.mg_none_of X G z5, PySem.W.mg_none_of X G z6, PySem.W.mg_none_of X G z7, PySem.W.mg_none_of X G z8, PySem.W.mg_none_of X G z9, PySem.W.mg_none_of X G z10, PySem.W.mg_of X G a0, PySem.W.mg_of X G a1, PySem.W.mg_of X G a2, PySem.W.mg_of X G a3, PySem.W.mg_of X G a4, PySem.W.mg_of X G a5, PySem.W.mg_of X G a6, PySem.W.mg_of X G a7, PySem.W.mg_of X G a8, PySem.W.mg_of X G a9, PySem.W.mg_of X G a10⟩
  have F0 := fun_mk (st := top 10) l0 c0 k0
  have b0 := F0.binds (ps := ["_law_cell"]) fun _ _ _ _ _ _ us hl => match us, hl with | [_], _ => rfl
  have F1 := fun_mk (st := top 9) l1 c1 k1
  have b1 := F1.binds (ps := ["_law_cell"]) fun _ _ _ _ _ _ us hl => match us, hl with | [_], _ => rfl
  have F2 := fun_mk (st := top 11) l2 c2 k2
  have b2 := F2.binds (ps := ["_law_script", "_law_most", "_law_bound"]) fun _ _ _ _ _ _ us hl => match us, hl with | [_, _, _], _ => rfl
  have F3 := fun_mk (st := top 2) l3 c3 k3
  have b3 := F3.binds (ps := ["words", "word", "value"]) fun _ _ _ _ _ _ us hl => match us, hl with | [_, _, _], _ => rfl
  have F4 := fun_mk (st := top 1) l4 c4 k4
  have b4 := F4.binds (ps := ["piece"]) fun _ _ _ _ _ _ us hl => match us, hl with | [_], _ => rfl
  have F5 := fun_mk (st := top 7) l5 c5 k5
  have b5 := F5.binds (ps := ["_law_piece"]) fun _ _ _ _ _ _ us hl => match us, hl with | [_], _ => rfl
  have F6 := fun_mk (st := top 3) l6 c6 k6
  have b6 := F6.binds (ps := ["piece", "lets"]) fun _ _ _ _ _ _ us hl => match us, hl with | [_, _], _ => rfl
  have F7 := fun_mk (st := top 4) l7 c7 k7
  have b7 := F7.binds (ps := ["piece"]) fun _ _ _ _ _ _ us hl => match us, hl with | [_], _ => rfl
  have F8 := fun_mk (st := top 6) l8 c8 k8
  have b8 := F8.binds (ps := ["_law_cells", "_law_stamps"]) fun _ _ _ _ _ _ us hl => match us, hl with | [_, _], _ => rfl
  have F9 := fun_mk (st := top 8) l9 c9 k9
  have b9 := F9.binds (ps := ["_law_cells"]) fun _ _ _ _ _ _ us hl => match us, hl with | [_], _ => rfl
  have F10 := fun_mk (st := top 12) l10 c10 k10
  have b10 := F10.binds (ps := ["_law_piece"]) fun _ _ _ _ _ _ us hl => match us, hl with | [_], _ => rfl
  have F11 := fun_mk (st := top 13) l11 c11 k11
  have g0 : ∀ base : Heap, FnOk l.prog w K mg base CX0 1 f0 _ ["_law_cell"] spAny := fun base => ok_any F0 T 
  have g1 : ∀ base : Heap, FnOk l.prog w K mg base CX0 1 f1 _ ["_law_cell"] spWord := fun base => ok_aw F1 T 
  have g2 : ∀ base : Heap, FnOk l.prog w K mg base CX0 1 f2 _ ["_law_script", "_law_most", "_law_bound"] (spRoom K) := fun base => ok_room F2 T 
  have g3 : ∀ base : Heap, FnOk l.prog w K mg base CX0 1 f3 _ ["words", "word", "value"] spWithWord := fun base => ok_ww F3 T 
  have g4 : ∀ base : Heap, FnOk l.prog w K mg base CX0 1 f4 _ ["piece"] spParts := fun base => ok_parts F4 T 
  have g5 : ∀ base : Heap, FnOk l.prog w K mg base CX0 1 f5 _ ["_law_piece"] spInside := fun base => ok_ins F5 T 
  have g6 : ∀ base : Heap, FnOk l.prog w K mg base CX0 2 f6 _ ["piece", "lets"] spPwl := fun base => ok_pwl F6 T (g3 base) F3 b3 (g4 base) F4 b4
  have g7 : ∀ base : Heap, FnOk l.prog w K mg base CX0 3 f7 _ ["piece"] spOut := fun base => ok_out F7 T (g6 base) F6 b6
  have g8 : ∀ base : Heap, FnOk l.prog w K mg base CX0 2 f8 _ ["_law_cells", "_law_stamps"] (spDrawn K SMain) := fun base => ok_dp F8 T (g1 base) F1 b1 (g0 base) F0 b0
  have g9 : ∀ base : Heap, FnOk l.prog w K mg base CX0 3 f9 _ ["_law_cells"] (spMain K) := fun base => ok_main F9 T (g8 base) F8 b8
  have g10 : ∀ base : Heap, FnOk l.prog w K mg base CX0 2 f10 _ ["_law_piece"] spAll := fun base => ok_all F10 T (g5 base) F5 b5
  exact ⟨PySem.W.fnOf "law" "law" (defArgs (top 13)) (defBody (top 13)) (defScope (top 13)) .none kV11 dc11 pm11 an11 cd11 ct11, fun s v => .of_eq rfl, fun base _ _ => ok_law F11 T (g2 base) F2 b2 (g9 base) F9 b9 (g10 base) F10 b10 (g5 base) F5 b5 (g7 base) F7 b7⟩
theorem walk {l : PySem.W.OpenLaw} {q : Program} {loose : List Str} {XP : (Str → Option Value) → Heap → Prop} {YP : World → Heap → Prop} {d : DefRec} {K : Params → PySem.W.Frag} (hn : l.most = some 63) (hdf : d.params.defaults = [])
    (hY : ∀ (w : World) (h : Heap), YP w h → (K w.params).In h)
    (F : ∀ (w : World) (mg : Str → Option Value) (fa : Addr) (h : Heap), (K w.params).In h → h.Ns mainGlobals mg → mg d.name = some (.ref fa) →
      ∃ fd : FuncData, (∀ (s : Shared) (u : Value), BindsTo s fd ⟨[u], []⟩ [("_law_script", u)]) ∧ ∀ base : Heap, (K w.params).In base → base.Ns mainGlobals mg → FnOk l.prog w (K w.params) mg base CX0 4 fa fd ["_law_script"] (spLaw (K w.params))) :
    PySem.W.WalkO q loose XP YP l.row.toRowW d [] (fun f vs => PySem.call f vs) :=
  L2.walk_of (n := 63) (k := 4) (x := "_law_script") (CX := fun _ => CX0) (sp := fun w => spLaw (K w.params)) hn (by decide) hdf ⟨rfl, by decide, by decide⟩ hY F (fun _ _ a ns hl _ hS => ⟨a, ns, rfl, hS, hl, fun _ => rfl⟩) fun _ _ _ _ _ z => z
end K2
open PySem PySem.W PyProof.Rows
set_option maxRecDepth 100000 in
set_option maxHeartbeats 0 in
theorem PySem.Challenge.cw_stampword_k02_outside_names_holds : PySem.Challenge.rw_stampword_k02_outside_names.Holds := by
  w_on; o_law; k_head; (case hw => w_witness2)
  k_fill
  refine K2.walk (l := PySem.Challenge.rw_stampword_k02_outside_names) rfl rfl (fun w h Y => PySem.W.kIn_of Y) ?F
  case F =>
    intro w mg fa h KX G hmg
    refine' K2.all_mk KX G hmg ?a0 ?l0 ?c0 ?k0 ?a1 ?l1 ?c1 ?k1 ?a2 ?l2 ?c2 ?k2 ?a3 ?l3 ?c3 ?k3 ?a4 ?l4 ?c4 ?k4 ?a5 ?l5 ?c5 ?k5 ?a6 ?l6 ?c6 ?k6 ?a7 ?l7 ?c7 ?k7 ?a8 ?l8 ?c8 ?k8 ?a9 ?l9 ?c9 ?k9 ?a10 ?l10 ?c10 ?k10 ?a11 ?l11 ?c11 ?k11 ?z0 ?z1 ?z2 ?z3 ?z4 ?z5 ?z6 ?z7 ?z8 ?z9 ?z10
    (case a0 => k_is)
    (case l0 => k_is)
    (case c0 => k_is)
    (case k0 => k_is)
    (case a1 => k_is)
    (case l1 => k_is)
    (case c1 => k_is)
    (case k1 => k_is)
    (case a2 => k_is)
    (case l2 => k_is)
    (case c2 => k_is)
    (case k2 => k_is)
    (case a3 => k_is)
    (case l3 => k_is)
    (case c3 => k_is)
    (case k3 => k_is)
    (case a4 => k_is)
    (case l4 => k_is)
    (case c4 => k_is)
    (case k4 => k_is)
    (case a5 => k_is)
    (case l5 => k_is)
    (case c5 => k_is)
    (case k5 => k_is)
    (case a6 => k_is)
    (case l6 => k_is)
    (case c6 => k_is)
    (case k6 => k_is)
    (case a7 => k_is)
    (case l7 => k_is)
    (case c7 => k_is)
    (case k7 => k_is)
    (case a8 => k_is)
    (case l8 => k_is)
    (case c8 => k_is)
    (case k8 => k_is)
    (case a9 => k_is)
    (case l9 => k_is)
    (case c9 => k_is)
    (case k9 => k_is)
    (case a10 => k_is)
    (case l10 => k_is)
    (case c10 => k_is)
    (case k10 => k_is)
    (case a11 => k_is)
    (case l11 => k_is)
    (case c11 => k_is)
    (case k11 => k_is)
    (case z0 => k_is)
    (case z1 => k_is)
    (case z2 => k_is)
    (case z3 => k_is)
    (case z4 => k_is)
    (case z5 => k_is)
    (case z6 => k_is)
    (case z7 => k_is)
    (case z8 => k_is)
    (case z9 => k_is)
    (case z10 => k_is)
#print axioms PySem.Challenge.cw_stampword_k02_outside_names_holds

