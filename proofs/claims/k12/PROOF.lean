import PyProof.Rows.All
import Wide.All
import OpenK.AllK
import Wide.FinOn
import Lean
import PyProof.EqAt
import PyProof.EqKinds
import PyProof.TupleCall
import PySem.Challenge.RW_rowmend_k12_notes_that_write_nothing

set_option Elab.async false
set_option linter.all false
set_option maxRecDepth 100000
/-! THE HAND LAYER, for ints, bools, texts, own classes, LISTS and tuples (index, slices, in, append, pop ..), calls, loops. Paste it whole ahead of your own text; what your proof does not reach may be deleted. -/
namespace L2
open PySem PySem.Spec PyProof.Rows

/-- a key: an int or a str -/
abbrev Key := Sum Int Str
def keyIs : Key → Value → Bool
  | .inl k, v => Value.isInt k v
  | .inr x, v => Value.isStrOf x v
def keyH (w : World) : Key → Int
  | .inl k => hashInt k
  | .inr x => hashStr w x
theorem keyIs_shape : ∀ {k : Key} {v : Value}, keyIs k v = true → (∃ i t, k = Sum.inl i ∧ v = Value.int i t) ∨ (∃ x t, k = Sum.inr x ∧ v = Value.str x t)
  | .inl i, v, h => by
    obtain ⟨t, e⟩ := Value.isInt_shape (k := i) (v := v) h
    exact .inl ⟨i, t, rfl, e⟩
  | .inr x, v, h => by
    obtain ⟨t, e⟩ := Value.isStrOf_shape (x := x) (v := v) h
    exact .inr ⟨x, t, rfl, e⟩
theorem keyIs_int (i : Int) (t : Tok) : keyIs (.inl i) (.int i t) = true := by simp [keyIs, Value.isInt]
theorem keyIs_str (x : Str) (t : Tok) : keyIs (.inr x) (.str x t) = true := by simp [keyIs, Value.isStrOf]
theorem key_ll (a b : Int) : decide ((Sum.inl a : Key) = Sum.inl b) = (a == b) := by
  by_cases e : a = b
  · subst e; simp
  · have h : ¬ (Sum.inl a : Key) = Sum.inl b := fun q => e (Sum.inl.inj q)
    rw [decide_eq_false h]
    exact (beq_eq_false_iff_ne.mpr e).symm
theorem key_rr (a b : Str) : decide ((Sum.inr a : Key) = Sum.inr b) = decide (a = b) := by
  by_cases e : a = b
  · subst e; simp
  · have h : ¬ (Sum.inr a : Key) = Sum.inr b := fun q => e (Sum.inr.inj q)
    rw [decide_eq_false h, decide_eq_false e]
theorem key_lr (a : Int) (b : Str) : decide ((Sum.inl a : Key) = Sum.inr b) = false := decide_eq_false (fun q => nomatch q)
theorem key_rl (a : Str) (b : Int) : decide ((Sum.inr a : Key) = Sum.inl b) = false := decide_eq_false (fun q => nomatch q)

def mixKind (prog : Program) (w : World) : PySem.KeyKind prog w Key where
  is := keyIs
  hash := keyH w
  inj := fun v a b ha hb => by
    rcases keyIs_shape ha with ⟨i, t, rfl, rfl⟩ | ⟨x, t, rfl, rfl⟩
    · rcases keyIs_shape hb with ⟨j, u, rfl, e⟩ | ⟨y, u, rfl, e⟩
      · injection e with e1 _; rw [e1]
      · exact nomatch e
    · rcases keyIs_shape hb with ⟨j, u, rfl, e⟩ | ⟨y, u, rfl, e⟩
      · exact nomatch e
      · injection e with e1 _; rw [e1]
  byValue := fun k v h => by
    rcases keyIs_shape h with ⟨i, t, rfl, rfl⟩ | ⟨x, t, rfl, rfl⟩ <;> rfl
  pyHash := fun hv h => by
    rcases keyIs_shape hv with ⟨i, t, rfl, rfl⟩ | ⟨x, t, rfl, rfl⟩
    · exact wpAny_pyHash_int h
    · exact wpAny_pyHash_str h
  eqBool := fun hu hv h => by
    rcases keyIs_shape hu with ⟨i, t, rfl, rfl⟩ | ⟨x, t, rfl, rfl⟩
    · rcases keyIs_shape hv with ⟨j, u, rfl, rfl⟩ | ⟨y, u, rfl, rfl⟩
      · rw [key_ll] at h; exact wpAny_eqBool_int h
      · rw [key_lr] at h; exact SeqAt.EqAt.int_str i t y u _ _ _ _ h
    · rcases keyIs_shape hv with ⟨j, u, rfl, rfl⟩ | ⟨y, u, rfl, rfl⟩
      · rw [key_rl] at h; exact SeqAt.EqAt.str_int x t j u _ _ _ _ h
      · rw [key_rr] at h; exact wpAny_eqBool_str h
  «strs» := fun k x t v h => by
    rcases keyIs_shape h with ⟨i, u, rfl, e⟩ | ⟨y, u, rfl, e⟩
    · exact nomatch e
    · injection e with e1 _
      subst e1
      cases v <;> rfl

theorem mixKind_is (prog : Program) (w : World) (k : Key) (v : Value) : (mixKind prog w).is k v = keyIs k v := rfl
theorem mixKind_int (prog : Program) (w : World) (i : Int) (t : Tok) : (mixKind prog w).is (.inl i) (.int i t) = true := keyIs_int i t
theorem mixKind_str (prog : Program) (w : World) (x : Str) (t : Tok) : (mixKind prog w).is (.inr x) (.str x t) = true := keyIs_str x t
end L2

namespace L2
open PySem PySem.Spec PyProof.Rows

/-- a value, without the heap -/
inductive V where
  | non | bl (b : Bool) | int (i : Int) | str (x : Str) | byt (b : Array UInt8) | flt (b : UInt64) | ref (a : Addr) | ty (n : String)
  deriving DecidableEq

def RelV : V → Value → Prop
  | .non, u => u = Value.none
  | .bl b, u => u = Value.bool b
  | .int i, u => ∃ t, u = Value.int i t
  | .str x, u => ∃ t, u = Value.str x t
  | .byt b, u => ∃ t, u = Value.bytes b t
  | .flt b, u => ∃ t, u = Value.float b t
  | .ref a, u => u = Value.ref a
  | .ty n, u => u = Value.type n

abbrev Vals : List V → List Value → Prop := Paired RelV
theorem Vals.length {xs : List V} {us : List Value} (r : Vals xs us) : xs.length = us.length := Paired.length r
theorem Vals.get : ∀ {xs : List V} {us : List Value} {i : Nat} {x : V}, Vals xs us → xs[i]? = some x → ∃ u, us[i]? = some u ∧ RelV x u
  | _, _, _, _, .nil, e => by simp at e
  | _, _, 0, _, .cons r _, e => by simp at e; subst e; exact ⟨_, rfl, r⟩
  | _, _, i + 1, x, .cons _ t, e => by
    obtain ⟨u, h1, h2⟩ := Vals.get (i := i) (x := x) t (by simpa using e)
    exact ⟨u, by simpa using h1, h2⟩
theorem Vals.set {x : V} {u : Value} (r : RelV x u) : ∀ {xs : List V} {us : List Value} (i : Nat), Vals xs us → Vals (xs.set i x) (us.set i u)
  | _, _, _, .nil => .nil
  | _, _, 0, .cons _ t => .cons r t
  | _, _, i + 1, .cons q t => .cons q (Vals.set r i t)
theorem Vals.append : ∀ {xs ys : List V} {us ws : List Value}, Vals xs us → Vals ys ws → Vals (xs ++ ys) (us ++ ws)
  | _, _, _, _, .nil, s => s
  | _, _, _, _, .cons r t, s => .cons r (Vals.append t s)
theorem Vals.take : ∀ {xs : List V} {us : List Value} (n : Nat), Vals xs us → Vals (xs.take n) (us.take n)
  | _, _, 0, _ => .nil
  | _, _, _ + 1, .nil => .nil
  | _, _, n + 1, .cons r t => .cons r (Vals.take n t)
theorem Vals.drop : ∀ {xs : List V} {us : List Value} (n : Nat), Vals xs us → Vals (xs.drop n) (us.drop n)
  | _, _, 0, r => r
  | _, _, _ + 1, .nil => .nil
  | _, _, n + 1, .cons _ t => Vals.drop n t
theorem Vals.none_of : ∀ {xs : List V} {us : List Value} {i : Nat}, Vals xs us → xs[i]? = none → us[i]? = none := fun {xs us i} r e => by
  have h1 := r.length
  have h2 : xs.length ≤ i := List.getElem?_eq_none_iff.mp e
  exact List.getElem?_eq_none_iff.mpr (by omega)

def RelO : Option V → Option Value → Prop
  | some v, some u => RelV v u
  | none, none => True
  | _, _ => False
def KV {κ : Type} : List (κ × V) → List (κ × Value) → Prop := Paired fun (p : κ × V) (q : κ × Value) => p.1 = q.1 ∧ RelV p.2 q.2

/-- a key of a dict (00_mix): an int or a text -/
def kV : Key → V
  | .inl i => .int i
  | .inr x => .str x

/-- what stands at a tracked address -/
inductive HO where
  /-- a list -/
  | lst (xs : List V)
  /-- a tuple (never changes) -/
  | tup (xs : List V)
  /-- a dict whose keys are ints and texts; one whose keys are tuples of ints and texts (the empty one is both) -/
  | dK (kvs : List (Key × V)) | dT (kvs : List (List Key × V))
  /-- a set of ints: its members, its size -/
  | set (S : Int → Bool) (n : Nat)
  /-- an instance of the class at C, its dict at dx, its attributes -/
  | ins (C dx : Addr) (fs : List (Str × V))
  /-- the dict of the instance at x -/
  | own (x : Addr)
  /-- the dict of an exception -/
  | xd (fs : List (Str × V))
  /-- a bound method, f of x -/
  | met (f x : Addr)
  /-- a range object lo, lo + 1, .. below hi -/
  | rng (lo hi : Int)
  /-- a thing that is known to the object (the script; a dict while a loop walks it): read, never written while it is so -/
  | frz (o : Obj) (u : HO)
  /-- a code object's table -/
  | tbl (ps : Array Value)
  /-- any other thing, by what is true of its one object (a def of one's own: SetO a S n := HO.ext fun h => ..) -/
  | ext (φ : Heap → Prop)

abbrev Hp := Addr → Option HO
def upd (H : Hp) (a : Addr) (o : HO) : Hp := fun b => if b = a then some o else H b
theorem upd_same {H : Hp} {a : Addr} {o : HO} : upd H a o a = some o := by unfold upd; rw [if_pos rfl]
theorem upd_ne {H : Hp} {a b : Addr} {o : HO} (h : b ≠ a) : upd H a o b = H b := by unfold upd; rw [if_neg h]
theorem upd_upd {H : Hp} {a : Addr} {o u : HO} : upd (upd H a o) a u = upd H a u := by
  funext b; unfold upd; split <;> rfl
/-- two objects of different content stand apart -/
theorem ne_of {H : Hp} {a b : Addr} {o u : HO} (h : H a = some o) (h' : H b = some u) (d : o ≠ u) : a ≠ b := by
  intro e; subst e; rw [h] at h'; exact d (Option.some.inj h')
theorem ne_of_none {H : Hp} {a b : Addr} {o : HO} (h : H a = some o) (h' : H b = none) : a ≠ b := by
  intro e; subst e; rw [h] at h'; cases h'

section
variable (P : Program) (w : World)
def ObjOk (H : Hp) (h : Heap) (a : Addr) : HO → Prop
  | .lst xs => xs.length ≤ sizeLine ∧ ∃ (its : List Value) (n : Nat), Vals xs its ∧ h.get? a = some { cls := .type "list", data := .seq its.toArray n }
  | .tup xs => xs.length ≤ sizeLine ∧ ∃ its : List Value, Vals xs its ∧ IsTup h a its.toArray
  | .dK kvs => kvs.length ≤ sizeLine ∧ (a == sysModules) = false ∧ ∃ vs, KV kvs vs ∧ h.DictOf (mixKind P w) a vs
  | .dT kvs => kvs.length ≤ sizeLine ∧ (a == sysModules) = false ∧ ∃ xs : List (List Key × Addr × Value),
      Paired (fun (p : List Key × V) (q : List Key × Addr × Value) => p.1 = q.1 ∧ H q.2.1 = some (.tup (p.1.map kV)) ∧ RelV p.2 q.2.2) kvs xs ∧
      ∃ o es ep, h.get? a = some o ∧ o.ExactDict ∧ o.data = .dict es ep ∧ es.toList = xs.map (entryOfKey (tupleKind (mixKind P w))) ∧ (xs.map (·.1)).Nodup
  | .set S n => h.SetOf (intKind P w) a S n
  | .ins C dx fs => H dx = some (.own a) ∧ fs.length ≤ 1000 ∧ dx ≠ a ∧ h.get? a = some (PySem.W.instObj C dx) ∧
      ∃ mA, h.Ns1 dx mA ∧ (∀ f, RelO (fs.lookup f) (mA f)) ∧ PySem.Within mA (fs.map (·.1))
  | .own _ => ∃ o, h.get? a = some o
  | .xd fs => ∃ mA, h.Ns1 a mA ∧ ∀ f, RelO (fs.lookup f) (mA f)
  | .rng lo hi => ∃ t u v, h.get? a = some { cls := .type "range", data := .fields #[.int lo t, .int hi u, .int 1 v] }
  | .frz o u => h.get? a = some o ∧ ObjOk H h a u
  | .tbl ps => h.get? a = some { cls := .none, data := .fields ps }
  | .met f x => h.get? a = some (PySem.W.methodObj (.ref f) (.ref x))
  | .ext φ => φ h ∧ (∃ o, h.get? a = some o) ∧ ∀ h1 h2 : Heap, φ h1 → (∀ o, h1.get? a = some o → h2.get? a = some o) → φ h2
/-- the abstract heap is held -/
def HOk (H : Hp) (h : Heap) : Prop := ∀ a o, H a = some o → ObjOk P w H h a o
end

section
variable {P : Program} {w : World} {H H' : Hp} {h h' : Heap} {a : Addr} {o : HO}
theorem ObjOk.lt (x : ObjOk P w H h a o) : a < h.objs.size := by
  cases o with
  | lst xs => obtain ⟨_, _, _, _, e⟩ := x; exact Heap.lt_size e
  | tup xs => obtain ⟨_, _, _, p⟩ := x; exact p.lt
  | dK kvs => obtain ⟨_, _, _, _, o, _, _, e, _⟩ := x; exact Heap.lt_size e
  | dT kvs => obtain ⟨_, _, _, _, o, _, _, e, _⟩ := x; exact Heap.lt_size e
  | set S n => obtain ⟨o, _, _, _, e, _⟩ := x; exact Heap.lt_size e
  | ins C dx fs => obtain ⟨_, _, _, e, _⟩ := x; exact Heap.lt_size e
  | own y => obtain ⟨_, e⟩ := x; exact Heap.lt_size e
  | xd fs => obtain ⟨_, ⟨_, _, _, e, _⟩, _⟩ := x; exact Heap.lt_size e
  | rng lo hi => obtain ⟨_, _, _, e⟩ := x; exact Heap.lt_size e
  | frz ob u => obtain ⟨e, _⟩ := x; exact Heap.lt_size e
  | tbl ps => exact Heap.lt_size (show h.get? a = some _ from x)
  | met f y => exact Heap.lt_size (show h.get? a = some _ from x)
  | ext φ => obtain ⟨_, ⟨_, e⟩, _⟩ := x; exact Heap.lt_size e
theorem Paired.mapP {α β : Type} {F G : α → β → Prop} : ∀ {l₁ : List α} {l₂ : List β}, Paired F l₁ l₂ → (∀ a b, F a b → G a b) → Paired G l₁ l₂
  | _, _, .nil, _ => .nil
  | _, _, .cons r t, f => .cons (f _ _ r) (Paired.mapP t f)
theorem Paired.imp' {α β : Type} {F G : α → β → Prop} (f : ∀ a b, F a b → G a b) {l₁ : List α} {l₂ : List β} (r : Paired F l₁ l₂) : Paired G l₁ l₂ := Paired.mapP r f
/-- what an object's description leans on: its own object, its own dict, the tuples -/
theorem ObjOk.stay (x : ObjOk P w H h a o) (k : ∀ b u, (b = a ∨ H b = some (.own a)) → h.get? b = some u → h'.get? b = some u)
    (ho : ∀ b, H b = some (.own a) → H' b = some (.own a)) (ht : ∀ b xs, H b = some (.tup xs) → H' b = some (.tup xs)) : ObjOk P w H' h' a o := by
  induction o with
  | lst xs => obtain ⟨z, its, n, r, e⟩ := x; exact ⟨z, its, n, r, k _ _ (.inl rfl) e⟩
  | tup xs => obtain ⟨z, its, r, ob, e, c⟩ := x; exact ⟨z, its, r, ob, k _ _ (.inl rfl) e, c⟩
  | dK kvs => obtain ⟨z, y, vs, r, ob, es, ep, e, c⟩ := x; exact ⟨z, y, vs, r, ob, es, ep, k _ _ (.inl rfl) e, c⟩
  | dT kvs =>
    obtain ⟨z, y, xs, r, ob, es, ep, e, c⟩ := x
    exact ⟨z, y, xs, Paired.mapP r fun p q z => ⟨z.1, ht _ _ z.2.1, z.2.2⟩, ob, es, ep, k _ _ (.inl rfl) e, c⟩
  | set S n => obtain ⟨ob, es, ep, t, e, c⟩ := x; exact ⟨ob, es, ep, t, k _ _ (.inl rfl) e, c⟩
  | ins C dx fs =>
    obtain ⟨d, z, ne, e, mA, ⟨od, es, ep, e2, c⟩, r⟩ := x
    exact ⟨ho _ d, z, ne, k _ _ (.inl rfl) e, mA, ⟨od, es, ep, k _ _ (.inr d) e2, c⟩, r⟩
  | own y => obtain ⟨ob, e⟩ := x; exact ⟨ob, k _ _ (.inl rfl) e⟩
  | xd fs => obtain ⟨mA, ⟨od, es, ep, e, c⟩, r⟩ := x; exact ⟨mA, ⟨od, es, ep, k _ _ (.inl rfl) e, c⟩, r⟩
  | rng lo hi => obtain ⟨t, u, v, e⟩ := x; exact ⟨t, u, v, k _ _ (.inl rfl) e⟩
  | frz ob u ih => obtain ⟨e, q⟩ := x; exact ⟨k _ _ (.inl rfl) e, ih q⟩
  | tbl ps =>
    have e : h.get? a = some { cls := .none, data := .fields ps } := x
    show h'.get? a = some { cls := .none, data := .fields ps }
    exact k a _ (.inl rfl) e
  | met f y =>
    have e : h.get? a = some (PySem.W.methodObj (.ref f) (.ref y)) := x
    show h'.get? a = some (PySem.W.methodObj (.ref f) (.ref y))
    exact k a _ (.inl rfl) e
  | ext φ => obtain ⟨p, ⟨o, e⟩, st⟩ := x; exact ⟨st _ _ p fun o q => k _ _ (.inl rfl) q, ⟨o, k _ _ (.inl rfl) e⟩, st⟩
theorem HOk.lt (x : HOk P w H h) (e : H a = some o) : a < h.objs.size := (x a o e).lt
theorem HOk.fresh (x : HOk P w H h) (e : h.objs.size ≤ a) : H a = none := by
  cases q : H a with
  | none => rfl
  | some u => exact absurd (Nat.lt_of_lt_of_le (x.lt q) e) (Nat.lt_irrefl _)
/-- every object of the heap is kept -/
theorem HOk.kept (x : HOk P w H h) (k : ∀ b u, h.get? b = some u → h'.get? b = some u) : HOk P w H h' := fun a o e =>
  (x a o e).stay (fun b u _ q => k b u q) (fun _ q => q) fun _ _ q => q
/-- a new object is laid and tracked -/
theorem HOk.laid (x : HOk P w H h) (k : ∀ b u, h.get? b = some u → h'.get? b = some u) (hp : h.objs.size ≤ a) (new : ObjOk P w (upd H a o) h' a o) : HOk P w (upd H a o) h' := fun b u e => by
  have hn := x.fresh hp
  by_cases hb : b = a
  · subst hb; rw [upd_same] at e; cases e; exact new
  · rw [upd_ne hb] at e
    exact (x b u e).stay (fun c v _ q => k c v q) (fun c q => by rw [upd_ne (ne_of_none q hn)]; exact q) fun c xs q => by rw [upd_ne (ne_of_none q hn)]; exact q
end

/-- what may be read as u: it is u, or a known u -/
def Rd (H : Hp) (a : Addr) (u : HO) : Prop := H a = some u ∨ ∃ o, H a = some (.frz o u)
theorem Rd.of {H : Hp} {a : Addr} {u : HO} (h : H a = some u) : Rd H a u := .inl h
theorem Rd.ok {P : Program} {w : World} {H : Hp} {h : Heap} {a : Addr} {u : HO} (r : Rd H a u) (x : HOk P w H h) : ObjOk P w H h a u := by
  rcases r with r | ⟨o, r⟩
  · exact x a u r
  · obtain ⟨_, q⟩ := x a _ r
    exact q
/-- what may be written -/
def Mut : Option HO → Prop
  | some (.lst _) => True
  | some (.dK _) => True
  | some (.dT _) => True
  | some (.set _ _) => True
  | some (.ins _ _ _) => True
  | some (.ext _) => True
  | _ => False
section
variable {P : Program} {w : World} {H : Hp} {h h' : Heap} {x e : Addr} {o' : HO}
/-- the object at e is changed: x itself, or the dict of the instance x -/
theorem HOk.write (ok : HOk P w H h) (mu : Mut (H x)) (he : e = x ∨ H e = some (.own x)) (k : ∀ b u, b ≠ e → h.get? b = some u → h'.get? b = some u) (heo : ∃ u, h'.get? e = some u)
    (new : ObjOk P w (upd H x o') h' x o') : HOk P w (upd H x o') h' := fun b u q => by
  have nown : ∀ c y, H c = some (.own y) → c ≠ x := fun c y r z => by subst z; rw [r] at mu; exact mu
  have ntup : ∀ c xs, H c = some (.tup xs) → c ≠ x := fun c xs r z => by subst z; rw [r] at mu; exact mu
  by_cases hb : b = x
  · subst hb; rw [upd_same] at q; cases q; exact new
  · rw [upd_ne hb] at q
    by_cases hbe : b = e
    · have q' : H b = some (.own x) := by
        rcases he with z | z
        · exact absurd (hbe.trans z) hb
        · rw [hbe]; exact z
      rw [q] at q'; cases q'
      obtain ⟨v, hv⟩ := heo
      exact ⟨v, by rw [hbe]; exact hv⟩
    · refine (ok b u q).stay (fun c v hc r => k c v ?_ r) (fun c r => by rw [upd_ne (nown c b r)]; exact r) fun c xs r => by rw [upd_ne (ntup c xs r)]; exact r
      rcases hc with rfl | hc
      · exact hbe
      · rintro rfl
        rcases he with z | z
        · exact nown c b hc z
        · rw [hc] at z; cases z; exact hb rfl
end

/-! ### kept unless tracked; of the frames at fs (the callers') the slots may change (an exception that passes writes there); of the records at ex (iterators) nothing is said -/
structure Un (fs ex : List Addr) (H H' : Hp) (h h' : Heap) : Prop where
  keep : ∀ b o, h.get? b = some o → H b = none → b ∉ fs → b ∉ ex → h'.get? b = some o
  slot : ∀ b o, h.get? b = some o → H b = none → b ∈ fs → b ∉ ex → ∃ sl, h'.get? b = some { o with slots := sl }
  free : ∀ b o, h.get? b = some o → H b = none → b ∉ ex → H' b = none
  there : ∀ b o, h.get? b = some o → b ∉ ex → ∃ o', h'.get? b = some o'
  tups : ∀ b xs, H b = some (.tup xs) → H' b = some (.tup xs)
  frzs : ∀ b o u, H b = some (.frz o u) → H' b = some (.frz o u)
  tbls : ∀ b ps, H b = some (.tbl ps) → ∃ more, H' b = some (.tbl (ps ++ more))
section
variable {fs fs' ex ex' : List Addr} {H H1 H2 : Hp} {h h1 h2 h' : Heap} {a x e : Addr} {o : HO}
theorem Un.any (u : Un fs ex H H1 h h1) {b : Addr} {ob : Obj} (q : h.get? b = some ob) (n : H b = none) (hx : b ∉ ex) : ∃ sl, h1.get? b = some { ob with slots := sl } := by
  by_cases hb : b ∈ fs
  · exact u.slot b ob q n hb hx
  · exact ⟨ob.slots, u.keep b ob q n hb hx⟩
theorem Un.trans (a : Un fs ex H H1 h h1) (b : Un fs ex H1 H2 h1 h2) : Un fs ex H H2 h h2 where
  keep := fun c ob q n hc hx => b.keep c ob (a.keep c ob q n hc hx) (a.free c ob q n hx) hc hx
  slot := fun c ob q n hc hx => by
    obtain ⟨sl, e1⟩ := a.slot c ob q n hc hx
    obtain ⟨sl', e2⟩ := b.slot c _ e1 (a.free c ob q n hx) hc hx
    exact ⟨sl', e2⟩
  free := fun c ob q n hx => by
    obtain ⟨o', e1⟩ := a.there c ob q hx
    exact b.free c o' e1 (a.free c ob q n hx) hx
  there := fun c ob q hx => by
    obtain ⟨o', e1⟩ := a.there c ob q hx
    exact b.there c o' e1 hx
  tups := fun c xs q => b.tups c xs (a.tups c xs q)
  frzs := fun c ob xs q => b.frzs c ob xs (a.frzs c ob xs q)
  tbls := fun c ps q => by
    obtain ⟨m1, e1⟩ := a.tbls c ps q
    obtain ⟨m2, e2⟩ := b.tbls c _ e1
    exact ⟨m1 ++ m2, by rw [e2, Array.append_assoc]⟩
theorem Un.kept (k : ∀ b u, h.get? b = some u → h'.get? b = some u) : Un fs ex H H h h' :=
  ⟨fun b ob q _ _ _ => k b ob q, fun b ob q _ _ _ => ⟨ob.slots, k b ob q⟩, fun _ _ _ n _ => n, fun b ob q _ => ⟨ob, k b ob q⟩, fun _ _ q => q, fun _ _ _ q => q, fun _ ps q => ⟨#[], by rw [q]; simp⟩⟩
theorem Un.refl : Un fs ex H H h h := Un.kept fun _ _ q => q
theorem Un.laid (k : ∀ b u, h.get? b = some u → h'.get? b = some u) (hp : h.objs.size ≤ a) (hn : H a = none) : Un fs ex H (upd H a o) h h' where
  keep := fun b u q _ _ _ => k b u q
  slot := fun b u q _ _ _ => ⟨u.slots, k b u q⟩
  free := fun b u q n _ => by rw [upd_ne (Nat.ne_of_lt (Nat.lt_of_lt_of_le (Heap.lt_size q) hp))]; exact n
  there := fun b u q _ => ⟨u, k b u q⟩
  tups := fun b xs q => by rw [upd_ne (ne_of_none q hn)]; exact q
  frzs := fun b u xs q => by rw [upd_ne (ne_of_none q hn)]; exact q
  tbls := fun b ps q => ⟨#[], by rw [upd_ne (ne_of_none q hn), q]; simp⟩
theorem Un.write (mu : Mut (H x)) (he : e = x ∨ H e = some (.own x)) (k : ∀ b u, b ≠ e → h.get? b = some u → h'.get? b = some u) (heo : ∃ u, h'.get? e = some u) : Un fs ex H (upd H x o) h h' := by
  have hx : ∀ b, H b = none → b ≠ x := fun b n z => by subst z; rw [n] at mu; exact mu
  have hb : ∀ b, H b = none → b ≠ e := fun b n z => by
    subst z
    rcases he with r | r
    · exact hx b n r
    · rw [n] at r; cases r
  have hm : ∀ b u, H b = some u → ¬ Mut (some u) → b ≠ x := fun b u q nm z => by subst z; rw [q] at mu; exact nm mu
  refine ⟨fun b u q n _ _ => k b u (hb b n) q, fun b u q n _ _ => ⟨u.slots, k b u (hb b n) q⟩, fun b u q n _ => by rw [upd_ne (hx b n)]; exact n, fun b u q _ => ?_,
    fun b xs q => by rw [upd_ne (hm b _ q fun z => z)]; exact q, fun b u xs q => by rw [upd_ne (hm b _ q fun z => z)]; exact q, fun b ps q => ⟨#[], by rw [upd_ne (hm b _ q fun z => z), q]; simp⟩⟩
  by_cases hbe : b = e
  · subst hbe; exact heo
  · exact ⟨u, k b u hbe q⟩
theorem Un.mono (u : Un fs ex H H1 h h1) (hs : ∀ b ∈ fs, b ∈ fs') (hx : ∀ b ∈ ex, b ∈ ex') : Un fs' ex' H H1 h h1 :=
  ⟨fun b ob q n hb he => u.keep b ob q n (fun z => hb (hs b z)) fun z => he (hx b z), fun _ _ q n _ he => u.any q n fun z => he (hx _ z), fun b ob q n he => u.free b ob q n fun z => he (hx b z), fun b ob q he => u.there b ob q fun z => he (hx b z), u.tups, u.frzs, u.tbls⟩
end

/-! ### the heap without what is tracked -/
def trk (h : Heap) (H : Hp) : List Addr := (List.range h.objs.size).filter fun a => (H a).isSome
def hidT (h : Heap) (H : Hp) : Heap := PySem.W.hideAll h (trk h H)
theorem hidT_size (h : Heap) (H : Hp) : (hidT h H).objs.size = h.objs.size := PySem.W.hideAll_size _ _
theorem hidT_get {h : Heap} {H : Hp} {b : Addr} {o : Obj} (e : h.get? b = some o) (n : H b = none) : (hidT h H).get? b = some o :=
  PySem.W.hideAll_get _ e fun hm => by
    have q : (H b).isSome = true := (List.mem_filter.mp hm).2
    rw [n] at q; simp at q
theorem of_hidT {h : Heap} {H : Hp} {b : Addr} {o : Obj} (e : (hidT h H).get? b = some o) : h.get? b = some o ∧ H b = none := by
  have e' : h.get? b = some o := PySem.W.of_hideAll (trk h H) e
  refine ⟨e', ?_⟩
  cases q : H b with
  | none => rfl
  | some x =>
    have hm : b ∈ trk h H := List.mem_filter.mpr ⟨List.mem_range.mpr (Heap.lt_size e'), by simp [q]⟩
    have z : (hidT h H).get? b = none := PySem.W.hideAll_none (trk h H) hm
    rw [z] at e; cases e

/-! ### OpenK's ledger, filled with every new object but one -/
def allNews (g h : Heap) (L : Addr) : List (Addr × Obj) := (List.range h.objs.size).filterMap fun a => if a = L ∨ (g.get? a).isSome = true then none else (h.get? a).map fun o => (a, o)
theorem mem_allNews {g h : Heap} {L a : Addr} {o : Obj} (h1 : a ≠ L) (h2 : g.get? a = none) (h3 : h.get? a = some o) : (a, o) ∈ allNews g h L :=
  List.mem_filterMap.mpr ⟨a, List.mem_range.mpr (Heap.lt_size h3), by simp [h1, h2, h3]⟩
theorem of_mem_allNews {g h : Heap} {L : Addr} {p : Addr × Obj} (hp : p ∈ allNews g h L) : p.1 ≠ L ∧ g.get? p.1 = none ∧ h.get? p.1 = some p.2 := by
  obtain ⟨b, _, e⟩ := List.mem_filterMap.mp hp
  split at e
  · cases e
  · rename_i hn
    cases q : h.get? b with
    | none => rw [q] at e; simp at e
    | some u =>
      rw [q] at e
      simp only [Option.map_some, Option.some.injEq] at e
      subst e
      refine ⟨fun z => hn (.inl z), ?_, q⟩
      show g.get? b = none
      cases r : g.get? b with
      | none => rfl
      | some v => exact (hn (.inr (by simp [r]))).elim
def rest (g h : Heap) (L d : Addr) : List (Addr × Obj) := (allNews g h L).filter fun p => decide (p.1 ≠ d)
theorem rest_ne {g h : Heap} {L d : Addr} : ∀ p ∈ rest g h L d, p.1 ≠ d := fun p hp => of_decide_eq_true (List.mem_filter.mp hp).2
theorem mem_rest {g h : Heap} {L d a : Addr} {o : Obj} (h1 : a ≠ L) (h2 : g.get? a = none) (h3 : h.get? a = some o) (h4 : a ≠ d) : (a, o) ∈ rest g h L d :=
  List.mem_filter.mpr ⟨mem_allNews h1 h2 h3, decide_eq_true h4⟩
theorem news_all {g h : Heap} {L : Addr} : News g L h (allNews g h L) := fun p hp => let ⟨a, b, c⟩ := of_mem_allNews hp; ⟨c, a, b⟩
theorem news_at {g h : Heap} {L d : Addr} {o : Obj} (h1 : d ≠ L) (h2 : g.get? d = none) (h3 : h.get? d = some o) : News g L h ((d, o) :: rest g h L d) := fun p hp => by
  rcases List.mem_cons.mp hp with rfl | hp
  · exact ⟨h3, h1, h2⟩
  · exact news_all p (List.mem_filter.mp hp).1
/-- behind a rule that changed d alone: all else but the frame is kept -/
theorem kept_of_news {g h h' : Heap} {L d : Addr} {m : Str → Option Value} (k : ∀ b o, g.get? b = some o → h.get? b = some o) (F : Fr g L h' m) (N : News g L h' (rest g h L d)) :
    ∀ b o, b ≠ L → b ≠ d → h.get? b = some o → h'.get? b = some o := fun b o h1 h2 e => by
  cases q : g.get? b with
  | some u =>
    have := k b u q
    rw [e] at this; cases this
    exact F.keep b _ q
  | none => exact (N (b, o) (mem_rest h1 q e h2)).1
end L2

namespace L2
open PySem PySem.Spec PyProof.Rows

/-- the module's facts, over the base: the heap at the law's entry without what is tracked there -/
structure Mod (K : PySem.W.Frag) (mg : Str → Option Value) (base : Heap) : Prop where
  kin : K.In base
  glob : base.Ns mainGlobals mg
  blt : ∃ mb, base.Ns builtinsNs mb ∧ ∀ x : Str, x ≠ "__name__" → mb x = bootBuiltins x
  nolimit : base.NoLimit

/-- the context: a def's body (or a comprehension's block) running. base: fixed through the whole law; s₀, H₀: the entry; outer: the frames whose slots others may change (a def's callers); stack: all frames that run;
   ex: iterators that were made ahead of the entry and are walked here (a comprehension's); fn: the names whose cells were made at the entry (a def: all; a comprehension's block: its own); calm: not within an except suite; pn: pins that every state bears; xe: what is wanted of an exception that leaves the code -/
structure Cx where
  prog : Program
  w : World
  K : PySem.W.Frag
  mg : Str → Option Value
  base : Heap
  A : Around
  N : List Str
  s₀ : Shared
  H₀ : Hp
  env : Env
  outer : List Env
  stack : List Env
  ex : List Addr
  fn : Str → Bool
  calm : Bool
  pn : List (Addr × Obj)
  xe : Value → Shared → Prop
/-- the callers' frames -/
def frs (l : List Env) : List Addr := l.filterMap (·.frame)
abbrev Cx.fs (X : Cx) : List Addr := frs X.outer

def Vis (sc : Scope) (x : Str) : Prop := sc.names.lookup x = some .local ∨ sc.names.lookup x = some .cell ∨ sc.names.lookup x = some .free
def Loc (sc : Scope) (x : Str) : Prop := sc.names.lookup x = some .local ∨ sc.names.lookup x = some .cell
def Look (env : Env) (h : Heap) (m : Str → Option Value) (x : Str) (u : Value) : Prop :=
  (env.kindOf x = some .local ∧ m x = some u) ∨ ((env.kindOf x = some .cell ∨ env.kindOf x = some .free) ∧ ∃ c, env.cells.lookup x = some c ∧ h.IsCell c (some u))

structure Cx.Ok (X : Cx) : Prop where
  mod : Mod X.K X.mg X.base
  kind : X.env.scope.kind = .function
  glob : X.env.globals = mainGlobals
  blt : X.env.builtins = builtinsNs
  above : X.s₀.heap.objs.size ≤ X.env.locals
  inj : ∀ x y c, X.env.cells.lookup x = some c → X.env.cells.lookup y = some c → x = y
  has : ∀ x, (X.env.kindOf x = some .cell ∨ X.env.kindOf x = some .free) → ∃ c, X.env.cells.lookup x = some c
  cab : ∀ x c, X.fn x = true → X.env.cells.lookup x = some c → X.s₀.heap.objs.size ≤ c
  hd : X.calm = true → X.A.handled = none
  frames : X.A.frames = some X.stack
  stk : X.stack = X.outer ∨ (X.stack = X.env :: X.outer ∧ X.env.frame = some X.env.locals)
  exf : ∀ b ∈ X.ex, b ≠ X.env.locals ∧ ∀ x c, X.env.cells.lookup x = some c → c ≠ b
  bs : ∀ b o, X.base.get? b = some o → X.s₀.heap.get? b = some o ∧ X.H₀ b = none
  bsz : X.base.objs.size ≤ X.s₀.heap.objs.size
  noex : ∀ b o, X.base.get? b = some o → b ∉ X.ex
  exfs : ∀ b ∈ X.ex, b ∉ X.fs
  funs : X.s₀.heap.FunFrames X.base X.outer
  frf : ∀ b ∈ X.fs, X.H₀ b = none

structure Inv (X : Cx) (pins : List (Addr × Obj)) (σ : List (Option V)) (H : Hp) (s : Shared) : Prop where
  ok : X.Ok
  os : s.os = X.s₀.os
  bare : AllBare s.gens
  base : Un X.fs X.ex X.H₀ H X.s₀.heap s.heap
  loc : ∃ m, s.heap.Ns X.env.locals m ∧ ∀ (i : Nat) (x : Str) (v : V), X.N[i]? = some x → σ[i]? = some (some v) → Vis X.env.scope x → ∃ u, RelV v u ∧ Look X.env s.heap m x u
  cell : ∀ x c, X.env.cells.lookup x = some c → ∃ v, s.heap.IsCell c v
  free : H X.env.locals = none
  freeC : ∀ x c, X.env.cells.lookup x = some c → H c = none
  pin : ∀ p ∈ X.pn ++ pins, s.heap.get? p.1 = some p.2 ∧ H p.1 = none ∧ p.1 ≠ X.env.locals ∧ p.1 ∉ X.fs ∧ ∀ v, p.2.data ≠ .cell v
  hok : HOk X.prog X.w H s.heap
  len : σ.length = X.N.length

section
variable {X : Cx} {pins : List (Addr × Obj)} {σ : List (Option V)} {H H' : Hp} {s : Shared} {h' : Heap}

theorem Cx.Ok.nofr (ok : X.Ok) {b : Addr} {o : Obj} (e : X.base.get? b = some o) : b ∉ X.fs := fun hb => by
  have := (ok.funs.mem hb).1
  rw [e] at this; cases this
theorem Inv.bs (I : Inv X pins σ H s) : ∀ b o, X.base.get? b = some o → s.heap.get? b = some o ∧ H b = none := fun b o e =>
  ⟨I.base.keep b o (I.ok.bs b o e).1 (I.ok.bs b o e).2 (I.ok.nofr e) (I.ok.noex b o e), I.base.free b o (I.ok.bs b o e).1 (I.ok.bs b o e).2 (I.ok.noex b o e)⟩
theorem Inv.bk (I : Inv X pins σ H s) : ∀ b o, X.base.get? b = some o → s.heap.get? b = some o := fun b o e => (I.bs b o e).1
theorem Inv.mod (I : Inv X pins σ H s) : Mod X.K X.mg X.base := I.ok.mod
theorem Inv.kIn (I : Inv X pins σ H s) : X.K.In s.heap := I.ok.mod.kin.keeps I.bk
theorem Inv.nolimit (I : Inv X pins σ H s) : s.heap.NoLimit := I.ok.mod.nolimit.keeps I.bk
/-- the frame over the base: for OpenK's rules (K.In X.base is I.mod.kin) -/
theorem Inv.fr (I : Inv X pins σ H s) : ∃ m, Fr X.base X.env.locals s.heap m :=
  let ⟨m, hn, _⟩ := I.loc
  ⟨m, hn, I.bk, Nat.le_trans I.ok.bsz I.ok.above⟩
theorem Inv.lt (I : Inv X pins σ H s) : X.env.locals < s.heap.objs.size := let ⟨_, hn, _⟩ := I.loc; hn.lt
theorem Inv.sz (I : Inv X pins σ H s) : X.s₀.heap.objs.size ≤ s.heap.objs.size := Nat.le_trans I.ok.above (Nat.le_of_lt I.lt)
theorem Inv.nofs (I : Inv X pins σ H s) {a : Addr} (h : s.heap.objs.size ≤ a) : a ∉ X.fs := fun hb => by
  obtain ⟨_, o, ho, _⟩ := I.ok.funs.mem hb
  exact absurd (Nat.lt_of_lt_of_le (Heap.lt_size ho) (Nat.le_trans I.sz h)) (Nat.lt_irrefl _)
theorem Inv.cne (I : Inv X pins σ H s) : ∀ x c, X.env.cells.lookup x = some c → c ≠ X.env.locals := fun x c e z => by
  obtain ⟨v, o, ho, hd⟩ := I.cell x c e
  obtain ⟨m, ⟨o', es, ep, ho', hd', _⟩, _⟩ := I.loc
  rw [z, ho'] at ho; cases ho; rw [hd'] at hd; cases hd
theorem Inv.funs (I : Inv X pins σ H s) : s.heap.FunFrames X.base X.outer := by
  have all : ∀ (l : List Env), (∀ b ∈ frs l, b ∈ X.fs) → X.s₀.heap.FunFrames X.base l → s.heap.FunFrames X.base l := by
    intro l
    induction l with
    | nil => intro _ _; trivial
    | cons env r ih =>
      intro hs hl
      obtain ⟨hk, ⟨L, o, hf, hn, ho, hd⟩, hr⟩ := hl
      have hL : L ∈ X.fs := hs L (by unfold frs; rw [List.filterMap_cons, hf]; exact List.mem_cons_self)
      obtain ⟨sl, e⟩ := I.base.slot L o ho (I.ok.frf L hL) hL fun z => I.ok.exfs L z hL
      exact ⟨hk, ⟨L, _, hf, hn, e, hd⟩, ih (fun b hb => hs b (by unfold frs; rw [List.filterMap_cons, hf]; exact List.mem_cons_of_mem _ hb)) hr⟩
  exact all X.outer (fun _ hb => hb) I.ok.funs

/-- the frames that run, for a call -/
theorem Inv.stack (I : Inv X pins σ H s) : s.heap.FunFrames X.base X.stack := by
  rcases I.ok.stk with e | ⟨e, hf⟩
  · rw [e]; exact I.funs
  · rw [e]
    obtain ⟨m, hn, _⟩ := I.loc
    refine .cons (by rw [I.ok.kind]; decide) hf hn ?_ I.funs
    exact Heap.get?_none_of_le (Nat.le_trans I.ok.bsz I.ok.above)
theorem Inv.stkSub (I : Inv X pins σ H s) : ∀ b ∈ frs X.stack, b ∈ X.env.locals :: X.fs := fun b hb => by
  rcases I.ok.stk with e | ⟨e, hf⟩
  · rw [e] at hb; exact List.mem_cons_of_mem _ hb
  · rw [e] at hb
    unfold frs at hb
    rw [List.filterMap_cons, hf] at hb
    exact hb
theorem Inv.stkFree (I : Inv X pins σ H s) : ∀ b ∈ frs X.stack, H b = none := fun b hb => by
  rcases List.mem_cons.mp (I.stkSub b hb) with e | hb
  · rw [e]; exact I.free
  · obtain ⟨_, o, ho, _⟩ := I.ok.funs.mem hb
    exact I.base.free b o ho (I.ok.frf b hb) fun z => I.ok.exfs b z hb

/-- THE STEP: the untracked objects but the frame and the records at ch are kept (the callers' frames up to slots), the frame's map is kept, the new abstract heap is held -/
theorem Inv.step {g' : Array GenState} {t' : Nat} {d' : Drawn} {ch : List Addr} (I : Inv X pins σ H s)
    (hch : ∀ b ∈ ch, (b ∈ X.ex ∨ X.s₀.heap.objs.size ≤ b) ∧ b ≠ X.env.locals ∧ (∀ x c, X.env.cells.lookup x = some c → c ≠ b) ∧ ∀ p ∈ X.pn ++ pins, p.1 ≠ b)
    (keep : ∀ b o, b ≠ X.env.locals → b ∉ X.fs → b ∉ ch → s.heap.get? b = some o → H b = none → h'.get? b = some o)
    (slot : ∀ b o, b ≠ X.env.locals → b ∈ X.fs → b ∉ ch → s.heap.get? b = some o → H b = none → ∃ sl, h'.get? b = some { o with slots := sl }) (free : ∀ b o, b ∉ ch → s.heap.get? b = some o → H b = none → H' b = none)
    (there : ∀ b o, b ∉ ch → s.heap.get? b = some o → ∃ o', h'.get? b = some o')
    (tups : ∀ b xs, H b = some (.tup xs) → H' b = some (.tup xs)) (frzs : ∀ b o u, H b = some (.frz o u) → H' b = some (.frz o u)) (tbls : ∀ b ps, H b = some (.tbl ps) → ∃ more, H' b = some (.tbl (ps ++ more)))
    (ns : ∀ m, s.heap.Ns X.env.locals m → h'.Ns X.env.locals m) (hok : HOk X.prog X.w H' h') (hg : AllBare g') :
    Inv X pins σ H' { s with heap := h', gens := g', drawn := d', toks := t' } := by
  have neL : ∀ b o, X.s₀.heap.get? b = some o → b ≠ X.env.locals := fun b o e => Nat.ne_of_lt (Nat.lt_of_lt_of_le (Heap.lt_size e) I.ok.above)
  have neC : ∀ b o, X.s₀.heap.get? b = some o → b ∉ X.ex → b ∉ ch := fun b o e hx hb => by
    rcases (hch b hb).1 with z | z
    · exact hx z
    · exact absurd (Nat.lt_of_lt_of_le (Heap.lt_size e) z) (Nat.lt_irrefl _)
  have cellK : ∀ x c, X.env.cells.lookup x = some c → ∀ v, s.heap.IsCell c v → h'.IsCell c v := fun x c e v ⟨o, ho, hd⟩ => by
    have nch : c ∉ ch := fun z => (hch c z).2.2.1 x c e rfl
    by_cases hc : c ∈ X.fs
    · obtain ⟨sl, q⟩ := slot c o (I.cne x c e) hc nch ho (I.freeC x c e)
      exact ⟨_, q, hd⟩
    · exact ⟨o, keep c o (I.cne x c e) hc nch ho (I.freeC x c e), hd⟩
  refine ⟨I.ok, I.os, hg, ⟨fun b o e n hb hx => ?_, fun b o e n hb hx => ?_, fun b o e n hx => ?_, fun b o e hx => ?_, fun b xs e => tups b xs (I.base.tups b xs e), fun b o xs e => frzs b o xs (I.base.frzs b o xs e), fun b ps e => ?_⟩, ?_, fun x c e => ?_, ?_, fun x c e => ?_, fun p hp => ?_, hok, I.len⟩
  · exact keep b o (neL b o e) hb (neC b o e hx) (I.base.keep b o e n hb hx) (I.base.free b o e n hx)
  · obtain ⟨sl, e1⟩ := I.base.slot b o e n hb hx
    obtain ⟨sl', e2⟩ := slot b _ (neL b o e) hb (neC b o e hx) e1 (I.base.free b o e n hx)
    exact ⟨sl', e2⟩
  · obtain ⟨o', e1⟩ := I.base.there b o e hx
    exact free b o' (neC b o e hx) e1 (I.base.free b o e n hx)
  · obtain ⟨o', e1⟩ := I.base.there b o e hx
    exact there b o' (neC b o e hx) e1
  · obtain ⟨m1, e1⟩ := I.base.tbls b ps e
    obtain ⟨m2, e2⟩ := tbls b _ e1
    exact ⟨m1 ++ m2, by rw [e2, Array.append_assoc]⟩
  · obtain ⟨m, hn, hl⟩ := I.loc
    refine ⟨m, ns m hn, fun i x v e1 e2 e3 => ?_⟩
    obtain ⟨u, r, l⟩ := hl i x v e1 e2 e3
    refine ⟨u, r, ?_⟩
    rcases l with l | ⟨k, c, e, z⟩
    · exact .inl l
    · exact .inr ⟨k, c, e, cellK x c e _ z⟩
  · obtain ⟨v, z⟩ := I.cell x c e
    exact ⟨v, cellK x c e v z⟩
  · obtain ⟨m, ⟨o, _, _, ho, _⟩, _⟩ := I.loc
    exact free _ o (fun z => (hch _ z).2.1 rfl) ho I.free
  · obtain ⟨v, o, ho, hd⟩ := I.cell x c e
    exact free c o (fun z => (hch c z).2.2.1 x c e rfl) ho (I.freeC x c e)
  · obtain ⟨e, n, ne, nf, d⟩ := I.pin p hp
    have nch : p.1 ∉ ch := fun z => (hch p.1 z).2.2.2 p hp rfl
    exact ⟨keep p.1 p.2 ne nf nch e n, free p.1 p.2 nch e n, ne, nf, d⟩
/-- .. where the frame's own object is kept too -/
theorem Inv.un {t' : Nat} (I : Inv X pins σ H s) (u : Un X.fs [] H H' s.heap h') (hok : HOk X.prog X.w H' h') : Inv X pins σ H' { s with heap := h', toks := t' } := by
  obtain ⟨m, ⟨o, es, ep, ho, r⟩, _⟩ := id I.loc
  obtain ⟨sl, hL⟩ := u.any ho I.free (by simp)
  exact I.step (g' := s.gens) (d' := s.drawn) (ch := []) (fun _ z => nomatch z) (fun b o _ hb _ e n => u.keep b o e n hb (by simp)) (fun b o _ hb _ e n => u.slot b o e n hb (by simp)) (fun b o _ e n => u.free b o e n (by simp)) (fun b o _ e => u.there b o e (by simp)) u.tups u.frzs u.tbls (fun m' hm => by
    obtain ⟨o', es', ep', ho', r'⟩ := hm
    rw [ho] at ho'; cases ho'
    exact ⟨_, es', ep', hL, r'⟩) hok I.bare
/-- behind a call (or a comprehension's block): the slots of this frame may have changed too, the records at ch may have turned -/
theorem Inv.call {g' : Array GenState} {t' : Nat} {d' : Drawn} {ch : List Addr} (I : Inv X pins σ H s) (u : Un (frs X.stack) ch H H' s.heap h') (hok : HOk X.prog X.w H' h') (hg : AllBare g')
    (hch : ∀ b ∈ ch, (b ∈ X.ex ∨ X.s₀.heap.objs.size ≤ b) ∧ b ≠ X.env.locals ∧ (∀ x c, X.env.cells.lookup x = some c → c ≠ b) ∧ ∀ p ∈ X.pn ++ pins, p.1 ≠ b) :
    Inv X pins σ H' { s with heap := h', gens := g', drawn := d', toks := t' } := by
  obtain ⟨m, ⟨o, es, ep, ho, r⟩, _⟩ := id I.loc
  obtain ⟨sl, hL⟩ := u.any ho I.free fun z => (hch _ z).2.1 rfl
  exact I.step (ch := ch) hch (fun b o hL hb hc e n => u.keep b o e n (fun z => (List.mem_cons.mp (I.stkSub b z)).elim hL hb) hc) (fun b o _ _ hc e n => u.any e n hc) (fun b o hc e n => u.free b o e n hc) (fun b o hc e => u.there b o e hc) u.tups u.frzs u.tbls (fun m' hm => by
    obtain ⟨o', es', ep', ho', r'⟩ := hm
    rw [ho] at ho'; cases ho'
    exact ⟨_, es', ep', hL, r'⟩) hok hg
/-- an untracked record of ours (an iterator) has turned -/
theorem Inv.turned {t' : Nat} {it : Addr} (I : Inv X pins σ H s) (k : ∀ b o, b ≠ it → s.heap.get? b = some o → h'.get? b = some o) (hn : H it = none) (hL : it ≠ X.env.locals)
    (h1 : it ∈ X.ex ∨ X.s₀.heap.objs.size ≤ it) (h2 : ∀ x c, X.env.cells.lookup x = some c → c ≠ it) (h3 : ∀ p ∈ X.pn ++ pins, p.1 ≠ it) : Inv X pins σ H { s with heap := h', toks := t' } := by
  have nit : ∀ b u, H b = some u → b ≠ it := fun b u e z => by rw [z, hn] at e; cases e
  refine I.step (g' := s.gens) (d' := s.drawn) (ch := [it]) (fun b hb => ?_) (fun b o _ _ hc e _ => k b o (fun z => hc (by simp [z])) e) (fun b o _ _ hc e _ => ⟨o.slots, k b o (fun z => hc (by simp [z])) e⟩) (fun _ _ _ _ n => n)
    (fun b o hc e => ⟨o, k b o (fun z => hc (by simp [z])) e⟩) (fun _ _ e => e) (fun _ _ _ e => e) (fun b ps e => ⟨#[], by rw [e]; simp⟩) (fun m hm => ?_) (fun b u e => ?_) I.bare
  · have e : b = it := by simpa using hb
    subst e
    exact ⟨h1, hL, h2, h3⟩
  · obtain ⟨o, es, ep, ho, r⟩ := hm
    exact ⟨o, es, ep, k _ o (Ne.symm hL) ho, r⟩
  · refine (I.hok b u e).stay (fun c v hc q => k c v ?_ q) (fun _ q => q) fun _ _ q => q
    rcases hc with z | z
    · rw [z]; exact nit b u e
    · exact nit c _ z
theorem Inv.tok (I : Inv X pins σ H s) (t : Nat) : Inv X pins σ H { s with toks := t } := I.un (h' := s.heap) (t' := t) Un.refl I.hok
/-- all objects kept -/
theorem Inv.kept {t' : Nat} (I : Inv X pins σ H s) (k : ∀ b u, s.heap.get? b = some u → h'.get? b = some u) : Inv X pins σ H { s with heap := h', toks := t' } := I.un (Un.kept k) (I.hok.kept k)
/-- a new object laid and tracked -/
theorem Inv.laid {a : Addr} {o : HO} {t' : Nat} (I : Inv X pins σ H s) (k : ∀ b u, s.heap.get? b = some u → h'.get? b = some u) (hp : s.heap.objs.size ≤ a) (new : ObjOk X.prog X.w (upd H a o) h' a o) :
    Inv X pins σ (upd H a o) { s with heap := h', toks := t' } := I.un (Un.laid k hp (I.hok.fresh hp)) (I.hok.laid k hp new)
/-- an object written -/
theorem Inv.write {x e : Addr} {o : HO} {t' : Nat} (I : Inv X pins σ H s) (mu : Mut (H x)) (he : e = x ∨ H e = some (.own x)) (k : ∀ b u, b ≠ e → s.heap.get? b = some u → h'.get? b = some u) (heo : ∃ u, h'.get? e = some u)
    (new : ObjOk X.prog X.w (upd H x o) h' x o) : Inv X pins σ (upd H x o) { s with heap := h', toks := t' } := I.un (Un.write mu he k heo) (I.hok.write mu he k heo new)
/-- forgetting slots, pins -/
theorem Inv.weak {σ' : List (Option V)} (I : Inv X pins σ H s) (hl : σ'.length = σ.length) (w : ∀ (i : Nat) v, σ'[i]? = some (some v) → σ[i]? = some (some v)) : Inv X pins σ' H s :=
  ⟨I.ok, I.os, I.bare, I.base, let ⟨m, hn, hl'⟩ := I.loc; ⟨m, hn, fun i x v e1 e2 e3 => hl' i x v e1 (w i v e2) e3⟩, I.cell, I.free, I.freeC, I.pin, I.hok, hl.trans I.len⟩
theorem Inv.pins_of {pins' : List (Addr × Obj)} (I : Inv X pins σ H s) (h : ∀ p ∈ pins', s.heap.get? p.1 = some p.2 ∧ H p.1 = none ∧ p.1 ≠ X.env.locals ∧ p.1 ∉ X.fs ∧ ∀ v, p.2.data ≠ .cell v) : Inv X pins' σ H s :=
  ⟨I.ok, I.os, I.bare, I.base, I.loc, I.cell, I.free, I.freeC, fun p hp => (List.mem_append.mp hp).elim (fun z => I.pin p (List.mem_append_left _ z)) (h p), I.hok, I.len⟩

theorem nodup_ix {N : List Str} (hN : N.Nodup) {i j : Nat} {x : Str} (a : N[i]? = some x) (b : N[j]? = some x) : i = j := by
  obtain ⟨h1, e1⟩ := List.getElem?_eq_some_iff.mp a
  obtain ⟨h2, e2⟩ := List.getElem?_eq_some_iff.mp b
  exact (List.getElem_inj hN).mp (e1.trans e2.symm)

/-- a name is stored; what changed -/
theorem store_ok2 {M : Model} {A : Around} {E : Value → Shared → Prop} {i : Nat} {x : Str} {v : V} {u : Value} {Q : Unit → Shared → Prop} (I : Inv X pins σ H s) (hN : X.N.Nodup) (hi : X.N[i]? = some x) (hx : Loc X.env.scope x) (r : RelV v u)
    (h : ∀ s', Inv X pins (σ.set i (some v)) H s' → (∃ a, Heap.SameBut a s.heap s'.heap ∧ (a = X.env.locals ∨ X.env.cells.lookup x = some a)) → Q () s') (hf : X.fn x = true ∨ X.env.scope.names.lookup x = some .local := by first | exact .inl rfl | exact .inr rfl | assumption) : wpAny M A (storeName X.env x u) Q E s := by
  obtain ⟨m, hn, hl⟩ := id I.loc
  have hcls : (X.env.scope.kind == .class || (X.env.scope.kind == .module && X.env.locals != X.env.globals)) = false := by rw [I.ok.kind]; rfl
  have hiσ : i < σ.length := by rw [I.len]; exact (List.getElem?_eq_some_iff.mp hi).1
  have cne := I.cne
  have tracked : ∀ {a : Addr} {h' : Heap}, (∃ o, s.heap.get? a = some o ∧ H a = none) → Heap.SameBut a s.heap h' → HOk X.prog X.w H h' := fun {a h'} ha hs b ob e => by
    obtain ⟨_, _, hfree⟩ := ha
    refine (I.hok b ob e).stay (fun c w' hc q => (hs.2 c ?_).trans q) (fun _ q => q) fun _ _ q => q
    rintro rfl
    rcases hc with rfl | hc
    · rw [hfree] at e; cases e
    · rw [hfree] at hc; cases hc
  rcases hx with hk | hk
  · refine wpAny_storeName_local hk hn (fun h' hn' hs => ?_) hcls
    obtain ⟨oL, _, _, hoL, _⟩ := id hn
    refine h _ ⟨I.ok, I.os, I.bare, ⟨fun b o e n hb hx => ?_, fun b o e n hb hx => ?_, I.base.free, fun b o e hx => ?_, I.base.tups, I.base.frzs, I.base.tbls⟩, ⟨_, hn', fun j y v' e1 e2 e3 => ?_⟩, fun y c e => ?_, I.free, I.freeC, fun p hp => ?_, tracked ⟨oL, hoL, I.free⟩ hs, by simpa using I.len⟩ ⟨_, hs, .inl rfl⟩
    · exact (hs.2 b (Nat.ne_of_lt (Nat.lt_of_lt_of_le (Heap.lt_size e) I.ok.above))).trans (I.base.keep b o e n hb hx)
    · obtain ⟨sl, e1⟩ := I.base.slot b o e n hb hx
      exact ⟨sl, (hs.2 b (Nat.ne_of_lt (Nat.lt_of_lt_of_le (Heap.lt_size e) I.ok.above))).trans e1⟩
    · obtain ⟨o', e1⟩ := I.base.there b o e hx
      exact ⟨o', (hs.2 b (Nat.ne_of_lt (Nat.lt_of_lt_of_le (Heap.lt_size e) I.ok.above))).trans e1⟩
    · by_cases hj : j = i
      · subst hj
        rw [hi] at e1; cases e1
        rw [List.getElem?_set_self hiσ] at e2
        cases e2
        exact ⟨u, r, .inl ⟨hk, by simp⟩⟩
      · rw [List.getElem?_set_ne (Ne.symm hj)] at e2
        obtain ⟨u', r', q⟩ := hl j y v' e1 e2 e3
        refine ⟨u', r', ?_⟩
        rcases q with ⟨k, e⟩ | ⟨k, c, e, z⟩
        · refine .inl ⟨k, ?_⟩
          have : y ≠ x := fun e => hj (nodup_ix hN e1 (e ▸ hi))
          simp [this, e]
        · exact .inr ⟨k, c, e, z.sameBut hs (cne y c e)⟩
    · obtain ⟨w', z⟩ := I.cell y c e
      exact ⟨w', z.sameBut hs (cne y c e)⟩
    · obtain ⟨e, n, ne, nf, d⟩ := I.pin p hp
      exact ⟨(hs.2 p.1 ne).trans e, n, ne, nf, d⟩
  · have hfn : X.fn x = true := by
      rcases hf with z | z
      · exact z
      · rw [z] at hk; cases hk
    obtain ⟨c, hc⟩ := I.ok.has x (.inl hk)
    obtain ⟨w', z⟩ := I.cell x c hc
    refine wpAny_storeName_cell I.ok.kind hk hc z (fun h' hc' hs => ?_)
    obtain ⟨oc, hoc, hocd⟩ := id z
    refine h { s with heap := h' } ⟨I.ok, I.os, I.bare, ⟨fun b o e n hb hx => ?_, fun b o e n hb hx => ?_, I.base.free, fun b o e hx => ?_, I.base.tups, I.base.frzs, I.base.tbls⟩, ⟨m, hn.sameBut hs (Ne.symm (cne x c hc)), fun j y v' e1 e2 e3 => ?_⟩, fun y c' e => ?_, I.free, I.freeC, fun p hp => ?_, tracked ⟨oc, hoc, I.freeC x c hc⟩ hs, by simpa using I.len⟩ ⟨c, hs, .inr hc⟩
    · exact (hs.2 b (Nat.ne_of_lt (Nat.lt_of_lt_of_le (Heap.lt_size e) (I.ok.cab x c hfn hc)))).trans (I.base.keep b o e n hb hx)
    · obtain ⟨sl, e1⟩ := I.base.slot b o e n hb hx
      exact ⟨sl, (hs.2 b (Nat.ne_of_lt (Nat.lt_of_lt_of_le (Heap.lt_size e) (I.ok.cab x c hfn hc)))).trans e1⟩
    · obtain ⟨o', e1⟩ := I.base.there b o e hx
      exact ⟨o', (hs.2 b (Nat.ne_of_lt (Nat.lt_of_lt_of_le (Heap.lt_size e) (I.ok.cab x c hfn hc)))).trans e1⟩
    · by_cases hj : j = i
      · subst hj
        rw [hi] at e1; cases e1
        rw [List.getElem?_set_self hiσ] at e2
        cases e2
        exact ⟨u, r, .inr ⟨.inl hk, c, hc, hc'⟩⟩
      · rw [List.getElem?_set_ne (Ne.symm hj)] at e2
        obtain ⟨u', r', q⟩ := hl j y v' e1 e2 e3
        refine ⟨u', r', ?_⟩
        rcases q with q | ⟨k, c', e, z'⟩
        · exact .inl q
        · refine .inr ⟨k, c', e, z'.sameBut hs ?_⟩
          rintro rfl
          exact hj (nodup_ix hN e1 (I.ok.inj _ _ _ e hc ▸ hi))
    · by_cases hcc : c' = c
      · subst hcc; exact ⟨_, hc'⟩
      · obtain ⟨w2, z2⟩ := I.cell y c' e
        exact ⟨w2, z2.sameBut hs hcc⟩
    · obtain ⟨e, n, ne, nf, d⟩ := I.pin p hp
      refine ⟨(hs.2 p.1 ?_).trans e, n, ne, nf, d⟩
      intro q
      rw [q, hoc] at e
      have q' : oc = p.2 := Option.some.inj e
      exact d w' (by rw [← q']; exact hocd)
theorem store_ok {M : Model} {A : Around} {E : Value → Shared → Prop} {i : Nat} {x : Str} {v : V} {u : Value} {Q : Unit → Shared → Prop} (I : Inv X pins σ H s) (hN : X.N.Nodup) (hi : X.N[i]? = some x) (hx : Loc X.env.scope x) (r : RelV v u)
    (h : ∀ s', Inv X pins (σ.set i (some v)) H s' → Q () s') (hf : X.fn x = true ∨ X.env.scope.names.lookup x = some .local := by first | exact .inl rfl | exact .inr rfl | assumption) : wpAny M A (storeName X.env x u) Q E s :=
  store_ok2 I hN hi hx r (fun s' I' _ => h s' I') hf
/-- behind a call or a block, the state as it is -/
theorem Inv.call' {s' : Shared} {ch : List Addr} (I : Inv X pins σ H s) (ho : s'.os = s.os) (u : Un (frs X.stack) ch H H' s.heap s'.heap) (hok : HOk X.prog X.w H' s'.heap) (hg : AllBare s'.gens)
    (hch : ∀ b ∈ ch, (b ∈ X.ex ∨ X.s₀.heap.objs.size ≤ b) ∧ b ≠ X.env.locals ∧ (∀ x c, X.env.cells.lookup x = some c → c ≠ b) ∧ ∀ p ∈ X.pn ++ pins, p.1 ≠ b) : Inv X pins σ H' s' := by
  obtain ⟨h', g', d', t', o'⟩ := s'
  have e : o' = s.os := ho
  subst e
  exact I.call (g' := g') (t' := t') (d' := d') u hok hg hch
end

/-! ### the judgements -/
/-- an exception: its class, its own dict's address (where it has one), the abstract heap behind it -/
abbrev XK := Value → Option Addr → Hp → Prop
abbrev St := List (Option V)
abbrev VK := V → Hp → Prop
/-- an expression's reading; a test's; an argument list's -/
abbrev TE := St → Hp → VK → Prop
abbrev TT := St → Hp → (Bool → Hp → Prop) → Prop
abbrev TA := St → Hp → (List V → Hp → Prop) → Prop
/-- what is wanted behind a statement -/
structure Ends where
  nx : St → Hp → Prop
  rt : VK
  bk : St → Hp → Prop := fun _ _ => False
  ct : St → Hp → Prop := fun _ _ => False
abbrev TS := Ends → St → Hp → Prop

def EP (X : Cx) (pins : List (Addr × Obj)) (σ : St) (Q : VK) (u : Value) (s' : Shared) : Prop := ∃ v H', Inv X pins σ H' s' ∧ RelV v u ∧ Q v H'
def TP (X : Cx) (pins : List (Addr × Obj)) (σ : St) (Q : Bool → Hp → Prop) (b : Bool) (s' : Shared) : Prop := ∃ H', Inv X pins σ H' s' ∧ Q b H'
def AP (X : Cx) (pins : List (Addr × Obj)) (σ : St) (Q : List V → Hp → Prop) (us : List Value) (s' : Shared) : Prop := ∃ vs H', Inv X pins σ H' s' ∧ Vals vs us ∧ Q vs H'
def SP (X : Cx) (pins : List (Addr × Obj)) (D : Ends) (f : Flow) (s' : Shared) : Prop :=
  match f with
  | .next => ∃ σ' H', Inv X pins σ' H' s' ∧ D.nx σ' H'
  | .brk => ∃ σ' H', Inv X pins σ' H' s' ∧ D.bk σ' H'
  | .cont => ∃ σ' H', Inv X pins σ' H' s' ∧ D.ct σ' H'
  | .ret u => ∃ v σ' H', Inv X pins σ' H' s' ∧ RelV v u ∧ D.rt v H'

def PE (X : Cx) (e : Expr) (t : TE) : Prop :=
  ∀ (pins : List (Addr × Obj)) (s : Shared) (σ : St) (H : Hp) (Q : VK), Inv X pins σ H s → t σ H Q → wpAny (model X.prog X.w) X.A (eval e X.env) (EP X pins σ Q) X.xe s
def PT (X : Cx) (e : Expr) (t : TT) : Prop :=
  ∀ (pins : List (Addr × Obj)) (s : Shared) (σ : St) (H : Hp) (Q : Bool → Hp → Prop), Inv X pins σ H s → t σ H Q → wpAny (model X.prog X.w) X.A (isTrue e X.env (eval e X.env)) (TP X pins σ Q) X.xe s
/-- a test whatever its 'whole' is (and, or) -/
def PW (X : Cx) (e : Expr) (t : TT) : Prop :=
  ∀ (whole : Sem Value) (pins : List (Addr × Obj)) (s : Shared) (σ : St) (H : Hp) (Q : Bool → Hp → Prop), Inv X pins σ H s → t σ H Q → wpAny (model X.prog X.w) X.A (isTrue e X.env whole) (TP X pins σ Q) X.xe s
theorem PW.pt {X : Cx} {e : Expr} {t : TT} (h : PW X e t) : PT X e t := h _
/-- an argument list (no star), from the left -/
def PA (X : Cx) (es : List Expr) (t : TA) : Prop :=
  ∀ (pos : Pos) (pins : List (Addr × Obj)) (s : Shared) (σ : St) (H : Hp) (Q : List V → Hp → Prop), Inv X pins σ H s → t σ H Q → wpAny (model X.prog X.w) X.A (spliced (backTo pos (starEach es X.env))) (AP X pins σ Q) X.xe s
def PS (X : Cx) (st : Stmt) (t : TS) : Prop :=
  ∀ (pins : List (Addr × Obj)) (s : Shared) (σ : St) (H : Hp) (D : Ends), Inv X pins σ H s → t D σ H → wpAny (model X.prog X.w) X.A (exec st X.env) (SP X pins D) X.xe s
def PSs (X : Cx) (st : List Stmt) (t : TS) : Prop :=
  ∀ (pins : List (Addr × Obj)) (s : Shared) (σ : St) (H : Hp) (D : Ends), Inv X pins σ H s → t D σ H → wpAny (model X.prog X.w) X.A (execs st X.env) (SP X pins D) X.xe s
/-- weaken the end -/
theorem thn {α : Type} {t : Sem α} {Q Q' : α → Shared → Prop} {M : Model} {A : Around} {E : Value → Shared → Prop} {s : Shared} (h : wpAny M A t Q E s) (hQ : ∀ a s, Q a s → Q' a s) : wpAny M A t Q' E s := wpAny_mono h hQ fun _ _ x => x
end L2

namespace L2
open PySem PySem.Spec PyProof.Rows
section
variable {X : Cx}

/-- two expressions in a row -/
theorem bin {a b : Expr} {ta tb : TE} (ha : PE X a ta) (hb : PE X b tb) {pins : List (Addr × Obj)} {s : Shared} {σ : St} {H : Hp} {R : V → V → Hp → Prop} (I : Inv X pins σ H s) (h : ta σ H fun x H1 => tb σ H1 fun y H2 => R x y H2)
    {α : Type} {Q : α → Shared → Prop} {f : Value → Value → Sem α}
    (hf : ∀ v u s2 x y H2, Inv X pins σ H2 s2 → RelV x v → RelV y u → R x y H2 → wpAny (model X.prog X.w) X.A (f v u) Q X.xe s2) :
    wpAny (model X.prog X.w) X.A (eval a X.env) (fun v s₁ => wpAny (model X.prog X.w) X.A (eval b X.env) (fun u s₂ => wpAny (model X.prog X.w) X.A (f v u) Q X.xe s₂) X.xe s₁) X.xe s := by
  refine thn (ha pins s σ H _ I h) fun v s1 ⟨x, H1, I1, r1, q1⟩ => ?_
  refine thn (hb pins s1 σ H1 _ I1 q1) fun u s2 ⟨y, H2, I2, r2, q2⟩ => ?_
  exact hf v u s2 x y H2 I2 r1 r2 q2

/-! ### names and constants -/
def tVar (i : Nat) : TE := fun σ H Q => ∃ v, σ[i]? = some (some v) ∧ Q v H
def tC (v : V) : TE := fun _ H Q => Q v H
theorem pe_var {i : Nat} {x : Str} {pos : Pos} (hN : X.N[i]? = some x) (hv : Vis X.env.scope x) (hd : (x == ("__debug__" : Str)) = false := by decide) (hcd : (x == ("__classdict__" : Str)) = false := by decide) : PE X (.Name x pos) (tVar i) := by
  intro pins s σ H Q I h
  obtain ⟨v, e, h⟩ := h
  obtain ⟨m, hn, hl⟩ := I.loc
  obtain ⟨u, r, l⟩ := hl i x v hN e hv
  have fin : EP X pins σ Q u s := ⟨v, H, I, r, h⟩
  rcases l with ⟨hk, hm⟩ | ⟨hk, c, hc, hcell⟩
  · exact wpAny_Name (wpAny_loadName_local I.ok.kind hk hn hm fin) hd
  · rcases hk with hk | hk
    · exact wpAny_Name (wpAny_loadName_cell I.ok.kind hk hc hcell fin) hd
    · exact wpAny_Name (wpAny_loadName_free I.ok.kind hk hc hcell fin hcd) hd
theorem pe_int {i j pos} : PE X (.Constant (.int i) j pos) (tC (.int i)) := fun _ _ _ H _ I h => wpAny_Constant_int ⟨.int i, H, I.tok _, ⟨_, rfl⟩, h⟩
theorem pe_bl {b j pos} : PE X (.Constant (.bool b) j pos) (tC (.bl b)) := fun _ _ _ H _ I h => Constant_bool ⟨.bl b, H, I, rfl, h⟩
theorem pe_non {j pos} : PE X (.Constant .none j pos) (tC .non) := fun _ _ _ H _ I h => Constant_none ⟨.non, H, I, rfl, h⟩
theorem pe_str {x j pos} : PE X (.Constant (.str x) j pos) (tC (.str x)) := fun _ _ _ H _ I h => Calls.Constant_str ⟨.str x, H, I.tok _, ⟨_, rfl⟩, h⟩

/-- a global name of the def -/
def Gl (X : Cx) (x : Str) : Prop := X.env.kindOf x = some .globalImplicit
theorem ld_glob {E : Value → Shared → Prop} {pins : List (Addr × Obj)} {s : Shared} {σ : St} {H : Hp} {x : Str} {u : Value} {pos : Pos} {Q : Value → Shared → Prop} (I : Inv X pins σ H s) (hg : Gl X x) (hm : X.mg x = some u) (h : Q u s)
    (hd : (x == ("__debug__" : Str)) = false := by decide) : wpAny (model X.prog X.w) X.A (eval (.Name x pos) X.env) Q E s :=
  Calls.Name_function_global I.ok.kind hg (Calls.loadGlobal_global (by rw [I.ok.glob]; exact I.mod.glob.keeps I.bk) hm h) hd
theorem ld_blt {E : Value → Shared → Prop} {pins : List (Addr × Obj)} {s : Shared} {σ : St} {H : Hp} {x : Str} {u : Value} {pos : Pos} {Q : Value → Shared → Prop} (I : Inv X pins σ H s) (hg : Gl X x) (hm : X.mg x = none) (hv : bootBuiltins x = some u) (h : Q u s)
    (hn : x ≠ "__name__" := by decide) (hd : (x == ("__debug__" : Str)) = false := by decide) : wpAny (model X.prog X.w) X.A (eval (.Name x pos) X.env) Q E s := by
  obtain ⟨mb, h1, h2⟩ := I.mod.blt
  exact Calls.Name_function_global I.ok.kind hg (Calls.loadGlobal_builtin (by rw [I.ok.glob]; exact I.mod.glob.keeps I.bk) hm (by rw [I.ok.blt]; exact h1.keeps I.bk) ((h2 x hn).trans hv) h) hd
/-- a module's constant, a class, a function, as a value -/
theorem pe_glob {x : Str} {v : V} {u : Value} {pos : Pos} (hg : Gl X x) (hm : X.mg x = some u) (r : RelV v u) (hd : (x == ("__debug__" : Str)) = false := by decide) : PE X (.Name x pos) (tC v) :=
  fun _ _ _ H _ I h => ld_glob I hg hm ⟨v, H, I, r, h⟩ hd
theorem pe_bltn {x : Str} {v : V} {u : Value} {pos : Pos} (hg : Gl X x) (hm : X.mg x = none) (hv : bootBuiltins x = some u) (r : RelV v u) (hn : x ≠ "__name__" := by decide) (hd : (x == ("__debug__" : Str)) = false := by decide) : PE X (.Name x pos) (tC v) :=
  fun _ _ _ H _ I h => ld_blt I hg hm hv ⟨v, H, I, r, h⟩ hn hd

/-! ### arithmetic -/
/-- two ints -/
def t2I (ta tb : TE) (k : Int → Int → Hp → Prop) : St → Hp → Prop := fun σ H => ta σ H fun x H1 => tb σ H1 fun y H2 => ∃ i j, x = .int i ∧ y = .int j ∧ k i j H2
def tAdd (ta tb : TE) : TE := fun σ H Q => t2I ta tb (fun i j H2 => Q (.int (i + j)) H2) σ H
def tSub (ta tb : TE) : TE := fun σ H Q => t2I ta tb (fun i j H2 => Q (.int (i - j)) H2) σ H
/-- the left factor below 2^64 -/
def tMul (ta tb : TE) : TE := fun σ H Q => t2I ta tb (fun i j H2 => (-(2 ^ 64) < i ∧ i < 2 ^ 64) ∧ Q (.int (i * j)) H2) σ H
variable {a b : Expr} {ta tb : TE} {pos : Pos}
theorem pe_add (ha : PE X a ta) (hb : PE X b tb) : PE X (.BinOp a .Add b pos) (tAdd ta tb) := by
  intro pins s σ H Q I h
  refine wpAny_BinOp (bin ha hb I h fun v u s2 x y H2 I2 rx ry q => ?_)
  obtain ⟨i, j, rfl, rfl, q⟩ := q
  obtain ⟨t, rfl⟩ := rx
  obtain ⟨t', rfl⟩ := ry
  exact add_int ⟨.int _, H2, I2.tok _, ⟨_, rfl⟩, q⟩
theorem pe_sub (ha : PE X a ta) (hb : PE X b tb) : PE X (.BinOp a .Sub b pos) (tSub ta tb) := by
  intro pins s σ H Q I h
  refine wpAny_BinOp (bin ha hb I h fun v u s2 x y H2 I2 rx ry q => ?_)
  obtain ⟨i, j, rfl, rfl, q⟩ := q
  obtain ⟨t, rfl⟩ := rx
  obtain ⟨t', rfl⟩ := ry
  exact sub_int ⟨.int _, H2, I2.tok _, ⟨_, rfl⟩, q⟩
theorem pe_mul (ha : PE X a ta) (hb : PE X b tb) : PE X (.BinOp a .Mult b pos) (tMul ta tb) := by
  intro pins s σ H Q I h
  refine wpAny_BinOp (bin ha hb I h fun v u s2 x y H2 I2 rx ry q => ?_)
  obtain ⟨i, j, rfl, rfl, ⟨q1, q2⟩, q⟩ := q
  obtain ⟨t, rfl⟩ := rx
  obtain ⟨t', rfl⟩ := ry
  exact mul_int ⟨.int _, H2, I2.tok _, ⟨_, rfl⟩, q⟩ (.of_left (intBits_le_64 q1 q2))

/-! ### comparisons -/
def PC (X : Cx) (op : CmpOp) (a b : Expr) (t : TE) : Prop :=
  ∀ (pins : List (Addr × Obj)) (s : Shared) (σ : St) (H : Hp) (Q : VK), Inv X pins σ H s → t σ H Q →
    wpAny (model X.prog X.w) X.A (eval a X.env) (fun v s₁ => wpAny (model X.prog X.w) X.A (eval b X.env) (fun u s₂ => wpAny (model X.prog X.w) X.A (compareOp op v u) (EP X pins σ Q) X.xe s₂) X.xe s₁) X.xe s
theorem nobehind (b : Expr) {op : CmpOp} (h : op ≠ .In) (h2 : op ≠ .NotIn) : behindInMarks op b = false := by
  have e1 : (op == CmpOp.In) = false := by cases op <;> first | rfl | exact absurd rfl h
  have e2 : (op == CmpOp.NotIn) = false := by cases op <;> first | rfl | exact absurd rfl h2
  cases b <;> simp [behindInMarks, e1, e2]
def tCmp (p : Int → Int → Bool) (ta tb : TE) : TE := fun σ H Q => t2I ta tb (fun i j H2 => Q (.bl (p i j)) H2) σ H
abbrev tLt : TE → TE → TE := tCmp fun i j => decide (i < j)
abbrev tLe : TE → TE → TE := tCmp fun i j => decide (i ≤ j)
abbrev tGt : TE → TE → TE := tCmp fun i j => decide (j < i)
abbrev tGe : TE → TE → TE := tCmp fun i j => decide (j ≤ i)
abbrev tEqI : TE → TE → TE := tCmp fun i j => decide (i = j)
abbrev tNeI : TE → TE → TE := tCmp fun i j => !decide (i = j)
/-- a comparison of two ints, by its rule -/
theorem pc_int {op : CmpOp} {p : Int → Int → Bool} (ha : PE X a ta) (hb : PE X b tb)
    (rule : ∀ (i j : Int) (t u : Tok) (Q : Value → Shared → Prop) (s : Shared), Q (.bool (p i j)) s → wpAny (model X.prog X.w) X.A (compareOp op (.int i t) (.int j u)) Q X.xe s) : PC X op a b (tCmp p ta tb) := by
  intro pins s σ H Q I h
  refine bin ha hb I h fun v u s2 x y H2 I2 rx ry q => ?_
  obtain ⟨i, j, rfl, rfl, q⟩ := q
  obtain ⟨t, rfl⟩ := rx
  obtain ⟨t', rfl⟩ := ry
  exact rule i j t t' _ s2 ⟨.bl _, H2, I2, rfl, q⟩
theorem pc_lt (ha : PE X a ta) (hb : PE X b tb) : PC X .Lt a b (tLt ta tb) := pc_int ha hb fun _ _ _ _ _ _ h => lt_int h
theorem pc_le (ha : PE X a ta) (hb : PE X b tb) : PC X .LtE a b (tLe ta tb) := pc_int ha hb fun _ _ _ _ _ _ h => le_int h
theorem pc_gt (ha : PE X a ta) (hb : PE X b tb) : PC X .Gt a b (tGt ta tb) := pc_int ha hb fun _ _ _ _ _ _ h => gt_int h
theorem pc_ge (ha : PE X a ta) (hb : PE X b tb) : PC X .GtE a b (tGe ta tb) := pc_int ha hb fun _ _ _ _ _ _ h => ge_int h
theorem pc_eqI (ha : PE X a ta) (hb : PE X b tb) : PC X .Eq a b (tEqI ta tb) := pc_int ha hb fun _ _ _ _ _ _ h => eq_int (by rw [Bool.beq_eq_decide_eq]; exact h)
theorem pc_neI (ha : PE X a ta) (hb : PE X b tb) : PC X .NotEq a b (tNeI ta tb) := pc_int ha hb fun _ _ _ _ _ _ h => ne_int (by rw [bne, Bool.beq_eq_decide_eq]; exact h)
/-- is None -/
def tIsN (ta : TE) : TE := fun σ H Q => ta σ H fun x H1 => Q (.bl (decide (x = .non))) H1
def tNotN (ta : TE) : TE := fun σ H Q => ta σ H fun x H1 => Q (.bl (!decide (x = .non))) H1
theorem RelV.none_iff {x : V} {v : Value} (r : RelV x v) : (v == Value.none) = decide (x = .non) := by
  cases x with
  | non => cases r; rfl
  | bl _ => cases r; rfl
  | int _ => obtain ⟨t, rfl⟩ := r; rfl
  | str _ => obtain ⟨t, rfl⟩ := r; rfl
  | byt _ => obtain ⟨t, rfl⟩ := r; rfl
  | flt _ => obtain ⟨t, rfl⟩ := r; rfl
  | ref _ => cases r; rfl
  | ty _ => cases r; rfl
theorem pc_isN {j pos'} (ha : PE X a ta) : PC X .Is a (.Constant .none j pos') (tIsN ta) := by
  intro pins s σ H Q I h
  refine thn (ha pins s σ H _ I h) fun v s1 ⟨x, H1, I1, r1, q1⟩ => ?_
  exact Constant_none (is_none_gen ⟨.bl _, H1, I1, by rw [r1.none_iff]; rfl, q1⟩)
theorem pc_notN {j pos'} (ha : PE X a ta) : PC X .IsNot a (.Constant .none j pos') (tNotN ta) := by
  intro pins s σ H Q I h
  refine thn (ha pins s σ H _ I h) fun v s1 ⟨x, H1, I1, r1, q1⟩ => ?_
  exact Constant_none (isnot_none_gen ⟨.bl _, H1, I1, by rw [r1.none_iff]; rfl, q1⟩)
/-- a comparison as a value, as a test -/
def tB (t : TE) : TT := fun σ H Q => t σ H fun x H1 => ∃ c, x = .bl c ∧ Q c H1
theorem pe_cmp {op : CmpOp} {t : TE} (h : PC X op a b t) (h1 : behindInMarks op b = false := by first | exact nobehind _ (by decide) (by decide) | rfl) : PE X (.Compare a [op] [b] pos) t := fun pins s σ H Q I hw => wpAny_Compare1 (h pins s σ H Q I hw) h1
theorem pt_cmp {op : CmpOp} {t : TE} (h : PC X op a b t) (h1 : behindInMarks op b = false := by first | exact nobehind _ (by decide) (by decide) | rfl) : PT X (.Compare a [op] [b] pos) (tB t) := by
  intro pins s σ H Q I hw
  refine wpAny_isTrue_Compare1 (thn (h pins s σ H _ I hw) fun v s1 h1 => thn h1 fun u s2 h2 => thn h2 fun c s3 ⟨x, H1, I1, r1, q1⟩ => ?_) h1
  obtain ⟨d, rfl, q⟩ := q1
  cases r1
  exact wpAny_truthy_bool ⟨H1, I1, q⟩
/-- an expression whose value is a bool, as a test -/
theorem pt_val {e : Expr} {t : TE} (h : PE X e t) (he : ∀ whole, isTrue e X.env whole = (do let v ← whole; standAt e.pos; holding [v] (truthy v)) := by intro _; rfl) : PT X e (tB t) := by
  intro pins s σ H Q I hw
  refine isTrue_plain (thn (h pins s σ H _ I hw) fun v s1 ⟨x, H1, I1, r1, q1⟩ => ?_) (he _)
  obtain ⟨d, rfl, q⟩ := q1
  cases r1
  exact wpAny_truthy_bool ⟨H1, I1, q⟩

/-! ### and, or, not -/
variable {tA tB' : TT} {rest : List Expr}
def tAnd (t u : TT) : TT := fun σ H Q => t σ H fun c H1 => if c = true then u σ H1 Q else Q false H1
def tOr (t u : TT) : TT := fun σ H Q => t σ H fun c H1 => if c = true then Q true H1 else u σ H1 Q
def tNot (t : TT) : TT := fun σ H Q => t σ H fun c H1 => Q (!c) H1
theorem pw_and1 (ha : PT X a tA) : PW X (.BoolOp .And [a] pos) tA := by
  intro wh pins s σ H Q I h
  refine isTrue_and (thn (ha pins s σ H Q I h) fun c s1 e => ?_)
  cases c with
  | true => exact isTrue_and_nil e
  | false => exact e
theorem pw_or1 (ha : PT X a tA) : PW X (.BoolOp .Or [a] pos) tA := by
  intro wh pins s σ H Q I h
  refine isTrue_or (thn (ha pins s σ H Q I h) fun c s1 e => ?_)
  cases c with
  | false => exact isTrue_or_nil e
  | true => exact e
theorem pw_and (ha : PT X a tA) (hb : PW X (.BoolOp .And (b :: rest) pos) tB') : PW X (.BoolOp .And (a :: b :: rest) pos) (tAnd tA tB') := by
  intro wh pins s σ H Q I h
  refine isTrue_and (thn (ha pins s σ H _ I h) fun c s1 ⟨H1, I1, q1⟩ => ?_)
  cases c with
  | true => exact hb wh pins s1 σ H1 Q I1 q1
  | false => exact ⟨H1, I1, q1⟩
theorem pw_or (ha : PT X a tA) (hb : PW X (.BoolOp .Or (b :: rest) pos) tB') : PW X (.BoolOp .Or (a :: b :: rest) pos) (tOr tA tB') := by
  intro wh pins s σ H Q I h
  refine isTrue_or (thn (ha pins s σ H _ I h) fun c s1 ⟨H1, I1, q1⟩ => ?_)
  cases c with
  | true => exact ⟨H1, I1, q1⟩
  | false => exact hb wh pins s1 σ H1 Q I1 q1
theorem pt_not (ha : PT X a tA) : PT X (.UnaryOp .Not a pos) (tNot tA) := by
  intro pins s σ H Q I h
  exact isTrue_not (ha pins s σ H (fun c H1 => Q (!c) H1) I h)
/-- .. as values (bools) -/
def tAndV (ta tb : TE) : TE := fun σ H Q => ta σ H fun x H1 => ∃ c, x = .bl c ∧ if c = true then tb σ H1 Q else Q (.bl false) H1
def tOrV (ta tb : TE) : TE := fun σ H Q => ta σ H fun x H1 => ∃ c, x = .bl c ∧ if c = true then Q (.bl true) H1 else tb σ H1 Q
def tNotV (ta : TE) : TE := fun σ H Q => ta σ H fun x H1 => ∃ c, x = .bl c ∧ Q (.bl (!c)) H1
theorem pe_one {op} {t : TE} (h : PE X a t) : PE X (.BoolOp op [a] pos) t := fun pins s σ H Q I hw => BoolOp_one (h pins s σ H Q I hw)
theorem pe_and (ha : PE X a ta) (hb : PE X (.BoolOp .And (b :: rest) pos) tb) : PE X (.BoolOp .And (a :: b :: rest) pos) (tAndV ta tb) := by
  intro pins s σ H Q I h
  refine BoolOp_and (thn (ha pins s σ H _ I h) fun v s1 ⟨x, H1, I1, r1, q1⟩ => ?_)
  obtain ⟨c, rfl, q1⟩ := q1
  cases r1
  refine wpAny_truthy_bool ?_
  cases c with
  | true => exact hb pins s1 σ H1 Q I1 q1
  | false => exact ⟨.bl false, H1, I1, rfl, q1⟩
theorem pe_or (ha : PE X a ta) (hb : PE X (.BoolOp .Or (b :: rest) pos) tb) : PE X (.BoolOp .Or (a :: b :: rest) pos) (tOrV ta tb) := by
  intro pins s σ H Q I h
  refine BoolOp_or (thn (ha pins s σ H _ I h) fun v s1 ⟨x, H1, I1, r1, q1⟩ => ?_)
  obtain ⟨c, rfl, q1⟩ := q1
  cases r1
  refine wpAny_truthy_bool ?_
  cases c with
  | false => exact hb pins s1 σ H1 Q I1 q1
  | true => exact ⟨.bl true, H1, I1, rfl, q1⟩
theorem pe_not (ha : PE X a ta) : PE X (.UnaryOp .Not a pos) (tNotV ta) := by
  intro pins s σ H Q I h
  refine UnaryOp_ (thn (ha pins s σ H _ I h) fun v s1 ⟨x, H1, I1, r1, q1⟩ => ?_)
  obtain ⟨c, rfl, q1⟩ := q1
  cases r1
  exact not_of (wpAny_truthy_bool ⟨.bl (!c), H1, I1, rfl, q1⟩)
/-- a if t else b -/
def tIf (t : TT) (ta tb : TE) : TE := fun σ H Q => t σ H fun c H1 => if c = true then ta σ H1 Q else tb σ H1 Q
theorem pe_ifExp {c : Expr} (hc : PT X c tA) (ha : PE X a ta) (hb : PE X b tb) : PE X (.IfExp c a b pos) (tIf tA ta tb) := by
  intro pins s σ H Q I h
  refine wpAny_IfExp (thn (hc pins s σ H _ I h) fun d s1 ⟨H1, I1, q1⟩ => ?_)
  cases d with
  | true => exact ha pins s1 σ H1 Q I1 q1
  | false => exact hb pins s1 σ H1 Q I1 q1
end
end L2

namespace L2
open PySem PySem.Spec PyProof.Rows

/-! ### a list, a tuple that is read: tracked, frozen, or an object of the module -/
def SqL (K : PySem.W.Frag) (H : Hp) (a : Addr) (xs : List V) : Prop :=
  Rd H a (.lst xs) ∨
    ∃ (o : Obj) (its : Array Value) (n : Nat), K.lookup a = some o ∧ o.cls = .type "list" ∧ o.dict = none ∧ o.data = .seq its n ∧ its.size ≤ sizeLine ∧ Vals xs its.toList
def SqT (K : PySem.W.Frag) (H : Hp) (a : Addr) (xs : List V) : Prop :=
  Rd H a (.tup xs) ∨
    ∃ (o : Obj) (its : Array Value) (n : Nat), K.lookup a = some o ∧ o.cls = .type "tuple" ∧ o.data = .seq its n ∧ its.size ≤ sizeLine ∧ Vals xs its.toList
def absV : Value → Option V
  | .none => some .non
  | .bool b => some (.bl b)
  | .int i _ => some (.int i)
  | .str x _ => some (.str x)
  | .bytes b _ => some (.byt b)
  | .float b _ => some (.flt b)
  | .ref a => some (.ref a)
  | .type n => some (.ty n)
  | _ => none
theorem RelV.abs {x : V} {u : Value} (r : RelV x u) : absV u = some x := by
  cases x with
  | non => cases r; rfl
  | bl _ => cases r; rfl
  | int _ => obtain ⟨t, rfl⟩ := r; rfl
  | str _ => obtain ⟨t, rfl⟩ := r; rfl
  | byt _ => obtain ⟨t, rfl⟩ := r; rfl
  | flt _ => obtain ⟨t, rfl⟩ := r; rfl
  | ref _ => cases r; rfl
  | ty _ => cases r; rfl
theorem RelV.inj {x y : V} {u : Value} (r : RelV x u) (q : RelV y u) : x = y := Option.some.inj (r.abs.symm.trans q.abs)
theorem Vals.inj : ∀ {xs ys : List V} {us : List Value}, Vals xs us → Vals ys us → xs = ys
  | _, _, _, .nil, .nil => rfl
  | _, _, _, .cons r t, .cons r' t' => by rw [r.inj r', Vals.inj t t']
section
variable {X : Cx} {pins : List (Addr × Obj)} {σ : St} {H : Hp} {s : Shared} {a : Addr} {xs ys : List V}
theorem SqL.of {K : PySem.W.Frag} (h : H a = some (.lst xs)) : SqL K H a xs := .inl (.inl h)
theorem SqT.of {K : PySem.W.Frag} (h : H a = some (.tup xs)) : SqT K H a xs := .inl (.inl h)
theorem Inv.list (I : Inv X pins σ H s) (h : SqL X.K H a xs) : ∃ its : List Value, Vals xs its ∧ PlainL s.heap a its.toArray ∧ xs.length ≤ sizeLine := by
  rcases h with h | ⟨o, its, n, hk, hc, hd, hs, hz, r⟩
  · obtain ⟨z, its, n, r, e⟩ := h.ok I.hok
    exact ⟨its, r, ⟨_, n, e, rfl, rfl, rfl⟩, z⟩
  · refine ⟨its.toList, r, ⟨o, n, I.kIn a o hk, hc, hd, by simpa using hs⟩, ?_⟩
    have e := r.length
    simp only [Array.length_toList] at e
    omega
theorem Inv.tuple (I : Inv X pins σ H s) (h : SqT X.K H a xs) : ∃ its : List Value, Vals xs its ∧ IsTup s.heap a its.toArray ∧ xs.length ≤ sizeLine := by
  rcases h with h | ⟨o, its, n, hk, hc, hs, hz, r⟩
  · obtain ⟨z, its, r, p⟩ := h.ok I.hok
    exact ⟨its, r, p, z⟩
  · refine ⟨its.toList, r, ⟨o, I.kIn a o hk, hc, n, by simpa using hs⟩, ?_⟩
    have e := r.length
    simp only [Array.length_toList] at e
    omega
theorem Inv.list_inj (I : Inv X pins σ H s) (h : SqL X.K H a xs) (h' : SqL X.K H a ys) : xs = ys := by
  obtain ⟨its, r, ⟨o, n, e, _, _, d⟩, _⟩ := I.list h
  obtain ⟨its', r', ⟨o', n', e', _, _, d'⟩, _⟩ := I.list h'
  rw [e] at e'; cases e'
  rw [d] at d'
  injection d' with d1 _
  have : its = its' := by simpa using congrArg Array.toList d1
  subst this
  exact r.inj r'
theorem Inv.tuple_inj (I : Inv X pins σ H s) (h : SqT X.K H a xs) (h' : SqT X.K H a ys) : xs = ys := by
  obtain ⟨its, r, ⟨o, e, _, n, d⟩, _⟩ := I.tuple h
  obtain ⟨its', r', ⟨o', e', _, n', d'⟩, _⟩ := I.tuple h'
  rw [e] at e'; cases e'
  rw [d] at d'
  injection d' with d1 _
  have : its = its' := by simpa using congrArg Array.toList d1
  subst this
  exact r.inj r'
end

/-! ### another wish about exceptions -/
abbrev Cx.wish (X : Cx) (E : Value → Shared → Prop) : Cx := { X with xe := E }
/-- no exception leaves -/
abbrev Cx.nox (X : Cx) : Cx := X.wish fun _ _ => False
theorem Cx.Ok.wish {X : Cx} (ok : X.Ok) (E : Value → Shared → Prop) : (X.wish E).Ok :=
  ⟨ok.mod, ok.kind, ok.glob, ok.blt, ok.above, ok.inj, ok.has, ok.cab, ok.hd, ok.frames, ok.stk, ok.exf, ok.bs, ok.bsz, ok.noex, ok.exfs, ok.funs, ok.frf⟩
theorem Cx.Ok.unwish {X : Cx} {E : Value → Shared → Prop} (ok : (X.wish E).Ok) : X.Ok :=
  ⟨ok.mod, ok.kind, ok.glob, ok.blt, ok.above, ok.inj, ok.has, ok.cab, ok.hd, ok.frames, ok.stk, ok.exf, ok.bs, ok.bsz, ok.noex, ok.exfs, ok.funs, ok.frf⟩
section
variable {X : Cx} {pins : List (Addr × Obj)} {σ : St} {H : Hp} {s : Shared} {E : Value → Shared → Prop}
theorem Inv.wish (I : Inv X pins σ H s) (E : Value → Shared → Prop) : Inv (X.wish E) pins σ H s := ⟨I.ok.wish E, I.os, I.bare, I.base, I.loc, I.cell, I.free, I.freeC, I.pin, I.hok, I.len⟩
theorem Inv.unwish (I : Inv (X.wish E) pins σ H s) : Inv X pins σ H s := ⟨I.ok.unwish, I.os, I.bare, I.base, I.loc, I.cell, I.free, I.freeC, I.pin, I.hok, I.len⟩
theorem SP.unwish {D : Ends} {f : Flow} {s' : Shared} (h : SP (X.wish E) pins D f s') : SP X pins D f s' := by
  cases f with
  | next => obtain ⟨σ', H', I, q⟩ := h; exact ⟨σ', H', I.unwish, q⟩
  | brk => obtain ⟨σ', H', I, q⟩ := h; exact ⟨σ', H', I.unwish, q⟩
  | cont => obtain ⟨σ', H', I, q⟩ := h; exact ⟨σ', H', I.unwish, q⟩
  | ret u => obtain ⟨v, σ', H', I, r, q⟩ := h; exact ⟨v, σ', H', I.unwish, r, q⟩
theorem PE.nox {e : Expr} {t : TE} (h : PE X.nox e t) : PE X e t := fun pins s σ H Q I hw =>
  wpAny_mono (h pins s σ H Q (I.wish _) hw) (fun _ _ ⟨v, H', I', r, q⟩ => ⟨v, H', I'.unwish, r, q⟩) fun _ _ z => False.elim z
theorem PT.nox {e : Expr} {t : TT} (h : PT X.nox e t) : PT X e t := fun pins s σ H Q I hw =>
  wpAny_mono (h pins s σ H Q (I.wish _) hw) (fun _ _ ⟨H', I', q⟩ => ⟨H', I'.unwish, q⟩) fun _ _ z => False.elim z
theorem PSs.nox {st : List Stmt} {t : TS} (h : PSs X.nox st t) : PSs X st t := fun pins s σ H D I hw =>
  wpAny_mono (h pins s σ H D (I.wish _) hw) (fun _ _ q => q.unwish) fun _ _ z => False.elim z
end

/-! ### blocks and small statements -/
section
variable {X : Cx} {st : Stmt} {rest : List Stmt} {t u : TS} {e : Expr} {te : TE} {pos : Pos}
def tNext : TS := fun D σ H => D.nx σ H
def tSeq (t u : TS) : TS := fun D σ H => t { D with nx := u D } σ H
theorem pss_nil : PSs X [] tNext := fun _ _ σ H _ I h => wpAny_execs_nil ⟨σ, H, I, h⟩
theorem pss_cons (h1 : PS X st t) (h2 : PSs X rest u) : PSs X (st :: rest) (tSeq t u) := by
  intro pins s σ H D I h
  refine wpAny_execs_cons (thn (h1 pins s σ H { D with nx := u D } I h) fun f s1 q => ?_)
  cases f with
  | next =>
    obtain ⟨σ', H', I', q⟩ := q
    exact h2 pins s1 σ' H' D I' q
  | ret v => exact q
  | brk => exact q
  | cont => exact q
theorem pss_one (h1 : PS X st t) : PSs X [st] t := by
  intro pins s σ H D I h
  refine wpAny_execs_cons (thn (h1 pins s σ H D I h) fun f s1 q => ?_)
  cases f with
  | next => exact wpAny_execs_nil q
  | ret v => exact q
  | brk => exact q
  | cont => exact q
def tBreak : TS := fun D σ H => D.bk σ H
def tCont : TS := fun D σ H => D.ct σ H
theorem ps_pass : PS X (.Pass pos) tNext := fun _ _ σ H _ I h => wpAny_Pass ⟨σ, H, I, h⟩
theorem ps_break : PS X (.Break pos) tBreak := fun _ _ σ H _ I h => wpAny_Break ⟨σ, H, I, h⟩
theorem ps_continue : PS X (.Continue pos) tCont := fun _ _ σ H _ I h => wpAny_Continue ⟨σ, H, I, h⟩
/-- in a def's body nothing is shown -/
theorem Inv.quiet {pins : List (Addr × Obj)} {σ : St} {H : Hp} {s : Shared} (I : Inv X pins σ H s) : interactive X.env = false := by simp [interactive, I.ok.kind]
/-- a docstring -/
theorem ps_doc {x j pos pos'} : PS X (.Expr (.Constant (.str x) j pos) pos') tNext := fun _ s σ H _ I h => wpAny_Expr (Calls.Constant_str (show SP X _ _ .next { s with toks := s.toks + 1 } from ⟨σ, H, I.tok _, h⟩)) I.quiet
/-- an expression whose value is dropped -/
def tDrop (te : TE) : TS := fun D σ H => te σ H fun _ H1 => D.nx σ H1
theorem ps_expr (he : PE X e te) (hs : swapsWith e none pos.line X.env = pure false := by rfl) : PS X (.Expr e pos) (tDrop te) := by
  intro pins s σ H D I h
  exact wpAny_Expr_any (thn (he pins s σ H _ I h) fun v s1 ⟨x, H1, I1, r1, q1⟩ => ⟨σ, H1, I1, q1⟩) I.quiet hs
def tRet (te : TE) : TS := fun D σ H => te σ H D.rt
theorem ps_ret (he : PE X e te) : PS X (.Return (some e) pos) (tRet te) := by
  intro pins s σ H D I h
  exact wpAny_Return_some (thn (he pins s σ H _ I h) fun v s1 ⟨x, H1, I1, r1, q1⟩ => ⟨x, σ, H1, I1, r1, q1⟩)
def tRetN : TS := fun D _ H => D.rt .non H
theorem ps_retN : PS X (.Return none pos) tRetN := fun _ _ σ H _ I h => wpAny_Return_none ⟨.non, σ, H, I, rfl, h⟩
def tIfS (c : TT) (t u : TS) : TS := fun D σ H => c σ H fun b H1 => if b = true then t D σ H1 else u D σ H1
theorem ps_if {c : Expr} {a b : List Stmt} {tc : TT} (hc : PT X c tc) (ha : PSs X a t) (hb : PSs X b u) : PS X (.If c a b pos) (tIfS tc t u) := by
  intro pins s σ H D I h
  refine wpAny_If (thn (hc pins s σ H _ I h) fun d s1 ⟨H1, I1, q1⟩ => ?_)
  cases d with
  | true => exact ha pins s1 σ H1 D I1 q1
  | false => exact hb pins s1 σ H1 D I1 q1
/-- code that the proof never comes to -/
def tNever : TS := fun _ _ _ => False
theorem ps_never : PS X st tNever := fun _ _ _ _ _ _ h => h.elim
theorem pss_never {sts : List Stmt} : PSs X sts tNever := fun _ _ _ _ _ _ h => h.elim
end

/-! ### targets -/
abbrev TG := V → St → Hp → (St → Hp → Prop) → Prop
abbrev TGs := List V → St → Hp → (St → Hp → Prop) → Prop
def PG (X : Cx) (target : Expr) (t : TG) : Prop :=
  ∀ (pins : List (Addr × Obj)) (s : Shared) (σ : St) (H : Hp) (v : V) (u : Value) (Q : St → Hp → Prop), Inv X pins σ H s → RelV v u → t v σ H Q →
    wpAny (model X.prog X.w) X.A (assign target X.env u) (fun _ s' => ∃ σ' H', Inv X pins σ' H' s' ∧ Q σ' H') X.xe s
/-- several targets, one after another -/
def PGs (X : Cx) (ts : List Expr) (t : TGs) : Prop :=
  ∀ (pins : List (Addr × Obj)) (s : Shared) (σ : St) (H : Hp) (vs : List V) (us : List Value) (Q : St → Hp → Prop), Inv X pins σ H s → Vals vs us → t vs σ H Q →
    wpAny (model X.prog X.w) X.A (assignInOrder ((assignEach ts X.env).map (·.2)) us) (fun _ s' => ∃ σ' H', Inv X pins σ' H' s' ∧ Q σ' H') X.xe s
/-- o[i] = v, by values -/
abbrev TSet := V → V → V → Hp → (Hp → Prop) → Prop
def PSet (X : Cx) (t : TSet) : Prop :=
  ∀ (pins : List (Addr × Obj)) (s : Shared) (σ : St) (H : Hp) (o i v : V) (ov iv u : Value) (Q : Hp → Prop), Inv X pins σ H s → RelV o ov → RelV i iv → RelV v u → t o i v H Q →
    wpAny (model X.prog X.w) X.A (setItem ov iv u) (fun _ s' => ∃ H', Inv X pins σ H' s' ∧ Q H') X.xe s
/-- a op= b, by values -/
abbrev TIp := V → V → Hp → VK → Prop
def PIp (X : Cx) (op : Operator) (t : TIp) : Prop :=
  ∀ (pins : List (Addr × Obj)) (s : Shared) (σ : St) (H : Hp) (x y : V) (v u : Value) (Q : VK), Inv X pins σ H s → RelV x v → RelV y u → t x y H Q →
    wpAny (model X.prog X.w) X.A (inplaceOp op v u) (EP X pins σ Q) X.xe s
section
variable {X : Cx} {pos : Pos}
def gName (i : Nat) : TG := fun v σ H Q => Q (σ.set i (some v)) H
theorem pg_name {i : Nat} {x : Str} (hN : X.N.Nodup) (hi : X.N[i]? = some x) (hx : Loc X.env.scope x) (hf : X.fn x = true ∨ X.env.scope.names.lookup x = some .local := by first | exact .inl rfl | exact .inr rfl | assumption) : PG X (.Name x pos) (gName i) := by
  intro pins s σ H v u Q I r h
  exact wpAny_assign_Name (store_ok I hN hi hx r (fun s' I' => ⟨_, H, I', h⟩) hf)
def gNil : TGs := fun vs σ H Q => vs = [] ∧ Q σ H
def gCons (t : TG) (u : TGs) : TGs := fun vs σ H Q => ∃ v r, vs = v :: r ∧ t v σ H fun σ' H' => u r σ' H' Q
theorem pgs_nil : PGs X [] gNil := by
  intro pins s σ H vs us Q I r h
  obtain ⟨e, h⟩ := h
  subst e
  cases r
  exact assignInOrder_nil ⟨σ, H, I, h⟩
theorem pgs_cons {e : Expr} {es : List Expr} {t : TG} {u : TGs} (h1 : PG X e t) (h2 : PGs X es u)
    (hs : (assignEach (e :: es) X.env).map (·.2) = assign e X.env :: (assignEach es X.env).map (·.2) := by rfl) : PGs X (e :: es) (gCons t u) := by
  intro pins s σ H vs us Q I r h
  obtain ⟨v, vr, e1, h⟩ := h
  subst e1
  cases r with
  | cons r rr =>
    rw [hs]
    refine assignInOrder_cons (thn (h1 pins s σ H _ _ _ I r h) fun _ s1 ⟨σ1, H1, I1, q1⟩ => ?_)
    exact h2 pins s1 σ1 H1 _ _ Q I1 rr q1
/-- (a, b, ..) = a tuple of that length -/
def gTup (K : PySem.W.Frag) (n : Nat) (t : TGs) : TG := fun v σ H Q => ∃ a xs, v = .ref a ∧ SqT K H a xs ∧ xs.length = n ∧ t xs σ H Q
theorem pg_tup {es : List Expr} {k : Nat} {t : TGs} {n : Nat} (hc : X.calm = true) (h : PGs X es t)
    (hn : (assignEach es X.env).length = n := by rfl) (hst : (assignEach es X.env).findIdx? (·.1) = none := by rfl) : PG X (.Tuple es k pos) (gTup X.K n t) := by
  intro pins s σ H v u Q I r hw
  obtain ⟨a, xs, e1, hq, hl, hw⟩ := hw
  subst e1
  cases r
  obtain ⟨its, rv, ht, hz⟩ := I.tuple hq
  refine assign_Tuple_tuple (I.ok.hd hc) ht (by simp [hn, ← hl, rv.length]) hst fun h' hx => ?_
  have I1 : Inv X pins σ H { s with heap := h' } := I.kept (t' := s.toks) fun b o e => hx b o (Nat.ne_of_lt (Heap.lt_size e)) e
  exact h pins _ σ H xs _ Q I1 (by simpa using rv) hw
/-- o[i] = .. -/
def gSub (to ti : TE) (t : TSet) : TG := fun v σ H Q => to σ H fun o H1 => ti σ H1 fun i H2 => t o i v H2 fun H3 => Q σ H3
theorem pg_sub {o i : Expr} {to ti : TE} {t : TSet} (ho : PE X o to) (hi : PE X i ti) (hs : PSet X t)
    (ha : ∀ v, assign (.Subscript o i pos) X.env v = (do
      let ov ← holding [v] (eval o X.env)
      let iv ← holding [v, ov] (eval i X.env)
      standAt pos
      holding [v, ov, iv] (setItem ov iv v)
      release [v, ov, iv] []) := by intro _; rfl) : PG X (.Subscript o i pos) (gSub to ti t) := by
  intro pins s σ H v u Q I r h
  rw [ha]
  refine wpAny_bind (wpAny_holding (thn (ho pins s σ H _ I h) fun ov s1 ⟨x, H1, I1, r1, q1⟩ => ?_))
  refine wpAny_bind (wpAny_holding (thn (hi pins s1 σ H1 _ I1 q1) fun iv s2 ⟨y, H2, I2, r2, q2⟩ => ?_))
  refine wpAny_bind (wpAny_standAt (wpAny_bind (wpAny_holding (thn (hs pins s2 σ H2 x y v ov iv u _ I2 r1 r2 r q2) fun _ s3 ⟨H3, I3, q3⟩ => ?_))))
  exact wpAny_release ⟨σ, H3, I3, q3⟩
/-- target = value -/
def tAsg (te : TE) (g : TG) : TS := fun D σ H => te σ H fun x H1 => g x σ H1 D.nx
theorem ps_asg {tg e : Expr} {te : TE} {g : TG} (he : PE X e te) (hg : PG X tg g) (hs : swapsWithSole [tg] e pos.line X.env = pure false := by rfl) (hw : swappedStores [tg] e X.env = pure none := by rfl)
    (h1 : (assignEach [tg] X.env).map (·.2) = [assign tg X.env] := by rfl) : PS X (.Assign [tg] e pos) (tAsg te g) := by
  intro pins s σ H D I h
  refine wpAny_Assign_stores (thn (he pins s σ H _ I h) fun v s1 ⟨x, H1, I1, r1, q1⟩ => ?_) hs hw
  rw [h1]
  exact thn (hg pins s1 σ H1 x v _ I1 r1 q1) fun _ s2 q => q
/-- name = value -/
theorem ps_set {i : Nat} {x : Str} {e : Expr} {te : TE} {pos' : Pos} (hN : X.N.Nodup) (hi : X.N[i]? = some x) (hx : Loc X.env.scope x) (he : PE X e te) (hs : swapsWith e (some (.Name x pos')) pos.line X.env = pure false := by rfl) (hf : X.fn x = true ∨ X.env.scope.names.lookup x = some .local := by first | exact .inl rfl | exact .inr rfl | assumption) :
    PS X (.Assign [.Name x pos'] e pos) (tAsg te (gName i)) := by
  intro pins s σ H D I h
  refine wpAny_Assign_Name (thn (he pins s σ H _ I h) fun v s1 ⟨y, H1, I1, r1, q1⟩ => ?_) hs
  exact store_ok I1 hN hi hx r1 (fun s2 I2 => ⟨_, H1, I2, q1⟩) hf
/-- a, b = x, y with plain local names: stored from the right; the pair itself is not tracked (the opening rows as in PyProof/Rows/TupAssign.lean:23) -/
def tPar (i j : Nat) (ta : TA) : TS := fun D σ H => ta σ H fun vs H1 => ∃ v w, vs = [v, w] ∧ D.nx ((σ.set i (some v)).set j (some w)) H1
theorem ps_par {i j : Nat} {x y : Str} {a b : Expr} {ta : TA} {px py pt : Pos} {kt k2 pt2} (hc : X.calm = true) (hN : X.N.Nodup) (hi : X.N[i]? = some x) (hj : X.N[j]? = some y) (hij : i ≠ j)
    (hx : X.env.scope.names.lookup x = some .local) (hy : X.env.scope.names.lookup y = some .local) (ha : PA X [a, b] ta)
    (hw : swappedStores [.Tuple [.Name x px, .Name y py] kt pt] (.Tuple [a, b] k2 pt2) X.env = pure (some [x, y]))
    (hs : swapsWithSole [.Tuple [.Name x px, .Name y py] kt pt] (.Tuple [a, b] k2 pt2) pos.line X.env = pure false := by rfl) :
    PS X (.Assign [.Tuple [.Name x px, .Name y py] kt pt] (.Tuple [a, b] k2 pt2) pos) (tPar i j ta) := by
  intro pins s σ H D I h
  rw [exec_Assign_arm]
  refine wpAny_bind (wpAny_standAt ?_)
  rw [hs]
  refine wpAny_bind (wpAny_pure ?_)
  rw [if_neg (by decide)]
  refine wpAny_bind (Tuple_ (thn (ha _ pins s σ H _ I h) fun us s1 ⟨vs, H1, I1, r1, q1⟩ => ?_))
  obtain ⟨v, w, e1, q1⟩ := q1
  subst e1
  obtain ⟨u1, u2, rfl, rv, rw'⟩ : ∃ u1 u2, us = [u1, u2] ∧ RelV v u1 ∧ RelV w u2 := by
    cases r1 with
    | cons p q =>
      cases q with
      | cons p' q' =>
        cases q'
        exact ⟨_, _, rfl, p, p'⟩
  refine wpAny_newObj_type ?_ (by show 2 ≤ sizeLine; decide)
  have I2 : Inv X pins σ H1 { s1 with heap := s1.heap.push { cls := .type "tuple", data := .seq [u1, u2].toArray } } := I1.kept (t' := s1.toks) fun b o e => Heap.get?_push_of_some _ e
  rw [hw]
  refine wpAny_bind (wpAny_pure ?_)
  show wpAny (model X.prog X.w) X.A (do rule "assign.swapped-stores"; let items ← unpackItems (.ref s1.heap.objs.size) 2 none; assignInOrder [fun v => bindName X.env y v, fun v => bindName X.env x v] items.reverse; pure Flow.next) _ _ _
  refine wpAny_bind (wpAny_rule (wpAny_bind (unpackItems_tuple (items := #[u1, u2]) (I.ok.hd hc) (IsTup.new s1.heap _) fun h' hx' => ?_)))
  have I3 := I2.kept (h' := h') (t' := s1.toks) fun b o e => hx' b o (Nat.ne_of_lt (Heap.lt_size e)) e
  show wpAny _ _ (assignInOrder [fun v => bindName X.env y v, fun v => bindName X.env x v] [u2, u1] >>= fun _ => pure Flow.next) _ _ _
  refine wpAny_bind (assignInOrder_cons (wpAny_bindName (store_ok I3 hN hj (.inl hy) rw' (fun s2 I4 => ?_) (.inr hy))))
  refine assignInOrder_cons (wpAny_bindName (store_ok I4 hN hi (.inl hx) rv (fun s3 I5 => assignInOrder_nil (wpAny_pure ?_)) (.inr hx)))
  rw [List.set_comm _ _ (Ne.symm hij)] at I5
  exact ⟨_, H1, I5, q1⟩
/-- name op= e -/
def tAug (i : Nat) (te : TE) (ti : TIp) : TS := fun D σ H => ∃ x, σ[i]? = some (some x) ∧ te σ H fun y H1 => ti x y H1 fun z H2 => D.nx (σ.set i (some z)) H2
theorem ps_aug {i : Nat} {x : Str} {e : Expr} {te : TE} {op : Operator} {ti : TIp} {pos' : Pos} (hN : X.N.Nodup) (hi : X.N[i]? = some x) (hx : Loc X.env.scope x) (he : PE X e te) (ho : PIp X op ti) (hf : X.fn x = true ∨ X.env.scope.names.lookup x = some .local := by first | exact .inl rfl | exact .inr rfl | assumption) :
    PS X (.AugAssign (.Name x pos') op e pos) (tAug i te ti) := by
  intro pins s σ H D I h
  obtain ⟨v, e1, h⟩ := h
  obtain ⟨m, hn, hl⟩ := I.loc
  have vis : Vis X.env.scope x := by rcases hx with k | k; exact .inl k; exact .inr (.inl k)
  obtain ⟨u, r, l⟩ := hl i x v hi e1 vis
  refine wpAny_AugAssign_Name ?_
  have go : wpAny (model X.prog X.w) X.A (eval e X.env) (fun w s₂ => wpAny (model X.prog X.w) X.A (inplaceOp op u w) (fun r s₃ => wpAny (model X.prog X.w) X.A (storeName X.env x r) (fun _ => SP X pins D .next) X.xe s₃) X.xe s₂) X.xe s := by
    refine thn (he pins s σ H _ I h) fun w s1 ⟨y, H1, I1, r1, q1⟩ => ?_
    refine thn (ho pins s1 σ H1 v y u w _ I1 r r1 q1) fun z s2 ⟨zv, H2, I2, r2, q2⟩ => ?_
    exact store_ok I2 hN hi hx r2 (fun s3 I3 => ⟨_, H2, I3, q2⟩) hf
  rcases l with ⟨hk, hm⟩ | ⟨hk, c, hc, hcell⟩
  · exact wpAny_loadName_local I.ok.kind hk hn hm go
  · rcases hk with hk | hk
    · exact wpAny_loadName_cell I.ok.kind hk hc hcell go
    · rcases hx with k | k
      · have : X.env.scope.names.lookup x = some .free := hk
        rw [k] at this; cases this
      · have : X.env.scope.names.lookup x = some .free := hk
        rw [k] at this; cases this
/-- o[i] op= e -/
def tAugS (to ti te : TE) (tget : V → V → Hp → VK → Prop) (tip : TIp) (tset : TSet) : TS := fun D σ H => to σ H fun o H1 => ti σ H1 fun i H2 => tget o i H2 fun x H3 => te σ H3 fun y H4 => tip x y H4 fun z H5 => tset o i z H5 fun H6 => D.nx σ H6
/-- o[i], by values -/
def PGet (X : Cx) (t : V → V → Hp → VK → Prop) : Prop :=
  ∀ (pins : List (Addr × Obj)) (s : Shared) (σ : St) (H : Hp) (o i : V) (ov iv : Value) (Q : VK), Inv X pins σ H s → RelV o ov → RelV i iv → t o i H Q →
    wpAny (model X.prog X.w) X.A (getItem ov iv) (EP X pins σ Q) X.xe s
theorem ps_augS {o i e : Expr} {to ti te : TE} {tget : V → V → Hp → VK → Prop} {tip : TIp} {tset : TSet} {op : Operator} {tpos : Pos} (ho : PE X o to) (hi : PE X i ti) (hg : PGet X tget) (he : PE X e te) (hp : PIp X op tip) (hs : PSet X tset)
    (ha : ∀ ov iv new, augStore i ov iv new = (do holding [new, ov, iv] (setItem ov iv new); release [new, ov, iv] []; pure .next) := by intros; rfl) : PS X (.AugAssign (.Subscript o i tpos) op e pos) (tAugS to ti te tget tip tset) := by
  intro pins s σ H D I h
  refine wpAny_AugAssign_SubscriptAny (thn (ho pins s σ H _ I h) fun ov s1 ⟨x1, H1, I1, r1, q1⟩ => ?_) ha
  refine thn (hi pins s1 σ H1 _ I1 q1) fun iv s2 ⟨x2, H2, I2, r2, q2⟩ => ?_
  refine thn (hg pins s2 σ H2 x1 x2 ov iv _ I2 r1 r2 q2) fun old s3 ⟨x3, H3, I3, r3, q3⟩ => ?_
  refine thn (he pins s3 σ H3 _ I3 q3) fun v s4 ⟨x4, H4, I4, r4, q4⟩ => ?_
  refine thn (hp pins s4 σ H4 x3 x4 old v _ I4 r3 r4 q4) fun new s5 ⟨x5, H5, I5, r5, q5⟩ => ?_
  exact thn (hs pins s5 σ H5 x1 x2 x5 ov iv new _ I5 r1 r2 r5 q5) fun _ s6 ⟨H6, I6, q6⟩ => ⟨σ, H6, I6, q6⟩
/-- ints -/
def ipI (f : Int → Int → Int) : TIp := fun x y H Q => ∃ i j, x = .int i ∧ y = .int j ∧ Q (.int (f i j)) H
theorem ip_add : PIp X .Add (ipI fun i j => i + j) := by
  intro pins s σ H x y v u Q I r1 r2 h
  obtain ⟨i, j, e1, e2, q⟩ := h
  subst e1; subst e2
  obtain ⟨t, rfl⟩ := r1
  obtain ⟨t', rfl⟩ := r2
  exact iadd_int ⟨.int _, H, I.tok _, ⟨_, rfl⟩, q⟩
theorem ip_sub : PIp X .Sub (ipI fun i j => i - j) := by
  intro pins s σ H x y v u Q I r1 r2 h
  obtain ⟨i, j, e1, e2, q⟩ := h
  subst e1; subst e2
  obtain ⟨t, rfl⟩ := r1
  obtain ⟨t', rfl⟩ := r2
  exact isub_int ⟨.int _, H, I.tok _, ⟨_, rfl⟩, q⟩
end

/-! ### while -/
section
variable {X : Cx} {pos : Pos}
/-- the invariant W with its measure -/
def tWhile (c : TT) (tb : TS) : TS := fun D σ H => ∃ W : Nat → St → Hp → Prop, (∃ m, W m σ H) ∧ ∀ m σ H, W m σ H →
  c σ H fun b H1 => if b = true then ∃ N : St → Hp → Prop, (∀ σ' H', N σ' H' → ∃ m', m' < m ∧ W m' σ' H') ∧ tb { D with nx := N, ct := N, bk := D.nx } σ H1 else D.nx σ H1
theorem ps_while {c : Expr} {body : List Stmt} {tc : TT} {tb : TS} (hp : PassesOwn (model X.prog X.w) X.A X.env X.xe) (hc : PT X c tc) (hb : PSs X body tb) : PS X (.While c body [] pos) (tWhile tc tb) := by
  intro pins s σ H D I h
  obtain ⟨W, ⟨m0, w0⟩, turn⟩ := h
  refine wpAny_While (codeAny_whileLoop (fun n s' => ∃ σ' H', Inv X pins σ' H' s' ∧ W n σ' H') ?_ m0 ⟨σ, H, I, w0⟩)
  rintro n s1 ⟨σ1, H1, I1, w1⟩
  refine wpAny_passesOwn hp (thn (hc pins s1 σ1 H1 _ I1 (turn n σ1 H1 w1)) fun b s2 ⟨H2, I2, q2⟩ => ?_)
  cases b with
  | true =>
    obtain ⟨N, hN, q2⟩ := q2
    rw [if_pos rfl]
    refine wpAny_passesOwn hp (thn (hb pins s2 σ1 H2 _ I2 q2) fun f s3 q3 => ?_)
    cases f with
    | next =>
      obtain ⟨σ3, H3, I3, n3⟩ := q3
      obtain ⟨m', hm, w3⟩ := hN σ3 H3 n3
      exact ⟨m', hm, σ3, H3, I3, w3⟩
    | cont =>
      obtain ⟨σ3, H3, I3, n3⟩ := q3
      obtain ⟨m', hm, w3⟩ := hN σ3 H3 n3
      exact ⟨m', hm, σ3, H3, I3, w3⟩
    | brk => exact q3
    | ret v => exact q3
  | false =>
    rw [if_neg Bool.false_ne_true]
    exact wpAny_execs_nil ⟨σ1, H2, I2, q2⟩
end

/-! ### what a loop or a comprehension walks -/
/-- at turn i: it yields x (the heap may grow), or it stops -/
structure It where
  go : Nat → Hp → Prop
  yld : Nat → Hp → V → Hp → Prop
  stop : Nat → Hp → Prop
/-- the iterator's own objects may turn: they are not the frame's, not pinned, younger than the entry (or a comprehension's own) -/
def FpOk (X : Cx) (pins : List (Addr × Obj)) (H : Hp) (b : Addr) : Prop :=
  H b = none ∧ b ≠ X.env.locals ∧ b ∉ X.fs ∧ (b ∈ X.ex ∨ X.s₀.heap.objs.size ≤ b) ∧ (∀ x c, X.env.cells.lookup x = some c → c ≠ b) ∧ ∀ p ∈ X.pn ++ pins, p.1 ≠ b
theorem Inv.fpOk {X : Cx} {pins : List (Addr × Obj)} {σ : St} {H H' : Hp} {s : Shared} {b : Addr} (I : Inv X pins σ H s) (hb : s.heap.objs.size ≤ b) (hn : H' b = none) : FpOk X pins H' b := by
  refine ⟨hn, Nat.ne_of_gt (Nat.lt_of_lt_of_le I.lt hb), I.nofs hb, .inr (Nat.le_trans I.sz hb), fun x c e z => ?_, fun p hp z => ?_⟩
  · obtain ⟨v, q⟩ := I.cell x c e
    exact absurd (Nat.lt_of_lt_of_le q.lt (by rw [z]; exact hb)) (Nat.lt_irrefl _)
  · exact absurd (Nat.lt_of_lt_of_le (Heap.lt_size (I.pin p hp).1) (by rw [z]; exact hb)) (Nat.lt_irrefl _)
structure Turn (P : Program) (w : World) (K : PySem.W.Frag) (tg : Expr) (J : It) (fp : List Addr) (it : Addr) (tn : Nat → Heap → Prop) : Prop where
  mem : it ∈ fp
  obj : ∀ i h, tn i h → ∀ b ∈ fp, ∃ o, h.get? b = some o ∧ ∀ v, o.data ≠ .cell v
  keep : ∀ i h h', tn i h → (∀ b ∈ fp, ∀ o, h.get? b = some o → h'.get? b = some o) → tn i h'
  item : ∀ (X : Cx), X.prog = P → X.w = w → X.K = K → X.calm = true → ∀ (i : Nat) (pins : List (Addr × Obj)) (s : Shared) (σ : St) (H : Hp) (E : Value → Shared → Prop), Inv X pins σ H s → (∀ b ∈ fp, FpOk X pins H b) → tn i s.heap → J.go i H →
    wpAny (model P w) X.A (pyNext (.ref it)) (fun r s1 => ∃ u, r = some u ∧
      wpAny (model P w) X.A (letOwnedTupleGo tg (.ref it) u) (fun _ s2 => ∃ x H', Inv X pins σ H' s2 ∧ RelV x u ∧ J.yld i H x H' ∧ tn (i + 1) s2.heap ∧ ∀ b ∈ fp, H' b = none) E s1) E s
  done : ∀ (X : Cx), X.prog = P → X.w = w → X.K = K → X.calm = true → ∀ (i : Nat) (pins : List (Addr × Obj)) (s : Shared) (σ : St) (H : Hp) (E : Value → Shared → Prop), Inv X pins σ H s → (∀ b ∈ fp, FpOk X pins H b) → tn i s.heap → J.stop i H →
    wpAny (model P w) X.A (pyNext (.ref it)) (fun r s1 => r = none ∧ Inv X pins σ H s1) E s
  self : ∀ (A : Around) (i : Nat) (s : Shared) (Q : Value → Shared → Prop) (E : Value → Shared → Prop), tn i s.heap → Q (.ref it) s → wpAny (model P w) A (pyIter (.ref it)) Q E s
abbrev TI := St → Hp → (It → Hp → Prop) → Prop
/-- an iterator has come -/
def PIE (X : Cx) (pins : List (Addr × Obj)) (σ : St) (tg : Expr) (R : It → Hp → Prop) (itv : Value) (s2 : Shared) : Prop :=
  ∃ (it : Addr) (fp : List Addr) (tn : Nat → Heap → Prop) (J : It) (H' : Hp), itv = .ref it ∧ Inv X pins σ H' s2 ∧ Turn X.prog X.w X.K tg J fp it tn ∧ tn 0 s2.heap ∧ (∀ b ∈ fp, FpOk X pins H' b) ∧ R J H'
def PI (X : Cx) (tg iter : Expr) (wi : TI) : Prop :=
  ∀ (pins : List (Addr × Obj)) (s : Shared) (σ : St) (H : Hp) (R : It → Hp → Prop), Inv X pins σ H s → wi σ H R →
    wpAny (model X.prog X.w) X.A (eval iter X.env) (fun v s1 => wpAny (model X.prog X.w) X.A (pyIter v) (PIE X pins σ tg R) X.xe s1) X.xe s

/-- the step ahead of the store is nothing for an iterator that keeps no tuple -/
theorem go_of {M : Model} {A : Around} {E : Value → Shared → Prop} {s : Shared} {tg : Expr} {it : Addr} {u : Value} {o : Obj} {n : String} {vs : Array Value} {Q : Unit → Shared → Prop} (ho : s.heap.get? it = some o) (hc : o.cls = .type n) (hd : o.data = .fields vs)
    (hn : ["enumerate", "zip", "dict_itemiterator", "dict_reverseitemiterator", "odict_iterator", "itertools.zip_longest", "itertools.pairwise"].contains n = false) (hQ : Q () s) : wpAny M A (letOwnedTupleGo tg (.ref it) u) Q E s := by
  unfold letOwnedTupleGo
  cases tg <;> first
    | exact wpAny_pure hQ
    | (cases u <;> first
        | exact wpAny_pure hQ
        | (refine wpAny_bind (wpAny_load ho ?_)
           rw [hc, hd]
           show wpAny M A (if (["enumerate", "zip", "dict_itemiterator", "dict_reverseitemiterator", "odict_iterator", "itertools.zip_longest", "itertools.pairwise"].contains n && vs[0]? == some (rawInt _)) = true then _ else _) Q E s
           rw [if_neg (by intro h; rw [hn, Bool.false_and] at h; cases h)]
           exact wpAny_pure hQ))

/-- the list at a, as it stands at each turn (a loop may append to it) -/
def Itl (K : PySem.W.Frag) (a : Addr) : It :=
  ⟨fun i H => ∃ xs x, SqL K H a xs ∧ xs[i]? = some x, fun i H x H' => H' = H ∧ ∀ xs, SqL K H a xs → xs[i]? = some x, fun i H => ∃ xs, SqL K H a xs ∧ xs.length ≤ i⟩
def Itt (K : PySem.W.Frag) (a : Addr) : It :=
  ⟨fun i H => ∃ xs x, SqT K H a xs ∧ xs[i]? = some x, fun i H x H' => H' = H ∧ ∀ xs, SqT K H a xs → xs[i]? = some x, fun i H => ∃ xs, SqT K H a xs ∧ xs.length ≤ i⟩
/-- lo, lo + 1, .. (n of them) -/
def Itr (lo : Int) (n : Nat) : It := ⟨fun i _ => i < n, fun i H x H' => H' = H ∧ x = .int (lo + i), fun i _ => n ≤ i⟩
theorem turn_list {P : Program} {w : World} {K : PySem.W.Frag} {tg : Expr} (a it : Addr) : Turn P w K tg (Itl K a) [it] it (fun i h => h.IsListIter it a i) where
  mem := by simp
  obj := fun i h st b hb => by
    have e : b = it := by simpa using hb
    subst e
    obtain ⟨o, e, c, d⟩ := st
    exact ⟨o, e, fun v z => by rw [d] at z; cases z⟩
  keep := fun i h h' st k => st.at fun o e => k it (by simp) o e
  item := by
    intro X hP hw hK hc i pins s σ H E I hf st hg
    subst hP hw hK
    obtain ⟨xs, x, hq, hx⟩ := hg
    obtain ⟨its, rv, p, hz⟩ := I.list hq
    obtain ⟨u, hu, ru⟩ := rv.get hx
    obtain ⟨f0, f1, f2, f3, f4, f5⟩ := hf it (by simp)
    refine wpAny_pyNext_list_item st p.isList (x := u) (by simpa using hu) fun h' st' sb => ?_
    have I1 : Inv X pins σ H { s with heap := h' } := I.turned (t' := s.toks) (fun b o hb e => (sb.2 b hb).trans e) f0 f1 f3 f4 f5
    obtain ⟨o, e, c, d⟩ := id st'
    exact ⟨u, rfl, go_of (s := { s with heap := h' }) e c d (by decide) ⟨x, H, I1, ru, ⟨rfl, fun ys hy => by rw [I.list_inj hy hq]; exact hx⟩, st', fun b hb => (hf b hb).1⟩⟩
  done := by
    intro X hP hw hK hc i pins s σ H E I hf st hg
    subst hP hw hK
    obtain ⟨xs, hq, hx⟩ := hg
    obtain ⟨its, rv, p, hz⟩ := I.list hq
    obtain ⟨f0, f1, f2, f3, f4, f5⟩ := hf it (by simp)
    have hl := rv.length
    exact wpAny_pyNext_list_end (I.ok.hd hc) st p.isList (by simp; omega) fun h' eb => ⟨rfl, I.turned (t' := s.toks) (fun b o hb e => eb b o hb e) f0 f1 f3 f4 f5⟩
  self := fun _ _ _ _ _ st h => wpAny_pyIter_listiter st h
theorem turn_tuple {P : Program} {w : World} {K : PySem.W.Frag} {tg : Expr} (a it : Addr) : Turn P w K tg (Itt K a) [it] it (fun i h => h.IsTupleIter it a i) where
  mem := by simp
  obj := fun i h st b hb => by
    have e : b = it := by simpa using hb
    subst e
    obtain ⟨o, e, c, d⟩ := st
    exact ⟨o, e, fun v z => by rw [d] at z; cases z⟩
  keep := fun i h h' st k => st.at fun o e => k it (by simp) o e
  item := by
    intro X hP hw hK hc i pins s σ H E I hf st hg
    subst hP hw hK
    obtain ⟨xs, x, hq, hx⟩ := hg
    obtain ⟨its, rv, p, hz⟩ := I.tuple hq
    obtain ⟨u, hu, ru⟩ := rv.get hx
    obtain ⟨f0, f1, f2, f3, f4, f5⟩ := hf it (by simp)
    refine wpAny_pyNext_tuple_item st (show s.heap.IsTuple a its.toArray from p) (x := u) (by simpa using hu) fun h' st' sb => ?_
    have I1 : Inv X pins σ H { s with heap := h' } := I.turned (t' := s.toks) (fun b o hb e => (sb.2 b hb).trans e) f0 f1 f3 f4 f5
    obtain ⟨o, e, c, d⟩ := id st'
    exact ⟨u, rfl, go_of (s := { s with heap := h' }) e c d (by decide) ⟨x, H, I1, ru, ⟨rfl, fun ys hy => by rw [I.tuple_inj hy hq]; exact hx⟩, st', fun b hb => (hf b hb).1⟩⟩
  done := by
    intro X hP hw hK hc i pins s σ H E I hf st hg
    subst hP hw hK
    obtain ⟨xs, hq, hx⟩ := hg
    obtain ⟨its, rv, p, hz⟩ := I.tuple hq
    obtain ⟨f0, f1, f2, f3, f4, f5⟩ := hf it (by simp)
    have hl := rv.length
    exact wpAny_pyNext_tuple_end (I.ok.hd hc) st (show s.heap.IsTuple a its.toArray from p) (by simp; omega) fun h' eb => ⟨rfl, I.turned (t' := s.toks) (fun b o hb e => eb b o hb e) f0 f1 f3 f4 f5⟩
  self := fun _ _ _ _ _ st h => wpAny_pyIter_tupleiter st h
theorem turn_range {P : Program} {w : World} {K : PySem.W.Frag} {tg : Expr} (it : Addr) (lo : Int) (n : Nat) : Turn P w K tg (Itr lo n) [it] it (fun i h => IsRangeIter h it (lo + (i : Nat) * 1) ((n : Int) - (i : Nat)) 1) where
  mem := by simp
  obj := fun i h st b hb => by
    have e : b = it := by simpa using hb
    subst e
    exact ⟨_, st, fun v z => by
      have z' : Data.fields _ = Data.cell v := z
      cases z'⟩
  keep := fun i h h' st k => k it (by simp) _ st
  item := by
    intro X hP hw hK hc i pins s σ H E I hf st hg
    subst hP hw hK
    obtain ⟨f0, f1, f2, f3, f4, f5⟩ := hf it (by simp)
    have W := Walks.range (prog := X.prog) (w := X.w) (I.ok.hd hc) it lo 1 n
    refine W.item i s _ _ hg st fun v h' tk hv st' kk => ?_
    obtain ⟨t, rfl⟩ := hv
    have I1 : Inv X pins σ H { s with heap := h', toks := tk } := I.turned (fun b o hb e => kk b o (by simpa using hb) e) f0 f1 f3 f4 f5
    refine ⟨_, rfl, go_of (s := { s with heap := h', toks := tk }) (n := "range_iterator") st' rfl rfl (by decide) ⟨.int (lo + i), H, I1, ⟨t, ?_⟩, ⟨rfl, rfl⟩, st', fun b hb => (hf b hb).1⟩⟩
    rw [Int.mul_one]
  done := by
    intro X hP hw hK hc i pins s σ H E I hf st hg
    subst hP hw hK
    obtain ⟨f0, f1, f2, f3, f4, f5⟩ := hf it (by simp)
    exact wpAny_pyNext_range_end (I.ok.hd hc) st (by have : n ≤ i := hg; omega) fun h' eb => ⟨rfl, I.turned (t' := s.toks) (fun b o hb e => eb b o hb e) f0 f1 f3 f4 f5⟩
  self := fun _ _ _ _ _ st h => wpAny_pyIter_rangeiter st h
end L2

namespace L2
open PySem PySem.Spec PyProof.Rows
section
variable {X : Cx} {tg : Expr}
def iList (K : PySem.W.Frag) (tl : TE) : TI := fun σ H R => tl σ H fun x H1 => ∃ a, x = .ref a ∧ (∃ xs, SqL K H1 a xs) ∧ R (Itl K a) H1
def iTup (K : PySem.W.Frag) (tl : TE) : TI := fun σ H R => tl σ H fun x H1 => ∃ a, x = .ref a ∧ (∃ xs, SqT K H1 a xs) ∧ R (Itt K a) H1
theorem pi_list {l : Expr} {tl : TE} (hl : PE X l tl) : PI X tg l (iList X.K tl) := by
  intro pins s σ H R I h
  refine thn (hl pins s σ H _ I h) fun v s1 ⟨x, H1, I1, r1, q1⟩ => ?_
  obtain ⟨a, e, ⟨xs, hq⟩, q⟩ := q1
  subst e
  cases r1
  obtain ⟨its, rv, p, hz⟩ := I1.list hq
  refine wpAny_pyIter_list p.isList ?_
  refine ⟨s1.heap.objs.size, [s1.heap.objs.size], _, _, H1, rfl, I1.kept (t' := s1.toks) fun b o e => Heap.get?_push_of_some _ e, turn_list a _, ⟨_, Heap.get?_push_size _ rfl, rfl, rfl⟩, fun b hb => ?_, q⟩
  have e : b = s1.heap.objs.size := by simpa using hb
  subst e
  exact I1.fpOk (Nat.le_refl _) (I1.hok.fresh (Nat.le_refl _))
theorem pi_tup {l : Expr} {tl : TE} (hl : PE X l tl) : PI X tg l (iTup X.K tl) := by
  intro pins s σ H R I h
  refine thn (hl pins s σ H _ I h) fun v s1 ⟨x, H1, I1, r1, q1⟩ => ?_
  obtain ⟨a, e, ⟨xs, hq⟩, q⟩ := q1
  subst e
  cases r1
  obtain ⟨its, rv, p, hz⟩ := I1.tuple hq
  refine wpAny_pyIter_tuple (show s1.heap.IsTuple a its.toArray from p) ?_
  refine ⟨s1.heap.objs.size, [s1.heap.objs.size], _, _, H1, rfl, I1.kept (t' := s1.toks) fun b o e => Heap.get?_push_of_some _ e, turn_tuple a _, ⟨_, Heap.get?_push_size _ rfl, rfl, rfl⟩, fun b hb => ?_, q⟩
  have e : b = s1.heap.objs.size := by simpa using hb
  subst e
  exact I1.fpOk (Nat.le_refl _) (I1.hok.fresh (Nat.le_refl _))
/-- a range object just made, walked -/
theorem range_it {pins : List (Addr × Obj)} {σ : St} {H : Hp} {s : Shared} {R : It → Hp → Prop} {E : Value → Shared → Prop} {lo hi : Int} {t u v : Tok} {tk : Nat} (I : Inv X pins σ H s) (h1 : -(2 ^ 62) ≤ lo) (h2 : lo < 2 ^ 62) (h3 : -(2 ^ 62) ≤ hi) (h4 : hi < 2 ^ 62)
    (q : R (Itr lo (hi - lo).toNat) H) : wpAny (model X.prog X.w) X.A (pyIter (.ref s.heap.objs.size)) (PIE X pins σ tg R) E { s with heap := s.heap.push { cls := .type "range", data := .fields #[.int lo t, .int hi u, .int 1 v] }, toks := tk } := by
  refine wpAny_pyIter_range (IsRange.new ..) (small_one h1 h2 h3 h4) ?_
  have I1 : Inv X pins σ H { s with heap := s.heap.push { cls := .type "range", data := .fields #[.int lo t, .int hi u, .int 1 v] }, toks := tk } := I.kept fun b o e => Heap.get?_push_of_some _ e
  refine ⟨(s.heap.push { cls := .type "range", data := .fields #[.int lo t, .int hi u, .int 1 v] }).objs.size, [(s.heap.push { cls := .type "range", data := .fields #[.int lo t, .int hi u, .int 1 v] }).objs.size], _, _, H, rfl,
    I1.kept (t' := tk) fun b o e => Heap.get?_push_of_some _ e, turn_range _ lo (hi - lo).toNat, ?_, fun b hb => ?_, q⟩
  · have e1 : lo + ((0 : Nat) : Int) * 1 = lo := by simp
    have e2 : (((hi - lo).toNat : Nat) : Int) - ((0 : Nat) : Int) = Builtin.Range.rangeSize lo hi 1 := by rw [rangeSize_one]; split <;> omega
    show IsRangeIter _ _ (lo + ((0 : Nat) : Int) * 1) ((((hi - lo).toNat : Nat) : Int) - ((0 : Nat) : Int)) 1
    rw [e1, e2]
    exact Heap.get?_push_size _ rfl
  · have e : b = (s.heap.push { cls := .type "range", data := .fields #[.int lo t, .int hi u, .int 1 v] }).objs.size := by simpa using hb
    subst e
    exact I1.fpOk (Nat.le_refl _) (I1.hok.fresh (Nat.le_refl _))
def iRng1 (ta : TA) : TI := fun σ H R => ta σ H fun vs H1 => ∃ j : Int, vs = [.int j] ∧ -(2 ^ 62) ≤ j ∧ j < 2 ^ 62 ∧ R (Itr 0 j.toNat) H1
def iRng2 (ta : TA) : TI := fun σ H R => ta σ H fun vs H1 => ∃ i j : Int, vs = [.int i, .int j] ∧ (-(2 ^ 62) ≤ i ∧ i < 2 ^ 62 ∧ -(2 ^ 62) ≤ j ∧ j < 2 ^ 62) ∧ R (Itr i (j - i).toNat) H1
theorem pi_range1 {a : Expr} {ta : TA} {p pos : Pos} (hg : Gl X "range") (hm : X.mg "range" = none) (ha : PA X [a] ta) (hs : starEach [a] X.env = [(false, eval a X.env)] := by rfl) : PI X tg (.Call (.Name "range" p) [a] [] pos) (iRng1 ta) := by
  intro pins s σ H R I h
  refine Call_ (ld_blt I hg hm boot_range (PyProof.Rows.callWith_type1 (thn (ha pos pins s σ H _ I h) fun us s1 ⟨vs, H1, I1, r1, q1⟩ => ?_) hs rfl))
  obtain ⟨j, e, q1, q2, q⟩ := q1
  subst e
  cases r1 with
  | cons r rr =>
    cases rr
    obtain ⟨t, rfl⟩ := r
    exact call_range_1 (range_it I1 (by omega) (by omega) q1 q2 (by simpa using q))
theorem pi_range2 {a b : Expr} {ta : TA} {p pos : Pos} (hg : Gl X "range") (hm : X.mg "range" = none) (ha : PA X [a, b] ta) (hs : starEach [a, b] X.env = [(false, eval a X.env), (false, eval b X.env)] := by rfl) (hs2 : starEach [b] X.env = [(false, eval b X.env)] := by rfl) :
    PI X tg (.Call (.Name "range" p) [a, b] [] pos) (iRng2 ta) := by
  intro pins s σ H R I h
  refine Call_ (ld_blt I hg hm boot_range (PyProof.Rows.callWith_type1 (thn (ha pos pins s σ H _ I h) fun us s1 ⟨vs, H1, I1, r1, q1⟩ => ?_) (by rw [hs, hs2]) (by rw [hs2]; rfl)))
  obtain ⟨i, j, e, ⟨q1, q2, q3, q4⟩, q⟩ := q1
  subst e
  cases r1 with
  | cons r rr =>
    cases rr with
    | cons r' rr =>
      cases rr
      obtain ⟨t, rfl⟩ := r
      obtain ⟨t', rfl⟩ := r'
      exact call_range_2 (range_it I1 q1 q2 q3 q4 q)

/-! ### for -/
/-- W: the invariant by the turn and a measure; N: what the body is to reach -/
def tFor (wi : TI) (g : TG) (tb : TS) : TS := fun D σ H => wi σ H fun J H1 => ∃ W : Nat → Nat → St → Hp → Prop, (∃ m, W 0 m σ H1) ∧ ∀ i m σ H, W i m σ H →
  (J.stop i H ∧ D.nx σ H) ∨ (J.go i H ∧ ∃ N : St → Hp → Prop, (∀ σ' H', N σ' H' → ∃ m', m' < m ∧ W (i + 1) m' σ' H') ∧ ∀ x H', J.yld i H x H' → g x σ H' fun σ2 H2 => tb { D with nx := N, ct := N, bk := D.nx } σ2 H2)
/-- the records at fp as they stand -/
def pinsAt (fp : List Addr) (h : Heap) : List (Addr × Obj) := fp.filterMap fun b => (h.get? b).map fun o => (b, o)
theorem mem_pinsAt {fp : List Addr} {h : Heap} {b : Addr} {o : Obj} (hb : b ∈ fp) (e : h.get? b = some o) : (b, o) ∈ pinsAt fp h := List.mem_filterMap.mpr ⟨b, hb, by rw [e]; rfl⟩
theorem of_pinsAt {fp : List Addr} {h : Heap} {p : Addr × Obj} (hp : p ∈ pinsAt fp h) : p.1 ∈ fp ∧ h.get? p.1 = some p.2 := by
  obtain ⟨b, hb, e⟩ := List.mem_filterMap.mp hp
  cases q : h.get? b with
  | none => rw [q] at e; cases e
  | some o =>
    rw [q] at e
    have e' : (b, o) = p := Option.some.inj e
    subst e'
    exact ⟨hb, q⟩
theorem Inv.pinned {pins : List (Addr × Obj)} {σ : St} {H : Hp} {s : Shared} {fp : List Addr} (I : Inv X pins σ H s) (hf : ∀ b ∈ fp, FpOk X pins H b) (ho : ∀ b ∈ fp, ∃ o, s.heap.get? b = some o ∧ ∀ v, o.data ≠ .cell v) : Inv X (pins ++ pinsAt fp s.heap) σ H s :=
  I.pins_of fun p hp => (List.mem_append.mp hp).elim (fun z => I.pin p (List.mem_append_right _ z)) fun z => by
    obtain ⟨hb, e⟩ := of_pinsAt z
    obtain ⟨f0, f1, f2, _⟩ := hf p.1 hb
    obtain ⟨o, e', d⟩ := ho p.1 hb
    rw [e] at e'; cases e'
    exact ⟨e, f0, f1, f2, d⟩
theorem Inv.unpinned {pins pl : List (Addr × Obj)} {σ : St} {H : Hp} {s : Shared} (I : Inv X (pins ++ pl) σ H s) : Inv X pins σ H s := I.pins_of fun p hp => I.pin p (List.mem_append_right _ (List.mem_append_left _ hp))
theorem ps_for {iter : Expr} {body : List Stmt} {wi : TI} {g : TG} {tb : TS} {pos : Pos} (hp : PassesOwn (model X.prog X.w) X.A X.env X.xe) (hc : X.calm = true) (hi : PI X tg iter wi) (hg : PG X tg g) (hb : PSs X body tb)
    (hs : ∀ x, foldedSetIterable iter X.env x = pure x := by intro _; rfl) : PS X (.For tg iter body [] pos) (tFor wi g tb) := by
  intro pins s σ H D I h
  refine wpAny_For (thn (hi pins s σ H _ I h) fun v s1 h1 => thn h1 fun itv s2 h2 => ?_) hs
  obtain ⟨it, fp, tn, J, H2, e, I2, T, st2, f2, W, ⟨m0, w0⟩, turn⟩ := h2
  subst e
  -- what stays true of the iterator's objects through the loop
  have stat : ∀ {H' : Hp}, (∀ b ∈ fp, H' b = none) → ∀ b ∈ fp, FpOk X pins H' b := fun hn b hb => ⟨hn b hb, (f2 b hb).2⟩
  refine codeAny_forLoop_any (fun n s' => ∃ i σ' H', Inv X pins σ' H' s' ∧ tn i s'.heap ∧ (∀ b ∈ fp, H' b = none) ∧ W i n σ' H') ?_ m0 ⟨0, σ, H2, I2, st2, fun b hb => (f2 b hb).1, w0⟩
  rintro n s3 ⟨i, σ3, H3, I3, st3, fr3, w3⟩
  rcases turn i n σ3 H3 w3 with ⟨stop, qn⟩ | ⟨go, N, hN, step⟩
  · refine wpAny_passesOwn hp (thn (T.done X rfl rfl rfl hc i pins s3 σ3 H3 X.xe I3 (stat fr3) st3 stop) fun r s4 ⟨hr, I4⟩ => ?_)
    subst hr
    exact wpAny_execs_nil ⟨σ3, H3, I4, qn⟩
  · refine wpAny_passesOwn hp (thn (T.item X rfl rfl rfl hc i pins s3 σ3 H3 X.xe I3 (stat fr3) st3 go) fun r s4 ⟨u, hr, h4⟩ => ?_)
    subst hr
    refine wpAny_passesOwn hp (thn h4 fun _ s5 ⟨x, H5, I5, r5, y5, st5, fr5⟩ => ?_)
    have I5' := I5.pinned (stat fr5) (T.obj _ _ st5)
    refine wpAny_passesOwn hp (thn (hg _ s5 σ3 H5 x u _ I5' r5 (step x H5 y5)) fun _ s6 ⟨σ6, H6, I6, q6⟩ => ?_)
    refine wpAny_passesOwn hp (thn (hb _ s6 σ6 H6 _ I6 q6) fun f s7 q7 => ?_)
    have again : ∀ {σ7 : St} {H7 : Hp}, Inv X (pins ++ pinsAt fp s5.heap) σ7 H7 s7 → N σ7 H7 → ∃ m, m < n ∧ ∃ i σ' H', Inv X pins σ' H' s7 ∧ tn i s7.heap ∧ (∀ b ∈ fp, H' b = none) ∧ W i m σ' H' := fun {σ7 H7} I7 n7 => by
      obtain ⟨m', hm, w7⟩ := hN σ7 H7 n7
      refine ⟨m', hm, i + 1, σ7, H7, I7.unpinned, T.keep _ _ _ st5 fun b hb o e => (I7.pin (b, o) (List.mem_append_right _ (List.mem_append_right _ (mem_pinsAt hb e)))).1, fun b hb => ?_, w7⟩
      obtain ⟨o, e, d⟩ := T.obj _ _ st5 b hb
      exact (I7.pin (b, o) (List.mem_append_right _ (List.mem_append_right _ (mem_pinsAt hb e)))).2.1
    cases f with
    | next => obtain ⟨σ7, H7, I7, n7⟩ := q7; exact again I7 n7
    | cont => obtain ⟨σ7, H7, I7, n7⟩ := q7; exact again I7 n7
    | brk => obtain ⟨σ7, H7, I7, q7⟩ := q7; exact ⟨σ7, H7, I7.unpinned, q7⟩
    | ret v => obtain ⟨x7, σ7, H7, I7, r7, q7⟩ := q7; exact ⟨x7, σ7, H7, I7.unpinned, r7, q7⟩
end

/-! ### the forms one uses -/
/-- over a list that the body leaves as it is -/
theorem for_list {K : PySem.W.Frag} {a : Addr} {xs : List V} {g : TG} {tb : TS} {D : Ends} {σ : St} {H : Hp} (Pv : Nat → St → Hp → Prop) (h0 : Pv 0 σ H) (hl : ∀ i σ H, i ≤ xs.length → Pv i σ H → SqL K H a xs)
    (hs : ∀ i x σ H, xs[i]? = some x → Pv i σ H → g x σ H fun σ2 H2 => tb { D with nx := Pv (i + 1), ct := Pv (i + 1), bk := D.nx } σ2 H2) (hd : ∀ σ H, Pv xs.length σ H → D.nx σ H) :
    ∃ W : Nat → Nat → St → Hp → Prop, (∃ m, W 0 m σ H) ∧ ∀ i m σ H, W i m σ H →
      ((Itl K a).stop i H ∧ D.nx σ H) ∨ ((Itl K a).go i H ∧ ∃ N : St → Hp → Prop, (∀ σ' H', N σ' H' → ∃ m', m' < m ∧ W (i + 1) m' σ' H') ∧ ∀ x H', (Itl K a).yld i H x H' → g x σ H' fun σ2 H2 => tb { D with nx := N, ct := N, bk := D.nx } σ2 H2) := by
  refine ⟨fun i m σ H => m = xs.length - i ∧ i ≤ xs.length ∧ Pv i σ H, ⟨xs.length, by simp, Nat.zero_le _, h0⟩, ?_⟩
  rintro i m σ H ⟨rfl, hi, p⟩
  have q := hl i σ H hi p
  by_cases hlt : i < xs.length
  · refine .inr ⟨⟨xs, xs[i], q, by simp [hlt]⟩, Pv (i + 1), fun σ' H' p' => ⟨xs.length - (i + 1), by omega, rfl, hlt, p'⟩, fun x H' y => ?_⟩
    obtain ⟨e, y⟩ := y
    subst e
    exact hs i x σ _ (y xs q) p
  · have e : i = xs.length := by omega
    subst e
    exact .inl ⟨⟨xs, q, Nat.le_refl _⟩, hd σ H p⟩
theorem for_tup {K : PySem.W.Frag} {a : Addr} {xs : List V} {g : TG} {tb : TS} {D : Ends} {σ : St} {H : Hp} (Pv : Nat → St → Hp → Prop) (h0 : Pv 0 σ H) (hl : ∀ i σ H, i ≤ xs.length → Pv i σ H → SqT K H a xs)
    (hs : ∀ i x σ H, xs[i]? = some x → Pv i σ H → g x σ H fun σ2 H2 => tb { D with nx := Pv (i + 1), ct := Pv (i + 1), bk := D.nx } σ2 H2) (hd : ∀ σ H, Pv xs.length σ H → D.nx σ H) :
    ∃ W : Nat → Nat → St → Hp → Prop, (∃ m, W 0 m σ H) ∧ ∀ i m σ H, W i m σ H →
      ((Itt K a).stop i H ∧ D.nx σ H) ∨ ((Itt K a).go i H ∧ ∃ N : St → Hp → Prop, (∀ σ' H', N σ' H' → ∃ m', m' < m ∧ W (i + 1) m' σ' H') ∧ ∀ x H', (Itt K a).yld i H x H' → g x σ H' fun σ2 H2 => tb { D with nx := N, ct := N, bk := D.nx } σ2 H2) := by
  refine ⟨fun i m σ H => m = xs.length - i ∧ i ≤ xs.length ∧ Pv i σ H, ⟨xs.length, by simp, Nat.zero_le _, h0⟩, ?_⟩
  rintro i m σ H ⟨rfl, hi, p⟩
  have q := hl i σ H hi p
  by_cases hlt : i < xs.length
  · refine .inr ⟨⟨xs, xs[i], q, by simp [hlt]⟩, Pv (i + 1), fun σ' H' p' => ⟨xs.length - (i + 1), by omega, rfl, hlt, p'⟩, fun x H' y => ?_⟩
    obtain ⟨e, y⟩ := y
    subst e
    exact hs i x σ _ (y xs q) p
  · have e : i = xs.length := by omega
    subst e
    exact .inl ⟨⟨xs, q, Nat.le_refl _⟩, hd σ H p⟩
theorem for_range {lo : Int} {n : Nat} {g : TG} {tb : TS} {D : Ends} {σ : St} {H : Hp} (Pv : Nat → St → Hp → Prop) (h0 : Pv 0 σ H)
    (hs : ∀ i σ H, i < n → Pv i σ H → g (.int (lo + i)) σ H fun σ2 H2 => tb { D with nx := Pv (i + 1), ct := Pv (i + 1), bk := D.nx } σ2 H2) (hd : ∀ σ H, Pv n σ H → D.nx σ H) :
    ∃ W : Nat → Nat → St → Hp → Prop, (∃ m, W 0 m σ H) ∧ ∀ i m σ H, W i m σ H →
      ((Itr lo n).stop i H ∧ D.nx σ H) ∨ ((Itr lo n).go i H ∧ ∃ N : St → Hp → Prop, (∀ σ' H', N σ' H' → ∃ m', m' < m ∧ W (i + 1) m' σ' H') ∧ ∀ x H', (Itr lo n).yld i H x H' → g x σ H' fun σ2 H2 => tb { D with nx := N, ct := N, bk := D.nx } σ2 H2) := by
  refine ⟨fun i m σ H => m = n - i ∧ i ≤ n ∧ Pv i σ H, ⟨n, by simp, Nat.zero_le _, h0⟩, ?_⟩
  rintro i m σ H ⟨rfl, hi, p⟩
  by_cases hlt : i < n
  · refine .inr ⟨hlt, Pv (i + 1), fun σ' H' p' => ⟨n - (i + 1), by omega, rfl, hlt, p'⟩, fun x H' y => ?_⟩
    obtain ⟨e, y⟩ := y
    subst e y
    exact hs i σ _ hlt p
  · have e : i = n := by omega
    subst e
    exact .inl ⟨Nat.le_refl _, hd σ H p⟩
/-- while, by a word and a measure of the state -/
theorem while_by {c : TT} {tb : TS} {D : Ends} {σ : St} {H : Hp} (Pv : St → Hp → Prop) (μ : St → Hp → Nat) (h0 : Pv σ H)
    (hs : ∀ σ H, Pv σ H → c σ H fun b H1 => if b = true then tb { D with nx := fun σ' H' => Pv σ' H' ∧ μ σ' H' < μ σ H, ct := fun σ' H' => Pv σ' H' ∧ μ σ' H' < μ σ H, bk := D.nx } σ H1 else D.nx σ H1)
    (mono : ∀ σ H Q Q', (∀ b H1, Q b H1 → Q' b H1) → c σ H Q → c σ H Q') : tWhile c tb D σ H := by
  refine ⟨fun m σ H => m = μ σ H ∧ Pv σ H, ⟨_, rfl, h0⟩, ?_⟩
  rintro m σ H ⟨rfl, p⟩
  refine mono σ H _ _ (fun b H1 q => ?_) (hs σ H p)
  cases b with
  | true => exact ⟨_, fun σ' H' ⟨p', l⟩ => ⟨_, l, rfl, p'⟩, q⟩
  | false => exact q
end L2

namespace L2
open PySem PySem.Spec PyProof.Rows

abbrev R2 := V → V → Hp → VK → Prop
/-- a two-place operation on values: f is binaryOp op, inplaceOp op or compareOp op -/
def OpR (X : Cx) (f : Value → Value → Sem Value) (r : R2) : Prop :=
  ∀ (pins : List (Addr × Obj)) (s : Shared) (σ : St) (H : Hp) (x y : V) (v u : Value) (Q : VK), Inv X pins σ H s → RelV x v → RelV y u → r x y H Q →
    wpAny (model X.prog X.w) X.A (f v u) (EP X pins σ Q) X.xe s
/-- a one-place operation -/
def UnR (X : Cx) (f : Value → Sem Value) (r : V → Hp → VK → Prop) : Prop :=
  ∀ (pins : List (Addr × Obj)) (s : Shared) (σ : St) (H : Hp) (x : V) (v : Value) (Q : VK), Inv X pins σ H s → RelV x v → r x H Q →
    wpAny (model X.prog X.w) X.A (f v) (EP X pins σ Q) X.xe s
/-- a call of a value that is known (a builtin, a type) with values -/
def CallR (X : Cx) (f : Value) (r : List V → Hp → VK → Prop) : Prop :=
  ∀ (pins : List (Addr × Obj)) (s : Shared) (σ : St) (H : Hp) (xs : List V) (us : List Value) (Q : VK), Inv X pins σ H s → Vals xs us → r xs H Q →
    wpAny (model X.prog X.w) X.A (call f us) (EP X pins σ Q) X.xe s
/-- a value's truth -/
def TruR (X : Cx) (r : V → Hp → (Bool → Hp → Prop) → Prop) : Prop :=
  ∀ (pins : List (Addr × Obj)) (s : Shared) (σ : St) (H : Hp) (x : V) (v : Value) (Q : Bool → Hp → Prop), Inv X pins σ H s → RelV x v → r x H Q →
    wpAny (model X.prog X.w) X.A (truthy v) (TP X pins σ Q) X.xe s

def tOp (r : R2) (ta tb : TE) : TE := fun σ H Q => ta σ H fun x H1 => tb σ H1 fun y H2 => r x y H2 Q
def tUn (r : V → Hp → VK → Prop) (ta : TE) : TE := fun σ H Q => ta σ H fun x H1 => r x H1 Q
/-- ints in, under C, and a value out -/
def rI (C : Int → Int → Prop) (g : Int → Int → V) : R2 := fun x y H Q => ∃ i j, x = .int i ∧ y = .int j ∧ C i j ∧ Q (g i j) H
def rI0 (g : Int → Int → V) : R2 := fun x y H Q => ∃ i j, x = .int i ∧ y = .int j ∧ Q (g i j) H
def rU (g : Int → V) : V → Hp → VK → Prop := fun x H Q => ∃ i, x = .int i ∧ Q (g i) H

section
variable {X : Cx} {a b c : Expr} {ta tb tc : TE} {pos : Pos}

theorem binT (ha : PE X a ta) (hb : PE X b tb) {pins : List (Addr × Obj)} {s : Shared} {σ : St} {H : Hp} {R : V → V → Hp → Prop} (I : Inv X pins σ H s)
    (h : ta σ H fun x H1 => tb σ H1 fun y H2 => R x y H2) {Q : Value → Shared → Prop} {f : Value → Value → Sem Value}
    (hf : ∀ v u s2 x y H2, Inv X pins σ H2 s2 → RelV x v → RelV y u → R x y H2 → wpAny (model X.prog X.w) X.A (f v u) Q X.xe s2) :
    wpAny (model X.prog X.w) X.A (eval a X.env) (fun v s₁ => wpAny (model X.prog X.w) X.A (eval b X.env) (fun u s₂ => wpAny (model X.prog X.w) X.A (f v u) Q X.xe s₂) X.xe s₁) X.xe s := by
  refine thn (ha pins s σ H _ I h) fun v s1 ⟨x, H1, I1, r1, q1⟩ => ?_
  refine thn (hb pins s1 σ H1 _ I1 q1) fun u s2 ⟨y, H2, I2, r2, q2⟩ => ?_
  exact hf v u s2 x y H2 I2 r1 r2 q2

theorem pe_op {op : Operator} {r : R2} (ho : OpR X (binaryOp op) r) (ha : PE X a ta) (hb : PE X b tb) : PE X (.BinOp a op b pos) (tOp r ta tb) := by
  intro pins s σ H Q I h
  exact wpAny_BinOp (binT ha hb I h fun v u s2 x y H2 I2 rx ry q => ho pins s2 σ H2 x y v u Q I2 rx ry q)
theorem pe_un {op : UnaryOp} {r : V → Hp → VK → Prop} (ho : UnR X (unaryOp op) r) (ha : PE X a ta) : PE X (.UnaryOp op a pos) (tUn r ta) := by
  intro pins s σ H Q I h
  exact UnaryOp_ (thn (ha pins s σ H _ I h) fun v s1 ⟨x, H1, I1, r1, q1⟩ => ho pins s1 σ H1 x v Q I1 r1 q1)
/-- a op= e at a name: the name's slot i -/
theorem augR {op : Operator} {r : R2} (ho : OpR X (inplaceOp op) r) {pins : List (Addr × Obj)} {s : Shared} {σ : St} {H : Hp} {x y : V} {v u : Value} {Q : VK} (I : Inv X pins σ H s)
    (rx : RelV x v) (ry : RelV y u) (q : r x y H Q) : wpAny (model X.prog X.w) X.A (inplaceOp op v u) (EP X pins σ Q) X.xe s := ho pins s σ H x y v u Q I rx ry q

/-! ### ints -/
theorem opI {f : Value → Value → Sem Value} {C : Int → Int → Prop} {g : Int → Int → Int}
    (rule : ∀ (i j : Int) (t u : Tok) (s : Shared) (Q : Value → Shared → Prop) (E : Value → Shared → Prop), C i j → Q (.int (g i j) s.toks) { s with toks := s.toks + 1 } → wpAny (model X.prog X.w) X.A (f (.int i t) (.int j u)) Q E s) :
    OpR X f (rI C fun i j => .int (g i j)) := by
  intro pins s σ H x y v u Q I rx ry h
  obtain ⟨i, j, rfl, rfl, hc, q⟩ := h
  obtain ⟨t, rfl⟩ := rx
  obtain ⟨t', rfl⟩ := ry
  exact rule i j t t' s _ _ hc ⟨.int (g i j), H, I.tok _, ⟨_, rfl⟩, q⟩
theorem opI0 {f : Value → Value → Sem Value} {g : Int → Int → Int}
    (rule : ∀ (i j : Int) (t u : Tok) (s : Shared) (Q : Value → Shared → Prop) (E : Value → Shared → Prop), Q (.int (g i j) s.toks) { s with toks := s.toks + 1 } → wpAny (model X.prog X.w) X.A (f (.int i t) (.int j u)) Q E s) :
    OpR X f (rI0 fun i j => .int (g i j)) := by
  intro pins s σ H x y v u Q I rx ry h
  obtain ⟨i, j, rfl, rfl, q⟩ := h
  obtain ⟨t, rfl⟩ := rx
  obtain ⟨t', rfl⟩ := ry
  exact rule i j t t' s _ _ ⟨.int (g i j), H, I.tok _, ⟨_, rfl⟩, q⟩
theorem opB0 {f : Value → Value → Sem Value} {g : Int → Int → Bool}
    (rule : ∀ (i j : Int) (t u : Tok) (s : Shared) (Q : Value → Shared → Prop) (E : Value → Shared → Prop), Q (.bool (g i j)) s → wpAny (model X.prog X.w) X.A (f (.int i t) (.int j u)) Q E s) :
    OpR X f (rI0 fun i j => .bl (g i j)) := by
  intro pins s σ H x y v u Q I rx ry h
  obtain ⟨i, j, rfl, rfl, q⟩ := h
  obtain ⟨t, rfl⟩ := rx
  obtain ⟨t', rfl⟩ := ry
  exact rule i j t t' s _ _ ⟨.bl (g i j), H, I, rfl, q⟩

def CDiv (i j : Int) : Prop := 0 < j ∧ j < 1073741824
def CDivN (i j : Int) : Prop := j ≠ 0 ∧ j.natAbs < 1073741824
def CPow (i j : Int) : Prop := 0 ≤ j ∧ j ≤ 1000000 ∧ i.natAbs < 2 ^ 64
def CMul (i j : Int) : Prop := (-(2 ^ 64) < i ∧ i < 2 ^ 64) ∨ (-(2 ^ 64) < j ∧ j < 2 ^ 64)
theorem CMul.ok {i j : Int} (h : CMul i j) : IntMulOk i j := by
  rcases h with ⟨h1, h2⟩ | ⟨h1, h2⟩
  · exact .of_left (intBits_le_64 h1 h2)
  · exact .of_right (intBits_le_64 h1 h2)
theorem two_pow_nn (k : Nat) : (0 : Int) ≤ 2 ^ k := by
  rw [two_pow_cast]
  exact Int.natCast_nonneg _

theorem op_add : OpR X (binaryOp .Add) (rI0 fun i j => .int (i + j)) := opI0 fun _ _ _ _ _ _ _ q => add_int q
theorem op_sub : OpR X (binaryOp .Sub) (rI0 fun i j => .int (i - j)) := opI0 fun _ _ _ _ _ _ _ q => sub_int q
theorem op_mul : OpR X (binaryOp .Mult) (rI CMul fun i j => .int (i * j)) := opI fun _ _ _ _ _ _ _ hc q => mul_int q hc.ok
/-- // by a positive divisor -/
theorem op_fdiv : OpR X (binaryOp .FloorDiv) (rI CDiv fun i j => .int (i / j)) := opI fun i j _ _ _ _ _ hc q => by
  have h1 : (0 : Int) < j := hc.1
  have h2 : j < 1073741824 := hc.2
  exact floordiv_int (by omega) (by rw [Int.fdiv_eq_ediv_of_nonneg i (by omega)]; exact q) (.inl (PyProof.noPylong_small (by omega)))
theorem op_fdivN : OpR X (binaryOp .FloorDiv) (rI CDivN fun i j => .int (i.fdiv j)) := opI fun _ _ _ _ _ _ _ hc q => floordiv_int hc.1 q (.inl (PyProof.noPylong_small hc.2))
/-- % by a positive divisor of any size -/
theorem op_mod : OpR X (binaryOp .Mod) (rI (fun _ j => 0 < j) fun i j => .int (i % j)) := opI fun i j _ _ _ _ _ hc q => by
  have h1 : (0 : Int) < j := hc
  exact mod_int' (by omega) (by rw [Int.fmod_eq_emod_of_nonneg i (by omega)]; exact q)
theorem op_modN : OpR X (binaryOp .Mod) (rI (fun _ j => j ≠ 0) fun i j => .int (i.fmod j)) := opI fun _ _ _ _ _ _ _ hc q => mod_int' hc q
theorem op_pow : OpR X (binaryOp .Pow) (rI CPow fun i j => .int (i ^ j.toNat)) := opI fun _ _ _ _ _ _ _ hc q => pow_int_small hc.1 hc.2.1 hc.2.2 q
theorem op_shl : OpR X (binaryOp .LShift) (rI CPow fun i j => .int (i * 2 ^ j.toNat)) := opI fun _ _ _ _ _ _ _ hc q => lshift_int_small hc.1 hc.2.1 hc.2.2 q
theorem op_shr : OpR X (binaryOp .RShift) (rI (fun _ j => 0 ≤ j) fun i j => .int (i / 2 ^ j.toNat)) := opI fun i j _ _ _ _ _ hc q =>
  rshift_int hc (by rw [Int.fdiv_eq_ediv_of_nonneg i (two_pow_nn _)]; exact q)
theorem op_and : OpR X (binaryOp .BitAnd) (rI0 fun i j => .int (Builtin.bitAnd i j)) := opI0 fun _ _ _ _ _ _ _ q => and_int q
theorem op_or : OpR X (binaryOp .BitOr) (rI0 fun i j => .int (Builtin.bitOr i j)) := opI0 fun _ _ _ _ _ _ _ q => or_int q
theorem op_xor : OpR X (binaryOp .BitXor) (rI0 fun i j => .int (Builtin.bitXor i j)) := opI0 fun _ _ _ _ _ _ _ q => xor_int q

theorem iop_add : OpR X (inplaceOp .Add) (rI0 fun i j => .int (i + j)) := opI0 fun _ _ _ _ _ _ _ q => iadd_int q
theorem iop_sub : OpR X (inplaceOp .Sub) (rI0 fun i j => .int (i - j)) := opI0 fun _ _ _ _ _ _ _ q => isub_int q
theorem iop_mul : OpR X (inplaceOp .Mult) (rI CMul fun i j => .int (i * j)) := opI fun _ _ _ _ _ _ _ hc q => imul_int q hc.ok
theorem iop_fdiv : OpR X (inplaceOp .FloorDiv) (rI CDiv fun i j => .int (i / j)) := opI fun i j _ _ _ _ _ hc q => by
  have h1 : (0 : Int) < j := hc.1
  have h2 : j < 1073741824 := hc.2
  exact ifloordiv_int (by omega) (by rw [Int.fdiv_eq_ediv_of_nonneg i (by omega)]; exact q) (.inl (PyProof.noPylong_small (by omega)))
theorem iop_mod : OpR X (inplaceOp .Mod) (rI (fun _ j => 0 < j) fun i j => .int (i % j)) := opI fun i j _ _ _ _ _ hc q => by
  have h1 : (0 : Int) < j := hc
  exact imod_int (by omega) (by rw [Int.fmod_eq_emod_of_nonneg i (by omega)]; exact q)
theorem iop_shl : OpR X (inplaceOp .LShift) (rI CPow fun i j => .int (i * 2 ^ j.toNat)) := opI fun _ _ _ _ _ _ _ hc q => ilshift_int_small hc.1 hc.2.1 hc.2.2 q
theorem iop_shr : OpR X (inplaceOp .RShift) (rI (fun _ j => 0 ≤ j) fun i j => .int (i / 2 ^ j.toNat)) := opI fun i j _ _ _ _ _ hc q =>
  irshift_int hc (by rw [Int.fdiv_eq_ediv_of_nonneg i (two_pow_nn _)]; exact q)
theorem iop_and : OpR X (inplaceOp .BitAnd) (rI0 fun i j => .int (Builtin.bitAnd i j)) := opI0 fun _ _ _ _ _ _ _ q => iand_int q
theorem iop_or : OpR X (inplaceOp .BitOr) (rI0 fun i j => .int (Builtin.bitOr i j)) := opI0 fun _ _ _ _ _ _ _ q => ior_int q
theorem iop_xor : OpR X (inplaceOp .BitXor) (rI0 fun i j => .int (Builtin.bitXor i j)) := opI0 fun _ _ _ _ _ _ _ q => ixor_int q

theorem unI {f : Value → Sem Value} {g : Int → Int}
    (rule : ∀ (i : Int) (t : Tok) (s : Shared) (Q : Value → Shared → Prop) (E : Value → Shared → Prop), Q (.int (g i) s.toks) { s with toks := s.toks + 1 } → wpAny (model X.prog X.w) X.A (f (.int i t)) Q E s) :
    UnR X f (rU fun i => .int (g i)) := by
  intro pins s σ H x v Q I rx h
  obtain ⟨i, rfl, q⟩ := h
  obtain ⟨t, rfl⟩ := rx
  exact rule i t s _ _ ⟨.int (g i), H, I.tok _, ⟨_, rfl⟩, q⟩
theorem un_neg : UnR X (unaryOp .USub) (rU fun i => .int (-i)) := unI fun _ _ _ _ _ q => neg_int q
theorem un_inv : UnR X (unaryOp .Invert) (rU fun i => .int (Builtin.bitNot i)) := unI fun _ _ _ _ _ q => invert_int q

/-! ### bools among ints: n += (a < b) -/
theorem op_add_ib : OpR X (binaryOp .Add) (fun x y H Q => ∃ i k, x = .int i ∧ y = .bl k ∧ Q (.int (i + b2i k)) H) := by
  intro pins s σ H x y v u Q I rx ry h
  obtain ⟨i, k, rfl, rfl, q⟩ := h
  obtain ⟨t, rfl⟩ := rx
  cases ry
  exact add_int_bool ⟨.int (i + b2i k), H, I.tok _, ⟨_, rfl⟩, q⟩
end

/-! ### comparisons -/
/-- the scalars that == tells apart as data does -/
def scal : V → V → Bool
  | .non, .non => true | .non, .int _ => true | .int _, .non => true | .non, .bl _ => true | .bl _, .non => true | .non, .str _ => true | .str _, .non => true
  | .int _, .int _ => true | .bl _, .bl _ => true | .str _, .str _ => true | .byt _, .byt _ => true
  | .int _, .str _ => true | .str _, .int _ => true | .bl _, .str _ => true | .str _, .bl _ => true
  | _, _ => false
def rEq : R2 := fun x y H Q => scal x y = true ∧ Q (.bl (decide (x = y))) H
def rNe : R2 := fun x y H Q => scal x y = true ∧ Q (.bl (!decide (x = y))) H

theorem dec_int {i j : Int} : decide (V.int i = V.int j) = (i == j) := by
  rw [Bool.eq_iff_iff]
  simp
theorem dec_bl {i j : Bool} : decide (V.bl i = V.bl j) = (i == j) := by
  rw [Bool.eq_iff_iff]
  simp
theorem dec_str {i j : Str} : decide (V.str i = V.str j) = (i == j) := by
  rw [Bool.eq_iff_iff]
  simp
theorem dec_byt {i j : Array UInt8} : decide (V.byt i = V.byt j) = (i.toList == j.toList) := by
  rw [Bool.eq_iff_iff]
  cases i
  cases j
  simp

section
variable {X : Cx} {a b c : Expr} {ta tb tc : TE} {pos : Pos}
theorem fin_bl {pins : List (Addr × Obj)} {σ : St} {H : Hp} {s : Shared} {Q : VK} {k k' : Bool} (I : Inv X pins σ H s) (q : Q (.bl k) H) (e : k = k') : EP X pins σ Q (.bool k') s := by
  subst e
  exact ⟨.bl k, H, I, rfl, q⟩
theorem op_eq : OpR X (compareOp .Eq) rEq := by
  intro pins s σ H x y v u Q I rx ry h
  obtain ⟨hs, q⟩ := h
  cases x with
  | non =>
    cases rx
    cases y with
    | non => cases ry; exact PySem.EqNone.eq_none_none (fin_bl I q (by simp))
    | bl j => cases ry; exact PySem.EqNone.eq_none_bool (fin_bl I q (by simp))
    | int j => obtain ⟨t', rfl⟩ := ry; exact PySem.EqNone.eq_none_int (fin_bl I q (by simp))
    | str j => obtain ⟨t', rfl⟩ := ry; exact PySem.EqNone.eq_none_str (fin_bl I q (by simp))
    | _ => exact absurd (show false = true from hs) Bool.false_ne_true
  | bl i =>
    cases rx
    cases y with
    | non => cases ry; exact PySem.EqNone.eq_bool_none (fin_bl I q (by simp))
    | bl j => cases ry; exact eq_bool (fin_bl I q dec_bl)
    | str j => obtain ⟨t', rfl⟩ := ry; exact PySem.EqMixed.eq_bool_str (fin_bl I q (by simp))
    | _ => exact absurd (show false = true from hs) Bool.false_ne_true
  | int i =>
    obtain ⟨t, rfl⟩ := rx
    cases y with
    | non => cases ry; exact PySem.EqNone.eq_int_none (fin_bl I q (by simp))
    | int j => obtain ⟨t', rfl⟩ := ry; exact eq_int (fin_bl I q dec_int)
    | str j => obtain ⟨t', rfl⟩ := ry; exact PySem.EqMixed.eq_int_str (fin_bl I q (by simp))
    | _ => exact absurd (show false = true from hs) Bool.false_ne_true
  | str i =>
    obtain ⟨t, rfl⟩ := rx
    cases y with
    | non => cases ry; exact PySem.EqNone.eq_str_none (fin_bl I q (by simp))
    | bl j => cases ry; exact PySem.EqMixed.eq_str_bool (fin_bl I q (by simp))
    | int j => obtain ⟨t', rfl⟩ := ry; exact PySem.EqMixed.eq_str_int (fin_bl I q (by simp))
    | str j => obtain ⟨t', rfl⟩ := ry; exact eq_str (fin_bl I q dec_str)
    | _ => exact absurd (show false = true from hs) Bool.false_ne_true
  | byt i =>
    obtain ⟨t, rfl⟩ := rx
    cases y with
    | byt j => obtain ⟨t', rfl⟩ := ry; exact PySem.W.eq_bytes (fin_bl I q dec_byt)
    | _ => exact absurd (show false = true from hs) Bool.false_ne_true
  | _ => cases y <;> exact absurd (show false = true from hs) Bool.false_ne_true
theorem op_ne : OpR X (compareOp .NotEq) rNe := by
  intro pins s σ H x y v u Q I rx ry h
  obtain ⟨hs, q⟩ := h
  cases x with
  | non =>
    cases rx
    cases y with
    | non => cases ry; exact PySem.EqNone.ne_none_none (fin_bl I q (by simp))
    | bl j => cases ry; exact PySem.EqNone.ne_none_bool (fin_bl I q (by simp))
    | int j => obtain ⟨t', rfl⟩ := ry; exact PySem.EqNone.ne_none_int (fin_bl I q (by simp))
    | str j => obtain ⟨t', rfl⟩ := ry; exact PySem.EqNone.ne_none_str (fin_bl I q (by simp))
    | _ => exact absurd (show false = true from hs) Bool.false_ne_true
  | bl i =>
    cases rx
    cases y with
    | non => cases ry; exact PySem.EqNone.ne_bool_none (fin_bl I q (by simp))
    | bl j => cases ry; exact ne_bool (fin_bl I q (congrArg not dec_bl))
    | str j => obtain ⟨t', rfl⟩ := ry; exact PySem.EqMixed.ne_bool_str (fin_bl I q (by simp))
    | _ => exact absurd (show false = true from hs) Bool.false_ne_true
  | int i =>
    obtain ⟨t, rfl⟩ := rx
    cases y with
    | non => cases ry; exact PySem.EqNone.ne_int_none (fin_bl I q (by simp))
    | int j => obtain ⟨t', rfl⟩ := ry; exact ne_int (fin_bl I q (congrArg not dec_int))
    | str j => obtain ⟨t', rfl⟩ := ry; exact PySem.EqMixed.ne_int_str (fin_bl I q (by simp))
    | _ => exact absurd (show false = true from hs) Bool.false_ne_true
  | str i =>
    obtain ⟨t, rfl⟩ := rx
    cases y with
    | non => cases ry; exact PySem.EqNone.ne_str_none (fin_bl I q (by simp))
    | bl j => cases ry; exact PySem.EqMixed.ne_str_bool (fin_bl I q (by simp))
    | int j => obtain ⟨t', rfl⟩ := ry; exact PySem.EqMixed.ne_str_int (fin_bl I q (by simp))
    | str j => obtain ⟨t', rfl⟩ := ry; exact ne_str (fin_bl I q (congrArg not dec_str))
    | _ => exact absurd (show false = true from hs) Bool.false_ne_true
  | byt i =>
    obtain ⟨t, rfl⟩ := rx
    cases y with
    | byt j => obtain ⟨t', rfl⟩ := ry; exact PySem.W.ne_bytes (fin_bl I q (congrArg not dec_byt))
    | _ => exact absurd (show false = true from hs) Bool.false_ne_true
  | _ => cases y <;> exact absurd (show false = true from hs) Bool.false_ne_true

theorem op_lt : OpR X (compareOp .Lt) (rI0 fun i j => .bl (decide (i < j))) := opB0 fun _ _ _ _ _ _ _ q => lt_int q
theorem op_le : OpR X (compareOp .LtE) (rI0 fun i j => .bl (decide (i ≤ j))) := opB0 fun _ _ _ _ _ _ _ q => le_int q
theorem op_gt : OpR X (compareOp .Gt) (rI0 fun i j => .bl (decide (j < i))) := opB0 fun _ _ _ _ _ _ _ q => gt_int q
theorem op_ge : OpR X (compareOp .GtE) (rI0 fun i j => .bl (decide (j ≤ i))) := opB0 fun _ _ _ _ _ _ _ q => ge_int q
theorem op_lt_str : OpR X (compareOp .Lt) (fun x y H Q => ∃ i j, x = .str i ∧ y = .str j ∧ Q (.bl (decide (i.cps.toList < j.cps.toList))) H) := by
  intro pins s σ H x y v u Q I rx ry h
  obtain ⟨i, j, rfl, rfl, q⟩ := h
  obtain ⟨t, rfl⟩ := rx
  obtain ⟨t', rfl⟩ := ry
  exact lt_str (fin_bl I q rfl)
/-- the one string within the other -/
theorem op_in_str : OpR X (compareOp .In) (fun x y H Q => ∃ i j, x = .str i ∧ y = .str j ∧ Q (.bl (!(Builtin.Str.occurrences j i 0 j.length 1).isEmpty)) H) := by
  intro pins s σ H x y v u Q I rx ry h
  obtain ⟨i, j, rfl, rfl, q⟩ := h
  obtain ⟨t, rfl⟩ := rx
  obtain ⟨t', rfl⟩ := ry
  exact in_str (fin_bl I q rfl)

/-- is None, is not None: the right side a value none -/
theorem op_isN : OpR X (compareOp .Is) (fun x y H Q => y = .non ∧ Q (.bl (decide (x = .non))) H) := by
  intro pins s σ H x y v u Q I rx ry h
  obtain ⟨rfl, q⟩ := h
  cases ry
  refine is_none_gen (fin_bl I q ?_)
  cases x <;> first
    | (cases rx; rfl)
    | (obtain ⟨t, rfl⟩ := rx; rfl)
theorem op_notN : OpR X (compareOp .IsNot) (fun x y H Q => y = .non ∧ Q (.bl (!decide (x = .non))) H) := by
  intro pins s σ H x y v u Q I rx ry h
  obtain ⟨rfl, q⟩ := h
  cases ry
  refine isnot_none_gen (fin_bl I q ?_)
  cases x <;> first
    | (cases rx; rfl)
    | (obtain ⟨t, rfl⟩ := rx; rfl)

theorem op_notin_str : OpR X (compareOp .NotIn) (fun x y H Q => ∃ i j, x = .str i ∧ y = .str j ∧ Q (.bl (!(!(Builtin.Str.occurrences j i 0 j.length 1).isEmpty))) H) := by
  intro pins s σ H x y v u Q I rx ry h
  obtain ⟨i, j, rfl, rfl, q⟩ := h
  obtain ⟨t, rfl⟩ := rx
  obtain ⟨t', rfl⟩ := ry
  exact notIn_str (fin_bl I q rfl)
/-- is, is not of two objects that are tracked lists or instances -/
def isObj : HO → Bool
  | .lst _ => true
  | .ins _ _ _ => true
  | _ => false
theorem obj_there {pins : List (Addr × Obj)} {s : Shared} {σ : St} {H : Hp} {a : Addr} {o : HO} (I : Inv X pins σ H s) (h : H a = some o) (p : isObj o = true) : ∃ ob, s.heap.get? a = some ob ∧ ob.cls ≠ .type "tuple" := by
  cases o with
  | lst xs =>
    obtain ⟨_, its, n, _, e⟩ : xs.length ≤ sizeLine ∧ ∃ (its : List Value) (n : Nat), Vals xs its ∧ s.heap.get? a = some { cls := .type "list", data := .seq its.toArray n } := I.hok a _ h
    exact ⟨_, e, (by show Value.type "list" ≠ .type "tuple"; decide +kernel)⟩
  | ins C dx fs =>
    have x := I.hok a _ h
    obtain ⟨_, _, _, e, _⟩ := x
    exact ⟨_, e, (by show Value.ref C ≠ .type "tuple"; exact fun z => by cases z)⟩
  | _ => exact absurd (show false = true from p) Bool.false_ne_true
theorem op_is_ref : OpR X (compareOp .Is) (fun x y H Q => ∃ a b oa ob, x = .ref a ∧ y = .ref b ∧ H a = some oa ∧ isObj oa = true ∧ H b = some ob ∧ isObj ob = true ∧ Q (.bl (decide (a = b))) H) := by
  intro pins s σ H x y v u Q I rx ry h
  obtain ⟨a, b, oa, ob, rfl, rfl, ha, pa, hb, pb, q⟩ := h
  cases rx
  cases ry
  obtain ⟨o1, e1, n1⟩ := obj_there I ha pa
  obtain ⟨o2, e2, _⟩ := obj_there I hb pb
  by_cases z : a = b
  · subst z
    exact wpAny_is_ref_self (fin_bl I q (by simp))
  · exact wpAny_is_ref_other z e1 e2 n1 (fin_bl I q (by simp [z]))
theorem op_isnot_ref : OpR X (compareOp .IsNot) (fun x y H Q => ∃ a b oa ob, x = .ref a ∧ y = .ref b ∧ H a = some oa ∧ isObj oa = true ∧ H b = some ob ∧ isObj ob = true ∧ Q (.bl (!decide (a = b))) H) := by
  intro pins s σ H x y v u Q I rx ry h
  obtain ⟨a, b, oa, ob, rfl, rfl, ha, pa, hb, pb, q⟩ := h
  cases rx
  cases ry
  obtain ⟨o1, e1, n1⟩ := obj_there I ha pa
  obtain ⟨o2, e2, _⟩ := obj_there I hb pb
  by_cases z : a = b
  · subst z
    exact wpAny_isNot_ref_self (fin_bl I q (by simp))
  · exact wpAny_isNot_ref_other z e1 e2 n1 (fin_bl I q (by simp [z]))

/-- two rules for one operation: by cases -/
theorem OpR.or {f : Value → Value → Sem Value} {r r' : R2} (h : OpR X f r) (h' : OpR X f r') : OpR X f (fun x y H Q => r x y H Q ∨ r' x y H Q) := by
  intro pins s σ H x y v u Q I rx ry q
  rcases q with q | q
  · exact h pins s σ H x y v u Q I rx ry q
  · exact h' pins s σ H x y v u Q I rx ry q

theorem nomark (b : Expr) {op : CmpOp} (h : op ≠ .In := by decide) (h2 : op ≠ .NotIn := by decide) : behindInMarks op b = false := by
  have e1 : (op == CmpOp.In) = false := by cases op <;> first | rfl | exact absurd rfl h
  have e2 : (op == CmpOp.NotIn) = false := by cases op <;> first | rfl | exact absurd rfl h2
  cases b <;> simp [behindInMarks, e1, e2]
/-- a comparison as a value; hm: nomark b, or (for in, not in) by with_unfolding_all rfl -/
theorem pe_cmpR {op : CmpOp} {r : R2} (ho : OpR X (compareOp op) r) (ha : PE X a ta) (hb : PE X b tb) (hm : behindInMarks op b = false) : PE X (.Compare a [op] [b] pos) (tOp r ta tb) := by
  intro pins s σ H Q I h
  exact wpAny_Compare1 (binT ha hb I h fun v u s2 x y H2 I2 rx ry q => ho pins s2 σ H2 x y v u Q I2 rx ry q) hm
/-- a reading of a value as a test -/
def tTest (t : TE) : TT := fun σ H Q => t σ H fun x H' => ∃ k, x = .bl k ∧ Q k H'
theorem pt_cmpR {op : CmpOp} {r : R2} (ho : OpR X (compareOp op) r) (ha : PE X a ta) (hb : PE X b tb) (hm : behindInMarks op b = false) : PT X (.Compare a [op] [b] pos) (tTest (tOp r ta tb)) := by
  intro pins s σ H Q I h
  refine wpAny_isTrue_Compare1 (thn (ha pins s σ H _ I h) fun v s1 ⟨x, H1, I1, r1, q1⟩ => thn (hb pins s1 σ H1 _ I1 q1) fun u s2 ⟨y, H2, I2, r2, q2⟩ =>
    thn (ho pins s2 σ H2 x y v u _ I2 r1 r2 q2) fun c s3 ⟨z, H3, I3, r3, k, e, q3⟩ => ?_) hm
  subst e
  cases r3
  exact wpAny_truthy_bool ⟨H3, I3, q3⟩
/-- a op1 b op2 c -/
def tChain (r r' : R2) (ta tb tc : TE) : TE := fun σ H Q => ta σ H fun x H1 => tb σ H1 fun y H2 => r x y H2 fun z H3 => ∃ k, z = .bl k ∧
  (if k = true then tc σ H3 fun w' H4 => r' y w' H4 Q else Q (.bl false) H3)
theorem pe_chain {op op' : CmpOp} {r r' : R2} (ho : OpR X (compareOp op) r) (ho' : OpR X (compareOp op') r') (ha : PE X a ta) (hb : PE X b tb) (hc : PE X c tc)
    (hm : lastMarks [op, op'] [b, c] = false := by with_unfolding_all rfl) : PE X (.Compare a [op, op'] [b, c] pos) (tChain r r' ta tb tc) := by
  intro pins s σ H Q I h
  refine Compare_chain (thn (ha pins s σ H _ I h) fun v s1 ⟨x, H1, I1, r1, q1⟩ => chain_link (thn (hb pins s1 σ H1 _ I1 q1) fun u s2 ⟨y, H2, I2, r2, q2⟩ =>
    thn (ho pins s2 σ H2 x y v u _ I2 r1 r2 q2) fun d s3 ⟨z, H3, I3, r3, k, e, q3⟩ => ?_)) hm
  subst e
  cases r3
  refine wpAny_truthy_bool ?_
  cases k with
  | false => exact ite_ff ⟨.bl false, H3, I3, rfl, q3⟩
  | true => exact ite_tt (chain_last (thn (hc pins s3 σ H3 _ I3 q3) fun w' s4 ⟨z', H4, I4, r4, q4⟩ => ho' pins s4 σ H4 y z' u w' Q I4 r2 r4 q4))
theorem pt_chain {op op' : CmpOp} {r r' : R2} (ho : OpR X (compareOp op) r) (ho' : OpR X (compareOp op') r') (ha : PE X a ta) (hb : PE X b tb) (hc : PE X c tc)
    (hm : lastMarks [op, op'] [b, c] = false := by with_unfolding_all rfl) : PT X (.Compare a [op, op'] [b, c] pos) (tTest (tChain r r' ta tb tc)) := by
  intro pins s σ H Q I h
  refine isTrue_chain (thn (ha pins s σ H _ I h) fun v s1 ⟨x, H1, I1, r1, q1⟩ => test_link (thn (hb pins s1 σ H1 _ I1 q1) fun u s2 ⟨y, H2, I2, r2, q2⟩ =>
    thn (ho pins s2 σ H2 x y v u _ I2 r1 r2 q2) fun d s3 ⟨z, H3, I3, r3, k, e, q3⟩ => ?_)) hm
  subst e
  cases r3
  refine wpAny_truthy_bool ?_
  cases k with
  | false =>
    obtain ⟨k', e', q'⟩ := q3
    cases e'
    exact ite_ff ⟨H3, I3, q'⟩
  | true =>
    refine ite_tt (test_last (thn (hc pins s3 σ H3 _ I3 q3) fun w' s4 ⟨z', H4, I4, r4, q4⟩ => thn (ho' pins s4 σ H4 y z' u w' _ I4 r2 r4 q4) fun d' s5 ⟨z2, H5, I5, r5, k2, e2, q5⟩ => ?_))
    subst e2
    cases r5
    exact wpAny_truthy_bool ⟨H5, I5, q5⟩

/-! ### truth -/
/-- a value's truth by the abstract heap -/
def TruV (K : PySem.W.Frag) (x : V) (H : Hp) (k : Bool) : Prop :=
  match x with
  | .non => k = false
  | .bl b => k = b
  | .int i => k = (i != 0)
  | .str y => y.length ≤ sizeLine ∧ k = ((y.length : Int) != 0)
  | .byt y => y.size ≤ sizeLine ∧ k = ((y.size : Int) != 0)
  | .ref p => (∃ xs, SqL K H p xs ∧ k = !xs.isEmpty) ∨ (∃ xs, SqT K H p xs ∧ k = !xs.isEmpty) ∨ ∃ kvs, H p = some (.dK kvs) ∧ k = !kvs.isEmpty
  | _ => False
theorem isEmpty_kv {κ : Type} {kvs : List (κ × V)} {vs : List (κ × Value)} (r : KV kvs vs) : (!vs.isEmpty) = !kvs.isEmpty := by
  cases r <;> rfl
theorem isEmpty_of {xs : List V} {its : List Value} (r : Vals xs its) : (!its.toArray.isEmpty) = !xs.isEmpty := by
  cases r <;> simp
theorem line63 : (sizeLine : Nat) < 2 ^ 63 := by rw [sizeLine_eq]; decide
theorem tru_ok : TruR X (fun x H Q => ∃ k, TruV X.K x H k ∧ Q k H) := by
  intro pins s σ H x v Q I rx h
  obtain ⟨k, e, q⟩ := h
  have hl := line63
  have hs : sizeLine = 16777216 := sizeLine_eq
  cases x with
  | non =>
    cases rx
    have e' : k = false := e
    subst e'
    exact truthy_none ⟨H, I, q⟩
  | bl b =>
    cases rx
    have e' : k = b := e
    subst e'
    exact wpAny_truthy_bool ⟨H, I, q⟩
  | int i =>
    obtain ⟨t, rfl⟩ := rx
    have e' : k = (i != 0) := e
    subst e'
    exact PySem.P.truthy_int ⟨H, I, q⟩
  | str y =>
    obtain ⟨t, rfl⟩ := rx
    obtain ⟨hy, e'⟩ : y.length ≤ sizeLine ∧ k = ((y.length : Int) != 0) := e
    subst e'
    exact PySem.P.truthy_str (by omega) ⟨H, I.tok _, q⟩
  | byt y =>
    obtain ⟨t, rfl⟩ := rx
    obtain ⟨hy, e'⟩ : y.size ≤ sizeLine ∧ k = ((y.size : Int) != 0) := e
    subst e'
    exact PySem.W.truthy_bytes (by omega) ⟨H, I.tok _, q⟩
  | ref p =>
    cases rx
    have e' : (∃ xs, SqL X.K H p xs ∧ k = !xs.isEmpty) ∨ (∃ xs, SqT X.K H p xs ∧ k = !xs.isEmpty) ∨ ∃ kvs, H p = some (.dK kvs) ∧ k = !kvs.isEmpty := e
    rcases e' with ⟨xs, hx, e'⟩ | ⟨xs, hx, e'⟩ | ⟨kvs, hx, e'⟩
    · subst e'
      obtain ⟨its, r, pl, hz⟩ := I.list hx
      have hlen := r.length
      exact wpAny_truthy_list pl.isList (by simp only [List.size_toArray]; omega) ⟨H, I.tok _, by rw [isEmpty_of r]; exact q⟩
    · subst e'
      obtain ⟨its, r, pl, hz⟩ := I.tuple hx
      have hlen := r.length
      exact truthy_tuple pl (by simp only [List.size_toArray]; omega) ⟨H, I.tok _, by rw [isEmpty_of r]; exact q⟩
    · subst e'
      obtain ⟨hz, hS, vs, r, m⟩ : kvs.length ≤ sizeLine ∧ (p == sysModules) = false ∧ ∃ vs, KV kvs vs ∧ s.heap.DictOf (mixKind X.prog X.w) p vs := I.hok p _ hx
      have hlen : kvs.length = vs.length := Paired.length r
      exact wpAny_truthy_dict hS m (by omega) ⟨H, I.tok _, by rw [isEmpty_kv r]; exact q⟩
  | _ => exact (show False from e).elim
/-- any expression whose test is its value's truth (a name, a call, a subscript, a field ..: he by fun _ => rfl) -/
theorem pt_truth (ha : PE X a ta) (he : ∀ whole, isTrue a X.env whole = (do let v ← whole; standAt a.pos; holding [v] (truthy v))) :
    PT X a (fun σ H Q => ta σ H fun x H' => ∃ k, TruV X.K x H' k ∧ Q k H') := by
  intro pins s σ H Q I h
  exact isTrue_plain (thn (ha pins s σ H _ I h) fun v s1 ⟨x, H1, I1, r1, q1⟩ => tru_ok pins s1 σ H1 x v Q I1 r1 q1) (he _)

/-! ### strs and bytes -/
theorem pe_byt {x : List UInt8} {k : Nat} : PE X (.Constant (.bytes x) k pos) (fun _ H Q => Q (.byt x.toArray) H) := fun _ _ _ H _ I h => PySem.W.Constant_bytes ⟨.byt x.toArray, H, I.tok _, ⟨_, rfl⟩, h⟩
theorem op_add_str : OpR X (binaryOp .Add) (fun x y H Q => ∃ i j, x = .str i ∧ y = .str j ∧ i.length + j.length ≤ sizeLine ∧ Q (.str (i ++ j)) H) := by
  intro pins s σ H x y v u Q I rx ry h
  obtain ⟨i, j, rfl, rfl, hz, q⟩ := h
  obtain ⟨t, rfl⟩ := rx
  obtain ⟨t', rfl⟩ := ry
  exact add_str (fun t' tk => ⟨.str (i ++ j), H, I.tok _, ⟨_, rfl⟩, q⟩) hz
theorem iop_add_str : OpR X (inplaceOp .Add) (fun x y H Q => ∃ i j, x = .str i ∧ y = .str j ∧ i.length + j.length ≤ sizeLine ∧ Q (.str (i ++ j)) H) := by
  intro pins s σ H x y v u Q I rx ry h
  obtain ⟨i, j, rfl, rfl, hz, q⟩ := h
  obtain ⟨t, rfl⟩ := rx
  obtain ⟨t', rfl⟩ := ry
  exact iadd_str (fun t' tk => ⟨.str (i ++ j), H, I.tok _, ⟨_, rfl⟩, q⟩) hz
theorem op_add_byt : OpR X (binaryOp .Add) (fun x y H Q => ∃ i j, x = .byt i ∧ y = .byt j ∧ i.size + j.size ≤ 16777216 ∧ Q (.byt (i ++ j)) H) := by
  intro pins s σ H x y v u Q I rx ry h
  obtain ⟨i, j, rfl, rfl, hz, q⟩ := h
  obtain ⟨t, rfl⟩ := rx
  obtain ⟨t', rfl⟩ := ry
  exact PySem.W.KBy.add_bytes hz (fun t' tk => ⟨.byt (i ++ j), H, I.tok _, ⟨_, rfl⟩, q⟩)

def PlainIxT (b : Expr) : Prop := ∀ o i, subscripted b false o i = operate [o, i] (getItem o i)
/-- s[i], 0 ≤ i < len -/
theorem pe_item_str (ha : PE X a ta) (hb : PE X b tb) (hs : PlainIxT b) :
    PE X (.Subscript a b pos) (tOp (fun x y H Q => ∃ z i c, x = .str z ∧ y = .int i ∧ 0 ≤ i ∧ i < 2 ^ 63 ∧ i < z.length ∧ z.cps[i.toNat]? = some c ∧ Q (.str ⟨#[c]⟩) H) ta tb) := by
  intro pins s σ H Q I h
  refine Subscript_ (binT ha hb I h fun v u s2 x y H2 I2 rx ry q => ?_)
  obtain ⟨z, i, c, rfl, rfl, h0, h63, h1, hc, q⟩ := q
  obtain ⟨t, rfl⟩ := rx
  obtain ⟨t', rfl⟩ := ry
  have e : seqIndex? i z.length = some i.toNat := PySem.StrLaws.seqIndex_nonneg h0 h1
  exact tail_any (typeIs_str s2 z t) slot_str_getitem.lookup (getItem_str (c := c) (by
    have e1 : decide (i < -(2 ^ 63 : Int)) = false := decide_eq_false (by omega)
    have e2 : decide (i ≥ 2 ^ 63) = false := decide_eq_false (by omega)
    rw [e1, e2] <;> rfl) (by rw [e]; exact hc) ⟨.str ⟨#[c]⟩, H2, I2.tok _, ⟨_, rfl⟩, q⟩) (hs _ _)
/-- b[i], 0 ≤ i < len -/
theorem pe_item_byt (ha : PE X a ta) (hb : PE X b tb) (hs : PlainIxT b) :
    PE X (.Subscript a b pos) (tOp (fun x y H Q => ∃ (z : List UInt8) (i : Int), x = .byt z.toArray ∧ y = .int i ∧ z.length ≤ sizeLine ∧ 0 ≤ i ∧ i < z.length ∧ Q (.int ((z.getD i.toNat 0).toNat : Nat)) H) ta tb) := by
  intro pins s σ H Q I h
  refine Subscript_ (binT ha hb I h fun v u s2 x y H2 I2 rx ry q => ?_)
  obtain ⟨z, i, rfl, rfl, hz, h0, h1, q⟩ := q
  obtain ⟨t, rfl⟩ := rx
  obtain ⟨t', rfl⟩ := ry
  have hl : sizeLine = 16777216 := sizeLine_eq
  exact tail_any (PySem.W.typeIs_bytes s2 z.toArray t) PySem.W.FB.slot_bytes_getitem.lookup (PySem.W.getItem_bytes (by omega) h0 h1 ⟨.int ((z.getD i.toNat 0).toNat : Nat), H2, I2.tok _, ⟨_, rfl⟩, q⟩) (hs _ _)

/-! ### scalar builtins, by CallR -/
theorem vals1 {x : V} {us : List Value} (r : Vals [x] us) : ∃ u, us = [u] ∧ RelV x u := by
  cases r with
  | cons r1 r2 => cases r2; exact ⟨_, rfl, r1⟩
theorem vals2 {x y : V} {us : List Value} (r : Vals [x, y] us) : ∃ u w', us = [u, w'] ∧ RelV x u ∧ RelV y w' := by
  cases r with
  | cons r1 r2 =>
    cases r2 with
    | cons r3 r4 => cases r4; exact ⟨_, _, rfl, r1, r3⟩
theorem call_abs : CallR X (.builtin "abs") (fun xs H Q => ∃ i, xs = [.int i] ∧ Q (.int (if i < 0 then -i else i)) H) := by
  intro pins s σ H xs us Q I r h
  obtain ⟨i, rfl, q⟩ := h
  obtain ⟨u, rfl, t, rfl⟩ := vals1 r
  exact call_abs_int fun u tk => ⟨.int (if i < 0 then -i else i), H, I.tok _, ⟨_, rfl⟩, q⟩
theorem call_max2 (hc : X.calm = true) : CallR X (.builtin "max") (fun xs H Q => ∃ i j, xs = [.int i, .int j] ∧ Q (.int (if j > i then j else i)) H) := by
  intro pins s σ H xs us Q I r h
  obtain ⟨i, j, rfl, q⟩ := h
  obtain ⟨u, w', rfl, ⟨t, rfl⟩, ⟨t', rfl⟩⟩ := vals2 r
  refine max_two_ints (I.ok.hd hc) fun h' tk k => ⟨_, H, I.kept k, ?_, q⟩
  by_cases hj : j > i
  · rw [if_pos hj, if_pos hj]; exact ⟨_, rfl⟩
  · rw [if_neg hj, if_neg hj]; exact ⟨_, rfl⟩
theorem call_min2 (hc : X.calm = true) : CallR X (.builtin "min") (fun xs H Q => ∃ i j, xs = [.int i, .int j] ∧ Q (.int (if j < i then j else i)) H) := by
  intro pins s σ H xs us Q I r h
  obtain ⟨i, j, rfl, q⟩ := h
  obtain ⟨u, w', rfl, ⟨t, rfl⟩, ⟨t', rfl⟩⟩ := vals2 r
  refine min_two_ints (I.ok.hd hc) fun h' tk k => ⟨_, H, I.kept k, ?_, q⟩
  by_cases hj : j < i
  · rw [if_pos hj, if_pos hj]; exact ⟨_, rfl⟩
  · rw [if_neg hj, if_neg hj]; exact ⟨_, rfl⟩
theorem call_int1 : CallR X (.type "int") (fun xs H Q => (∃ i, xs = [.int i] ∧ Q (.int i) H) ∨ ∃ k, xs = [.bl k] ∧ Q (.int (if k then 1 else 0)) H) := by
  intro pins s σ H xs us Q I r h
  rcases h with ⟨i, rfl, q⟩ | ⟨k, rfl, q⟩
  · obtain ⟨u, rfl, t, rfl⟩ := vals1 r
    exact call_int_int ⟨.int i, H, I, ⟨_, rfl⟩, q⟩
  · obtain ⟨u, rfl, r1⟩ := vals1 r
    cases r1
    exact call_int_bool ⟨.int (if k then 1 else 0), H, I.tok _, ⟨_, rfl⟩, q⟩
theorem call_bool1 : CallR X (.type "bool") (fun xs H Q => (∃ i, xs = [.int i] ∧ Q (.bl (i != 0)) H) ∨ ∃ k, xs = [.bl k] ∧ Q (.bl k) H) := by
  intro pins s σ H xs us Q I r h
  rcases h with ⟨i, rfl, q⟩ | ⟨k, rfl, q⟩
  · obtain ⟨u, rfl, t, rfl⟩ := vals1 r
    exact call_bool_int ⟨.bl (i != 0), H, I, rfl, q⟩
  · obtain ⟨u, rfl, r1⟩ := vals1 r
    cases r1
    exact call_bool_bool ⟨.bl k, H, I, rfl, q⟩
theorem call_str_int : CallR X (.type "str") (fun xs H Q => ∃ i, xs = [.int i] ∧ i.natAbs.log2 < 1920 ∧ Q (.str (toString i)) H) := by
  intro pins s σ H xs us Q I r h
  obtain ⟨i, rfl, hz, q⟩ := h
  obtain ⟨u, rfl, t, rfl⟩ := vals1 r
  exact PySem.P.str_of_int hz ⟨.str _, H, I.tok _, ⟨_, rfl⟩, q⟩
theorem call_ord : CallR X (.builtin "ord") (fun xs H Q => ∃ x, xs = [.str x] ∧ x.length = 1 ∧ Q (.int (x.cps.getD 0 0 : Nat)) H) := by
  intro pins s σ H xs us Q I r h
  obtain ⟨x, rfl, hz, q⟩ := h
  obtain ⟨u, rfl, t, rfl⟩ := vals1 r
  exact ord_of_one hz ⟨.int _, H, I.tok _, ⟨_, rfl⟩, q⟩
theorem call_chr : CallR X (.builtin "chr") (fun xs H Q => ∃ i, xs = [.int i] ∧ 0 ≤ i ∧ i ≤ 1114111 ∧ Q (.str ⟨#[i.toNat]⟩) H) := by
  intro pins s σ H xs us Q I r h
  obtain ⟨i, rfl, h0, h1, q⟩ := h
  obtain ⟨u, rfl, t, rfl⟩ := vals1 r
  exact chr_of_range h0 h1 ⟨.str _, H, I.tok _, ⟨_, rfl⟩, q⟩
/-- len of a str, a bytes, a list, a tuple -/
def LenV (K : PySem.W.Frag) (x : V) (H : Hp) (n : Nat) : Prop :=
  match x with
  | .str y => y.length ≤ sizeLine ∧ n = y.length
  | .byt y => y.size ≤ sizeLine ∧ n = y.size
  | .ref p => (∃ xs, SqL K H p xs ∧ n = xs.length) ∨ ∃ xs, SqT K H p xs ∧ n = xs.length
  | _ => False
theorem call_len : CallR X (.builtin "len") (fun xs H Q => ∃ x n, xs = [x] ∧ LenV X.K x H n ∧ Q (.int n) H) := by
  intro pins s σ H xs us Q I r h
  obtain ⟨x, n, rfl, e, q⟩ := h
  obtain ⟨u, rfl, rx⟩ := vals1 r
  have hl := line63
  have hs : sizeLine = 16777216 := sizeLine_eq
  cases x with
  | str y =>
    obtain ⟨t, rfl⟩ := rx
    obtain ⟨hy, e'⟩ : y.length ≤ sizeLine ∧ n = y.length := e
    subst e'
    exact len_str (by omega) ⟨.int _, H, I.tok _, ⟨_, rfl⟩, q⟩
  | byt y =>
    obtain ⟨t, rfl⟩ := rx
    obtain ⟨hy, e'⟩ : y.size ≤ sizeLine ∧ n = y.size := e
    subst e'
    exact PySem.W.len_bytes (by omega) ⟨.int _, H, I.tok _, ⟨_, rfl⟩, q⟩
  | ref p =>
    cases rx
    have e' : (∃ xs, SqL X.K H p xs ∧ n = xs.length) ∨ ∃ xs, SqT X.K H p xs ∧ n = xs.length := e
    rcases e' with ⟨xs, hx, e'⟩ | ⟨xs, hx, e'⟩
    · subst e'
      obtain ⟨its, r', pl, hz⟩ := I.list hx
      have hlen := r'.length
      exact Calls.call_len_list pl.isList (by simp only [List.size_toArray]; omega) ⟨.int xs.length, H, I.tok _, ⟨_, by simp only [List.size_toArray]; rw [hlen]⟩, q⟩
    · subst e'
      obtain ⟨its, r', pl, hz⟩ := I.tuple hx
      have hlen := r'.length
      exact len_tuple pl (by simp only [List.size_toArray]; omega) ⟨.int xs.length, H, I.tok _, ⟨_, by simp only [List.size_toArray]; rw [hlen]⟩, q⟩
  | _ => exact (show False from e).elim
/-- divmod: a new tuple -/
theorem call_divmod : CallR X (.builtin "divmod") (fun xs H Q => ∃ i j, xs = [.int i, .int j] ∧ CDiv i j ∧ ∀ p, H p = none → Q (.ref p) (upd H p (.tup [.int (i / j), .int (i % j)]))) := by
  intro pins s σ H xs us Q I r h
  obtain ⟨i, j, rfl, ⟨h1, h2⟩, q⟩ := h
  obtain ⟨u, w', rfl, ⟨t, rfl⟩, ⟨t', rfl⟩⟩ := vals2 r
  refine divmod_int (by omega) ?_ (.inl (PyProof.noPylong_small (by omega)))
  rw [Int.fdiv_eq_ediv_of_nonneg i (by omega), Int.fmod_eq_emod_of_nonneg i (by omega)]
  have hn : H s.heap.objs.size = none := I.hok.fresh (Nat.le_refl _)
  refine ⟨.ref s.heap.objs.size, _, ?_, rfl, q _ hn⟩
  refine I.laid (fun b o e => Heap.get?_push_of_some _ e) (Nat.le_refl _) ⟨by simp only [List.length_cons, List.length_nil]; rw [sizeLine_eq]; decide, [.int (i / j) s.toks, .int (i % j) (s.toks + 1)], .cons ⟨_, rfl⟩ (.cons ⟨_, rfl⟩ .nil), ?_⟩
  exact ⟨_, Heap.get?_push_size s.heap rfl, rfl, 0, rfl⟩
end
end L2

namespace L2
open PySem PySem.Spec PyProof.Rows

/-! ### an instance, its attributes a map -/
structure ObjM (h : Heap) (x dx C : Addr) (mA : Str → Option Value) : Prop where
  obj : h.get? x = some (PySem.W.instObj C dx)
  ns : h.Ns1 dx mA
  ne : dx ≠ x

theorem lookIn_ns {h : Heap} {dx : Addr} {mA : Str → Option Value} (n : h.Ns1 dx mA) : ∃ od, h.get? dx = some od ∧ ∀ name, PySem.W.lookIn name od = some (mA name) := by
  obtain ⟨o, es, ep, ho, hd, hk, _, hm⟩ := n
  refine ⟨o, ho, fun name => ?_⟩
  have e := hm name
  unfold nsFind findBy at e
  rw [← Array.find?_toList] at e
  unfold PySem.W.lookIn
  rw [hd]
  dsimp only
  split
  · rename_i y q
    rw [q] at e
    exact congrArg some e
  · rename_i q
    rw [q] at e
    have a : es.toList.any (·.refKey) = false := by
      rw [List.any_eq_false]
      intro y hy
      obtain ⟨z, t, hkey⟩ := hk y (Array.mem_toList_iff.mp hy)
      simp [DictEntry.refKey, hkey]
    have a' : ¬ es.toList.any (·.refKey) = true := by rw [a]; exact Bool.false_ne_true
    rw [if_neg a']
    exact congrArg some e

theorem ObjM.look {h : Heap} {x dx C : Addr} {mA : Str → Option Value} (I : ObjM h x dx C mA) : ∃ od, PySem.W.InstAt h x (PySem.W.instObj C dx) C (some od) ∧ ∀ name, PySem.W.lookIn name od = some (mA name) :=
  let ⟨od, ho, hl⟩ := lookIn_ns I.ns
  ⟨od, ⟨I.obj, rfl, rfl, ho⟩, hl⟩

section
variable {prog : Program} {w : World} {A : Around} {E : Value → Shared → Prop} {s : Shared} {K : PySem.W.Frag} {x dx C f : Addr} {mA : Str → Option Value} {name : Str} {v : Value}

theorem get_map {expr : Bool} {Q : Value → Shared → Prop} (X : K.In s.heap) (I : ObjM s.heap x dx C mA) (hg : PySem.W.plainGet K C name = true) (hh : PySem.W.hasDictIn K C = true)
    (ha : PySem.W.findIn K (.ref C) name = some none) (hv : mA name = some v) (hv' : PySem.W.handedIn v = true) (h : Q v { s with toks := s.toks + 1 }) :
    wpAny (model prog w) A (getAttr (.ref x) name expr) Q E s := by
  obtain ⟨od, J, hl⟩ := I.look
  exact PySem.W.get_value X J (PySem.W.plainGet_of hg).1 (PySem.W.findObj_own hh ha rfl (by rw [hl, hv])) hv' h

theorem get_const {expr : Bool} {a : Value} {Q : Value → Shared → Prop} (X : K.In s.heap) (I : ObjM s.heap x dx C mA) (hg : PySem.W.plainGet K C name = true) (hh : PySem.W.hasDictIn K C = true)
    (ha : PySem.W.findIn K (.ref C) name = some (some a)) (hn : PySem.W.specialIn K a "__get__" = some none) (hc : PySem.W.copiedNames.contains name = false) (hv : mA name = none) (hv' : PySem.W.handedIn a = true)
    (h : Q a { s with toks := s.toks + 1 }) : wpAny (model prog w) A (getAttr (.ref x) name expr) Q E s := by
  obtain ⟨od, J, hl⟩ := I.look
  exact PySem.W.get_value X J (PySem.W.plainGet_of hg).1 (PySem.W.findObj_cls hh ha hn hv' hc (by rw [hl, hv])) hv' h

theorem get_meth {pl : Sem Bool} {Q : Value × List Value → Shared → Prop} (X : K.In s.heap) (I : ObjM s.heap x dx C mA) (hg : PySem.W.plainGet K C name = true)
    (hf : PySem.W.findIn K (.ref C) name = some (some (.ref f))) (ht : PySem.W.isFn K (.ref f) = true) (hv : mA name = none) (h : Q (.ref f, [.ref x]) s) :
    wpAny (model prog w) A (getMethod (.ref x) name pl) Q E s := by
  obtain ⟨od, J, hl⟩ := I.look
  exact PySem.W.method_fn X J (PySem.W.plainGet_of hg).1 (PySem.W.plainGet_of hg).2 hf (beq_iff_eq.mp ht) (by show (PySem.W.lookIn name od).map (·.isSome) = some false; rw [hl, hv]; rfl) h

theorem set_map {ns : List Str} {Q : Unit → Shared → Prop} (X : K.In s.heap) (I : ObjM s.heap x dx C mA)
    (hs : PySem.W.findIn K (.ref C) "__setattr__" = some (some (.builtin "object.__setattr__"))) (hp : PySem.W.plainOver K C = true) (ht : PySem.W.takerIn K C name = some none) (hh : PySem.W.hasDictIn K C = true)
    (hw : PySem.Within mA ns) (hsz : ns.length ≤ sizeLine)
    (h : ∀ h', ObjM h' x dx C (fun y => if y = name then some v else mA y) → Heap.SameBut dx s.heap h' → Q () { s with heap := h', toks := s.toks + 2 }) :
    wpAny (model prog w) A (setAttr (.ref x) name v) Q E s := by
  obtain ⟨od, J, hl⟩ := I.look
  refine PySem.W.set_plain X J hs (PySem.W.osa_open (s := { s with toks := s.toks + 1 }) (r := none) X J hp ht fun b => ?_)
  obtain ⟨cd, hc, hd'⟩ := PySem.W.any_some hh
  have hx : s.heap.get? x = some ⟨.ref C, some dx, .plain, #[]⟩ := I.obj
  refine wpAny_bind (wpAny_pure (wpAny_bind (wpAny_bind (wpAny_loadPart hx (wpAny_bind (PySem.W.Looks.here (s := { s with toks := s.toks + 1 }) (PySem.W.looks_clsIn X hc) ?_))))))
  rw [hd']
  refine wpAny_pure (a := some dx) (wpAny_bind (wpAny_pure (wpAny_bind ?_)))
  refine wpAny_nsSet1 (s := { s with toks := s.toks + 1 }) I.ns fun h' hn2 hs2 => ?_
  obtain ⟨oD, esD, epD, hoD, hdD, hcD⟩ := hn2.count (PySem.Within.cons name v hw)
  refine wpAny_bind (wpAny_lookBehind hoD (by rw [hdD]; exact pastItsLine_dict (Nat.le_trans hcD (by rw [List.length_cons]; omega))) ?_)
  exact wpAny_pure (h _ ⟨(hs2.2 _ (Ne.symm I.ne)).trans I.obj, hn2, I.ne⟩ hs2)

/-- C(..): the dict at the heap's end, the instance behind it; then its __init__ -/
theorem make_map {R : Result → Shared → Prop} {vs : List Value} {kw : List (Str × Value)} (X : K.In s.heap) (hm : PySem.W.makesIn K C = true)
    (hi : PySem.W.findIn K (.ref C) "__init__" = some (some (.ref f))) (hf : PySem.W.typeIn K (.ref f) = some (.type "function"))
    (h : codeAny (model prog w) (A.under (.builtin "type.__call__" ⟨.ref C :: vs, kw⟩)) (.call (.ref f) ⟨.ref (s.heap.objs.size + 1) :: vs, kw⟩) (PySem.W.InitBack (s.heap.objs.size + 1) R)
      { s with heap := (s.heap.push PySem.W.emptyDict).push (PySem.W.instObj C s.heap.objs.size) }) :
    codeAny (model prog w) A (.call (.ref C) ⟨vs, kw⟩) R s := by
  obtain ⟨hh, g, d, t, os⟩ := s
  exact PySem.W.make_core (PySem.W.makes_of X hm) (PySem.W.looks_findIn X hi) (fun self => PySem.W.bind_fn X self hf) (.inl rfl) h
/-- C() where there is no __init__ but object's -/
theorem make_map0 {R : Result → Shared → Prop} (X : K.In s.heap) (hm : PySem.W.makesIn K C = true)
    (hi : PySem.W.findIn K (.ref C) "__init__" = some (some (.builtin "object.__init__")))
    (hb : ∀ self, PySem.W.Looks (model prog w) s.heap (bindSpecial (.builtin "object.__init__") self) (.builtin "object.__init__", [self]))
    (h : codeAny (model prog w) (A.under (.builtin "type.__call__" ⟨[.ref C], []⟩)) (.call (.builtin "object.__init__") ⟨[.ref (s.heap.objs.size + 1)], []⟩) (PySem.W.InitBack (s.heap.objs.size + 1) R)
      { s with heap := (s.heap.push PySem.W.emptyDict).push (PySem.W.instObj C s.heap.objs.size) }) :
    codeAny (model prog w) A (.call (.ref C) ⟨[], []⟩) R s := by
  obtain ⟨hh, g, d, t, os⟩ := s
  exact PySem.W.make_core (PySem.W.makes_of X hm) (PySem.W.looks_findIn X hi) hb (.inr ⟨rfl, rfl⟩) h
end

/-! ### the attributes as a list of pairs -/
def putF (f : Str) (v : V) : List (Str × V) → List (Str × V)
  | [] => [(f, v)]
  | (g, x) :: r => if g = f then (g, v) :: r else (g, x) :: putF f v r
theorem lookup_putF (f g : Str) (v : V) : ∀ fs : List (Str × V), (putF f v fs).lookup g = if g = f then some v else fs.lookup g
  | [] => by
    show List.lookup g [(f, v)] = _
    by_cases h : g = f
    · have hb : (g == f) = true := beq_iff_eq.mpr h
      simp only [List.lookup, hb, if_pos h]
    · have hb : (g == f) = false := beq_eq_false_iff_ne.mpr h
      simp only [List.lookup, hb, if_neg h]
  | (k, x) :: r => by
    have ih := lookup_putF f g v r
    rw [show putF f v ((k, x) :: r) = (if k = f then (k, v) :: r else (k, x) :: putF f v r) from rfl]
    by_cases hk : k = f
    · rw [if_pos hk]
      by_cases h : g = k
      · have hb : (g == k) = true := beq_iff_eq.mpr h
        simp only [List.lookup, hb, if_pos (h.trans hk)]
      · have hb : (g == k) = false := beq_eq_false_iff_ne.mpr h
        simp only [List.lookup, hb, if_neg (fun e : g = f => h (e.trans hk.symm))]
    · rw [if_neg hk]
      by_cases h : g = k
      · have hb : (g == k) = true := beq_iff_eq.mpr h
        simp only [List.lookup, hb, if_neg (fun e : g = f => hk (h.symm.trans e))]
      · have hb : (g == k) = false := beq_eq_false_iff_ne.mpr h
        simp only [List.lookup, hb]
        exact ih
theorem keys_putF (f : Str) (v : V) : ∀ fs : List (Str × V), f ∈ (putF f v fs).map (·.1) ∧ ∀ g, g ∈ fs.map (·.1) → g ∈ (putF f v fs).map (·.1)
  | [] => ⟨by simp [putF], fun g h => by simp at h⟩
  | (k, x) :: r => by
    obtain ⟨i1, i2⟩ := keys_putF f v r
    rw [show putF f v ((k, x) :: r) = (if k = f then (k, v) :: r else (k, x) :: putF f v r) from rfl]
    by_cases hk : k = f
    · rw [if_pos hk]
      subst hk
      exact ⟨by simp, fun g h => by simpa using h⟩
    · rw [if_neg hk]
      refine ⟨?_, fun g h => ?_⟩
      · rw [List.map_cons]
        exact List.mem_cons_of_mem _ i1
      · rw [List.map_cons] at h ⊢
        rcases List.mem_cons.mp h with e | e
        · exact List.mem_cons.mpr (.inl e)
        · exact List.mem_cons_of_mem _ (i2 g e)
theorem length_putF (f : Str) (v : V) : ∀ fs : List (Str × V), (putF f v fs).length ≤ fs.length + 1
  | [] => by simp [putF]
  | (k, x) :: r => by
    have ih := length_putF f v r
    rw [show putF f v ((k, x) :: r) = (if k = f then (k, v) :: r else (k, x) :: putF f v r) from rfl]
    by_cases hk : k = f
    · rw [if_pos hk, List.length_cons, List.length_cons]; omega
    · rw [if_neg hk, List.length_cons, List.length_cons]; omega

theorem RelO.some_of {v : V} {o : Option Value} (r : RelO (some v) o) : ∃ u, o = some u ∧ RelV v u := by
  cases o with
  | none => exact (show False from r).elim
  | some u => exact ⟨u, rfl, r⟩
theorem RelO.none_of {o : Option Value} (r : RelO none o) : o = none := by
  cases o with
  | none => rfl
  | some u => exact (show False from r).elim
theorem handed_of {v : V} {u : Value} (r : RelV v u) : PySem.W.handedIn u = true := by
  cases v with
  | non => cases (show u = Value.none from r); rfl
  | bl b => cases (show u = Value.bool b from r); rfl
  | int i => obtain ⟨t, e⟩ := (show ∃ t, u = Value.int i t from r); cases e; rfl
  | str x => obtain ⟨t, e⟩ := (show ∃ t, u = Value.str x t from r); cases e; rfl
  | byt b => obtain ⟨t, e⟩ := (show ∃ t, u = Value.bytes b t from r); cases e; rfl
  | flt b => obtain ⟨t, e⟩ := (show ∃ t, u = Value.float b t from r); cases e; rfl
  | ref a => cases (show u = Value.ref a from r); rfl
  | ty n => cases (show u = Value.type n from r); rfl

section
variable {P : Program} {w : World} {H H' : Hp} {h h' : Heap} {a C dx : Addr} {fs fs' : List (Str × V)}
theorem ins_get (hok : HOk P w H h) (e : H a = some (.ins C dx fs)) : ∃ mA, ObjM h a dx C mA ∧ (∀ f, RelO (fs.lookup f) (mA f)) ∧ PySem.Within mA (fs.map (·.1)) ∧ fs.length ≤ 1000 ∧ H dx = some (.own a) := by
  obtain ⟨d, z, ne, ob, mA, n, r, q⟩ := (show ObjOk P w H h a (.ins C dx fs) from hok a _ e)
  exact ⟨mA, ⟨ob, n, ne⟩, r, q, z, d⟩
end

/-! ### what of the text a class must have -/
structure Cls (K : PySem.W.Frag) (C : Addr) : Prop where
  pg : PySem.W.plainGet K C Str.empty = true
  hd : PySem.W.hasDictIn K C = true
  po : PySem.W.plainOver K C = true
  sa : PySem.W.findIn K (.ref C) "__setattr__" = some (some (.builtin "object.__setattr__"))
theorem Cls.get {K : PySem.W.Frag} {C : Addr} (c : Cls K C) (f : Str) : PySem.W.plainGet K C f = true := c.pg
/-- no class of it has the name -/
def NoAttr (K : PySem.W.Frag) (C : Addr) (f : Str) : Prop := PySem.W.findIn K (.ref C) f = some none
theorem NoAttr.taker {K : PySem.W.Frag} {C : Addr} {f : Str} (n : NoAttr K C f) : PySem.W.takerIn K C f = some none := by
  unfold PySem.W.takerIn
  rw [show PySem.W.findIn K (.ref C) f = some none from n]
  rfl
/-- a constant of the class -/
structure Con (K : PySem.W.Frag) (C : Addr) (f : Str) (v : V) (u : Value) : Prop where
  at_ : PySem.W.findIn K (.ref C) f = some (some u)
  rel : RelV v u
  get : PySem.W.specialIn K u "__get__" = some none
  cp : PySem.W.copiedNames.contains f = false
/-- a method: a plain def of the class or of one above it -/
structure Meth (K : PySem.W.Frag) (C : Addr) (m : Str) (f : Addr) : Prop where
  at_ : PySem.W.findIn K (.ref C) m = some (some (.ref f))
  fn : PySem.W.isFn K (.ref f) = true
  kp : PySem.W.keepIn K (.ref f) = true

section
variable {X : Cx} {pins : List (Addr × Obj)} {σ : St} {H : Hp} {s : Shared} {a C dx : Addr} {fs : List (Str × V)} {f : Str} {v : V} {A : Around} {E : Value → Shared → Prop}

theorem getattr_ok {b : Bool} {Q : Value → Shared → Prop} (I : Inv X pins σ H s) (e : H a = some (.ins C dx fs)) (c : Cls X.K C) (n : NoAttr X.K C f) (l : fs.lookup f = some v)
    (h : ∀ u s', Inv X pins σ H s' → RelV v u → Q u s') : wpAny (model X.prog X.w) A (getAttr (.ref a) f b) Q E s := by
  obtain ⟨mA, O, r, _, _, _⟩ := ins_get I.hok e
  obtain ⟨u, hu, ru⟩ := RelO.some_of (v := v) (o := mA f) (by rw [← l]; exact r f)
  exact get_map I.kIn O (c.get f) c.hd n hu (handed_of ru) (h u _ (I.tok _) ru)

theorem getcon_ok {b : Bool} {u : Value} {Q : Value → Shared → Prop} (I : Inv X pins σ H s) (e : H a = some (.ins C dx fs)) (c : Cls X.K C) (k : Con X.K C f v u) (l : fs.lookup f = none)
    (h : ∀ s', Inv X pins σ H s' → Q u s') : wpAny (model X.prog X.w) A (getAttr (.ref a) f b) Q E s := by
  obtain ⟨mA, O, r, _, _, _⟩ := ins_get I.hok e
  have hn : mA f = none := RelO.none_of (by rw [← l]; exact r f)
  exact get_const I.kIn O (c.get f) c.hd k.at_ k.get k.cp hn (handed_of k.rel) (h _ (I.tok _))

theorem getmeth_ok {m : Str} {g : Addr} {pl : Sem Bool} {Q : Value × List Value → Shared → Prop} (I : Inv X pins σ H s) (e : H a = some (.ins C dx fs)) (c : Cls X.K C) (k : Meth X.K C m g) (l : fs.lookup m = none)
    (h : Q (.ref g, [.ref a]) s) : wpAny (model X.prog X.w) A (getMethod (.ref a) m pl) Q E s := by
  obtain ⟨mA, O, r, _, _, _⟩ := ins_get I.hok e
  have hn : mA m = none := RelO.none_of (by rw [← l]; exact r m)
  exact get_meth I.kIn O (c.get m) k.at_ k.fn hn h

theorem setattr_ok {y : V} {u : Value} {Q : Unit → Shared → Prop} (I : Inv X pins σ H s) (e : H a = some (.ins C dx fs)) (c : Cls X.K C) (n : NoAttr X.K C f) (hl : fs.length < 1000) (ry : RelV y u)
    (h : ∀ s', Inv X pins σ (upd H a (.ins C dx (putF f y fs))) s' → Q () s') : wpAny (model X.prog X.w) A (setAttr (.ref a) f u) Q E s := by
  obtain ⟨mA, O, r, wi, _, ho⟩ := ins_get I.hok e
  have hz : (fs.map (·.1)).length ≤ sizeLine := by rw [List.length_map, sizeLine_eq]; omega
  refine set_map I.kIn O c.sa c.po n.taker c.hd wi hz fun h' O' sb => h _ ?_
  have hd : ∃ o, h'.get? dx = some o := let ⟨o, _, _, e', _⟩ := O'.ns; ⟨o, e'⟩
  refine I.write (x := a) (e := dx) (by rw [e]; exact True.intro) (.inr ho) (fun b q hb z => (sb.2 b hb).trans z) hd ?_
  refine ⟨by rw [upd_ne O.ne]; exact ho, ?_, O.ne, O'.obj, _, O'.ns, fun g => ?_, fun g hg => ?_⟩
  · have := length_putF f y fs; omega
  · show RelO ((putF f y fs).lookup g) (if g = f then some u else mA g)
    rw [lookup_putF]
    by_cases q : g = f
    · rw [if_pos q, if_pos q]; exact ry
    · rw [if_neg q, if_neg q]; exact r g
  · by_cases q : g = f
    · rw [q]; exact (keys_putF f y fs).1
    · refine (keys_putF f y fs).2 g (wi g fun z => hg ?_)
      show (if g = f then some u else mA g) = none
      rw [if_neg q]; exact z

/-- a new instance, tracked, without attributes -/
theorem Inv.made (I : Inv X pins σ H s) : Inv X pins σ (upd (upd H s.heap.objs.size (.own (s.heap.objs.size + 1))) (s.heap.objs.size + 1) (.ins C s.heap.objs.size []))
    { s with heap := (s.heap.push PySem.W.emptyDict).push (PySem.W.instObj C s.heap.objs.size) } := by
  have e1 : (s.heap.push PySem.W.emptyDict).get? s.heap.objs.size = some PySem.W.emptyDict := Heap.get?_push_size s.heap rfl
  have e2 : ((s.heap.push PySem.W.emptyDict).push (PySem.W.instObj C s.heap.objs.size)).get? (s.heap.objs.size + 1) = some (PySem.W.instObj C s.heap.objs.size) := by
    have := Heap.get?_push_size (s.heap.push PySem.W.emptyDict) (o := PySem.W.instObj C s.heap.objs.size) rfl
    rwa [Heap.size_push] at this
  have e3 : (s.heap.push PySem.W.emptyDict).Ns s.heap.objs.size (fun _ => none) := ⟨PySem.W.emptyDict, #[], _, e1, rfl, (fun e he => absurd he (by simp)), fun _ => rfl⟩
  have I1 := I.laid (a := s.heap.objs.size) (o := .own (s.heap.objs.size + 1)) (h' := s.heap.push PySem.W.emptyDict) (t' := s.toks) (fun b u q => Heap.get?_push_of_some _ q) (Nat.le_refl _) ⟨_, e1⟩
  refine I1.laid (a := s.heap.objs.size + 1) (o := .ins C s.heap.objs.size []) (t' := s.toks) (fun b u q => Heap.get?_push_of_some _ q) (Nat.le_of_eq (Heap.size_push _ _)) ?_
  have ne : s.heap.objs.size ≠ s.heap.objs.size + 1 := Nat.ne_of_lt (Nat.lt_succ_self _)
  refine ⟨by rw [upd_ne ne, upd_same], Nat.zero_le _, ne, e2, fun _ => none, (Heap.Ns1.of_empty e3).at fun o q => Heap.get?_push_of_some _ q, fun _ => True.intro, fun y hy => absurd rfl hy⟩

/-- e.f where nothing but the object is asked: through attributeBase (super) and the last hold -/
theorem attr_of {prog : Program} {w : World} {env : Env} {e : Expr} {f : Str} {pos : Pos} {s : Shared} {Q : Value → Shared → Prop} (hb : attributeBase e f env (eval e env) = eval e env)
    (h : wpAny (model prog w) A (eval e env) (fun o s₁ => wpAny (model prog w) A (getAttr o f true) Q E s₁) E s) : wpAny (model prog w) A (eval (.Attribute e f pos) env) Q E s :=
  Attribute_any_ h (by rw [arm_eval_Attribute, hb])
end

/-! ### readings and rules -/
/-- e.f, an attribute of the instance -/
def tFld (K : PySem.W.Frag) (ta : TE) (f : Str) : TE := fun σ H Q => ta σ H fun x H1 => ∃ a C dx fs v, x = .ref a ∧ H1 a = some (.ins C dx fs) ∧ Cls K C ∧ NoAttr K C f ∧ fs.lookup f = some v ∧ Q v H1
/-- e.f, a constant of the class -/
def tCon (K : PySem.W.Frag) (ta : TE) (f : Str) : TE := fun σ H Q => ta σ H fun x H1 => ∃ a C dx fs v u, x = .ref a ∧ H1 a = some (.ins C dx fs) ∧ Cls K C ∧ Con K C f v u ∧ fs.lookup f = none ∧ Q v H1
/-- e.f = value -/
def sFld (K : PySem.W.Frag) (ta tv : TE) (f : Str) : TS := fun D σ H => tv σ H fun y H1 => ta σ H1 fun x H2 => ∃ a C dx fs, x = .ref a ∧ H2 a = some (.ins C dx fs) ∧ Cls K C ∧ NoAttr K C f ∧ fs.length < 1000 ∧
  D.nx σ (upd H2 a (.ins C dx (putF f y fs)))
/-- an augmented operator on two values -/
def InOp (X : Cx) (op : Operator) (rd : V → V → Hp → VK → Prop) : Prop :=
  ∀ (pins : List (Addr × Obj)) (s : Shared) (σ : St) (H : Hp) (x y : V) (u v : Value) (Q : VK), Inv X pins σ H s → RelV x u → RelV y v → rd x y H Q → wpAny (model X.prog X.w) X.A (inplaceOp op u v) (EP X pins σ Q) X.xe s
/-- e.f op= value -/
def sFldAug (K : PySem.W.Frag) (ta tv : TE) (rd : V → V → Hp → VK → Prop) (f : Str) : TS := fun D σ H => ta σ H fun x H1 => ∃ a C dx fs v, x = .ref a ∧ H1 a = some (.ins C dx fs) ∧ Cls K C ∧ NoAttr K C f ∧ fs.lookup f = some v ∧
  tv σ H1 fun y H2 => rd v y H2 fun z H3 => ∃ dx' fs', H3 a = some (.ins C dx' fs') ∧ fs'.length < 1000 ∧ D.nx σ (upd H3 a (.ins C dx' (putF f z fs')))

section
variable {X : Cx} {o e value : Expr} {f : Str} {pos pos' tpos : Pos} {ta tv : TE}
theorem pe_fld (he : PE X e ta) (hb : attributeBase e f X.env (eval e X.env) = eval e X.env) : PE X (.Attribute e f pos) (tFld X.K ta f) := by
  intro pins s σ H Q I h
  refine attr_of hb (thn (he pins s σ H _ I h) fun u s1 ⟨x, H1, I1, rx, a, C, dx, fs, v, ex, ea, c, n, l, q⟩ => ?_)
  subst ex
  obtain rfl : u = Value.ref a := rx
  exact getattr_ok I1 ea c n l fun u' s2 I2 ru => ⟨v, H1, I2, ru, q⟩
theorem pe_con (he : PE X e ta) (hb : attributeBase e f X.env (eval e X.env) = eval e X.env) : PE X (.Attribute e f pos) (tCon X.K ta f) := by
  intro pins s σ H Q I h
  refine attr_of hb (thn (he pins s σ H _ I h) fun u s1 ⟨x, H1, I1, rx, a, C, dx, fs, v, u0, ex, ea, c, k, l, q⟩ => ?_)
  subst ex
  obtain rfl : u = Value.ref a := rx
  exact getcon_ok I1 ea c k l fun s2 I2 => ⟨v, H1, I2, k.rel, q⟩
theorem ps_fld (ha : PE X o ta) (hv : PE X value tv) (hs : swapsWith value (some (.Attribute o f pos')) pos.line X.env = pure false) : PS X (.Assign [.Attribute o f pos'] value pos) (sFld X.K ta tv f) := by
  intro pins s σ H D I h
  refine plainObj_wpAny_Assign_Attribute (thn (hv pins s σ H _ I h) fun u s1 ⟨y, H1, I1, ry, q⟩ => thn (ha pins s1 σ H1 _ I1 q) fun ov s2 ⟨x, H2, I2, rx, a, C, dx, fs, ex, ea, c, n, l, q2⟩ => ?_) hs
  subst ex
  obtain rfl : ov = Value.ref a := rx
  exact setattr_ok I2 ea c n l ry fun s3 I3 => ⟨σ, _, I3, q2⟩
theorem ps_fldaug {op : Operator} {rd : V → V → Hp → VK → Prop} (ha : PE X o ta) (hv : PE X value tv) (hop : InOp X op rd) : PS X (.AugAssign (.Attribute o f tpos) op value pos) (sFldAug X.K ta tv rd f) := by
  intro pins s σ H D I h
  refine wpAny_AugAssign_AttributeAny (thn (ha pins s σ H _ I h) fun ov s1 ⟨x, H1, I1, rx, a, C, dx, fs, v, ex, ea, c, n, l, q⟩ => ?_)
  subst ex
  obtain rfl : ov = Value.ref a := rx
  refine getattr_ok I1 ea c n l fun u s2 I2 ru => thn (hv pins s2 σ H1 _ I2 q) fun w3 s3 ⟨y, H2, I3, ry, q3⟩ => thn (hop pins s3 σ H2 v y u w3 _ I3 ru ry q3) fun w4 s4 ⟨z, H3, I4, rz, dx', fs', ea', l', q4⟩ => ?_
  exact setattr_ok I4 ea' c n l' rz fun s5 I5 => ⟨σ, _, I5, q4⟩
def rAdd : V → V → Hp → VK → Prop := fun x y H Q => ∃ i j, x = .int i ∧ y = .int j ∧ Q (.int (i + j)) H
def rSub : V → V → Hp → VK → Prop := fun x y H Q => ∃ i j, x = .int i ∧ y = .int j ∧ Q (.int (i - j)) H
theorem in_add : InOp X .Add rAdd := by
  rintro pins s σ H x y u v Q I rx ry ⟨i, j, rfl, rfl, q⟩
  obtain ⟨t, rfl⟩ := (show ∃ t, u = Value.int i t from rx)
  obtain ⟨t', rfl⟩ := (show ∃ t', v = Value.int j t' from ry)
  exact PyProof.Rows.iadd_int ⟨.int (i + j), H, I.tok _, ⟨_, rfl⟩, q⟩
theorem in_sub : InOp X .Sub rSub := by
  rintro pins s σ H x y u v Q I rx ry ⟨i, j, rfl, rfl, q⟩
  obtain ⟨t, rfl⟩ := (show ∃ t, u = Value.int i t from rx)
  obtain ⟨t', rfl⟩ := (show ∃ t', v = Value.int j t' from ry)
  exact PyProof.Rows.isub_int ⟨.int (i - j), H, I.tok _, ⟨_, rfl⟩, q⟩

/-- what is between an instance and its method: the tree of a method call -/
theorem methcall_of {pl : Sem Bool} {m : Str} {apos : Pos} {args : List Expr} {pins : List (Addr × Obj)} {s : Shared} {σ : St} {H : Hp} {Q : Value → Shared → Prop} {te : TE} (he : PE X e te) (I : Inv X pins σ H s)
    (h : te σ H fun x H1 => ∃ a C dx fs g, x = .ref a ∧ H1 a = some (.ins C dx fs) ∧ Cls X.K C ∧ Meth X.K C m g ∧ fs.lookup m = none ∧
      ∀ s1, Inv X pins σ H1 s1 → wpAny (model X.prog X.w) X.A (callWith pos (.ref g) [.ref a] (backTo pos (starEach args X.env)) (backToKw pos (keywordEach [] X.env))) Q X.xe s1)
    (ht : eval (.Call (.Attribute e m apos) args [] pos) X.env = (do
      let ov ← eval e X.env
      standAt apos.atName
      let (f, first) ← holding [ov] (getMethod ov m pl)
      callWith pos f first (backTo pos (starEach args X.env)) (backToKw pos (keywordEach [] X.env)))) :
    wpAny (model X.prog X.w) X.A (eval (.Call (.Attribute e m apos) args [] pos) X.env) Q X.xe s := by
  refine PySem.W.methodCall_KW (pl := pl) (thn (he pins s σ H _ I h) fun u s1 ⟨x, H1, I1, rx, a, C, dx, fs, g, ex, ea, c, k, l, q⟩ => ?_) ht
  subst ex
  obtain rfl : u = Value.ref a := rx
  exact getmeth_ok I1 ea c k l (q s1 I1)
end

/-! ### isinstance -/
section
variable {X : Cx} {pins : List (Addr × Obj)} {σ : St} {H : Hp} {s : Shared} {A : Around} {E : Value → Shared → Prop} {Q : Value → Shared → Prop} {c : Value} {b : Bool}
/-- the type of a value, as the fragment's deciders take it; for an instance its class -/
inductive TyOf (K : PySem.W.Frag) (H : Hp) : V → Value → Prop where
  | non : TyOf K H .non (.type "NoneType")
  | bl (x : Bool) : TyOf K H (.bl x) (.type "bool")
  | int (i : Int) : TyOf K H (.int i) (.type "int")
  | str (x : Str) : TyOf K H (.str x) (.type "str")
  | flt (x : UInt64) : TyOf K H (.flt x) (.type "float")
  | lst {a : Addr} {xs : List V} (e : H a = some (.lst xs)) : TyOf K H (.ref a) (.type "list")
  | frz {a : Addr} {o : Obj} {xs : List V} (e : H a = some (.frz o (.lst xs))) : TyOf K H (.ref a) (.type "list")
  | tup {a : Addr} {xs : List V} (e : H a = some (.tup xs)) : TyOf K H (.ref a) (.type "tuple")
  | dK {a : Addr} {kvs : List (Key × V)} (e : H a = some (.dK kvs)) : TyOf K H (.ref a) (.type "dict")
  | dT {a : Addr} {kvs : List (List Key × V)} (e : H a = some (.dT kvs)) : TyOf K H (.ref a) (.type "dict")
  | ins {a C dx : Addr} {fs : List (Str × V)} (e : H a = some (.ins C dx fs)) (cl : Cls K C) (ha : PySem.W.findIn K (.ref C) "__class__" = some (some (.builtin "object.__class__")))
      (hn : PySem.W.specialIn K (.builtin "object.__class__") "__get__" = some (some (.builtin "getset_descriptor.__get__"))) (htk : PySem.W.takesIn K (.builtin "object.__class__") = some true)
      (hm : PySem.W.mroIn K C (.type "object") = some true) : TyOf K H (.ref a) (.ref C)
/-- isinstance(x, c) for one class c, a built-in or an own one: kitOne's answer -/
theorem isinst_ok {x : V} {u t : Value} (I : Inv X pins σ H s) (rx : RelV x u) (ty : TyOf X.K H x t) (e : PySem.W.kitOne X.K t c = some b) (h : ∀ tk, Q (.bool b) { s with toks := tk }) :
    wpAny (model X.prog X.w) A (call (.builtin "isinstance") [u, c]) Q E s := by
  cases ty with
  | non => cases (show u = Value.none from rx); exact PySem.W.kia_one PySem.W.kitx_none I.kIn True.intro e (fun z => nomatch z) h
  | bl y => cases (show u = Value.bool y from rx); exact PySem.W.kia_one PySem.W.kitx_bool I.kIn True.intro e (fun z => nomatch z) h
  | int i => obtain ⟨t, q⟩ := (show ∃ t, u = Value.int i t from rx); cases q; exact PySem.W.kia_one PySem.W.kitx_int I.kIn True.intro e (fun z => nomatch z) h
  | str y => obtain ⟨t, q⟩ := (show ∃ t, u = Value.str y t from rx); cases q; exact PySem.W.kia_one PySem.W.kitx_str I.kIn True.intro e (fun z => nomatch z) h
  | flt y => obtain ⟨t, q⟩ := (show ∃ t, u = Value.float y t from rx); cases q; exact PySem.W.kia_one PySem.W.kitx_float I.kIn True.intro e (fun z => nomatch z) h
  | @lst a xs ea =>
    cases (show u = Value.ref a from rx)
    obtain ⟨_, _, n, _, h1⟩ := (show ObjOk X.prog X.w H s.heap a (.lst xs) from I.hok a _ ea)
    exact PySem.W.kia_one PySem.W.kitx_list I.kIn ⟨_, h1, rfl⟩ e (fun z => nomatch z) h
  | @frz a ob xs ea =>
    cases (show u = Value.ref a from rx)
    obtain ⟨_, _, _, n, _, h1⟩ := (show ObjOk X.prog X.w H s.heap a (.frz ob (.lst xs)) from I.hok a _ ea)
    exact PySem.W.kia_one PySem.W.kitx_list I.kIn ⟨_, h1, rfl⟩ e (fun z => nomatch z) h
  | @tup a xs ea =>
    cases (show u = Value.ref a from rx)
    obtain ⟨_, _, _, p⟩ := (show ObjOk X.prog X.w H s.heap a (.tup xs) from I.hok a _ ea)
    obtain ⟨o, h1, h2, _⟩ := p
    exact PySem.W.kia_one PySem.W.kitx_tuple I.kIn ⟨o, h1, h2⟩ e (fun z => nomatch z) h
  | @dK a kvs ea =>
    cases (show u = Value.ref a from rx)
    obtain ⟨_, _, vs, _, p⟩ := (show ObjOk X.prog X.w H s.heap a (.dK kvs) from I.hok a _ ea)
    obtain ⟨o, es, ep, h1, h2, _⟩ := p
    exact PySem.W.kia_one PySem.W.kitx_dict I.kIn ⟨o, h1, h2.1⟩ e (fun z => nomatch z) h
  | @dT a kvs ea =>
    cases (show u = Value.ref a from rx)
    obtain ⟨_, _, xs, _, o, es, ep, h1, h2, _⟩ := (show ObjOk X.prog X.w H s.heap a (.dT kvs) from I.hok a _ ea)
    exact PySem.W.kia_one PySem.W.kitx_dict I.kIn ⟨o, h1, h2.1⟩ e (fun z => nomatch z) h
  | @ins a C dx fs ea cl ha hn htk hm =>
    cases (show u = Value.ref a from rx)
    obtain ⟨mA, O, _⟩ := ins_get I.hok ea
    obtain ⟨od, J, _⟩ := O.look
    exact PySem.W.kia_one (PySem.W.kitx_own (cl.get _) cl.hd ha hn htk hm) I.kIn J e (fun z => nomatch z) h
end
end L2

namespace L2
open PySem PySem.Spec PyProof.Rows

/-! ### room -/
structure Room (k : Nat) (A : Around) : Prop where
  hd : A.handled = none
  dp : A.depth + 3 * k + 5 < recursionLimit
  un : A.units + 16 * k + 200 < cLine
theorem Room.mono {j k : Nat} {A : Around} (r : Room k A) (h : j ≤ k) : Room j A := ⟨r.hd, by have := r.dp; omega, by have := r.un; omega⟩
theorem Room.deeper {k : Nat} {A : Around} (r : Room (k + 1) A) (env : Env) : Room k (A.deeper env) :=
  ⟨r.hd, by have := r.dp; show A.depth + 1 + 3 * k + 5 < _; omega, by have := r.un; show A.units + 3 + 16 * k + 200 < _; omega⟩
theorem Room.in1 {k : Nat} {A : Around} (r : Room (k + 1) A) : Room k A.in1 :=
  ⟨r.hd, by have := r.dp; show A.depth + 3 * k + 5 < _; omega, by have := r.un; show A.units + 1 + 16 * k + 200 < _; omega⟩
theorem make_depth {A : Around} {C : Addr} {us : List Value} {kw : List (Str × Value)} : (A.under (.builtin "type.__call__" ⟨.ref C :: us, kw⟩)).depth = A.depth + 1 := by
  first | rfl | simp [Around.under, Code.weight, Code.isCreation, Code.isGuard, Code.isCaller, Code.frames, Code.isFrame, guardIds]
theorem make_units {A : Around} {C : Addr} {us : List Value} {kw : List (Str × Value)} : (A.under (.builtin "type.__call__" ⟨.ref C :: us, kw⟩)).units = A.units + 1 := by
  first | rfl | simp [Around.under, Code.cUnits, Code.frames, Code.isFrame]
theorem Room.make {k : Nat} {A : Around} (r : Room (k + 1) A) (C : Addr) (us : List Value) (kw : List (Str × Value)) : Room k (A.under (.builtin "type.__call__" ⟨.ref C :: us, kw⟩)) :=
  ⟨r.hd, by have := r.dp; rw [make_depth]; omega, by have := r.un; rw [make_units]; omega⟩
theorem Room.depth {k : Nat} {A : Around} (r : Room k A) : A.depth < recursionLimit := by have := r.dp; omega
theorem Room.units {k : Nat} {A : Around} (r : Room k A) : A.units + 64 < cLine := by have := r.un; omega
theorem Room.units0 {k : Nat} {A : Around} (r : Room k A) : A.units < cLine := by have := r.un; omega

/-! ### argument lists and displays -/
def tNil : TA := fun _ H Q => Q [] H
def tCons (ta : TE) (tr : TA) : TA := fun σ H Q => ta σ H fun x H1 => tr σ H1 fun xs H2 => Q (x :: xs) H2
section
variable {X : Cx} {e : Expr} {es : List Expr} {te : TE} {t : TA} {pos : Pos}
theorem pa_nil : PA X [] tNil := fun _ _ _ _ H Q I h => Calls.spliced_nil ⟨[], H, I, .nil, h⟩
theorem pa_cons (ha : PE X e te) (hr : PA X es t) (hs : starEach (e :: es) X.env = (false, eval e X.env) :: starEach es X.env := by rfl) : PA X (e :: es) (tCons te t) := by
  intro pos pins s σ H Q I h
  rw [hs]
  show wpAny _ _ (spliced ((false, eval e X.env) :: backTo pos (starEach es X.env))) _ _ s
  refine Calls.spliced_cons (thn (ha pins s σ H _ I h) fun u s1 ⟨x, H1, I1, r1, q1⟩ => ?_)
  exact thn (hr pos pins s1 σ H1 _ I1 q1) fun us s2 ⟨xs, H2, I2, r2, q2⟩ => ⟨x :: xs, H2, I2, .cons r1 r2, q2⟩

/-- a tuple, a list of written items -/
def tTup (t : TA) : TE := fun σ H Q => t σ H fun xs H1 => xs.length ≤ sizeLine ∧ ∀ p, H1 p = none → Q (.ref p) (upd H1 p (.tup xs))
def tLst (t : TA) : TE := fun σ H Q => t σ H fun xs H1 => xs.length ≤ sizeLine ∧ ∀ p, H1 p = none → Q (.ref p) (upd H1 p (.lst xs))
theorem pe_tup {x1} (h : PA X es t) : PE X (.Tuple es x1 pos) (tTup t) := by
  intro pins s σ H Q I hq
  refine wpAny_Tuple_spliced (thn (h pos pins s σ H _ I hq) fun us s1 ⟨xs, H1, I1, r, z, q⟩ => ⟨by rw [← r.length]; exact z, ?_⟩)
  have hf : H1 s1.heap.objs.size = none := I1.hok.fresh (Nat.le_refl _)
  refine ⟨.ref s1.heap.objs.size, upd H1 s1.heap.objs.size (.tup xs), I1.laid (t' := s1.toks) (fun b u e => Heap.get?_push_of_some _ e) (Nat.le_refl _) ?_, rfl, q _ hf⟩
  exact ⟨z, us, r, ⟨_, Heap.get?_push_size _ rfl, rfl, _, rfl⟩⟩
theorem pe_lst (h : PA X es t) : PE X (.List es pos) (tLst t) := by
  intro pins s σ H Q I hq
  refine wpAny_List_spliced (thn (h pos pins s σ H _ I hq) fun us s1 ⟨xs, H1, I1, r, z, q⟩ => ⟨by rw [← r.length]; exact z, ?_⟩)
  have hf : H1 s1.heap.objs.size = none := I1.hok.fresh (Nat.le_refl _)
  refine ⟨.ref s1.heap.objs.size, upd H1 s1.heap.objs.size (.lst xs), I1.laid (t' := s1.toks) (fun b u e => Heap.get?_push_of_some _ e) (Nat.le_refl _) ?_, rfl, q _ hf⟩
  exact ⟨z, us, 0, r, Heap.get?_push_size _ rfl⟩
end

/-! ### what a def promises -/
/-- a def's promise: the bound arguments in the parameters' order, the heap, the wanted end, the wanted exception -/
abbrev Sp := List V → Hp → VK → XK → Prop
/-- how an exception lies behind a call (file 08 gives it): the callers' frames, abstract heap and state ahead of the call, the wish, the exception, the state -/
abbrev CXT := List Env → Hp → Shared → XK → Value → Shared → Prop

/-- the state at a call -/
structure Env0 (P : Program) (w : World) (K : PySem.W.Frag) (mg : Str → Option Value) (base : Heap) (A : Around) (outer : List Env) (s : Shared) (H : Hp) : Prop where
  frames : A.frames = some outer
  mod : Mod K mg base
  bs : ∀ b o, base.get? b = some o → s.heap.get? b = some o ∧ H b = none
  bsz : base.objs.size ≤ s.heap.objs.size
  funs : s.heap.FunFrames base outer
  frf : ∀ b ∈ frs outer, H b = none
  hok : HOk P w H s.heap
  bare : AllBare s.gens
/-- a call's end -/
def CE (outer : List Env) (P : Program) (w : World) (H : Hp) (s : Shared) (Q : VK) (u : Value) (s' : Shared) : Prop :=
  ∃ v H', s'.os = s.os ∧ AllBare s'.gens ∧ Un (frs outer) [] H H' s.heap s'.heap ∧ HOk P w H' s'.heap ∧ RelV v u ∧ Q v H'
def CR (CX : CXT) (outer : List Env) (P : Program) (w : World) (H : Hp) (s : Shared) (Q : VK) (E : XK) (r : Result) (s' : Shared) : Prop :=
  match r with
  | .ok (.ret u) => CE outer P w H s Q u s'
  | .ok _ => False
  | .error e => CX outer H s E e s'
structure FnOk (P : Program) (w : World) (K : PySem.W.Frag) (mg : Str → Option Value) (base : Heap) (CX : CXT) (k : Nat) (f : Addr) (fd : FuncData) (ps : List Str) (sp : Sp) : Prop where
  len : ∀ vs H Q E, sp vs H Q E → vs.length = ps.length
  run : ∀ (A : Around) (outer : List Env) (s : Shared) (H : Hp) (args : Args) (us : List Value) (vs : List V) (Q : VK) (E : XK), Room k A → Env0 P w K mg base A outer s H → BindsTo s fd args (ps.zip us) → Vals vs us → sp vs H Q E →
    codeAny (model P w) A (.call (.ref f) args) (CR CX outer P w H s Q E) s
theorem FnOk.mono {P : Program} {w : World} {K : PySem.W.Frag} {mg : Str → Option Value} {base : Heap} {CX : CXT} {j k : Nat} {f : Addr} {fd : FuncData} {ps : List Str} {sp : Sp} (F : FnOk P w K mg base CX j f fd ps sp) (h : j ≤ k) :
    FnOk P w K mg base CX k f fd ps sp := ⟨F.len, fun A outer s H args us vs Q E hr => F.run A outer s H args us vs Q E (hr.mono h)⟩
/-- a weaker promise -/
theorem FnOk.imp {P : Program} {w : World} {K : PySem.W.Frag} {mg : Str → Option Value} {base : Heap} {CX : CXT} {k : Nat} {f : Addr} {fd : FuncData} {ps : List Str} {sp sp' : Sp} (F : FnOk P w K mg base CX k f fd ps sp)
    (h : ∀ vs H Q E, sp' vs H Q E → sp vs H Q E) : FnOk P w K mg base CX k f fd ps sp' :=
  ⟨fun vs H Q E q => F.len vs H Q E (h _ _ _ _ q), fun A outer s H args us vs Q E hr he hb hv hs => F.run A outer s H args us vs Q E hr he hb hv (h _ _ _ _ hs)⟩

theorem Env0.make {P : Program} {w : World} {K : PySem.W.Frag} {mg : Str → Option Value} {base : Heap} {A : Around} {outer : List Env} {s : Shared} {H : Hp} (e : Env0 P w K mg base A outer s H) (C : Addr) (us : List Value) (kw : List (Str × Value)) :
    Env0 P w K mg base (A.under (.builtin "type.__call__" ⟨.ref C :: us, kw⟩)) outer s H := ⟨by first | exact e.frames | (simpa [Around.under, Code.envs, Code.isFrame, pushEnvs] using e.frames), e.mod, e.bs, e.bsz, e.funs, e.frf, e.hok, e.bare⟩
theorem Env0.in1 {P : Program} {w : World} {K : PySem.W.Frag} {mg : Str → Option Value} {base : Heap} {A : Around} {outer : List Env} {s : Shared} {H : Hp} (e : Env0 P w K mg base A outer s H) :
    Env0 P w K mg base A.in1 outer s H := ⟨e.frames, e.mod, e.bs, e.bsz, e.funs, e.frf, e.hok, e.bare⟩

section
variable {X : Cx} {pins : List (Addr × Obj)} {σ : St} {H : Hp} {s s' : Shared}
/-- from a body: what a callee wants -/
theorem Inv.env0 (I : Inv X pins σ H s) : Env0 X.prog X.w X.K X.mg X.base X.A X.stack s H :=
  ⟨I.ok.frames, I.ok.mod, I.bs, Nat.le_trans I.ok.bsz I.sz, I.stack, I.stkFree, I.hok, I.bare⟩
/-- behind a call -/
theorem Inv.after {Q : VK} {u : Value} (I : Inv X pins σ H s) (h : CE X.stack X.prog X.w H s Q u s') : EP X pins σ Q u s' := by
  obtain ⟨v, H', os, bare, un, hok, r, q⟩ := h
  obtain ⟨hh, g, d, t, os'⟩ := s'
  obtain rfl : os' = s.os := os
  exact ⟨v, H', I.call (h' := hh) (g' := g) (d' := d) (t' := t) (ch := []) un hok bare (fun b z => absurd z (by simp)), r, q⟩
end

/-! ### calls -/
/-- f(..): the written arguments, then the defaults dvs; E: what is wanted of an exception -/
def tCall (sp : Sp) (dvs : List V) (E : XK) (t : TA) : TE := fun σ H Q => t σ H fun vs H1 => sp (vs ++ dvs) H1 Q E
/-- o.m(..) of an instance of the class at C -/
def tMeth (C : Addr) (m : Str) (sp : Sp) (dvs : List V) (E : XK) (ta : TE) (t : TA) : TE := fun σ H Q => ta σ H fun x H1 => ∃ a dx fs, x = .ref a ∧ H1 a = some (.ins C dx fs) ∧ fs.lookup m = none ∧
  t σ H1 fun vs H2 => sp (x :: (vs ++ dvs)) H2 Q E
/-- C(..): a new instance and its dict, then __init__ -/
def tMake (C : Addr) (sp : Sp) (dvs : List V) (E : XK) (t : TA) : TE := fun σ H Q => t σ H fun vs H1 => ∀ x dx, H1 x = none → H1 dx = none → dx ≠ x →
  sp (.ref x :: (vs ++ dvs)) (upd (upd H1 dx (.own x)) x (.ins C dx [])) (fun v H2 => v = .non ∧ Q (.ref x) H2) E

/-- how the parameters are bound: us the positional arguments, kw the keywords' values by name, ds the defaults that fill up -/
def Binds (K : PySem.W.Frag) (fd : FuncData) (ps : List Str) (ds : List Value) : Prop :=
  ∀ (s : Shared) (us : List Value), K.In s.heap → (us ++ ds).length = ps.length → BindsTo s fd ⟨us, []⟩ (ps.zip (us ++ ds))
/-- every parameter is given -/
theorem Binds.all {K : PySem.W.Frag} {fd : FuncData} {ps : List Str} (h : ∀ us : List Value, us.length = ps.length → bindArgs fd ⟨us, []⟩ = pure (ps.zip us)) : Binds K fd ps [] := fun s us _ hl => by
  rw [List.append_nil] at hl ⊢
  exact .of_eq (h us hl)

/-- an exception of a callee reaches what this body wants of exceptions -/
def Passes (CX : CXT) (X : Cx) (E : XK) : Prop := ∀ (pins : List (Addr × Obj)) (σ : St) (H : Hp) (s : Shared) (e : Value) (s' : Shared), Inv X pins σ H s → CX X.stack H s E e s' → X.xe e s'

section
variable {X : Cx} {CX : CXT} {k : Nat} {f C : Addr} {fd : FuncData} {ps : List Str} {sp : Sp} {dvs : List V} {ds : List Value} {E : XK} {x m : Str} {p pos apos : Pos} {e o : Expr} {es : List Expr} {ta : TE} {t : TA}

/-- the callee runs -/
theorem run_fn {pins : List (Addr × Obj)} {σ : St} {H : Hp} {s : Shared} {Q : VK} {us : List Value} {vs : List V} (F : FnOk X.prog X.w X.K X.mg X.base CX k f fd ps sp) (hr : Room k X.A) (hb : Binds X.K fd ps ds) (hd : Vals dvs ds) (hx : Passes CX X E)
    (I : Inv X pins σ H s) (r : Vals vs us) (h : sp (vs ++ dvs) H Q E) : wpAny (model X.prog X.w) X.A (call (.ref f) us) (EP X pins σ Q) X.xe s := by
  have r2 : Vals (vs ++ dvs) (us ++ ds) := r.append hd
  have hl : (us ++ ds).length = ps.length := by rw [← r2.length]; exact F.len _ _ _ _ h
  refine wpAny_call (codeAny_mono (F.run X.A X.stack s H ⟨us, []⟩ (us ++ ds) (vs ++ dvs) Q E hr I.env0 (hb s us I.kIn hl) r2 h) fun r s' hq => ?_)
  cases r with
  | error e => exact hx pins σ H s e s' I hq
  | ok fl =>
    cases fl with
    | ret u => exact I.after hq
    | next => exact False.elim hq
    | brk => exact False.elim hq
    | cont => exact False.elim hq

theorem pe_call (F : FnOk X.prog X.w X.K X.mg X.base CX k f fd ps sp) (hr : Room k X.A) (hg : Gl X x) (hm : X.mg x = some (.ref f)) (hk : PySem.W.keepIn X.K (.ref f) = true) (hb : Binds X.K fd ps ds) (hd : Vals dvs ds) (hx : Passes CX X E)
    (ha : PA X (e :: es) t) (hdb : (x == ("__debug__" : Str)) = false := by decide) (he : starEach (e :: es) X.env = (false, eval e X.env) :: starEach es X.env := by rfl) (hpl : (backTo pos (starEach es X.env)).any (·.1) = false := by rfl) :
    PE X (.Call (.Name x p) (e :: es) [] pos) (tCall sp dvs E t) := by
  intro pins s σ H Q I h
  refine wpAny_Call_Name_kw (ld_glob I hg hm ?_ hdb)
  refine PySem.W.callWith_K (h₀ := X.base) I.ok.mod.kin hk (thn (ha pos pins s σ H _ I h) fun us s1 ⟨vs, H1, I1, r, q⟩ => ⟨I1.kIn, ?_⟩) he hpl
  exact run_fn F hr hb hd hx I1 r q
theorem pe_call0 (F : FnOk X.prog X.w X.K X.mg X.base CX k f fd ps sp) (hr : Room k X.A) (hg : Gl X x) (hm : X.mg x = some (.ref f)) (hk : PySem.W.keepIn X.K (.ref f) = true) (hb : Binds X.K fd ps ds) (hd : Vals dvs ds) (hx : Passes CX X E)
    (hdb : (x == ("__debug__" : Str)) = false := by decide) : PE X (.Call (.Name x p) [] [] pos) (tCall sp dvs E tNil) := by
  intro pins s σ H Q I h
  refine wpAny_Call_Name_kw (ld_glob I hg hm ?_ hdb)
  exact PySem.W.callWith_K0 I.kIn hk (run_fn (us := []) F hr hb hd hx I .nil h)

/-- o.m(e, ..) -/
theorem pe_meth {pl : Sem Bool} (he : PE X o ta) (c : Cls X.K C) (hm : Meth X.K C m f) (F : FnOk X.prog X.w X.K X.mg X.base CX k f fd ps sp) (hr : Room k X.A) (hb : Binds X.K fd ps ds) (hd : Vals dvs ds) (hx : Passes CX X E) (ha : PA X (e :: es) t)
    (hst : starEach (e :: es) X.env = (false, eval e X.env) :: starEach es X.env := by rfl) (hpl : (backTo pos (starEach es X.env)).any (·.1) = false := by rfl)
    (ht : eval (.Call (.Attribute o m apos) (e :: es) [] pos) X.env = (do
      let ov ← eval o X.env
      standAt apos.atName
      let (f, first) ← holding [ov] (getMethod ov m pl)
      callWith pos f first (backTo pos (starEach (e :: es) X.env)) (backToKw pos (keywordEach [] X.env))) := by rfl) :
    PE X (.Call (.Attribute o m apos) (e :: es) [] pos) (tMeth C m sp dvs E ta t) := by
  intro pins s σ H Q I h
  refine PySem.W.methodCall_KW (pl := pl) (thn (he pins s σ H _ I h) fun u s1 ⟨x, H1, I1, rx, a, dx, fs, ex, ea, l, q⟩ => ?_) ht
  subst ex
  obtain rfl : u = Value.ref a := rx
  refine getmeth_ok I1 ea c hm l ?_
  refine PySem.W.callWith_K (first := [.ref a]) (h₀ := X.base) I.ok.mod.kin hm.kp (thn (ha pos pins s1 σ H1 _ I1 q) fun us s2 ⟨vs, H2, I2, r, q2⟩ => ⟨I2.kIn, ?_⟩) hst hpl
  exact run_fn (us := .ref a :: us) (vs := .ref a :: vs) F hr hb hd hx I2 (.cons rfl r) q2
/-- o.m() -/
theorem pe_meth0 {pl : Sem Bool} (he : PE X o ta) (c : Cls X.K C) (hm : Meth X.K C m f) (F : FnOk X.prog X.w X.K X.mg X.base CX k f fd ps sp) (hr : Room k X.A) (hb : Binds X.K fd ps ds) (hd : Vals dvs ds) (hx : Passes CX X E)
    (ht : eval (.Call (.Attribute o m apos) [] [] pos) X.env = (do
      let ov ← eval o X.env
      standAt apos.atName
      let (f, first) ← holding [ov] (getMethod ov m pl)
      callWith pos f first (backTo pos (starEach [] X.env)) (backToKw pos (keywordEach [] X.env))) := by rfl) :
    PE X (.Call (.Attribute o m apos) [] [] pos) (tMeth C m sp dvs E ta tNil) := by
  intro pins s σ H Q I h
  refine PySem.W.methodCall_KW (pl := pl) (thn (he pins s σ H _ I h) fun u s1 ⟨x, H1, I1, rx, a, dx, fs, ex, ea, l, q⟩ => ?_) ht
  subst ex
  obtain rfl : u = Value.ref a := rx
  refine getmeth_ok I1 ea c hm l ?_
  exact PySem.W.callWith_K0 (first := [.ref a]) I1.kIn hm.kp (run_fn (us := [.ref a]) (vs := [.ref a]) F hr hb hd hx I1 (.cons rfl .nil) q)

/-- what a class must have to be made -/
structure Mk (K : PySem.W.Frag) (C f : Addr) : Prop where
  makes : PySem.W.makesIn K C = true
  init : PySem.W.findIn K (.ref C) "__init__" = some (some (.ref f))
  fn : PySem.W.isFn K (.ref f) = true
  kp : PySem.W.keepIn K (.ref C) = true

theorem run_make {pins : List (Addr × Obj)} {σ : St} {H : Hp} {s : Shared} {Q : VK} {us : List Value} {vs : List V} (M : Mk X.K C f) (F : FnOk X.prog X.w X.K X.mg X.base CX k f fd ps sp) (hr : Room (k + 1) X.A) (hb : Binds X.K fd ps ds) (hd : Vals dvs ds)
    (hx : Passes CX X E) (I : Inv X pins σ H s) (r : Vals vs us)
    (h : ∀ x dx, H x = none → H dx = none → dx ≠ x → sp (.ref x :: (vs ++ dvs)) (upd (upd H dx (.own x)) x (.ins C dx [])) (fun v H2 => v = .non ∧ Q (.ref x) H2) E) :
    wpAny (model X.prog X.w) X.A (call (.ref C) us) (EP X pins σ Q) X.xe s := by
  have hq := h (s.heap.objs.size + 1) s.heap.objs.size (I.hok.fresh (Nat.le_succ _)) (I.hok.fresh (Nat.le_refl _)) (Nat.ne_of_lt (Nat.lt_succ_self _))
  have I2 := Inv.made (C := C) I
  have r2 : Vals (V.ref (s.heap.objs.size + 1) :: (vs ++ dvs)) (Value.ref (s.heap.objs.size + 1) :: (us ++ ds)) := .cons rfl (r.append hd)
  have hl : (Value.ref (s.heap.objs.size + 1) :: us ++ ds).length = ps.length := by
    have e := r2.length
    rw [F.len _ _ _ _ hq] at e
    exact e.symm
  refine wpAny_call (make_map (f := f) I.kIn M.makes M.init (beq_iff_eq.mp M.fn) (codeAny_mono (F.run _ X.stack _ _ ⟨Value.ref (s.heap.objs.size + 1) :: us, []⟩ (Value.ref (s.heap.objs.size + 1) :: (us ++ ds)) _ _ E (hr.make C us [])
    (I2.env0.make C us []) (hb _ (Value.ref (s.heap.objs.size + 1) :: us) I2.kIn hl) r2 hq) fun r s' hq' => ?_))
  cases r with
  | error e => exact hx pins σ _ _ e s' I2 hq'
  | ok fl =>
    cases fl with
    | ret u =>
      obtain ⟨v, H', I3, rv, ev, q3⟩ := I2.after hq'
      subst ev
      exact ⟨rv, ⟨V.ref (s.heap.objs.size + 1), H', I3, rfl, q3⟩⟩
    | next => exact False.elim hq'
    | brk => exact False.elim hq'
    | cont => exact False.elim hq'
theorem pe_make (M : Mk X.K C f) (F : FnOk X.prog X.w X.K X.mg X.base CX k f fd ps sp) (hr : Room (k + 1) X.A) (hg : Gl X x) (hm : X.mg x = some (.ref C)) (hb : Binds X.K fd ps ds) (hd : Vals dvs ds) (hx : Passes CX X E)
    (ha : PA X (e :: es) t) (hdb : (x == ("__debug__" : Str)) = false := by decide) (he : starEach (e :: es) X.env = (false, eval e X.env) :: starEach es X.env := by rfl) (hpl : (backTo pos (starEach es X.env)).any (·.1) = false := by rfl) :
    PE X (.Call (.Name x p) (e :: es) [] pos) (tMake C sp dvs E t) := by
  intro pins s σ H Q I h
  refine wpAny_Call_Name_kw (ld_glob I hg hm ?_ hdb)
  refine PySem.W.callWith_K (h₀ := X.base) I.ok.mod.kin M.kp (thn (ha pos pins s σ H _ I h) fun us s1 ⟨vs, H1, I1, r, q⟩ => ⟨I1.kIn, ?_⟩) he hpl
  exact run_make M F hr hb hd hx I1 r q
theorem pe_make0 (M : Mk X.K C f) (F : FnOk X.prog X.w X.K X.mg X.base CX k f fd ps sp) (hr : Room (k + 1) X.A) (hg : Gl X x) (hm : X.mg x = some (.ref C)) (hb : Binds X.K fd ps ds) (hd : Vals dvs ds) (hx : Passes CX X E)
    (hdb : (x == ("__debug__" : Str)) = false := by decide) : PE X (.Call (.Name x p) [] [] pos) (tMake C sp dvs E tNil) := by
  intro pins s σ H Q I h
  refine wpAny_Call_Name_kw (ld_glob I hg hm ?_ hdb)
  exact PySem.W.callWith_K0 I.kIn M.kp (run_make (us := []) M F hr hb hd hx I .nil h)
end

/-! ### keywords -/
/-- the values of the keywords, from the left -/
def PK (X : Cx) (kws : List Keyword) (t : TA) : Prop :=
  ∀ (pos : Pos) (pins : List (Addr × Obj)) (s : Shared) (σ : St) (H : Hp) (Q : List V → Hp → Prop), Inv X pins σ H s → t σ H Q → wpAny (model X.prog X.w) X.A (evalAll ((backToKw pos (keywordEach kws X.env)).map (·.2))) (AP X pins σ Q) X.xe s
section
variable {X : Cx} {CX : CXT} {k : Nat} {f C : Addr} {fd : FuncData} {ps ks : List Str} {sp : Sp} {E : XK} {x m : Str} {p pos apos kpos : Pos} {e o : Expr} {es : List Expr} {kws : List Keyword} {te ta : TE} {t tk : TA} {nm : Option Str}
theorem pk_nil : PK X [] tNil := fun _ _ _ _ H Q I h => wpAny_evalAll_nil ⟨[], H, I, .nil, h⟩
theorem pk_cons (ha : PE X e te) (hr : PK X kws t) : PK X (⟨nm, e, kpos⟩ :: kws) (tCons te t) := by
  intro pos pins s σ H Q I h
  show wpAny _ _ (evalAll ((do let v ← eval e X.env; standAt pos; pure v) :: (backToKw pos (keywordEach kws X.env)).map (·.2))) _ _ s
  refine wpAny_evalAll_cons (wpAny_bind (thn (ha pins s σ H _ I h) fun u s1 ⟨x, H1, I1, r1, q1⟩ => wpAny_bind (wpAny_standAt (wpAny_pure ?_))))
  exact thn (hr pos pins s1 σ H1 _ I1 q1) fun us s2 ⟨xs, H2, I2, r2, q2⟩ => ⟨x :: xs, H2, I2, .cons r1 r2, q2⟩

/-- how a call with keywords binds: g puts the positional values us and the keywords' values ws (names ks) in the parameters' order, defaults among them -/
structure KBinds (K : PySem.W.Frag) (fd : FuncData) (ps ks : List Str) (g : List Value → List Value → List Value) (gV : List V → List V → List V) : Prop where
  to : ∀ (s : Shared) (us ws : List Value), K.In s.heap → (g us ws).length = ps.length → BindsTo s fd ⟨us, ks.zip ws⟩ (ps.zip (g us ws))
  rel : ∀ {vs : List V} {us : List Value} {zs : List V} {ws : List Value}, Vals vs us → Vals zs ws → Vals (gV vs zs) (g us ws)
def tCallK (sp : Sp) (gV : List V → List V → List V) (E : XK) (t tk : TA) : TE := fun σ H Q => t σ H fun vs H1 => tk σ H1 fun zs H2 => sp (gV vs zs) H2 Q E
variable {g : List Value → List Value → List Value} {gV : List V → List V → List V}
theorem run_fnk {pins : List (Addr × Obj)} {σ : St} {H : Hp} {s : Shared} {Q : VK} {us ws : List Value} {vs zs : List V} (F : FnOk X.prog X.w X.K X.mg X.base CX k f fd ps sp) (hr : Room k X.A) (hb : KBinds X.K fd ps ks g gV) (hx : Passes CX X E)
    (I : Inv X pins σ H s) (r : Vals vs us) (rz : Vals zs ws) (h : sp (gV vs zs) H Q E) : wpAny (model X.prog X.w) X.A (call (.ref f) us (ks.zip ws)) (EP X pins σ Q) X.xe s := by
  have r2 := hb.rel r rz
  have hl : (g us ws).length = ps.length := by rw [← r2.length]; exact F.len _ _ _ _ h
  refine wpAny_call (codeAny_mono (F.run X.A X.stack s H ⟨us, ks.zip ws⟩ (g us ws) (gV vs zs) Q E hr I.env0 (hb.to s us ws I.kIn hl) r2 h) fun r s' hq => ?_)
  cases r with
  | error e => exact hx pins σ H s e s' I hq
  | ok fl =>
    cases fl with
    | ret u => exact I.after hq
    | next => exact False.elim hq
    | brk => exact False.elim hq
    | cont => exact False.elim hq
/-- f(e, .., k = v, ..) -/
theorem pe_callK (F : FnOk X.prog X.w X.K X.mg X.base CX k f fd ps sp) (hr : Room k X.A) (hg : Gl X x) (hm : X.mg x = some (.ref f)) (hk : PySem.W.keepIn X.K (.ref f) = true) (hb : KBinds X.K fd ps ks g gV) (hx : Passes CX X E)
    (ha : PA X (e :: es) t) (hkw : PK X kws tk) (hall : (backToKw pos (keywordEach kws X.env)).all (·.1.isSome) = true := by rfl) (hks : (backToKw pos (keywordEach kws X.env)).filterMap (·.1) = ks := by rfl)
    (hdb : (x == ("__debug__" : Str)) = false := by decide) (he : starEach (e :: es) X.env = (false, eval e X.env) :: starEach es X.env := by rfl)
    (hpl : ((backTo pos (starEach (e :: es) X.env)).any (·.1) || (backToKw pos (keywordEach kws X.env)).any (·.1.isNone)) = false := by rfl) :
    PE X (.Call (.Name x p) (e :: es) kws pos) (tCallK sp gV E t tk) := by
  intro pins s σ H Q I h
  refine wpAny_Call_Name_kw (ld_glob I hg hm ?_ hdb)
  refine PySem.W.callWith_KW (h₀ := X.base) I.ok.mod.kin hk hall (thn (ha pos pins s σ H _ I h) fun us s1 ⟨vs, H1, I1, r, q⟩ => ?_) hpl he
  refine thn (hkw pos pins s1 σ H1 _ I1 q) fun ws s2 ⟨zs, H2, I2, rz, q2⟩ => ⟨I2.kIn, ?_⟩
  rw [hks]
  exact run_fnk F hr hb hx I2 r rz q2
end

/-! ### a def's body keeps its promise -/
/-- names: the parameters first -/
structure FnScope (N P : List Str) (sc : Scope) : Prop where
  kind : sc.kind = .function
  co : sc.isCoroutine = false
  gen : sc.isGenerator = false
  nd : N.Nodup
  pre : N.take P.length = P
  par : ∀ x ∈ P, sc.names.lookup x = some .local ∨ sc.names.lookup x = some .cell
  nofree : ∀ y ∈ sc.names, y.2 ≠ .free

theorem bindL_out {kindOf : Str → Option NameKind} {x : Str} : ∀ {binds : List (Str × Value)} {m : Str → Option Value}, (∀ v, (x, v) ∉ binds) → bindL kindOf binds m x = m x
  | [], _, _ => rfl
  | (n, v) :: r, m, h => by
    unfold bindL
    rw [bindL_out fun w hw => h w (List.mem_cons_of_mem _ hw)]
    split
    · have : x ≠ n := by rintro rfl; exact h v List.mem_cons_self
      simp [this]
    · rfl
theorem bindC_out {kindOf : Str → Option NameKind} {x : Str} : ∀ {binds : List (Str × Value)} {m : Str → Option Value}, (∀ v, (x, v) ∉ binds) → bindC kindOf binds m x = m x
  | [], _, _ => rfl
  | (n, v) :: r, m, h => by
    unfold bindC
    rw [bindC_out fun w hw => h w (List.mem_cons_of_mem _ hw)]
    split
    · rfl
    · have : x ≠ n := by rintro rfl; exact h v List.mem_cons_self
      simp [this]
theorem bindL_get {kindOf : Str → Option NameKind} {x : Str} {v : Value} : ∀ {P : List Str} {vs : List Value} {i : Nat} {m : Str → Option Value}, P.Nodup → P[i]? = some x → vs[i]? = some v → kindOf x = some .local →
    bindL kindOf (P.zip vs) m x = some v
  | [], _, _, _, _, h, _, _ => by simp at h
  | _ :: _, [], _, _, _, _, h, _ => by simp at h
  | p :: P, w :: vs, 0, m, nd, h1, h2, hk => by
    simp at h1 h2; subst h1; subst h2
    show bindL kindOf ((p, w) :: P.zip vs) m p = _
    unfold bindL
    rw [bindL_out fun v hv => (List.nodup_cons.mp nd).1 (List.of_mem_zip hv).1, if_pos hk]
    simp
  | p :: P, w :: vs, i + 1, m, nd, h1, h2, hk => by
    show bindL kindOf ((p, w) :: P.zip vs) m x = _
    unfold bindL
    exact bindL_get (i := i) (List.nodup_cons.mp nd).2 (by simpa using h1) (by simpa using h2) hk
theorem bindC_get {kindOf : Str → Option NameKind} {x : Str} {v : Value} : ∀ {P : List Str} {vs : List Value} {i : Nat} {m : Str → Option Value}, P.Nodup → P[i]? = some x → vs[i]? = some v → kindOf x ≠ some .local →
    bindC kindOf (P.zip vs) m x = some v
  | [], _, _, _, _, h, _, _ => by simp at h
  | _ :: _, [], _, _, _, _, h, _ => by simp at h
  | p :: P, w :: vs, 0, m, nd, h1, h2, hk => by
    simp at h1 h2; subst h1; subst h2
    show bindC kindOf ((p, w) :: P.zip vs) m p = _
    unfold bindC
    rw [bindC_out fun v hv => (List.nodup_cons.mp nd).1 (List.of_mem_zip hv).1, if_neg hk]
    simp
  | p :: P, w :: vs, i + 1, m, nd, h1, h2, hk => by
    show bindC kindOf ((p, w) :: P.zip vs) m x = _
    unfold bindC
    exact bindC_get (i := i) (List.nodup_cons.mp nd).2 (by simpa using h1) (by simpa using h2) hk

/-- the names' values at the entry -/
def start (N : List Str) (vs : List V) : St := vs.map some ++ List.replicate (N.length - vs.length) none

/-- the context of a def's body, at its entry; an exception leaves the frame, then lies as CX says -/
def cxOf (CX : CXT) (P : Program) (w : World) (K : PySem.W.Frag) (mg : Str → Option Value) (base : Heap) (N : List Str) (qual : Str) (scope : Scope) (f : Addr) (cd : Value) (A : Around) (outer : List Env) (s : Shared) (H : Hp) (E : XK) : Cx where
  prog := P
  w := w
  K := K
  mg := mg
  base := base
  A := A.deeper (envOfC qual scope s.heap.objs.size f cd)
  N := N
  s₀ := s
  H₀ := H
  env := envOfC qual scope s.heap.objs.size f cd
  outer := outer
  stack := envOfC qual scope s.heap.objs.size f cd :: outer
  ex := []
  calm := true
  fn := fun _ => true
  pn := []
  xe := fun e s' => wpAny (model P w) (A.deeper (envOfC qual scope s.heap.objs.size f cd)) (leaving (envOfC qual scope s.heap.objs.size f cd) e) (fun _ s'' => CX outer H s E e s'') (fun e' s'' => CX outer H s E e' s'') s'

theorem cell_has {sc : Scope} {n : Nat} {x : Str} (h : sc.names.lookup x = some .cell) : ∃ c, (cellsFrom n sc.names []).lookup x = some c := by
  have q := PySem.W.cellsFrom_some sc.names n [] (.inl h)
  exact Option.isSome_iff_exists.mp q

theorem inv_start {CX : CXT} {P : Program} {w : World} {K : PySem.W.Frag} {mg : Str → Option Value} {base : Heap} {N ps : List Str} {qual : Str} {scope : Scope} {f : Addr} {cd : Value} {A : Around} {outer : List Env} {s s1 : Shared} {H : Hp} {E : XK} {us : List Value} {vs : List V}
    (S : FnScope N ps scope) (hd : A.handled = none) (e0 : Env0 P w K mg base A outer s H) (hl : vs.length = ps.length) (r : Vals vs us)
    (x : InCallC s s.heap.objs.size (bindL (envOfC qual scope s.heap.objs.size f cd).kindOf (ps.zip us) fun _ => none) (cellsFrom (s.heap.objs.size + 1) scope.names []) (bindC (envOfC qual scope s.heap.objs.size f cd).kindOf (ps.zip us) fun _ => none) s1) :
    Inv (cxOf CX P w K mg base N qual scope f cd A outer s H E) [] (start N vs) H s1 := by
  have hpl : ps.length ≤ N.length := by have := congrArg List.length S.pre; rw [List.length_take] at this; omega
  obtain ⟨h1, tk, rfl, hk⟩ := x.done
  have noA : ∀ b : Addr, b ∉ (cxOf CX P w K mg base N qual scope f cd A outer s H E).ex := fun b z => absurd (show b ∈ ([] : List Addr) from z) (by simp)
  refine ⟨⟨e0.mod, S.kind, rfl, rfl, Nat.le_refl _, fun y z c h1 h2 => ?_, fun y hy => ?_, fun y c _ h => ?_, fun _ => hd, Around.frames_deeper e0.frames, .inr ⟨rfl, rfl⟩, fun b z => absurd z (noA b), e0.bs, e0.bsz, fun b _ _ => noA b, fun b z => absurd z (noA b), e0.funs, e0.frf⟩,
    rfl, e0.bare, Un.kept hk, ⟨_, x.toInCall.ns, fun i y v h1 h2 h3 => ?_⟩, fun y c h => ⟨_, x.cell y c h⟩, e0.hok.fresh (Nat.le_refl _), fun y c h => ?_, fun p hp => absurd (show p ∈ ([] : List (Addr × Obj)) from hp) (by simp), e0.hok.kept hk, ?_⟩
  · exact name_of_addr x.apart (PySem.mem_of_lookup h1) (PySem.mem_of_lookup h2)
  · have hy : scope.names.lookup y = some .cell ∨ scope.names.lookup y = some .free := hy
    rcases hy with hy | hy
    · exact cell_has hy
    · exact absurd rfl (S.nofree _ (PySem.mem_of_lookup hy))
  · exact Nat.le_of_lt (x.above y c (PySem.mem_of_lookup h))
  · have hi : i < vs.length := by
      unfold start at h2
      by_cases hi : i < vs.length
      · exact hi
      · rw [List.getElem?_append_right (by simpa using hi)] at h2
        rw [List.getElem?_replicate] at h2
        split at h2 <;> cases h2
    have ha : vs[i]? = some v := by
      unfold start at h2
      rw [List.getElem?_append_left (by simpa using hi), List.getElem?_map] at h2
      cases e : vs[i]? with
      | none => rw [e] at h2; cases h2
      | some a => rw [e] at h2; cases h2; rfl
    obtain ⟨u, hu, rv⟩ := r.get ha
    have hp : ps[i]? = some y := by
      rw [← S.pre, List.getElem?_take_of_lt (by omega)]; exact h1
    have ndP : ps.Nodup := by rw [← S.pre]; exact S.nd.sublist (List.take_sublist _ _)
    refine ⟨u, rv, ?_⟩
    rcases S.par y (List.mem_of_getElem? hp) with k | k
    · exact .inl ⟨k, bindL_get ndP hp hu k⟩
    · obtain ⟨c, e⟩ := cell_has (n := s.heap.objs.size + 1) k
      refine .inr ⟨.inl k, c, e, ?_⟩
      have q := x.cell y c e
      rw [bindC_get ndP hp hu (by show scope.names.lookup y ≠ _; rw [k]; decide)] at q
      exact q
  · exact e0.hok.fresh (Nat.le_of_lt (x.above y c (PySem.mem_of_lookup h)))
  · unfold start
    show _ = N.length
    rw [List.length_append, List.length_map, List.length_replicate]
    omega

/-- THE RULE: a def (or a method) of the text, by its body. The body's reading t is chosen for each entry; it is run at the parameters' values -/
theorem fn_of {CX : CXT} {P : Program} {w : World} {K : PySem.W.Frag} {mg : Str → Option Value} {base : Heap} {k : Nat} {f : Addr} {name qual : Str} {params : Arguments} {body : List Stmt} {scope : Scope} {dV kV doc pm cdv ct oc : Value} {an od : Option Addr}
    {osl : Array (Option Value)} {N ps : List Str} {sp : Sp} (lk : K.lookup f = some ⟨oc, od, .func (PySem.W.fnOf name qual params body scope dV kV doc pm an cdv ct), osl⟩) (hcd : PySem.W.codeIn K cdv qual = true) (S : FnScope N ps scope)
    (len : ∀ vs H Q E, sp vs H Q E → vs.length = ps.length)
    (hbody : ∀ (A : Around) (outer : List Env) (s : Shared) (H : Hp) (vs : List V) (Q : VK) (E : XK), Room k (A.deeper (envOfC qual scope s.heap.objs.size f cdv)) → sp vs H Q E →
      ∃ t, PSs (cxOf CX P w K mg base N qual scope f cdv A outer s H E) body t ∧ t { nx := fun _ H' => Q .non H', rt := Q } (start N vs) H) :
    FnOk P w K mg base CX (k + 1) f (PySem.W.fnOf name qual params body scope dV kV doc pm an cdv ct) ps sp := by
  refine ⟨len, fun A outer s H args us vs Q E hr e0 hb r hsp => ?_⟩
  have hl := len _ _ _ _ hsp
  have KX : K.In s.heap := e0.mod.kin.keeps fun b o e => (e0.bs b o e).1
  have lim : s.heap.NoLimit := e0.mod.nolimit.keeps fun b o e => (e0.bs b o e).1
  have hkind : ∀ y ∈ ps.zip us, scope.names.lookup y.1 = some .local ∨ (scope.names.lookup y.1 = some .cell ∧ ((cellsFrom (s.heap.objs.size + 1) scope.names []).lookup y.1).isSome = true) := fun ⟨n, v⟩ hy => by
    rcases S.par n (List.of_mem_zip hy).1 with q | q
    · exact .inl q
    · exact .inr ⟨q, PySem.W.cellsFrom_some _ _ _ (.inl q)⟩
  refine codeAny_call_function hr.depth (KX _ _ lk) rfl S.co S.gen rfl (PySem.W.codeRec_of KX hcd) (hb _ _ _ _ ?_)
  refine wpAny_newFunctionEnv_cells S.kind hkind fun env he s1 x => ?_
  subst he
  refine ⟨lim.keeps x.toInCall.keep, codeAny_func ?_⟩
  obtain ⟨t, ht, hq⟩ := hbody A outer s H vs Q E (hr.deeper _) hsp
  have I : Inv (cxOf CX P w K mg base N qual scope f cdv A outer s H E) [] (start N vs) H s1 := inv_start S hr.hd e0 hl r x
  refine wpAny_mono (ht [] s1 (start N vs) H _ I hq) (fun fl s' hs => ?_) fun e s' hs => hs
  have fin : ∀ {σ' : St} {H' : Hp} {v : V} {u : Value}, Inv (cxOf CX P w K mg base N qual scope f cdv A outer s H E) [] σ' H' s' → RelV v u → Q v H' → CE outer P w H s Q u s' :=
    fun {σ' H' v u} J rv q => ⟨v, H', J.os, J.bare, J.base, J.hok, rv, q⟩
  cases fl with
  | ret u =>
    obtain ⟨v, σ', H', J, rv, q⟩ := hs
    exact fin J rv q
  | next =>
    obtain ⟨σ', H', J, q⟩ := hs
    exact fin (v := V.non) (u := Value.none) J rfl q
  | brk =>
    obtain ⟨_, _, _, q⟩ := hs
    exact False.elim q
  | cont =>
    obtain ⟨_, _, _, q⟩ := hs
    exact False.elim q
end L2

namespace L2
open PySem PySem.Spec PyProof.Rows
section
variable {X : Cx} {x : Str} {p pos : Pos} {e : Expr} {es : List Expr} {t : TA} {id T : String} {r : List V → Hp → VK → Prop}

def tCB (r : List V → Hp → VK → Prop) (t : TA) : TE := fun σ H Q => t σ H fun vs H1 => r vs H1 Q
/-- f(e, ..), f a built-in function -/
theorem pe_callB (hc : CallR X (.builtin id) r) (hg : Gl X x) (hm : X.mg x = none) (hv : bootBuiltins x = some (.builtin id)) (ha : PA X (e :: es) t) (hn : x ≠ "__name__" := by decide) (hdb : (x == ("__debug__" : Str)) = false := by decide)
    (he : starEach (e :: es) X.env = (false, eval e X.env) :: starEach es X.env := by rfl) (hpl : (backTo pos (starEach es X.env)).any (·.1) = false := by rfl) : PE X (.Call (.Name x p) (e :: es) [] pos) (tCB r t) := by
  intro pins s σ H Q I h
  refine wpAny_Call_Name_kw (ld_blt I hg hm hv ?_ hn hdb)
  exact PyProof.Rows.callWith_builtin1 (thn (ha pos pins s σ H _ I h) fun us s1 ⟨vs, H1, I1, r1, q1⟩ => hc pins s1 σ H1 vs us Q I1 r1 q1) he hpl
/-- T(e, ..), T a built-in type -/
theorem pe_callTy (hc : CallR X (.type T) r) (hg : Gl X x) (hm : X.mg x = none) (hv : bootBuiltins x = some (.type T)) (ha : PA X (e :: es) t) (hn : x ≠ "__name__" := by decide) (hdb : (x == ("__debug__" : Str)) = false := by decide)
    (he : starEach (e :: es) X.env = (false, eval e X.env) :: starEach es X.env := by rfl) (hpl : (backTo pos (starEach es X.env)).any (·.1) = false := by rfl) : PE X (.Call (.Name x p) (e :: es) [] pos) (tCB r t) := by
  intro pins s σ H Q I h
  refine wpAny_Call_Name_kw (ld_blt I hg hm hv ?_ hn hdb)
  exact PyProof.Rows.callWith_type1 (thn (ha pos pins s σ H _ I h) fun us s1 ⟨vs, H1, I1, r1, q1⟩ => hc pins s1 σ H1 vs us Q I1 r1 q1) he hpl
/-- T() -/
theorem pe_callTy0 (hc : CallR X (.type T) r) (hg : Gl X x) (hm : X.mg x = none) (hv : bootBuiltins x = some (.type T)) (hn : x ≠ "__name__" := by decide) (hdb : (x == ("__debug__" : Str)) = false := by decide) :
    PE X (.Call (.Name x p) [] [] pos) (tCB r tNil) := by
  intro pins s σ H Q I h
  refine wpAny_Call_Name_kw (ld_blt I hg hm hv ?_ hn hdb)
  exact PyProof.Rows.callWith_type0 (hc pins s σ H [] [] Q I .nil h)
end
end L2

namespace HT
open PySem PyProof.Rows

/-- t < u of tuples of ints -/
def lexLt : List Int → List Int → Bool
  | [], [] => false
  | [], _ :: _ => true
  | _ :: _, [] => false
  | x :: xs, y :: ys => if x = y then lexLt xs ys else decide (x < y)
theorem lexLt_cons (x y : Int) (xs ys : List Int) : lexLt (x :: xs) (y :: ys) = if x = y then lexLt xs ys else decide (x < y) := rfl
theorem lexLt_nil_nil : lexLt [] [] = false := rfl
theorem lexLt_nil_cons (y : Int) (ys : List Int) : lexLt [] (y :: ys) = true := rfl
theorem lexLt_cons_nil (x : Int) (xs : List Int) : lexLt (x :: xs) [] = false := rfl

theorem eqAt_int (A : Around) (s : Shared) (a : Int) (t : Tok) (c : Int) (u : Tok) : ∃ e, SeqAt.EqAt A s (.int a t) (.int c u) e ∧ (e = true ↔ a = c) :=
  ⟨(a == c), SeqAt.EqAt.int_int a t c u, by simp⟩
theorem rcLt_int (A : Around) (s : Shared) (a : Int) (t : Tok) (c : Int) (u : Tok) (prog : Program) (w : World) (E : Value → Shared → Prop) (Q : Value → Shared → Prop) (h : Q (.bool (decide (a < c))) s) :
    wpAny (model prog w) A (richCompare .Lt (.int a t) (.int c u)) Q E s :=
  (PyProof.Rows.lt_int h : wpAny (model prog w) A (compareOp .Lt (.int a t) (.int c u)) Q E s)

section
open PySem.SeqAt
open PySem.AutoSeq1 (wpAny_loadPart')
open PySem.MeetsSeq PySem.MeetsSeq2 PySem.MeetsSeq3

theorem tuple_lt_ints (l b : Addr) (items items2 : Array Value) (n n2 : Nat) (dd dd2 : Option Addr) (sl sl2 : Array (Option Value)) (ns ms : List Int) (hi : IntsAre items.toList ns) (hj : IntsAre items2.toList ms) :
    Meets (Builtin.«tuple.__lt__» ⟨[.ref l, .ref b], []⟩)
      (fun _ R s => s.heap.get? l = some { cls := .type "tuple", dict := dd, data := .seq items n, slots := sl } ∧ s.heap.get? b = some { cls := .type "tuple", dict := dd2, data := .seq items2 n2, slots := sl2 } ∧
        R (.ok (.ret (.bool (lexLt ns ms)))) s) :=
  .of_wp fun prog w A R s h => by
    obtain ⟨hp, g, d, tk, os⟩ := s; obtain ⟨hl, hb, h⟩ := h
    have f2 := AutoSeq1.sub_tuple_tuple
    have z1 : items.size = ns.length := by rw [← hi.length]; simp
    have z2 : items2.size = ms.length := by rw [← hj.length]; simp
    wp_walk using wpAny_loadPart' hl, wpAny_loadPart' hb, wpAny_forIn_list _ (fun rest b s' => b.1 = none ∧ s' = ⟨hp, g, d, tk, os⟩ ∧ ∃ (vs ws : List Value) (ns' ms' : List Int), rest = vs.zip ws ∧
      IntsAre vs ns' ∧ IntsAre ws ms' ∧ ns'.length + items2.size = ms'.length + items.size ∧ R (.ok (.ret (.bool (lexLt ns' ms')))) ⟨hp, g, d, tk, os⟩) _
    case turn =>
      rintro ⟨y, x⟩ rest b s' ⟨hb', rfl, vs, ws, ns', ms', hz, hvi, hwi, hlen, hR⟩
      cases hvi with
      | nil => rw [List.zip_nil_left] at hz; cases hz
      | cons a t hvi' =>
        cases hwi with
        | nil => rw [List.zip_nil_right] at hz; cases hz
        | cons c u hwi' =>
          rw [List.zip_cons_cons] at hz
          injection hz with hyx hrest
          injection hyx with hy hx
          subst hy hx
          rw [lexLt_cons] at hR
          simp only [List.length_cons] at hlen
          obtain ⟨e, he, hiff⟩ := eqAt_int A.in1 ⟨hp, g, d, tk, os⟩ a t c u
          refine wpAny_bind (he prog w _ _ ?_)
          cases e with
          | true =>
            rw [if_pos (hiff.mp rfl)] at hR
            wp_walk
            exact ⟨rfl, rfl, _, _, _, _, hrest, hvi', hwi', by omega, hR⟩
          | false =>
            rw [if_neg (fun q => absurd (hiff.mpr q) Bool.false_ne_true)] at hR
            have hri := rcLt_int A.in1 ⟨hp, g, d, tk, os⟩ a t c u prog w
            wp_walk using hri
            exact ⟨_, rfl, by simpa using hR⟩
    case fin =>
      rintro ⟨b1, b2⟩ s' ⟨hb', rfl, vs, ws, ns', ms', hz, hvi, hwi, hlen, hR⟩
      simp only at hb'
      subst hb'
      have hv : lexLt ns' ms' = decide (items.size < items2.size) := by
        cases hvi with
        | nil =>
          cases hwi with
          | nil =>
            simp only [List.length_nil] at hlen
            rw [lexLt_nil_nil]
            exact (decide_eq_false (by omega)).symm
          | cons c u hw =>
            simp only [List.length_nil, List.length_cons] at hlen
            rw [lexLt_nil_cons]
            exact (decide_eq_true (by omega)).symm
        | cons a t hv =>
          cases hwi with
          | nil =>
            simp only [List.length_nil, List.length_cons] at hlen
            rw [lexLt_cons_nil]
            exact (decide_eq_false (by omega)).symm
          | cons c u hw =>
            rw [List.zip_cons_cons] at hz
            cases hz
      rw [hv] at hR
      wp_walk
      exact ⟨_, rfl, by simpa [Builtin.Tuple.tupleCompareSizes] using hR⟩
    case h =>
      exact ⟨rfl, rfl, items.toList, items2.toList, ns, ms, rfl, hi, hj, by omega, h⟩
end

section
variable {prog : Program} {w : World} {A : Around} {E : Value → Shared → Prop} {s : Shared}

theorem lt_tupInts {l b : Addr} {items items2 : Array Value} {ns ms : List Int} {Q : Value → Shared → Prop} (hl : IsTup s.heap l items) (hb : IsTup s.heap b items2) (hi : IntsAre items.toList ns) (hj : IntsAre items2.toList ms)
    (hu : A.units < cLine) (h : Q (.bool (lexLt ns ms)) s) : wpAny (model prog w) A (compareOp .Lt (.ref l) (.ref b)) Q E s := by
  obtain ⟨⟨cls, dd, data, sl⟩, ho, hc, n, hd⟩ := id hl
  obtain ⟨⟨cls2, dd2, data2, sl2⟩, ho2, hc2, n2, hd2⟩ := id hb
  simp only at hc hd hc2 hd2
  subst hc hd hc2 hd2
  exact richCompare_meets_room (op := .Lt) ⟨_, ho, rfl⟩ ⟨_, ho2, rfl⟩ PySem.F.slot_tuple_lt PySem.F.entry_tuple_lt (PySem.F.args_tuple_lt_2 _ _) (tuple_lt_ints l b items items2 n n2 dd dd2 sl sl2 ns ms hi hj)
    ⟨ho, ho2, show Value.bool (lexLt ns ms) ≠ Value.notImplemented ∧ Q (.bool (lexLt ns ms)) s from ⟨(fun x => nomatch x), h⟩⟩ hu

/-- t + u, t not empty -/
theorem cat_tup {t b : Addr} {vs ws : List Value} {Q : Value → Shared → Prop} (ht : IsTup s.heap t vs.toArray) (hb : IsTup s.heap b ws.toArray) (hv : vs ≠ [])
    (h1 : ws = [] → Q (.ref t) s) (h2 : ws ≠ [] → Q (.ref s.heap.objs.size) { s with heap := s.heap.push { cls := .type "tuple", data := .seq (vs ++ ws).toArray } })
    (hsz : vs.length + ws.length ≤ sizeLine) : wpAny (model prog w) A (binaryOp .Add (.ref t) (.ref b)) Q E s := by
  obtain ⟨⟨cls, dd, data, sl⟩, ho, hc, n, hd⟩ := id ht
  obtain ⟨⟨cls2, dd2, data2, sl2⟩, ho2, hc2, n2, hd2⟩ := id hb
  simp only at hc hd hc2 hd2
  subst hc hd hc2 hd2
  have e : vs.toArray ++ ws.toArray = (vs ++ ws).toArray := by simp
  by_cases hw : ws = []
  · exact concat_meets ⟨_, ho, rfl⟩ ⟨_, ho2, rfl⟩ noFill_tuple_add seq_tuple_add PySem.F.slot_tuple_add PySem.F.entry_tuple_add (PySem.F.args_tuple_add_2 _ _)
      (tuple_addW1 t b vs.toArray ws.toArray n n2 dd dd2 sl sl2 (by simpa using hv) (by simp [hw])) ⟨ho, ho2, h1 hw⟩
  · refine concat_meets ⟨_, ho, rfl⟩ ⟨_, ho2, rfl⟩ noFill_tuple_add seq_tuple_add PySem.F.slot_tuple_add PySem.F.entry_tuple_add (PySem.F.args_tuple_add_2 _ _)
      (tuple_addW2 t b vs.toArray ws.toArray n n2 dd dd2 sl sl2 (by simpa using hv) (by simpa using hw) (by rw [List.size_toArray, List.size_toArray]; exact hsz)) ⟨ho, ho2, ?_⟩
    rw [e]
    exact h2 hw

/-! ### t[a:b], not the whole -/
/-- a slice's bound as a place among n (d where it is left out) -/
def sIx (n d : Nat) : Option Int → Nat
  | none => d
  | some v => if v < 0 then (v + (n : Int)).toNat else min v.toNat n
theorem sIx_none (n d : Nat) : sIx n d none = d := rfl
theorem sIx_nat (n d k : Nat) : sIx n d (some (k : Int)) = min k n := by
  show (if (k : Int) < 0 then ((k : Int) + (n : Int)).toNat else min (k : Int).toNat n) = min k n
  rw [if_neg (by omega), Int.toNat_natCast]
theorem sIx_le (n d : Nat) (hd : d ≤ n) (o : Option Int) : sIx n d o ≤ n := by
  cases o with
  | none => exact hd
  | some v =>
    show (if v < 0 then (v + (n : Int)).toNat else min v.toNat n) ≤ n
    by_cases hv : v < 0
    · rw [if_pos hv]; omega
    · rw [if_neg hv]; exact Nat.min_le_right _ _
theorem clip_eq (v : Int) (n d : Nat) : (if v < 0 then max (v + (n : Int)) 0 else min v (n : Int)) = ((sIx n d (some v) : Nat) : Int) := by
  show (if v < 0 then max (v + (n : Int)) 0 else min v (n : Int)) = (((if v < 0 then (v + (n : Int)).toNat else min v.toNat n) : Nat) : Int)
  by_cases hv : v < 0
  · simp only [if_pos hv]; omega
  · simp only [if_neg hv]; omega
theorem adjust_gen (lo hi : Option Int) (n : Nat) : Builtin.Slice.sliceAdjust lo hi 1 (n : Int) = (((sIx n 0 lo : Nat) : Int), ((sIx n n hi : Nat) : Int)) := by
  have h1 : ¬ ((1 : Int) < 0) := by omega
  unfold Builtin.Slice.sliceAdjust
  simp only [h1, if_false]
  refine Prod.ext ?_ ?_
  · cases lo with
    | none => rfl
    | some v => exact clip_eq v n 0
  · cases hi with
    | none => rfl
    | some v => exact clip_eq v n n
theorem places_gen (i j : Nat) : Builtin.Slice.slicePlaces (i : Int) (j : Int) 1 = j - i := by
  unfold Builtin.Slice.slicePlaces
  have h1 : (1 : Int) > 0 := by omega
  simp only [h1, if_true, Int.ediv_one]
  split <;> omega
theorem slicePart_ {v : Value} {o : Option Int} {Q : Option Int → Shared → Prop} (p : IsPart v o) (h : Q o s) : wpAny (model prog w) A (Builtin.Slice.slicePartIndex v) Q E s := by
  cases p with
  | none => exact slicePart_none h
  | int i t => exact slicePart_int h
theorem sliceApplied_gen {sl : Addr} {vl vu : Value} {lo hi : Option Int} {n : Nat} {Q : Int × Int × Nat → Shared → Prop} (hs : s.heap.IsSliceOf sl vl vu .none) (pl : IsPart vl lo) (pu : IsPart vu hi)
    (h : Q (((sIx n 0 lo : Nat) : Int), 1, sIx n n hi - sIx n 0 lo) s) : wpAny (model prog w) A (Builtin.Slice.sliceApplied (.ref sl) (pure (n : Int))) Q E s := by
  obtain ⟨os, hos, hcs, hds⟩ := id hs
  unfold Builtin.Slice.sliceApplied Builtin.Slice.sliceFields
  refine wpAny_bind (wpAny_bind (wpAny_field hos hds (x := vl) rfl (wpAny_bind (wpAny_field hos hds (x := vu) rfl (wpAny_bind (wpAny_field hos hds (x := .none) rfl (wpAny_pure ?_)))))))
  refine wpAny_bind (slicePart_none ?_)
  show wpAny _ _ (if ((1 : Int) == 0) = true then _ else _) _ _ s
  rw [if_neg (by decide)]
  refine wpAny_bind (slicePart_ pl (wpAny_bind (slicePart_ pu (wpAny_bind (wpAny_pure ?_)))))
  show wpAny _ _ (match Builtin.Slice.sliceAdjust lo hi 1 (n : Int) with | (lo, hi) => pure (lo, (1 : Int), Builtin.Slice.slicePlaces lo hi 1)) _ _ s
  rw [adjust_gen lo hi n]
  show wpAny _ _ (pure (((sIx n 0 lo : Nat) : Int), (1 : Int), Builtin.Slice.slicePlaces ((sIx n 0 lo : Nat) : Int) ((sIx n n hi : Nat) : Int) 1)) _ _ s
  rw [places_gen]
  exact wpAny_pure h
theorem pick_gen (xs : Array Value) (i k : Nat) : ((List.range k).filterMap fun (m : Nat) => xs[((i : Int) + (m : Int) * 1).toNat]?).toArray = ((xs.toList.drop i).take k).toArray := by
  have e : (fun (m : Nat) => xs[((i : Int) + (m : Int) * 1).toNat]?) = fun m => xs[i + m]? := by
    funext m
    have : ((i : Int) + (m : Int) * 1).toNat = i + m := by omega
    rw [this]
  rw [e]
  have := pick_run xs i k
  rw [List.filterMap_map] at this
  have e2 : ((fun x => xs[x]?) ∘ fun x => i + x) = fun m => xs[i + m]? := rfl
  rw [e2] at this
  rw [this]

theorem getItem_tuple_cut {t sl : Addr} {items : Array Value} {vl vu : Value} {lo hi : Option Int} {Q : Value → Shared → Prop} (ht : IsTup s.heap t items) (hs : s.heap.IsSliceOf sl vl vu .none) (pl : IsPart vl lo) (pu : IsPart vu hi)
    (hw : ¬ (sIx items.size 0 lo = 0 ∧ sIx items.size items.size hi = items.size))
    (h : Q (.ref s.heap.objs.size) { s with heap := s.heap.push { cls := .type "tuple", data := .seq ((items.toList.drop (sIx items.size 0 lo)).take (sIx items.size items.size hi - sIx items.size 0 lo)).toArray } })
    (hsz : items.size ≤ sizeLine) : wpAny (model prog w) A (getItem (.ref t) (.ref sl)) Q E s := by
  have htake : sizeOk (.seq ((items.toList.drop (sIx items.size 0 lo)).take (sIx items.size items.size hi - sIx items.size 0 lo)).toArray) := by
    show ((items.toList.drop (sIx items.size 0 lo)).take (sIx items.size items.size hi - sIx items.size 0 lo)).toArray.size ≤ sizeLine
    rw [List.size_toArray, List.length_take, List.length_drop, Array.length_toList]
    omega
  have hj : sIx items.size items.size hi ≤ items.size := sIx_le _ _ (Nat.le_refl _) hi
  obtain ⟨os, hos, hcs, hds⟩ := id hs
  have hTs : s.TypeIs (.ref sl) "slice" := ⟨os, hos, hcs⟩
  unfold getItem
  try with_reducible refine wpAny_holding ?_
  first | refine wpAny_bind (wpAny_pure ?_) | skip
  refine wpAny_bind (wpAny_sequenceKey ht.typeIs (by decide) ?_)
  refine wpAny_bind (wpAny_callSpecial?_slot (name := Str.ofString "__getitem__") ht.typeIs PyProof.Rows.slot_tuple_getitem
    (wpAny_call_entry PyProof.Rows.slot_tuple_getitem ht.typeIs entry_tuple_getitem ?_ (args_tuple_getitem _ _)))
  show wpAny _ _ (Builtin.Tuple.tupleItemsOf (.ref t) >>= _) _ _ s
  refine wpAny_bind (tupleItemsOf_ ht ?_)
  refine wpAny_bind (wpAny_typeOf hTs ?_)
  rw [if_pos (by decide)]
  refine wpAny_bind (sliceApplied_gen hs pl pu ?_)
  have hno : ¬ ((((sIx items.size 0 lo : Nat) : Int) == 0 && (1 : Int) == 1 && (sIx items.size items.size hi - sIx items.size 0 lo) == items.size) = true) := by
    intro q
    rw [Bool.and_eq_true, Bool.and_eq_true] at q
    have q1 : ((sIx items.size 0 lo : Nat) : Int) = 0 := eq_of_beq q.1.1
    have q2 : sIx items.size items.size hi - sIx items.size 0 lo = items.size := eq_of_beq q.2
    exact hw ⟨by omega, by omega⟩
  show wpAny _ _ (if (((sIx items.size 0 lo : Nat) : Int) == 0 && (1 : Int) == 1 && (sIx items.size items.size hi - sIx items.size 0 lo) == items.size) = true then _ else _) _ _ s
  rw [if_neg hno, pick_gen]
  first
    | exact wpAny_bind (m := Builtin.Tuple.tupleExact _) (wpAny_newObj_type (wpAny_pure ⟨_, rfl, wpAny_pure h⟩) htake)
    | exact wpAny_bind (m := Builtin.Tuple.tupleExact _) (wpAny_newObj_type (wpAny_bind (wpAny_pure (wpAny_pure ⟨_, rfl, wpAny_pure h⟩))) htake)
    | exact wpAny_bind (wpAny_bind (m := Builtin.Tuple.tupleExact _) (wpAny_newObj_type (wpAny_pure (wpAny_pure ⟨_, rfl, wpAny_pure h⟩)) htake))
    | exact wpAny_bind (wpAny_bind (m := Builtin.Tuple.tupleExact _) (wpAny_newObj_type (wpAny_pure ⟨_, rfl, wpAny_pure h⟩) htake))
end
end HT

namespace L2
open PySem PySem.Spec PyProof.Rows

/-! ### the parts of a slice -/
abbrev TO := St → Hp → (Option Int → Hp → Prop) → Prop
/-- a slice's part (left out, or an int) -/
def PO (X : Cx) (e : Option Expr) (t : TO) : Prop :=
  ∀ (pins : List (Addr × Obj)) (s : Shared) (σ : St) (H : Hp) (Q : Option Int → Hp → Prop), Inv X pins σ H s → t σ H Q →
    wpAny (model X.prog X.w) X.A (evalPart e X.env) (fun u s' => ∃ o H', Inv X pins σ H' s' ∧ IsPart u o ∧ Q o H') X.xe s
def tNoPart : TO := fun _ H Q => Q none H
def tPart (t : TE) : TO := fun σ H Q => t σ H fun x H1 => ∃ i, x = .int i ∧ Q (some i) H1

theorem intsAre_of {ns : List Int} : ∀ {us : List Value}, Vals (ns.map V.int) us → IntsAre us ns := by
  induction ns with
  | nil => intro us r; rw [List.map_nil] at r; cases r; exact .nil
  | cons n ns ih =>
    intro us r
    rw [List.map_cons] at r
    cases r with
    | cons r1 r2 =>
      obtain ⟨t, e⟩ := r1
      subst e
      exact .cons n t (ih r2)

section
variable {X : Cx} {e : Expr} {te : TE} {lo hi : Option Expr} {tl th : TO} {pos p2 : Pos}

theorem po_none : PO X none tNoPart := by
  intro pins s σ H Q I h
  rw [evalPart_none]
  exact wpAny_pure ⟨none, H, I, .none, h⟩
theorem po_some (h : PE X e te) : PO X (some e) (tPart te) := by
  intro pins s σ H Q I hw
  rw [evalPart_some]
  refine thn (h pins s σ H _ I hw) fun u s1 ⟨x, H1, I1, r1, q1⟩ => ?_
  obtain ⟨i, rfl, q⟩ := q1
  obtain ⟨t, rfl⟩ := r1
  exact ⟨some i, H1, I1, .int i t, q⟩

/-- what a slice of a value is, by values: the slice object stands at sl -/
def SlR (X : Cx) (r : V → Option Int → Option Int → Hp → VK → Prop) : Prop :=
  ∀ (pins : List (Addr × Obj)) (s : Shared) (σ : St) (H : Hp) (x : V) (v vl vu : Value) (lo hi : Option Int) (sl : Addr) (Q : VK), Inv X pins σ H s → RelV x v → s.heap.IsSliceOf sl vl vu .none → IsPart vl lo → IsPart vu hi → r x lo hi H Q →
    ∃ T id, typeLookup (.type T) "__getitem__" = pure (some (.builtin id)) ∧ s.TypeIs v T ∧ wpAny (model X.prog X.w) X.A (getItem v (.ref sl)) (EP X pins σ Q) X.xe s
theorem SlR.or {r r' : V → Option Int → Option Int → Hp → VK → Prop} (h : SlR X r) (h' : SlR X r') : SlR X (fun x lo hi H Q => r x lo hi H Q ∨ r' x lo hi H Q) := by
  intro pins s σ H x v vl vu lo hi sl Q I rx hs pl pu q
  rcases q with q | q
  · exact h pins s σ H x v vl vu lo hi sl Q I rx hs pl pu q
  · exact h' pins s σ H x v vl vu lo hi sl Q I rx hs pl pu q
def tSl (r : V → Option Int → Option Int → Hp → VK → Prop) (te : TE) (tl th : TO) : TE := fun σ H Q => te σ H fun x H1 => tl σ H1 fun l H2 => th σ H2 fun u H3 => r x l u H3 Q
/-- a[lo:hi], any a -/
theorem pe_slice {r : V → Option Int → Option Int → Hp → VK → Prop} (hr : SlR X r) (he : PE X e te) (hl : PO X lo tl) (hu : PO X hi th) : PE X (.Subscript e (.Slice lo hi none p2) pos) (tSl r te tl th) := by
  intro pins s σ H Q I h
  refine Subscript_ (thn (he pins s σ H _ I h) fun v s1 ⟨x, H1, I1, r1, q1⟩ => ?_)
  refine wpAny_Slice (thn (hl pins s1 σ H1 _ I1 q1) fun vl s2 ⟨l, H2, I2, pl, q2⟩ => thn (hu pins s2 σ H2 _ I2 q2) fun vu s3 ⟨u, H3, I3, pu, q3⟩ => ?_)
  rw [evalPart_none]
  refine wpAny_pure ?_
  have I4 : Inv X pins σ H3 { s3 with heap := s3.heap.push { cls := .type "slice", data := .fields #[vl, vu, .none] } } := I3.kept (t' := s3.toks) fun b ob q => Heap.get?_push_of_some _ q
  obtain ⟨T, id, hT, ht, hg⟩ := hr pins { s3 with heap := s3.heap.push { cls := .type "slice", data := .fields #[vl, vu, .none] } } σ H3 x v vl vu l u s3.heap.objs.size Q I4 r1 (Heap.IsSliceOf.new ..) pl pu q3
  show wpAny (model X.prog X.w) X.A (subscriptTail e (.Slice lo hi none p2) v (.ref s3.heap.objs.size)) (EP X pins σ Q) X.xe { s3 with heap := s3.heap.push { cls := .type "slice", data := .fields #[vl, vu, .none] } }
  exact tail_any (ops := [.ref s3.heap.objs.size, v]) ht hT hg (by with_unfolding_all rfl)

/-- the items of xs[lo:hi] -/
def cutV (xs : List V) (lo hi : Option Int) : List V := (xs.drop (HT.sIx xs.length 0 lo)).take (HT.sIx xs.length xs.length hi - HT.sIx xs.length 0 lo)
theorem cutV_length (xs : List V) (lo hi : Option Int) : (cutV xs lo hi).length ≤ xs.length := by
  unfold cutV
  rw [List.length_take, List.length_drop]
  omega
/-- t[lo:hi], not the whole of it (the whole would be t itself) -/
def rSlT (K : PySem.W.Frag) : V → Option Int → Option Int → Hp → VK → Prop := fun x lo hi H Q => ∃ a xs, x = .ref a ∧ SqT K H a xs ∧
  ¬ (HT.sIx xs.length 0 lo = 0 ∧ HT.sIx xs.length xs.length hi = xs.length) ∧ ∀ p, H p = none → Q (.ref p) (upd H p (.tup (cutV xs lo hi)))
theorem sl_tup : SlR X (rSlT X.K) := by
  intro pins s σ H x v vl vu lo hi sl Q I rx hs pl pu h
  obtain ⟨a, xs, rfl, hx, hw, q⟩ := h
  cases rx
  obtain ⟨its, r, ht, hz⟩ := I.tuple hx
  have hlen : its.toArray.size = xs.length := by rw [List.size_toArray]; exact r.length.symm
  refine ⟨"tuple", _, PyProof.Rows.slot_tuple_getitem.lookup, ht.typeIs, ?_⟩
  refine HT.getItem_tuple_cut ht hs pl pu (by rw [hlen]; exact hw) ?_ (by rw [hlen]; exact hz)
  rw [hlen]
  refine ⟨.ref s.heap.objs.size, _, I.laid (t' := s.toks) (o := .tup (cutV xs lo hi)) (fun b ob q => Heap.get?_push_of_some _ q) (Nat.le_refl _) ?_, rfl, q _ (I.hok.fresh (Nat.le_refl _))⟩
  exact ⟨Nat.le_trans (cutV_length xs lo hi) hz, _, (r.drop (HT.sIx xs.length 0 lo)).take (HT.sIx xs.length xs.length hi - HT.sIx xs.length 0 lo), IsTup.new _ _⟩

/-! ### t < u, t + u -/
def rLtT (K : PySem.W.Frag) : R2 := fun x y H Q => ∃ a b ns ms, x = .ref a ∧ y = .ref b ∧ SqT K H a (ns.map V.int) ∧ SqT K H b (ms.map V.int) ∧ Q (.bl (HT.lexLt ns ms)) H
theorem op_ltT (hu : X.A.units < cLine) : OpR X (compareOp .Lt) (rLtT X.K) := by
  intro pins s σ H x y v u Q I rx ry h
  obtain ⟨a, b, ns, ms, rfl, rfl, ha, hb, q⟩ := h
  cases rx
  cases ry
  obtain ⟨its, r1, p1, _⟩ := I.tuple ha
  obtain ⟨its2, r2, p2, _⟩ := I.tuple hb
  have i1 : IntsAre its.toArray.toList ns := intsAre_of r1
  have i2 : IntsAre its2.toArray.toList ms := intsAre_of r2
  exact HT.lt_tupInts p1 p2 i1 i2 hu ⟨.bl (HT.lexLt ns ms), H, I, rfl, q⟩
/-- t + u, t not empty: u empty gives t itself -/
def rCatT (K : PySem.W.Frag) : R2 := fun x y H Q => ∃ a b xs ys, x = .ref a ∧ y = .ref b ∧ SqT K H a xs ∧ SqT K H b ys ∧ xs ≠ [] ∧ xs.length + ys.length ≤ sizeLine ∧
  (ys = [] → Q (.ref a) H) ∧ (ys ≠ [] → ∀ p, H p = none → Q (.ref p) (upd H p (.tup (xs ++ ys))))
theorem Vals.nil_iff {xs : List V} {us : List Value} (r : Vals xs us) : us = [] ↔ xs = [] := by
  cases r with
  | nil => simp
  | cons _ _ => simp
theorem op_catT : OpR X (binaryOp .Add) (rCatT X.K) := by
  intro pins s σ H x y v u Q I rx ry h
  obtain ⟨a, b, xs, ys, rfl, rfl, ha, hb, hx, hz, q1, q2⟩ := h
  cases rx
  cases ry
  obtain ⟨its, r1, p1, _⟩ := I.tuple ha
  obtain ⟨its2, r2, p2, _⟩ := I.tuple hb
  refine HT.cat_tup p1 p2 (fun z => hx (r1.nil_iff.mp z)) (fun z => ⟨.ref a, H, I, rfl, q1 (r2.nil_iff.mp z)⟩) (fun z => ?_) (by rw [← r1.length, ← r2.length]; exact hz)
  refine ⟨.ref s.heap.objs.size, _, I.laid (t' := s.toks) (o := .tup (xs ++ ys)) (fun b ob q => Heap.get?_push_of_some _ q) (Nat.le_refl _) ?_, rfl, q2 (fun w => z (r2.nil_iff.mpr w)) _ (I.hok.fresh (Nat.le_refl _))⟩
  exact ⟨by rw [List.length_append]; exact hz, _, r1.append r2, IsTup.new _ _⟩
/-- tuple(t) -/
theorem call_tupleT : CallR X (.type "tuple") (fun xs H Q => ∃ a ys, xs = [.ref a] ∧ SqT X.K H a ys ∧ Q (.ref a) H) := by
  intro pins s σ H xs us Q I r h
  obtain ⟨a, ys, rfl, ha, q⟩ := h
  obtain ⟨u, rfl, ru⟩ := vals1 r
  cases ru
  obtain ⟨its, _, p1, _⟩ := I.tuple ha
  exact call_tuple_same (items := its.toArray) p1 ⟨.ref a, H, I, rfl, q⟩
end
end L2

namespace L2
open PySem PySem.Spec PyProof.Rows

/-! ### places -/
/-- the place that an index of any sign means -/
def ixN (n : Nat) (i : Int) : Option Nat := if 0 ≤ i then (if i < n then some i.toNat else none) else if -(n : Int) ≤ i then some (i + n).toNat else none
def atI {α : Type} (xs : List α) (i : Int) : Option α := (ixN xs.length i).bind fun j => xs[j]?
theorem ixN_seq {n : Nat} {i : Int} {j : Nat} (h : ixN n i = some j) : seqIndex? i n = some j ∧ j < n ∧ -(n : Int) ≤ i ∧ i < n := by
  unfold ixN at h
  by_cases h0 : 0 ≤ i
  · rw [if_pos h0] at h
    by_cases h1 : i < n
    · rw [if_pos h1] at h
      have e : i.toNat = j := Option.some.inj h
      exact ⟨by rw [seqIndex_of h0 h1, e], by omega, by omega, h1⟩
    · rw [if_neg h1] at h; cases h
  · rw [if_neg h0] at h
    by_cases h1 : -(n : Int) ≤ i
    · rw [if_pos h1] at h
      have e : (i + n).toNat = j := Option.some.inj h
      exact ⟨by rw [seqIndex_neg (by omega) h1, e], by omega, h1, by omega⟩
    · rw [if_neg h1] at h; cases h
theorem atI_get {α : Type} {xs : List α} {i : Int} {v : α} (h : atI xs i = some v) : ∃ j, seqIndex? i xs.length = some j ∧ xs[j]? = some v ∧ j < xs.length ∧ -(xs.length : Int) ≤ i ∧ i < xs.length := by
  unfold atI at h
  cases e : ixN xs.length i with
  | none => rw [e] at h; cases h
  | some j =>
    rw [e] at h
    obtain ⟨h1, h2, h3, h4⟩ := ixN_seq e
    exact ⟨j, h1, h, h2, h3, h4⟩
theorem atI_nat {α : Type} {xs : List α} {j : Nat} {v : α} (h : xs[j]? = some v) : atI xs (j : Int) = some v := by
  have hj : j < xs.length := (List.getElem?_eq_some_iff.mp h).1
  have e : ixN xs.length (j : Int) = some j := by
    unfold ixN
    rw [if_pos (by omega), if_pos (by omega)]; simp
  unfold atI; rw [e]; exact h
theorem atI_last {α : Type} (xs : List α) (v : α) : atI (xs ++ [v]) (-1) = some v := by
  have hl : (xs ++ [v]).length = xs.length + 1 := by simp
  have e : ixN (xs ++ [v]).length (-1) = some xs.length := by
    unfold ixN
    rw [hl, if_neg (by decide), if_pos (by omega)]
    congr 1
    omega
  unfold atI
  rw [e]
  show (xs ++ [v])[xs.length]? = some v
  simp

/-! ### what may be subscripted -/
/-- what stands as an index of a plain subscript -/
def PlainIx (b : Expr) : Prop := ∀ o i, subscripted b false o i = operate [o, i] (getItem o i)
/-- a subscript by values -/
def IxR (X : Cx) (r : R2) : Prop :=
  ∀ (value slice : Expr) (pins : List (Addr × Obj)) (s : Shared) (σ : St) (H : Hp) (x y : V) (v u : Value) (Q : VK), Inv X pins σ H s → RelV x v → RelV y u → r x y H Q →
    subscripted slice false v u = operate [v, u] (getItem v u) → wpAny (model X.prog X.w) X.A (subscriptTail value slice v u) (EP X pins σ Q) X.xe s
/-- a call of a builtin's method by values: the receiver, the arguments -/
def MtR (X : Cx) (id : String) (r : V → List V → Hp → VK → Prop) : Prop :=
  ∀ (pins : List (Addr × Obj)) (s : Shared) (σ : St) (H : Hp) (x : V) (xs : List V) (v : Value) (us : List Value) (Q : VK), Inv X pins σ H s → RelV x v → Vals xs us → r x xs H Q →
    wpAny (model X.prog X.w) X.A (call (.builtin id) (v :: us)) (EP X pins σ Q) X.xe s
section
variable {X : Cx} {a b : Expr} {ta tb : TE} {pos : Pos}
theorem IxR.or {r r' : R2} (h : IxR X r) (h' : IxR X r') : IxR X (fun x y H Q => r x y H Q ∨ r' x y H Q) := by
  intro value slice pins s σ H x y v u Q I rx ry q hs
  rcases q with q | q
  · exact h value slice pins s σ H x y v u Q I rx ry q hs
  · exact h' value slice pins s σ H x y v u Q I rx ry q hs
theorem MtR.or {id : String} {r r' : V → List V → Hp → VK → Prop} (h : MtR X id r) (h' : MtR X id r') : MtR X id (fun x xs H Q => r x xs H Q ∨ r' x xs H Q) := by
  intro pins s σ H x xs v us Q I rx rs q
  rcases q with q | q
  · exact h pins s σ H x xs v us Q I rx rs q
  · exact h' pins s σ H x xs v us Q I rx rs q
/-- a[b] -/
theorem pe_ix {r : R2} (hr : IxR X r) (ha : PE X a ta) (hb : PE X b tb) (hs : PlainIx b) : PE X (.Subscript a b pos) (tOp r ta tb) := by
  intro pins s σ H Q I h
  exact Subscript_ (binT ha hb I h fun v u s2 x y H2 I2 rx ry q => hr a b pins s2 σ H2 x y v u Q I2 rx ry q (hs _ _))

def rIxL (K : PySem.W.Frag) : R2 := fun x y H Q => ∃ p xs i v, x = .ref p ∧ y = .int i ∧ SqL K H p xs ∧ atI xs i = some v ∧ Q v H
def rIxT (K : PySem.W.Frag) : R2 := fun x y H Q => ∃ p xs i v, x = .ref p ∧ y = .int i ∧ SqT K H p xs ∧ atI xs i = some v ∧ Q v H
def rIxS : R2 := fun x y H Q => ∃ z i c, x = .str z ∧ y = .int i ∧ z.length ≤ sizeLine ∧ atI z.cps.toList i = some c ∧ Q (.str ⟨#[c]⟩) H
theorem ix_list : IxR X (rIxL X.K) := by
  intro value slice pins s σ H x y v u Q I rx ry h hs
  obtain ⟨p, xs, i, z, rfl, rfl, hq, he, q⟩ := h
  cases rx
  obtain ⟨t, rfl⟩ := ry
  obtain ⟨its, r, pl, hz⟩ := I.list hq
  obtain ⟨j, h1, h2, h3, h4, h5⟩ := atI_get he
  obtain ⟨w, ew, rw'⟩ := r.get h2
  have hl := r.length
  have hn := line63
  have fin : EP X pins σ Q w s := ⟨z, H, I, rw', q⟩
  by_cases h0 : 0 ≤ i
  · have hj : i.toNat = j := by
      rw [seqIndex_of h0 h5] at h1
      exact Option.some.inj h1
    exact item_listR pl.isList h0 (by omega) (by rw [hj]; simpa using ew) fin hs
  · have hj : (i + (its.toArray.size : Int)).toNat = j := by
      rw [seqIndex_neg (by omega) h4] at h1
      rw [List.size_toArray, ← hl]
      exact Option.some.inj h1
    exact subscriptTail_builtinR (x := w) pl.isList.typeIs slot_list_getitem.lookup
      (wpAny_getItem_list_neg (Q := fun r s' => r = w ∧ EP X pins σ Q r s') pl.isList (by omega) (by rw [List.size_toArray] <;> omega) (by omega) (by rw [hj]; simpa using ew) ⟨rfl, fin⟩) hs
theorem ix_tup : IxR X (rIxT X.K) := by
  intro value slice pins s σ H x y v u Q I rx ry h hs
  obtain ⟨p, xs, i, z, rfl, rfl, hq, he, q⟩ := h
  cases rx
  obtain ⟨t, rfl⟩ := ry
  obtain ⟨its, r, pl, hz⟩ := I.tuple hq
  obtain ⟨j, h1, h2, h3, h4, h5⟩ := atI_get he
  obtain ⟨w, ew, rw'⟩ := r.get h2
  have hl := r.length
  have hn := line63
  have fin : EP X pins σ Q w s := ⟨z, H, I, rw', q⟩
  exact subscriptTail_builtinR (x := w) pl.typeIs slot_tuple_getitem.lookup
    (getItem_tuple (j := j) (Q := fun r s' => r = w ∧ EP X pins σ Q r s') pl (by omega) (by omega) (by rw [List.size_toArray, ← hl]; exact h1) (by simpa using ew) ⟨rfl, fin⟩) hs
theorem ix_str : IxR X rIxS := by
  intro value slice pins s σ H x y v u Q I rx ry h hs
  obtain ⟨z, i, c, rfl, rfl, hz, he, q⟩ := h
  obtain ⟨t, rfl⟩ := rx
  obtain ⟨t', rfl⟩ := ry
  obtain ⟨j, h1, h2, h3, h4, h5⟩ := atI_get he
  have hl : z.cps.toList.length = z.length := by simp [Str.length]
  rw [hl] at h1 h4 h5
  have hn := line63
  exact tail_any (typeIs_str s z t) slot_str_getitem.lookup (getItem_str (c := c) (by
    have e1 : decide (i < -(2 ^ 63 : Int)) = false := decide_eq_false (by omega)
    have e2 : decide (i ≥ 2 ^ 63) = false := decide_eq_false (by omega)
    rw [e1, e2, Bool.or_false]) (by rw [h1]; simpa using h2) ⟨.str ⟨#[c]⟩, H, I.tok _, ⟨_, rfl⟩, q⟩) hs
/-- list, tuple or str -/
def rIx (K : PySem.W.Frag) : R2 := fun x y H Q => rIxL K x y H Q ∨ rIxT K x y H Q ∨ rIxS x y H Q
theorem ix_seq : IxR X (rIx X.K) := ix_list.or (ix_tup.or ix_str)

/-! ### xs[i] = v, any sign -/
/-- the list's object behind a store -/
theorem mapSeq_set (its : List Value) (n j : Nat) (u : Value) : Obj.mapSeq (·.setIfInBounds j u) { cls := .type "list", data := .seq its.toArray n } = { cls := .type "list", data := .seq (its.set j u).toArray n } := by
  simp [Obj.mapSeq]
theorem Inv.lst {pins : List (Addr × Obj)} {σ : St} {H : Hp} {s : Shared} {p : Addr} {xs : List V} (I : Inv X pins σ H s) (h : H p = some (.lst xs)) :
    ∃ (its : List Value) (n : Nat), Vals xs its ∧ s.heap.get? p = some { cls := .type "list", data := .seq its.toArray n } ∧ xs.length ≤ sizeLine := by
  obtain ⟨z, its, n, r, e⟩ := I.hok p _ h
  exact ⟨its, n, r, e, z⟩
/-- the list at p is written by an update of its object -/
theorem Inv.lstUpd {pins : List (Addr × Obj)} {σ : St} {H : Hp} {s : Shared} {p : Addr} {xs ys : List V} {its its' : List Value} {n n' : Nat} {f : Obj → Obj} (I : Inv X pins σ H s) (h : H p = some (.lst xs))
    (ho : s.heap.get? p = some { cls := .type "list", data := .seq its.toArray n }) (hf : f { cls := .type "list", data := .seq its.toArray n } = { cls := .type "list", data := .seq its'.toArray n' }) (r : Vals ys its') (hz : ys.length ≤ sizeLine) (t : Nat) :
    Inv X pins σ (upd H p (.lst ys)) { s with heap := s.heap.update p f, toks := t } := by
  have e : (s.heap.update p f).get? p = some { cls := .type "list", data := .seq its'.toArray n' } := by
    rw [Heap.get?_update_self f ho (by rw [hf] <;> rfl), hf]
  refine I.write (x := p) (e := p) (by rw [h]; trivial) (.inl rfl) (fun b u hb q => (Heap.get?_update_other _ _ (Ne.symm hb)).trans q) ⟨_, e⟩ ?_
  exact ⟨hz, its', n', r, e⟩
def rSetL : V → V → V → Hp → (Hp → Prop) → Prop := fun o i v H Q => ∃ p xs k j, o = .ref p ∧ i = .int k ∧ H p = some (.lst xs) ∧ ixN xs.length k = some j ∧ Q (upd H p (.lst (xs.set j v)))
theorem set_list : PSet X rSetL := by
  intro pins s σ H o i v ov iv u Q I ro ri rv h
  obtain ⟨p, xs, k, j, rfl, rfl, hp, hj, q⟩ := h
  cases ro
  obtain ⟨t, rfl⟩ := ri
  obtain ⟨its, n, r, ho, hz⟩ := I.lst hp
  obtain ⟨h1, h2, h3, h4⟩ := ixN_seq hj
  have hl := r.length
  have hn := line63
  have I' : Inv X pins σ (upd H p (.lst (xs.set j v))) { s with heap := s.heap.update p (Obj.mapSeq (·.setIfInBounds j u)) } :=
    I.lstUpd hp ho (mapSeq_set its n j u) (r.set rv j) (by rw [List.length_set]; exact hz) s.toks
  by_cases h0 : 0 ≤ k
  · have hk : k.toNat = j := by
      rw [seqIndex_of h0 h4] at h1
      exact Option.some.inj h1
    exact PySem.W.ki_setAt ho h0 (by omega) (by rw [List.size_toArray, ← hl]; exact h4) (by rw [hk]; exact ⟨_, I', q⟩)
  · have hk : (k + (its.toArray.size : Int)).toNat = j := by
      rw [seqIndex_neg (by omega) h3] at h1
      rw [List.size_toArray, ← hl]
      exact Option.some.inj h1
    exact PySem.W.ki_setBack ho (by omega) (by rw [List.size_toArray, ← hl]; exact h3) (by omega) (by rw [hk]; exact ⟨_, I', q⟩)

/-! ### slices -/
theorem slice_bounds (lo hi : Option Int) (n : Nat) : (sliceBounds lo hi none n).1 = ((HT.sIx n 0 lo : Nat) : Int) ∧ (sliceBounds lo hi none n).2.1 = ((HT.sIx n n hi : Nat) : Int) ∧ (sliceBounds lo hi none n).2.2 = 1 := by
  refine ⟨?_, ?_, rfl⟩
  · cases lo with
    | none => simp [sliceBounds, HT.sIx]
    | some i =>
      simp only [sliceBounds, HT.sIx, Option.getD_none, show (1 : Int) > 0 by decide, if_true]
      by_cases h : i < 0
      · simp only [h, if_true] <;> omega
      · simp only [h, if_false] <;> omega
  · cases hi with
    | none => simp [sliceBounds, HT.sIx]
    | some i =>
      simp only [sliceBounds, HT.sIx, Option.getD_none, show (1 : Int) > 0 by decide, if_true]
      by_cases h : i < 0
      · simp only [h, if_true] <;> omega
      · simp only [h, if_false] <;> omega
theorem slicePick_cut (its : List Value) (lo hi : Option Int) : slicePick its.toArray lo hi none = ((its.drop (HT.sIx its.length 0 lo)).take (HT.sIx its.length its.length hi - HT.sIx its.length 0 lo)).toArray := by
  obtain ⟨h1, h2, h3⟩ := slice_bounds lo hi its.toArray.size
  unfold slicePick
  rw [h1, h2, h3]
  simp only [sliceRange_one, pick_run, List.size_toArray] <;> rfl
/-- xs[lo:hi] of a list: a new list -/
def rSlL (K : PySem.W.Frag) : V → Option Int → Option Int → Hp → VK → Prop := fun x lo hi H Q => ∃ a xs, x = .ref a ∧ SqL K H a xs ∧ ∀ p, H p = none → Q (.ref p) (upd H p (.lst (cutV xs lo hi)))
theorem sl_list : SlR X (rSlL X.K) := by
  intro pins s σ H x v vl vu lo hi sl Q I rx hs pl pu h
  obtain ⟨a, xs, rfl, hx, q⟩ := h
  cases rx
  obtain ⟨its, r, ht, hz⟩ := I.list hx
  have hlen := r.length
  refine ⟨"list", _, slot_list_getitem.lookup, ht.isList.typeIs, ?_⟩
  refine wpAny_getItem_list_slice ht.isList hs pl pu .none (by simp) ?_ (by rw [List.size_toArray] <;> omega)
  rw [slicePick_cut, ← hlen]
  refine ⟨.ref s.heap.objs.size, _, I.laid (t' := s.toks) (o := .lst (cutV xs lo hi)) (fun b ob q => Heap.get?_push_of_some _ q) (Nat.le_refl _) ?_, rfl, q _ (I.hok.fresh (Nat.le_refl _))⟩
  exact ⟨Nat.le_trans (cutV_length xs lo hi) hz, _, 0, (r.drop (HT.sIx xs.length 0 lo)).take (HT.sIx xs.length xs.length hi - HT.sIx xs.length 0 lo), Heap.get?_push_size _ rfl⟩

/-! ### in, not in: flat items -/
def flatV : V → Bool
  | .non => true
  | .bl _ => true
  | .int _ => true
  | .str _ => true
  | _ => false
/-- == of flat values -/
def eqV : V → V → Bool
  | .non, .non => true
  | .bl a, .bl b => a == b
  | .bl a, .int b => (if a then 1 else 0) == b
  | .int a, .bl b => a == (if b then 1 else 0)
  | .int a, .int b => a == b
  | .str a, .str b => a == b
  | _, _ => false
theorem eqAt_V {A : Around} {s : Shared} {y x : V} {u v : Value} (ry : RelV y u) (rx : RelV x v) (fy : flatV y = true) (fx : flatV x = true) : SeqAt.EqAt A s u v (eqV y x) := by
  cases y with
  | non =>
    cases ry
    cases x with
    | non => cases rx; exact SeqAt.EqAt.same _
    | bl b => cases rx; exact SeqAt.EqAt.none_bool b
    | int b => obtain ⟨t, rfl⟩ := rx; exact SeqAt.EqAt.none_int b t
    | str b => obtain ⟨t, rfl⟩ := rx; exact SeqAt.EqAt.none_str b t
    | _ => exact absurd (show false = true from fx) Bool.false_ne_true
  | bl a =>
    cases ry
    cases x with
    | non => cases rx; exact SeqAt.EqAt.bool_none a
    | bl b => cases rx; exact SeqAt.EqAt.bool_bool a b
    | int b => obtain ⟨t, rfl⟩ := rx; exact SeqAt.EqAt.bool_int a b t
    | str b => obtain ⟨t, rfl⟩ := rx; exact SeqAt.EqAt.bool_str a b t
    | _ => exact absurd (show false = true from fx) Bool.false_ne_true
  | int a =>
    obtain ⟨t', rfl⟩ := ry
    cases x with
    | non => cases rx; exact SeqAt.EqAt.int_none a t'
    | bl b => cases rx; exact SeqAt.EqAt.int_bool a t' b
    | int b => obtain ⟨t, rfl⟩ := rx; exact SeqAt.EqAt.int_int a t' b t
    | str b => obtain ⟨t, rfl⟩ := rx; exact SeqAt.EqAt.int_str a t' b t
    | _ => exact absurd (show false = true from fx) Bool.false_ne_true
  | str a =>
    obtain ⟨t', rfl⟩ := ry
    cases x with
    | non => cases rx; exact SeqAt.EqAt.str_none a t'
    | bl b => cases rx; exact SeqAt.EqAt.str_bool a t' b
    | int b => obtain ⟨t, rfl⟩ := rx; exact SeqAt.EqAt.str_int a t' b t
    | str b => obtain ⟨t, rfl⟩ := rx; exact SeqAt.EqAt.str_str a t' b t
    | _ => exact absurd (show false = true from fx) Bool.false_ne_true
  | _ => exact absurd (show false = true from fy) Bool.false_ne_true
/-- the items' answers, read off the values (a value's own answer does not lean on its token) -/
def eqU (x : V) (u : Value) : Bool := match u with
  | .none => eqV .non x
  | .bool b => eqV (.bl b) x
  | .int i _ => eqV (.int i) x
  | .str z _ => eqV (.str z) x
  | _ => false
theorem eqU_of {x y : V} {u : Value} (r : RelV y u) (f : flatV y = true) : eqU x u = eqV y x := by
  cases y with
  | non => cases r; rfl
  | bl b => cases r; rfl
  | int i => obtain ⟨t, rfl⟩ := r; rfl
  | str z => obtain ⟨t, rfl⟩ := r; rfl
  | _ => exact absurd (show false = true from f) Bool.false_ne_true
theorem any_eqU {x : V} : ∀ {xs : List V} {us : List Value}, Vals xs us → xs.all flatV = true → us.any (eqU x) = xs.any fun y => eqV y x
  | _, _, .nil, _ => rfl
  | y :: xs, u :: us, .cons r t, f => by
    rw [List.all_cons, Bool.and_eq_true] at f
    rw [List.any_cons, List.any_cons, eqU_of r f.1, any_eqU t f.2]
theorem mem_eqAt {A : Around} {s : Shared} {x : V} {v : Value} (rx : RelV x v) (fx : flatV x = true) : ∀ {xs : List V} {us : List Value}, Vals xs us → xs.all flatV = true → ∀ u ∈ us, SeqAt.EqAt A s u v (eqU x u)
  | _, _, .nil, _ => fun u hu => by cases hu
  | y :: xs, u :: us, .cons r t, f => fun u' hu => by
    rw [List.all_cons, Bool.and_eq_true] at f
    rcases List.mem_cons.mp hu with rfl | hu
    · rw [eqU_of r f.1]; exact eqAt_V r rx f.1 fx
    · exact mem_eqAt rx fx t f.2 u' hu
def inV (x : V) (xs : List V) : Bool := xs.any fun y => eqV y x
/-- x in a list or tuple of flat items -/
def rIn (K : PySem.W.Frag) (neg : Bool) : R2 := fun x y H Q => ∃ p xs, y = .ref p ∧ (SqL K H p xs ∨ SqT K H p xs) ∧ flatV x = true ∧ xs.all flatV = true ∧ Q (.bl (if neg then !inV x xs else inV x xs)) H
theorem op_in_seq : OpR X (compareOp .In) (rIn X.K false) := by
  intro pins s σ H x y v u Q I rx ry h
  obtain ⟨p, xs, rfl, hq, fx, fs, q⟩ := h
  cases ry
  rcases hq with hq | hq
  · obtain ⟨its, r, pl, hz⟩ := I.list hq
    refine SeqAt.in_listAt (eqU x) pl.isList (fun w hw => mem_eqAt rx fx r fs w (by simpa using hw)) ⟨.bl _, H, I, rfl, ?_⟩
    rw [show its.toArray.any (eqU x) = its.any (eqU x) by simp, any_eqU r fs]
    exact q
  · obtain ⟨its, r, pl, hz⟩ := I.tuple hq
    refine SeqAt.in_tupleAt (eqU x) pl (fun w hw => mem_eqAt rx fx r fs w (by simpa using hw)) ⟨.bl _, H, I, rfl, ?_⟩
    rw [show its.toArray.any (eqU x) = its.any (eqU x) by simp, any_eqU r fs]
    exact q
theorem op_notIn_seq : OpR X (compareOp .NotIn) (rIn X.K true) := by
  intro pins s σ H x y v u Q I rx ry h
  obtain ⟨p, xs, rfl, hq, fx, fs, q⟩ := h
  cases ry
  rcases hq with hq | hq
  · obtain ⟨its, r, pl, hz⟩ := I.list hq
    refine SeqAt.notIn_listAt (eqU x) pl.isList (fun w hw => mem_eqAt rx fx r fs w (by simpa using hw)) ⟨.bl _, H, I, rfl, ?_⟩
    rw [show its.toArray.any (eqU x) = its.any (eqU x) by simp, any_eqU r fs]
    exact q
  · obtain ⟨its, r, pl, hz⟩ := I.tuple hq
    refine SeqAt.notIn_tupleAt (eqU x) pl (fun w hw => mem_eqAt rx fx r fs w (by simpa using hw)) ⟨.bl _, H, I, rfl, ?_⟩
    rw [show its.toArray.any (eqU x) = its.any (eqU x) by simp, any_eqU r fs]
    exact q
theorem op_notIn_str : OpR X (compareOp .NotIn) (fun x y H Q => ∃ i j, x = .str i ∧ y = .str j ∧ Q (.bl (!(!(Builtin.Str.occurrences j i 0 j.length 1).isEmpty))) H) := by
  intro pins s σ H x y v u Q I rx ry h
  obtain ⟨i, j, rfl, rfl, q⟩ := h
  obtain ⟨t, rfl⟩ := rx
  obtain ⟨t', rfl⟩ := ry
  exact notIn_str ⟨.bl _, H, I, rfl, q⟩

/-! ### len, list(x), tuple(x) of any list or tuple that is read -/
theorem call_len_seq : CallR X (.builtin "len") (fun xs H Q => ∃ p ys, xs = [.ref p] ∧ (SqL X.K H p ys ∨ SqT X.K H p ys) ∧ Q (.int ys.length) H) := by
  intro pins s σ H xs us Q I r h
  obtain ⟨p, ys, rfl, hq, q⟩ := h
  obtain ⟨u, rfl, rx⟩ := vals1 r
  cases rx
  have hn := line63
  rcases hq with hq | hq
  · obtain ⟨its, r', pl, hz⟩ := I.list hq
    have hlen := r'.length
    exact Calls.call_len_list pl.isList (by simp only [List.size_toArray] <;> omega) ⟨.int ys.length, H, I.tok _, ⟨s.toks + 1, by rw [List.size_toArray, hlen]⟩, q⟩
  · obtain ⟨its, r', pl, hz⟩ := I.tuple hq
    have hlen := r'.length
    exact len_tuple pl (by simp only [List.size_toArray] <;> omega) ⟨.int ys.length, H, I.tok _, ⟨s.toks + 1, by rw [List.size_toArray, hlen]⟩, q⟩
theorem call_len_str : CallR X (.builtin "len") (fun xs H Q => ∃ z, xs = [.str z] ∧ z.length ≤ sizeLine ∧ Q (.int z.length) H) := by
  intro pins s σ H xs us Q I r h
  obtain ⟨z, rfl, hz, q⟩ := h
  obtain ⟨u, rfl, t, rfl⟩ := vals1 r
  have hn := line63
  exact len_str (by omega) ⟨.int z.length, H, I.tok _, ⟨_, rfl⟩, q⟩
theorem CallR.or {f : Value} {r r' : List V → Hp → VK → Prop} (h : CallR X f r) (h' : CallR X f r') : CallR X f (fun xs H Q => r xs H Q ∨ r' xs H Q) := by
  intro pins s σ H xs us Q I rs q
  rcases q with q | q
  · exact h pins s σ H xs us Q I rs q
  · exact h' pins s σ H xs us Q I rs q
theorem call_list_of : CallR X (.type "list") (fun xs H Q => ∃ p ys, xs = [.ref p] ∧ (SqL X.K H p ys ∨ SqT X.K H p ys) ∧ ∀ l, H l = none → Q (.ref l) (upd H l (.lst ys))) := by
  intro pins s σ H xs us Q I r h
  obtain ⟨p, ys, rfl, hq, q⟩ := h
  obtain ⟨u, rfl, rx⟩ := vals1 r
  cases rx
  have fin : ∀ (its : List Value), Vals ys its → ys.length ≤ sizeLine → ∀ (h' : Heap) (c' : Nat), (∀ b o', s.heap.get? b = some o' → h'.get? b = some o') →
      h'.get? s.heap.objs.size = some { cls := .type "list", dict := none, data := .seq its.toArray c', slots := #[] } → EP X pins σ Q (.ref s.heap.objs.size) { s with heap := h' } := fun its r' hz h' c' kp e =>
    ⟨.ref s.heap.objs.size, _, I.laid (t' := s.toks) kp (Nat.le_refl _) (show ObjOk X.prog X.w _ h' _ (.lst ys) from ⟨hz, its, c', r', e⟩), rfl, q _ (I.hok.fresh (Nat.le_refl _))⟩
  rcases hq with hq | hq
  · obtain ⟨its, r', pl, hz⟩ := I.list hq
    have hlen := r'.length
    obtain ⟨o, ho, hc, n, hd⟩ := pl.isList
    exact call_list_seq p (.inl rfl) ho hc hd (fun h' c' kp e => fin its r' hz h' c' kp e) (by simp only [List.size_toArray] <;> omega)
  · obtain ⟨its, r', pl, hz⟩ := I.tuple hq
    have hlen := r'.length
    obtain ⟨o, ho, hc, n, hd⟩ := pl
    exact call_list_seq p (.inr rfl) ho hc hd (fun h' c' kp e => fin its r' hz h' c' kp e) (by simp only [List.size_toArray] <;> omega)
theorem call_tuple_of : CallR X (.type "tuple") (fun xs H Q => ∃ p ys, xs = [.ref p] ∧ ((SqL X.K H p ys ∧ ∀ l, H l = none → Q (.ref l) (upd H l (.tup ys))) ∨ (SqT X.K H p ys ∧ Q (.ref p) H))) := by
  intro pins s σ H xs us Q I r h
  obtain ⟨p, ys, rfl, h⟩ := h
  obtain ⟨u, rfl, rx⟩ := vals1 r
  cases rx
  rcases h with ⟨hq, q⟩ | ⟨hq, q⟩
  · obtain ⟨its, r', pl, hz⟩ := I.list hq
    have hlen := r'.length
    refine call_tuple_list pl.isList (fun h' kp => ?_) (by simp only [List.size_toArray] <;> omega)
    have I1 : Inv X pins σ H { s with heap := h' } := I.kept (t' := s.toks) kp
    have I2 : Inv X pins σ (upd H h'.objs.size (.tup ys)) { s with heap := h'.push { cls := .type "tuple", data := .seq its.toArray } } :=
      I1.laid (t' := s.toks) (fun b o e => Heap.get?_push_of_some _ e) (Nat.le_refl _) (show ObjOk X.prog X.w _ _ _ (.tup ys) from ⟨hz, its, r', IsTup.new _ _⟩)
    exact ⟨.ref h'.objs.size, _, I2, rfl, q _ (I1.hok.fresh (Nat.le_refl _))⟩
  · obtain ⟨its, r', pl, hz⟩ := I.tuple hq
    exact call_tuple_same pl ⟨.ref p, H, I, rfl, q⟩

/-! ### the call of a builtin's method: o.m(..) -/
/-- the value is of that builtin type -/
def tyV (K : PySem.W.Frag) (T : String) (x : V) (H : Hp) : Prop := match x with
  | .str _ => T = "str"
  | .int _ => T = "int"
  | .ref p => (T = "list" ∧ ∃ xs, SqL K H p xs) ∨ (T = "tuple" ∧ ∃ o, K.lookup p = some o ∧ o.cls = .type "tuple" ∧ o.dict = none) ∨
      (T = "dict" ∧ ((∃ kvs, H p = some (.dK kvs)) ∨ ∃ kvs, H p = some (.dT kvs))) ∨ (T = "set" ∧ ∃ S n, H p = some (.set S n))
  | _ => False
theorem tyV_is {pins : List (Addr × Obj)} {σ : St} {H : Hp} {s : Shared} {T : String} {x : V} {v : Value} (I : Inv X pins σ H s) (r : RelV x v) (ty : tyV X.K T x H) :
    s.TypeIs v T ∧ ∀ a, v = .ref a → ∃ ob, s.heap.get? a = some ob ∧ ob.dict = none := by
  cases x with
  | str z =>
    obtain ⟨t, rfl⟩ := r
    cases (show T = "str" from ty)
    exact ⟨typeIs_str s z t, fun _ e => nomatch e⟩
  | int i =>
    obtain ⟨t, rfl⟩ := r
    cases (show T = "int" from ty)
    exact ⟨typeIs_int s i t, fun _ e => nomatch e⟩
  | ref p =>
    cases r
    rcases ty with ⟨rfl, xs, hq⟩ | ⟨rfl, o, hk, hc, hd⟩ | ⟨rfl, hk⟩ | ⟨rfl, S, n, hk⟩
    · obtain ⟨its, _, pl, _⟩ := I.list hq
      refine ⟨pl.isList.typeIs, fun a e => ?_⟩
      cases e
      obtain ⟨o, n, e, c, hd, _⟩ := pl
      exact ⟨o, e, hd⟩
    · refine ⟨⟨o, I.kIn p o hk, hc⟩, fun a e => ?_⟩
      cases e
      exact ⟨o, I.kIn _ o hk, hd⟩
    · have z : ∃ o, s.heap.get? p = some o ∧ o.ExactDict := by
        rcases hk with ⟨kvs, hk⟩ | ⟨kvs, hk⟩
        · obtain ⟨_, _, _, _, o, _, _, e, ex, _⟩ := I.hok p _ hk
          exact ⟨o, e, ex⟩
        · obtain ⟨_, _, _, _, o, _, _, e, ex, _⟩ := I.hok p _ hk
          exact ⟨o, e, ex⟩
      obtain ⟨o, e, ex⟩ := z
      refine ⟨⟨o, e, ex.1⟩, fun a e2 => ?_⟩
      cases e2
      exact ⟨o, e, ex.2.1⟩
    · obtain ⟨o, _, _, _, e, ex, _⟩ := I.hok p _ hk
      refine ⟨⟨o, e, ex.1⟩, fun a e2 => ?_⟩
      cases e2
      exact ⟨o, e, ex.2.1⟩
  | _ => exact False.elim ty
def tBM0 (K : PySem.W.Frag) (T : String) (r : V → List V → Hp → VK → Prop) (to : TE) : TE := fun σ H Q => to σ H fun x H1 => tyV K T x H1 ∧ r x [] H1 Q
def tBM (K : PySem.W.Frag) (T : String) (r : V → List V → Hp → VK → Prop) (to : TE) (t : TA) : TE := fun σ H Q => to σ H fun x H1 => tyV K T x H1 ∧ t σ H1 fun xs H2 => r x xs H2 Q
variable {o e : Expr} {es : List Expr} {to : TE} {t : TA} {name : Str} {apos cpos : Pos} {T id : String} {r : V → List V → Hp → VK → Prop}
theorem pe_bm0 (pa : PlainAttrs T) (slot : Slot T name id) (hty : typeOf (.builtin id) = pure (.type "method_descriptor")) (hm : MtR X id r) (ho : PE X o to)
    (hbase : attributeBase o name X.env (eval o X.env) = eval o X.env := by rfl) (hline : (apos.endLine == cpos.line) = true := by rfl) : PE X (.Call (.Attribute o name apos) [] [] cpos) (tBM0 X.K T r to) := by
  intro pins s σ H Q I h
  refine wpAny_Call_method0_late hbase hline (thn (ho pins s σ H _ I h) fun v s1 ⟨x, H1, I1, r1, ty, q1⟩ => ?_)
  obtain ⟨h1, h2⟩ := tyV_is I1 r1 ty
  exact ⟨T, id, pa, slot, hty, h1, h2, Calls.callWith_builtin rfl (PySem.evalArgs_none (hm pins s1 σ H1 x [] v [] Q I1 r1 .nil q1))⟩
theorem pe_bm (pa : PlainAttrs T) (slot : Slot T name id) (hty : typeOf (.builtin id) = pure (.type "method_descriptor")) (hm : MtR X id r) (ho : PE X o to) (ha : PA X (e :: es) t)
    (hbase : attributeBase o name X.env (eval o X.env) = eval o X.env := by rfl)
    (hfew : ((backTo cpos (starEach (e :: es) X.env)).all (fun x => !x.1) && (backToKw cpos (keywordEach [] X.env)).all (fun x => x.1.isSome)
      && decide ((e :: es).length + ([] : List Keyword).length + (if ([] : List Keyword).isEmpty then 0 else 1) < 30)) = true := by rfl)
    (hline : (apos.endLine == cpos.line) = true := by rfl) (hs : starEach (e :: es) X.env = (false, eval e X.env) :: starEach es X.env := by rfl) (hplain : (backTo cpos (starEach es X.env)).any (·.1) = false := by rfl) :
    PE X (.Call (.Attribute o name apos) (e :: es) [] cpos) (tBM X.K T r to t) := by
  intro pins s σ H Q I h
  refine wpAny_Call_method_late hbase hfew hline rfl (thn (ho pins s σ H _ I h) fun v s1 ⟨x, H1, I1, r1, ty, q1⟩ => ?_)
  obtain ⟨h1, h2⟩ := tyV_is I1 r1 ty
  refine ⟨T, id, pa, slot, hty, h1, h2, ?_⟩
  have hA := ha cpos pins s1 σ H1 _ I1 q1
  rw [hs] at hA ⊢
  refine Calls.callWith_builtin (by show (false || (backTo cpos (starEach es X.env)).any (·.1)) = false; rw [hplain] <;> rfl) (Calls.evalArgs_plain ?_)
  exact thn hA fun us s2 ⟨vs, H2, I2, r2, q2⟩ => hm pins s2 σ H2 x vs v us Q I2 r1 r2 q2
/- xs.append(e), list.index on a module's tuple .. are MtR facts of 06m -/
end
end L2

namespace L2
open PySem PySem.Spec PyProof.Rows

def MtM (X : Cx) (id : String) (r : V → List V → Hp → VK → Prop) : Prop :=
  ∀ (pins : List (Addr × Obj)) (s : Shared) (σ : St) (H : Hp) (x : V) (xs : List V) (v : Value) (us : List Value) (Q : VK), Inv X pins σ H s → RelV x v → Vals xs us → r x xs H Q →
    wpAny (model X.prog X.w) X.A (call (.builtin id) (v :: us)) (EP X pins σ Q) X.xe s

/-! ### lists of values -/
theorem Vals.one : ∀ {x : V} {us : List Value}, Vals [x] us → ∃ u, us = [u] ∧ RelV x u
  | _, _, .cons r .nil => ⟨_, rfl, r⟩
theorem Vals.two : ∀ {x y : V} {us : List Value}, Vals [x, y] us → ∃ u v, us = [u, v] ∧ RelV x u ∧ RelV y v
  | _, _, _, .cons r (.cons q .nil) => ⟨_, _, rfl, r, q⟩
theorem Vals.zero : ∀ {us : List Value}, Vals [] us → us = []
  | _, .nil => rfl
theorem Vals.dropLast {xs : List V} {us : List Value} (h : Vals xs us) : Vals xs.dropLast us.dropLast := by
  induction h with
  | nil => exact .nil
  | cons r t ih =>
    cases t with
    | nil => exact .nil
    | cons q t' => exact .cons r ih
theorem Vals.eraseIdx : ∀ {xs : List V} {us : List Value} (i : Nat), Vals xs us → Vals (xs.eraseIdx i) (us.eraseIdx i)
  | _, _, _, .nil => .nil
  | _, _, 0, .cons _ t => t
  | _, _, i + 1, .cons r t => .cons r (Vals.eraseIdx i t)
theorem Vals.reverse {xs : List V} {us : List Value} (h : Vals xs us) : Vals xs.reverse us.reverse := by
  induction h with
  | nil => exact .nil
  | cons r t ih => rw [List.reverse_cons, List.reverse_cons]; exact Vals.append ih (.cons r .nil)
theorem Vals.rep {xs : List V} {us : List Value} (h : Vals xs us) : ∀ k : Nat, Vals (List.replicate k xs).flatten (List.replicate k us).flatten
  | 0 => .nil
  | k + 1 => by
    rw [List.replicate_succ, List.replicate_succ, List.flatten_cons, List.flatten_cons]
    exact Vals.append h (Vals.rep h k)
theorem erase_last {α : Type} (l : List α) : l.eraseIdx (l.length - 1) = l.dropLast := by
  induction l with
  | nil => rfl
  | cons a r ih =>
    cases r with
    | nil => rfl
    | cons b r =>
      have e : (a :: b :: r).length - 1 = ((b :: r).length - 1) + 1 := by
        have h1 : (a :: b :: r).length = r.length + 2 := rfl
        have h2 : (b :: r).length = r.length + 1 := rfl
        omega
      rw [e, List.eraseIdx_cons_succ, ih]
      all_goals rfl
theorem len_erase {α : Type} : ∀ (l : List α) (i : Nat), (l.eraseIdx i).length ≤ l.length
  | [], _ => Nat.le_refl _
  | _ :: _, 0 => Nat.le_succ _
  | _ :: r, i + 1 => Nat.succ_le_succ (len_erase r i)
theorem foldl_rep (its : List Value) : ∀ (k : Nat) (acc : List Value),
    List.foldl (fun x1 x2 => x1 ++ x2) acc.toArray (List.replicate k its.toArray) = (acc ++ (List.replicate k its).flatten).toArray
  | 0, acc => by simp
  | k + 1, acc => by
    have e : acc.toArray ++ its.toArray = (acc ++ its).toArray := by simp
    have e2 : (acc ++ its) ++ (List.replicate k its).flatten = acc ++ (List.replicate (k + 1) its).flatten := by
      rw [List.replicate_succ, List.flatten_cons, List.append_assoc]
    rw [← e2, ← foldl_rep its k (acc ++ its), ← e, List.replicate_succ, List.foldl_cons]

section
variable {X : Cx} {pins : List (Addr × Obj)} {σ : St} {H : Hp} {s : Shared} {l b : Addr} {xs ys zs : List V}

/-! ### the two steps: a tracked list is rewritten, a new list is laid -/
theorem Inv.lset {its its' : List Value} {n : Nat} {f : Array Value → Array Value} {t' : Nat} (I : Inv X pins σ H s) (hH : H l = some (.lst xs))
    (e : s.heap.get? l = some { cls := .type "list", data := .seq its.toArray n }) (hf : f its.toArray = its'.toArray) (hv : Vals ys its') (hz : ys.length ≤ sizeLine) :
    Inv X pins σ (upd H l (.lst ys)) { s with heap := s.heap.update l (Obj.mapSeq f), toks := t' } := by
  have q := PySem.IsL.update e f
  rw [hf] at q
  refine I.write (x := l) (e := l) (by rw [hH]; exact trivial) (.inl rfl) (fun b' u hb hu => (Heap.get?_update_other s.heap (Obj.mapSeq f) (Ne.symm hb)).trans hu) ⟨_, q⟩ ?_
  exact ⟨hz, its', _, hv, q⟩
theorem Inv.lnew {its : List Value} {t' : Nat} (I : Inv X pins σ H s) (hv : Vals ys its) (hz : ys.length ≤ sizeLine) :
    Inv X pins σ (upd H s.heap.objs.size (.lst ys)) { s with heap := s.heap.push { cls := .type "list", data := .seq its.toArray }, toks := t' } :=
  I.laid (fun _ _ q => Heap.get?_push_of_some _ q) (Nat.le_refl _) ⟨hz, its, 0, hv, Heap.get?_push_size _ rfl⟩
theorem Inv.fresh (I : Inv X pins σ H s) : H s.heap.objs.size = none := I.hok.fresh (Nat.le_refl _)
theorem Inv.lstM (I : Inv X pins σ H s) (hH : H l = some (.lst xs)) : xs.length ≤ sizeLine ∧ ∃ (its : List Value) (n : Nat), Vals xs its ∧ xs.length = its.length ∧ s.heap.get? l = some { cls := .type "list", data := .seq its.toArray n } := by
  obtain ⟨z, its, n, r, e⟩ := I.hok l _ hH
  exact ⟨z, its, n, r, r.length, e⟩

theorem notLongL {n : Nat} (h : n ≤ sizeLine) : Builtin.List.listTooLong n = false := by
  unfold Builtin.List.listTooLong
  exact decide_eq_false (by omega)
end

section
variable {X : Cx}

/-! ### methods -/
def rAppend : V → List V → Hp → VK → Prop := fun x vs H Q => ∃ l xs y, x = .ref l ∧ vs = [y] ∧ H l = some (.lst xs) ∧ xs.length < sizeLine ∧ Q .non (upd H l (.lst (xs ++ [y])))
theorem mt_append : MtM X "list.append" rAppend := by
  intro pins s σ H x vs v us Q I rx rv h
  obtain ⟨l, xs, y, rfl, rfl, hH, hz, q⟩ := h
  cases rx
  obtain ⟨u, rfl, ru⟩ := rv.one
  obtain ⟨z, its, n, r, hl, e⟩ := I.lstM hH
  refine call_meets F.slot_list_append ⟨_, e, rfl⟩ F.entry_list_append (F.args_list_append_2 _ _) (PySem.list_append l its.toArray n u (by rw [List.size_toArray]; omega)) ⟨e, ?_⟩
  refine ⟨.non, _, I.lset (its' := its ++ [u]) hH e (by simp) (r.append (.cons ru .nil)) ?_, rfl, q⟩
  rw [List.length_append, List.length_singleton]
  omega

def rExtend : V → List V → Hp → VK → Prop := fun x vs H Q => ∃ l b xs zs, x = .ref l ∧ vs = [.ref b] ∧ H l = some (.lst xs) ∧ H b = some (.lst zs) ∧ xs.length + zs.length ≤ sizeLine ∧ Q .non (upd H l (.lst (xs ++ zs)))
theorem mt_extend : MtM X "list.extend" rExtend := by
  intro pins s σ H x vs v us Q I rx rv h
  obtain ⟨l, b, xs, zs, rfl, rfl, hH, hB, hz, q⟩ := h
  cases rx
  obtain ⟨u, rfl, ru⟩ := rv.one
  cases ru
  obtain ⟨z, its, n, r, hl, e⟩ := I.lstM hH
  obtain ⟨z2, its2, n2, r2, hl2, e2⟩ := I.lstM hB
  have hsz : its.toArray.size + its2.toArray.size ≤ sizeLine := by rw [List.size_toArray, List.size_toArray]; omega
  have hlong : ¬ (!its.toArray.isEmpty && Builtin.List.listTooLong (its.toArray.size + its2.toArray.size)) = true := by
    rw [notLongL hsz, Bool.and_false]
    exact Bool.false_ne_true
  refine call_meets F.slot_list_extend ⟨_, e, rfl⟩ F.entry_list_extend (F.args_list_extend_2 _ _)
    (AutoSeq1.list_extend_list_list_0 l its.toArray n b its2.toArray n2 hlong (by rw [List.size_toArray]; omega) (by omega)) ⟨e, e2, ?_⟩
  refine ⟨.non, _, I.lset (its' := its ++ its2) hH e (by simp) (r.append r2) ?_, rfl, q⟩
  rw [List.length_append]
  omega

def rPop : V → List V → Hp → VK → Prop := fun x vs H Q => ∃ l xs y, x = .ref l ∧ vs = [] ∧ H l = some (.lst xs) ∧ xs[xs.length - 1]? = some y ∧ Q y (upd H l (.lst xs.dropLast))
theorem mt_pop : MtM X "list.pop" rPop := by
  intro pins s σ H x vs v us Q I rx rv h
  obtain ⟨l, xs, y, rfl, rfl, hH, hy, q⟩ := h
  cases rx
  have hus := rv.zero
  subst hus
  obtain ⟨z, its, n, r, hl, e⟩ := I.lstM hH
  obtain ⟨u, hu, ru⟩ := r.get hy
  have hy' : its.toArray[its.toArray.size - 1]? = some u := by
    show its.toArray[its.length - 1]? = some u
    rw [← Array.getElem?_toList, ← hl]
    exact hu
  refine call_meets F.slot_list_pop ⟨_, e, rfl⟩ F.entry_list_pop (F.args_list_pop_1 _) (MeetsSeq.list_pop_last l its.toArray n u hy' (by rw [List.size_toArray]; omega)) ⟨e, ?_⟩
  refine ⟨y, _, I.lset (its' := its.dropLast) hH e ?_ r.dropLast ?_, ru, q⟩
  · show its.toArray.eraseIdxIfInBounds (its.toArray.size - 1) = its.dropLast.toArray
    rw [List.size_toArray, List.eraseIdxIfInBounds_toArray, erase_last]
  · rw [List.length_dropLast]
    omega

def rPopAt : V → List V → Hp → VK → Prop := fun x vs H Q => ∃ l xs i k y, x = .ref l ∧ vs = [.int i] ∧ H l = some (.lst xs) ∧ -(2 ^ 63) ≤ i ∧ i < 2 ^ 63 ∧ seqIndex? i xs.length = some k ∧ xs[k]? = some y ∧ Q y (upd H l (.lst (xs.eraseIdx k)))
theorem mt_popAt : MtM X "list.pop" rPopAt := by
  intro pins s σ H x vs v us Q I rx rv h
  obtain ⟨l, xs, i, k, y, rfl, rfl, hH, h1, h2, hk, hy, q⟩ := h
  cases rx
  obtain ⟨u, rfl, ru⟩ := rv.one
  obtain ⟨t, rfl⟩ := ru
  obtain ⟨z, its, n, r, hl, e⟩ := I.lstM hH
  obtain ⟨w, hw, rw'⟩ := r.get hy
  refine call_meets F.slot_list_pop ⟨_, e, rfl⟩ F.entry_list_pop (F.args_list_pop_2 _ _)
    (MeetsSeq.list_pop_at l its.toArray n i t k w (fitsIndex_both h1 h2) (by rw [List.size_toArray, ← hl]; exact hk) (by rw [← Array.getElem?_toList]; exact hw) (by rw [List.size_toArray]; omega)) ⟨e, ?_⟩
  refine ⟨y, _, I.lset (its' := its.eraseIdx k) hH e ?_ (r.eraseIdx k) ?_, rw', q⟩
  · show its.toArray.eraseIdxIfInBounds k = (its.eraseIdx k).toArray
    rw [List.eraseIdxIfInBounds_toArray]
  · have := len_erase xs k
    omega

def rReverse : V → List V → Hp → VK → Prop := fun x vs H Q => ∃ l xs, x = .ref l ∧ vs = [] ∧ H l = some (.lst xs) ∧ Q .non (upd H l (.lst xs.reverse))
theorem mt_reverse : MtM X "list.reverse" rReverse := by
  intro pins s σ H x vs v us Q I rx rv h
  obtain ⟨l, xs, rfl, rfl, hH, q⟩ := h
  cases rx
  have hus := rv.zero
  subst hus
  obtain ⟨z, its, n, r, hl, e⟩ := I.lstM hH
  refine call_meets F.slot_list_reverse ⟨_, e, rfl⟩ F.entry_list_reverse (F.args_list_reverse_1 _) (AutoSeq1.list_reverse_list_0 l its.toArray n (by rw [List.size_toArray]; omega)) ⟨e, ?_⟩
  refine ⟨.non, _, I.lset (its' := its.reverse) hH e (by simp) r.reverse ?_, rfl, q⟩
  rw [List.length_reverse]
  omega

def rClear : V → List V → Hp → VK → Prop := fun x vs H Q => ∃ l xs, x = .ref l ∧ vs = [] ∧ H l = some (.lst xs) ∧ Q .non (upd H l (.lst []))
theorem mt_clear : MtM X "list.clear" rClear := by
  intro pins s σ H x vs v us Q I rx rv h
  obtain ⟨l, xs, rfl, rfl, hH, q⟩ := h
  cases rx
  have hus := rv.zero
  subst hus
  obtain ⟨z, its, n, r, hl, e⟩ := I.lstM hH
  refine call_meets F.slot_list_clear ⟨_, e, rfl⟩ F.entry_list_clear (F.args_list_clear_1 _) (AutoSeq1.list_clear_list_0 l its.toArray n (by rw [List.size_toArray]; omega)) ⟨e, ?_⟩
  exact ⟨.non, _, I.lset (its' := []) (ys := []) hH e rfl .nil (Nat.zero_le _), rfl, q⟩

/-! ### list + list, list += list, list * int -/
def rCat : R2 := fun x y H Q => ∃ l b xs zs, x = .ref l ∧ y = .ref b ∧ H l = some (.lst xs) ∧ H b = some (.lst zs) ∧ xs.length + zs.length ≤ sizeLine ∧ ∀ p, H p = none → Q (.ref p) (upd H p (.lst (xs ++ zs)))
theorem op_cat : OpR X (binaryOp .Add) rCat := by
  intro pins s σ H x y v u Q I rx ry h
  obtain ⟨l, b, xs, zs, rfl, rfl, hH, hB, hz, q⟩ := h
  cases rx
  cases ry
  obtain ⟨z, its, n, r, hl, e⟩ := I.lstM hH
  obtain ⟨z2, its2, n2, r2, hl2, e2⟩ := I.lstM hB
  refine PySem.P.add_list e e2 ?_ (by rw [List.size_toArray, List.size_toArray]; omega)
  have ea : its.toArray ++ its2.toArray = (its ++ its2).toArray := by simp
  rw [ea]
  exact ⟨.ref _, _, I.lnew (t' := s.toks) (r.append r2) (by rw [List.length_append]; omega), rfl, q _ I.fresh⟩
/-- a list times an int (a negative one is nothing) -/
def rRep : R2 := fun x y H Q => ∃ l k xs, x = .ref l ∧ y = .int k ∧ H l = some (.lst xs) ∧ -(2 ^ 63) ≤ k ∧ k < 2 ^ 63 ∧ xs.length * k.toNat ≤ sizeLine ∧
  ∀ p, H p = none → Q (.ref p) (upd H p (.lst (List.replicate k.toNat xs).flatten))
theorem len_rep {α : Type} (xs : List α) (k : Nat) : (List.replicate k xs).flatten.length = k * xs.length := by
  induction k with
  | zero => simp
  | succ k ih => rw [List.replicate_succ, List.flatten_cons, List.length_append, ih, Nat.succ_mul, Nat.add_comm]
theorem op_rep : OpR X (binaryOp .Mult) rRep := by
  intro pins s σ H x y v u Q I rx ry h
  obtain ⟨l, k, xs, rfl, rfl, hH, h1, h2, hz, q⟩ := h
  cases rx
  obtain ⟨t, rfl⟩ := ry
  obtain ⟨z, its, n, r, hl, e⟩ := I.lstM hH
  have hlen : its.toArray.size * k.toNat ≤ sizeLine := by rw [List.size_toArray, ← hl]; exact hz
  have hcap : ¬ its.toArray.size * k.toNat > (2 ^ 63 - 1) / 8 := by
    have : (sizeLine : Nat) ≤ (2 ^ 63 - 1) / 8 := by decide
    omega
  have hfit : ¬ (!Builtin.List.listFitsIndex k) = true := by
    rw [fitsIndex_both h1 h2]
    exact Bool.false_ne_true
  have hlong : ¬ Builtin.List.listTooLong (its.toArray.size * k.toNat) = true := by
    rw [notLongL hlen]
    exact Bool.false_ne_true
  have hnew : List.foldl (fun x1 x2 => x1 ++ x2) #[] (List.replicate (if its.toArray.isEmpty = true then 0 else k.toNat) its.toArray) = (List.replicate k.toNat its).flatten.toArray := by
    have f0 : ∀ m : Nat, List.foldl (fun x1 x2 => x1 ++ x2) #[] (List.replicate m its.toArray) = (List.replicate m its).flatten.toArray := fun m => by
      have := foldl_rep its m []
      rw [List.nil_append] at this
      exact this
    rw [f0]
    cases its with
    | nil => simp
    | cons a r' => rw [if_neg (by simp)]
  refine wpAny_binaryOp_repeat_ref (T := "list") (U := "int") (by decide) ⟨_, e, rfl⟩ (fun s' => typeIs_int s' k t) noFill_list_mul F.fills_int_mul F.slot_int_rmul repeat_list F.slot_int_index.lookup
    (call_meets F.slot_int_rmul (typeIs_int s k t) F.entry_int_rmul (F.args_int_rmul_2 _ _) (int___rmul___int_list k t l its.toArray n)
      ⟨e, rfl, ⟨_, e, rfl⟩, call_meets F.slot_list_mul ⟨_, e, rfl⟩ F.entry_list_mul (F.args_list_mul_2 _ _) (AutoListH.list___mul___list_int_3 l its.toArray n k t hfit hcap hlong) ⟨e, ?_⟩⟩)
  rw [hnew]
  exact ⟨.ref _, _, I.lnew (t' := s.toks) (r.rep k.toNat) (by rw [len_rep, Nat.mul_comm]; exact hz), rfl, q _ I.fresh⟩

/-! ### del xs[i] -/
theorem del_list {pins : List (Addr × Obj)} {s : Shared} {σ : St} {H : Hp} {l : Addr} {xs : List V} {i : Int} {t : Tok} {k : Nat} {Q : Unit → Shared → Prop} (I : Inv X pins σ H s) (hH : H l = some (.lst xs))
    (h1 : -(2 ^ 63) ≤ i) (h2 : i < 2 ^ 63) (hk : seqIndex? i xs.length = some k) (h : ∀ s', Inv X pins σ (upd H l (.lst (xs.eraseIdx k))) s' → Q () s') :
    wpAny (model X.prog X.w) X.A (delItem (.ref l) (.int i t)) Q X.xe s := by
  obtain ⟨z, its, n, r, hl, e⟩ := I.lstM hH
  refine PySem.P.delItem_list (k := k) e (fitsIndex_both h1 h2) (by rw [List.size_toArray, ← hl]; exact hk) (h _ ?_) (by rw [List.size_toArray]; omega)
  refine I.lset (its' := its.eraseIdx k) (t' := s.toks) hH e ?_ (r.eraseIdx k) ?_
  · show its.toArray.eraseIdxIfInBounds k = (its.eraseIdx k).toArray
    rw [List.eraseIdxIfInBounds_toArray]
  · have := len_erase xs k
    omega
end

/-! ### xs[a:b] = ys -/
section
variable {prog : Program} {w : World} {A : Around} {E : Value → Shared → Prop} {s : Shared}
theorem splice_eq (its its2 : List Value) (a c : Nat) : its.toArray.extract 0 a ++ its2.toArray ++ its.toArray.extract c its.toArray.size = (its.take a ++ its2 ++ its.drop c).toArray := by
  apply Array.toList_inj.mp
  first
    | (simp
       exact List.take_of_length_le (by simp))
    | simp [List.take_of_length_le]
    | simp
theorem bounds_run {a c n : Nat} (hac : a ≤ c) (hc : c ≤ n) : sliceBounds (some (a : Int)) (some (c : Int)) none n = ((a : Int), (c : Int), 1) := by
  simp only [sliceBounds, Option.getD_none]
  have h1 : ¬ ((a : Int) < 0) := by omega
  have h2 : ¬ ((c : Int) < 0) := by omega
  simp only [h1, h2, if_false, show (1 : Int) > 0 by decide, if_true]
  congr 1
  · omega
  · congr 1; omega
set_option maxRecDepth 100000 in
/-- list.__setitem__ with a slice of step one and another list -/
theorem setItem_slice {l b sl : Addr} {items new : Array Value} {n n2 : Nat} {vl vu : Value} {a c : Nat} {Q : Unit → Shared → Prop}
    (e : s.heap.get? l = some { cls := .type "list", data := .seq items n }) (e2 : s.heap.get? b = some { cls := .type "list", data := .seq new n2 }) (hne : l ≠ b)
    (hs : s.heap.IsSliceOf sl vl vu .none) (pl : IsPart vl (some (a : Int))) (pu : IsPart vu (some (c : Int))) (hac : a ≤ c) (hc : c ≤ items.size)
    (hsz : items.size + new.size ≤ sizeLine) (h : Q () { s with heap := s.heap.update l (Obj.mapSeq fun xs => xs.extract 0 a ++ new ++ xs.extract c xs.size) }) :
    wpAny (model prog w) A (setItem (.ref l) (.ref sl) (.ref b)) Q E s := by
  have hl : s.heap.IsList l items := PySem.IsL.isList e
  have hb : s.heap.IsList b new := PySem.IsL.isList e2
  obtain ⟨os, hos, hcs, hds⟩ := id hs
  have hTs : s.TypeIs (.ref sl) "slice" := ⟨os, hos, hcs⟩
  have hstep : ¬ ((rawPart none == rawInt 0) = true) := Bool.false_ne_true
  have hsame : Builtin.List.listSameRef (.ref l) (.ref b) = false := by
    unfold Builtin.List.listSameRef
    exact beq_eq_false_iff_ne.mpr hne
  have hmax : (max (a : Int) (c : Int)).toNat = c := by omega
  have hz' : ((fun xs : Array Value => xs.extract 0 a ++ new ++ xs.extract c xs.size) items).size ≤ sizeLine + 1 := by
    simp only [Array.size_append, Array.size_extract]
    omega
  unfold setItem
  try with_reducible refine wpAny_holding ?_
  first | refine wpAny_bind (wpAny_pure ?_) | skip
  refine wpAny_bind (wpAny_sequenceKey hl.typeIs (by decide) ?_)
  refine wpAny_bind (wpAny_callSpecial?_slot (name := Str.ofString "__setitem__") hl.typeIs slot_list_setitem
    (wpAny_call_entry slot_list_setitem hl.typeIs entry_list_setitem ?_ (args_list_setitem _ _ _)))
  show wpAny _ _ (Builtin.List.listSubscript? (.ref sl) >>= _) _ _ s
  refine wpAny_bind ?_
  unfold Builtin.List.listSubscript?
  refine wpAny_bind (wpAny_specialOf hTs slice_no_index ?_)
  simp only [Option.isNone_none, if_true]
  refine wpAny_pure ?_
  show wpAny _ _ (typeOf (.ref sl) >>= _) _ _ s
  refine wpAny_bind (wpAny_typeOf hTs ?_)
  first
    | rw [if_neg (by decide)]
    | refine PySem.W.KFB.if_not (by decide) ?_
  rw [listSliceParts_eq]
  refine wpAny_bind (wpAny_bind (wpAny_field hos hds (x := .none) rfl (wpAny_bind (wpAny_listPart .none ?_))))
  rw [if_neg hstep]
  refine wpAny_bind (wpAny_field hos hds (x := vl) rfl (wpAny_bind (wpAny_listPart pl ?_)))
  refine wpAny_bind (wpAny_field hos hds (x := vu) rfl (wpAny_bind (wpAny_listPart pu (wpAny_pure ?_))))
  first
    | simp only [hsame, Bool.false_eq_true, if_false]
    | refine PySem.W.KFB.if_not hsame ?_
    | (dsimp only
       rw [if_neg (by rw [hsame]; exact Bool.false_ne_true)])
  refine wpAny_bind (m := Builtin.List.listAllItems (.ref b) "must assign iterable to extended slice") ?_
  unfold Builtin.List.listAllItems
  refine wpAny_bind (wpAny_typeOf hb.typeIs ?_)
  first
    | refine PySem.W.KFB.if_so (by decide) ?_
    | rw [if_pos (by decide)]
    | simp only [beq_self_eq_true, Bool.true_or, if_true]
  unfold Builtin.List.listItems
  refine wpAny_bind (wpAny_seqItems e2 rfl (wpAny_pure ?_))
  refine wpAny_bind (wpAny_bind (wpAny_seqItems e rfl (wpAny_pure ?_)))
  refine wpAny_bind (wpAny_of_eq ((sliceIndices_raw (some (a : Int)) (some (c : Int)) none items.size (by simp)).trans (congrArg (pure : Int × Int × Int → Sem (Int × Int × Int)) (bounds_run hac hc))) ?_)
  show wpAny _ _ (if ((1 : Int) == 1) = true then _ else _) _ _ s
  rw [if_pos (by decide)]
  refine wpAny_bind (wpAny_rule ?_)
  first
    | simp only [notLongL hsz, Bool.false_eq_true, if_false]
    | refine PySem.W.KFB.if_not (notLongL hsz) ?_
  first | refine wpAny_bind (wpAny_pure ?_) | skip
  show wpAny _ _ (updateSeq l (fun xs => xs.extract 0 ((a : Int)).toNat ++ new ++ xs.extract (max (a : Int) (c : Int)).toNat xs.size) >>= _) _ _ s
  rw [hmax, Int.toNat_natCast]
  refine wpAny_bind (wpAny_updateSeq (hz := Nat.le_trans (Nat.le_add_right _ _) hsz) (_hz' := hz') e rfl ?_)
  refine wpAny_bind (wpAny_letGo ?_)
  first
    | exact wpAny_bind (wpAny_pure (wpAny_pure ⟨.none, rfl, wpAny_pure h⟩))
    | exact wpAny_pure ⟨.none, rfl, wpAny_pure h⟩
end

section
variable {X : Cx}
/-- xs[a:c] = ys of another list, at the value level: sl is the slice object that was just made -/
theorem set_slice {pins : List (Addr × Obj)} {s : Shared} {σ : St} {H : Hp} {l b sl : Addr} {xs ys : List V} {a c : Int} {vl vu : Value} {Q : Unit → Shared → Prop} (I : Inv X pins σ H s)
    (hH : H l = some (.lst xs)) (hB : H b = some (.lst ys)) (hne : l ≠ b) (hs : s.heap.IsSliceOf sl vl vu .none) (ra : RelV (.int a) vl) (rc : RelV (.int c) vu) (h0 : 0 ≤ a) (hac : a ≤ c) (hc : c ≤ xs.length)
    (hz : xs.length + ys.length ≤ sizeLine) (h : ∀ s', Inv X pins σ (upd H l (.lst (xs.take a.toNat ++ ys ++ xs.drop c.toNat))) s' → Q () s') :
    wpAny (model X.prog X.w) X.A (setItem (.ref l) (.ref sl) (.ref b)) Q X.xe s := by
  obtain ⟨ta, rfl⟩ := ra
  obtain ⟨tc, rfl⟩ := rc
  obtain ⟨z, its, n, r, hl, e⟩ := I.lstM hH
  obtain ⟨z2, its2, n2, r2, hl2, e2⟩ := I.lstM hB
  obtain ⟨a', rfl⟩ := Int.eq_ofNat_of_zero_le h0
  obtain ⟨c', rfl⟩ := Int.eq_ofNat_of_zero_le (Int.le_trans h0 hac)
  simp only [Int.toNat_natCast] at h
  refine setItem_slice (a := a') (c := c') e e2 hne hs (.int _ _) (.int _ _) (by omega) (by rw [List.size_toArray]; omega) (by rw [List.size_toArray, List.size_toArray]; omega) (h _ ?_)
  refine I.lset (its' := its.take a' ++ its2 ++ its.drop c') (t' := s.toks) hH e ?_ (Vals.append (Vals.append (r.take _) r2) (r.drop _)) ?_
  · exact splice_eq its its2 a' c'
  · rw [List.length_append, List.length_append, List.length_take, List.length_drop]
    omega
end
end L2

namespace Att
open PySem PySem.W PySem.Calls PyProof.Rows

/-! ### the script -/
theorem ints_of_wellAll {P : Params} {h : Heap} : ∀ (ns : List Int) (vs : List Value), WellAll P h vs (ns.map WData.int) → IntsAre vs ns := by
  intro ns
  induction ns with
  | nil =>
    intro vs w
    rw [List.map_nil] at w
    cases w
    exact .nil
  | cons n ns ih =>
    intro vs w
    rw [List.map_cons] at w
    cases w with
    | cons a b =>
      cases a
      exact .cons _ _ (ih _ b)

theorem script_of {l : OpenLaw} {n : Nat} (hn : l.most = some n) {P : Params} {h : Heap} {args : List WData} {vals : List Value}
    (hpre : l.row.toRowW.claim.pre args = true) (hwl : WellAll P h vals args) :
    ∃ a vs ns, vals = [Value.ref a] ∧ args = [WData.list (ns.map WData.int)] ∧ h.get? a = some { cls := .type "list", data := .seq vs.toArray } ∧ IntsAre vs ns ∧ ns.length ≤ n := by
  have hsh : WShape.hasAll [] args [.list .int] = true := (pre_splitW hpre).1
  have hc : l.pre.holds [] { args := args } = true := (pre_splitW hpre).2
  obtain ⟨d, r, rfl, h1, h2⟩ := hasAllW_cons hsh
  obtain rfl := hasAllW_nil h2
  obtain ⟨xs, rfl, h3⟩ := hasW_list h1
  obtain ⟨ns, rfl⟩ := items_int h3
  have hlen : ns.length ≤ n := by
    unfold OpenLaw.pre at hc
    have h4 : (WTm.not (.lt (.lit (.int (n : Int))) (.len (.arg 0)))).holds [] { args := [.list (ns.map .int)] } = true := by
      have h4 := (holds_andW hc).1
      rw [hn] at h4
      exact h4
    have h5 := condW_of h4 (w_not (w_lt w_lit (w_len_list (w_arg rfl))))
    rw [List.length_map] at h5
    refine Nat.le_of_not_lt fun q => ?_
    have q' : (n : Int) < ((ns.length : Nat) : Int) := by omega
    first
      | (rw [decide_eq_true q'] at h5; exact absurd h5 (by decide))
      | (simp at h5; omega)
  cases hwl with
  | cons w1 w2 =>
    cases w2
    cases w1 with
    | list ho hall => exact ⟨_, _, ns, rfl, rfl, ho, ints_of_wellAll ns _ hall, hlen⟩

theorem post_true (l : OpenLaw) (args : List WData) : l.row.toRowW.claim.post args (.bool true) args = true :=
  postW_of (r := l.row.toRowW) (X := (true == true))
    (show WShape.has [] (.bool true) .bool = true by first | rfl | decide | simp [WShape.has, WShape.arms, WShape.armsAll])
    (show (WTm.eq .res (.lit (.bool true))).value [] { args := args, res := some (.bool true), after := args } = some (.bool (true == true)) from w_eq_bool (w_res rfl) w_lit) rfl

/-! ### the attachment: holds_open's last premise (the goal 'hc' behind k_head) from a wpAny of the law's body -/
theorem attach {l : OpenLaw} {n : Nat} {q : Program} {loose : List Str} {XP : (Str → Option Value) → Heap → Prop} {YP : World → Heap → Prop} {d : DefRec} {x : Str}
    (hn : l.most = some n) (hdf : d.params.defaults = [])
    (hbind : ∀ pm cd doc v : Value, bindArgs (docDef d.name d.params d.body d.scope pm cd doc) ⟨[v], []⟩ = pure [(x, v)])
    (hx : d.scope.names.lookup x = some .local ∨ d.scope.names.lookup x = some .cell)
    (hk : d.scope.kind = .function) (hco : d.scope.isCoroutine = false) (hgen : d.scope.isGenerator = false)
    (body : ∀ (w : World) (s₀ s₁ s : Shared) (mg mb : Str → Option Value) (fa : Addr) (o : Obj) (pm cd doc : Value) (a : Addr) (vs : List Value) (ns : List Int),
      Ground q loose [] XP w s₀ mg mb s₁.heap → YP w s₁.heap →
      s₁.heap.get? fa = some o → o.data = .func (docDef d.name d.params d.body d.scope pm cd doc) → s₁.heap.CodeRec cd d.name → mg d.name = some (.ref fa) →
      s₁.heap.get? a = some { cls := .type "list", data := .seq vs.toArray } → IntsAre vs ns → ns.length ≤ n →
      s.gens = #[] → s.os = s₁.os →
      Fr s₁.heap s₁.heap.objs.size s.heap (bindL (envOfC d.name d.scope s₁.heap.objs.size fa cd).kindOf [(x, .ref a)] fun _ => none) →
      Cl s₁.heap.objs.size (cellsFrom (s₁.heap.objs.size + 1) d.scope.names []) s.heap (bindC (envOfC d.name d.scope s₁.heap.objs.size fa cd).kindOf [(x, .ref a)] fun _ => none) →
      wpAny (model l.prog w) (callerA.deeper (envOfC d.name d.scope s₁.heap.objs.size fa cd)) (execs d.body (envOfC d.name d.scope s₁.heap.objs.size fa cd))
        (fun f s' => f = .ret (.bool true) ∧ OldK s₁.heap s'.heap ∧ s'.os = s₁.os ∧ AllBare s'.gens) (fun _ _ => False) s) :
    WalkO q loose XP YP l.row.toRowW d [] (fun f vs => PySem.call f vs) := by
  intro w s₀ s₁ mg mb G Y fa o pm cd doc dV kV ho hd hcd hD hmg hg args vals as hpre hlay hrd hwl hlo
  obtain rfl : dV = .none := Dflts.none hD hdf
  obtain rfl : kV = .none := Dflts.noKw hD
  obtain ⟨a, vs, ns, rfl, rfl, hobj, hints, hlen⟩ := script_of hn hpre hwl
  refine enter_call ?_
  refine call_cells_ret (o := o) (by rw [depth_caller]; decide) ho (fd_plain hd) G.T.nolimit hcd (hbind pm cd doc (.ref a)) (fun y hy => ?_) (fun h₁ tk F X => ?_) hco hgen hk
  · obtain rfl : y = (x, Value.ref a) := List.mem_singleton.mp hy
    rcases hx with e | e
    · exact .inl e
    · exact .inr ⟨e, cellsFrom_some _ _ _ (.inl e)⟩
  · refine wpAny_mono (body w s₀ s₁ { s₁ with heap := h₁, toks := tk } mg mb fa o pm cd doc a vs ns G Y ho (fd_plain hd) hcd hmg hobj hints hlen hg rfl F X) (fun f s' hq => ?_) (fun _ _ hq => hq)
    obtain ⟨rfl, h2, h3, h4⟩ := hq
    exact ⟨.inl ⟨.bool true, .bool true, [], rfl, fun _ => rfl, .bool true, post_true l _, fun _ => ⟨List.Pairwise.nil, fun _ hm => (nomatch hm)⟩⟩, h2, h3, h4⟩

/-- the same from a codeAny of the CALL (for a layer whose function contracts speak of calls) -/
theorem attach_call {l : OpenLaw} {n : Nat} {q : Program} {loose : List Str} {XP : (Str → Option Value) → Heap → Prop} {YP : World → Heap → Prop} {d : DefRec}
    (hn : l.most = some n) (hdf : d.params.defaults = [])
    (call : ∀ (w : World) (s₀ s₁ : Shared) (mg mb : Str → Option Value) (fa : Addr) (o : Obj) (pm cd doc : Value) (a : Addr) (vs : List Value) (ns : List Int),
      Ground q loose [] XP w s₀ mg mb s₁.heap → YP w s₁.heap →
      s₁.heap.get? fa = some o → o.data = .func (docDef d.name d.params d.body d.scope pm cd doc) → s₁.heap.CodeRec cd d.name → mg d.name = some (.ref fa) →
      s₁.heap.get? a = some { cls := .type "list", data := .seq vs.toArray } → IntsAre vs ns → ns.length ≤ n → s₁.gens = #[] →
      codeAny (model l.prog w) callerA (.call (.ref fa) ⟨[.ref a], []⟩) (fun r s' => r = .ok (.ret (.bool true)) ∧ OldK s₁.heap s'.heap ∧ s'.os = s₁.os ∧ AllBare s'.gens) s₁) :
    WalkO q loose XP YP l.row.toRowW d [] (fun f vs => PySem.call f vs) := by
  intro w s₀ s₁ mg mb G Y fa o pm cd doc dV kV ho hd hcd hD hmg hg args vals as hpre hlay hrd hwl hlo
  obtain rfl : dV = .none := Dflts.none hD hdf
  obtain rfl : kV = .none := Dflts.noKw hD
  obtain ⟨a, vs, ns, rfl, rfl, hobj, hints, hlen⟩ := script_of hn hpre hwl
  refine enter_call (codeAny_mono (call w s₀ s₁ mg mb fa o pm cd doc a vs ns G Y ho (fd_plain hd) hcd hmg hobj hints hlen hg) fun r s' hq => ?_)
  obtain ⟨rfl, h2, h3, h4⟩ := hq
  exact ⟨.inl ⟨.bool true, .bool true, [], rfl, fun _ => rfl, .bool true, post_true l _, fun _ => ⟨List.Pairwise.nil, fun _ hm => (nomatch hm)⟩⟩, h2, h3, h4⟩

/-- the same where the top left finished generators (o_head chose holds_openN): nothing may have changed at all and no generator may be left -/
theorem attachN {l : OpenLaw} {n : Nat} {q : Program} {loose : List Str} {XP : (Str → Option Value) → Heap → Prop} {YP : World → Heap → Prop} {d : DefRec} {x : Str}
    (hn : l.most = some n) (hdf : d.params.defaults = [])
    (hbind : ∀ pm cd doc v : Value, bindArgs (docDef d.name d.params d.body d.scope pm cd doc) ⟨[v], []⟩ = pure [(x, v)])
    (hx : d.scope.names.lookup x = some .local ∨ d.scope.names.lookup x = some .cell)
    (hk : d.scope.kind = .function) (hco : d.scope.isCoroutine = false) (hgen : d.scope.isGenerator = false)
    (body : ∀ (w : World) (s₀ s₁ s : Shared) (mg mb : Str → Option Value) (fa : Addr) (o : Obj) (pm cd doc : Value) (a : Addr) (vs : List Value) (ns : List Int),
      Ground q loose [] XP w s₀ mg mb s₁.heap → YP w s₁.heap →
      s₁.heap.get? fa = some o → o.data = .func (docDef d.name d.params d.body d.scope pm cd doc) → s₁.heap.CodeRec cd d.name → mg d.name = some (.ref fa) →
      s₁.heap.get? a = some { cls := .type "list", data := .seq vs.toArray } → IntsAre vs ns → ns.length ≤ n →
      s.gens = #[] → s.os = s₁.os →
      Fr s₁.heap s₁.heap.objs.size s.heap (bindL (envOfC d.name d.scope s₁.heap.objs.size fa cd).kindOf [(x, .ref a)] fun _ => none) →
      Cl s₁.heap.objs.size (cellsFrom (s₁.heap.objs.size + 1) d.scope.names []) s.heap (bindC (envOfC d.name d.scope s₁.heap.objs.size fa cd).kindOf [(x, .ref a)] fun _ => none) →
      wpAny (model l.prog w) (callerA.deeper (envOfC d.name d.scope s₁.heap.objs.size fa cd)) (execs d.body (envOfC d.name d.scope s₁.heap.objs.size fa cd))
        (fun f s' => f = .ret (.bool true) ∧ (∀ b o, s₁.heap.get? b = some o → s'.heap.get? b = some o) ∧ s'.os = s₁.os ∧ s'.gens = #[]) (fun _ _ => False) s) :
    WalkN q loose XP YP l.row.toRowW d [] (fun f vs => PySem.call f vs) := by
  intro w s₀ s₁ mg mb G Y fa o pm cd doc dV kV ho hd hcd hD hmg hg args vals as hpre hlay hrd hwl hlo
  obtain rfl : dV = .none := Dflts.none hD hdf
  obtain rfl : kV = .none := Dflts.noKw hD
  obtain ⟨a, vs, ns, rfl, rfl, hobj, hints, hlen⟩ := script_of hn hpre hwl
  refine enter_callW ?_
  refine call_cells_ret (o := o) (by rw [depth_caller]; decide) ho (fd_plain hd) G.T.nolimit hcd (hbind pm cd doc (.ref a)) (fun y hy => ?_) (fun h₁ tk F X => ?_) hco hgen hk
  · obtain rfl : y = (x, Value.ref a) := List.mem_singleton.mp hy
    rcases hx with e | e
    · exact .inl e
    · exact .inr ⟨e, cellsFrom_some _ _ _ (.inl e)⟩
  · refine wpAny_mono (body w s₀ s₁ { s₁ with heap := h₁, toks := tk } mg mb fa o pm cd doc a vs ns G Y ho (fd_plain hd) hcd hmg hobj hints hlen hg rfl F X) (fun f s' hq => ?_) (fun _ _ hq => hq)
    obtain ⟨rfl, h2, h3, h4⟩ := hq
    exact ⟨.inl ⟨.bool true, .bool true, [], rfl, fun _ => rfl, .bool true, post_true l _, fun _ => ⟨List.Pairwise.nil, fun _ hm => (nomatch hm)⟩⟩, h2, h3, h4⟩

/-! ### rules over ANY heap (no ledger) from facts about the written part K: the library's own take a ledger (News) for what they write -/
section
variable {prog : Program} {w : World} {A : Around} {E : Value → Shared → Prop} {s : Shared} {K : Frag}

/-- a def of the module, or a method (qual 'C.m'), entered: the frame is the next address; cells behind it -/
theorem call_fn {R : Result → Shared → Prop} {name qual : Str} {params : Arguments} {body : List Stmt} {scope : Scope} {dV kV doc pm cdv ct oc : Value} {an od : Option Addr} {osl : Array (Option Value)} {f : Addr} {args : Args} {binds : List (Str × Value)}
    (X : K.In s.heap) (hlim : s.heap.NoLimit) (ho : K.lookup f = some ⟨oc, od, .func (fnOf name qual params body scope dV kV doc pm an cdv ct), osl⟩) (hcd : codeIn K cdv qual = true) (hroom : A.depth < recursionLimit)
    (hbind : BindsTo s (fnOf name qual params body scope dV kV doc pm an cdv ct) args binds)
    (hkind : (binds.all fun y => scope.names.lookup y.1 == some .local || scope.names.lookup y.1 == some .cell) = true)
    (h : ∀ s₁, InCallC s s.heap.objs.size (bindL (envOfC qual scope s.heap.objs.size f cdv).kindOf binds fun _ => none) (cellsFrom (s.heap.objs.size + 1) scope.names [])
        (bindC (envOfC qual scope s.heap.objs.size f cdv).kindOf binds fun _ => none) s₁ →
      wpAny (model prog w) (A.deeper (envOfC qual scope s.heap.objs.size f cdv)) (execs body (envOfC qual scope s.heap.objs.size f cdv))
        (fun fl s' => R (.ok (.ret (match fl with | .ret v => v | _ => .none))) s')
        (fun e s' => wpAny (model prog w) (A.deeper (envOfC qual scope s.heap.objs.size f cdv)) (leaving (envOfC qual scope s.heap.objs.size f cdv) e) (fun _ s'' => R (.error e) s'') (fun e' s'' => R (.error e') s'') s') s₁)
    (hco : scope.isCoroutine = false) (hgen : scope.isGenerator = false) (hk : scope.kind = .function) : codeAny (model prog w) A (.call (.ref f) args) R s := by
  refine codeAny_call_function hroom (X _ _ ho) rfl hco hgen rfl (codeRec_of X hcd) (hbind _ _ _ _ ?_)
  refine wpAny_newFunctionEnv_cells hk (kindsX hkind _) fun env he s₁ x => ?_
  subst he
  exact ⟨hlim.keeps x.toInCall.keep, codeAny_func (h s₁ x)⟩

/-- C(..): dict at size, instance at size + 1, then __init__ -/
theorem make_obj {R : Result → Shared → Prop} {C fI : Addr} {rest : List Value} {kw : List (Str × Value)}
    (X : K.In s.heap) (hm : makesIn K C = true) (hi : findIn K (.ref C) "__init__" = some (some (.ref fI))) (hf : isFn K (.ref fI) = true)
    (h : codeAny (model prog w) (A.under (.builtin "type.__call__" ⟨.ref C :: rest, kw⟩)) (.call (.ref fI) ⟨.ref (s.heap.objs.size + 1) :: rest, kw⟩) (InitBack (s.heap.objs.size + 1) R)
      { s with heap := (s.heap.push emptyDict).push (instObj C s.heap.objs.size) }) : codeAny (model prog w) A (.call (.ref C) ⟨rest, kw⟩) R s := by
  obtain ⟨hh, g, d, t, os⟩ := s
  exact make_core (makes_of X hm) (looks_findIn X hi) (fun self => bind_fn X self (beq_iff_eq.mp hf)) (.inl rfl) h

/-- x.name where the instance's dict holds the name and the class does not -/
theorem get_field {x C : Addr} {ox : Obj} {es : List DictEntry} {n : Nat} {name : Str} {expr : Bool} {v : Value} {Q : Value → Shared → Prop}
    (X : K.In s.heap) (I : PySem.W.InstAt s.heap x ox C (some (dictOf es n))) (hg : plainGet K C name = true) (hh : hasDictIn K C = true) (ha : findIn K (.ref C) name = some none)
    (hl : getL name es = some (some v)) (hv : handedIn v = true) (h : Q v { s with toks := s.toks + 1 }) : wpAny (model prog w) A (getAttr (.ref x) name expr) Q E s :=
  get_value X I (plainGet_of hg).1 (findObj_own hh ha rfl hl) hv h

/-- x.m(..): the method found in the class -/
theorem get_method {x C f : Addr} {ox : Obj} {es : List DictEntry} {n : Nat} {name : Str} {pl : Sem Bool} {Q : Value × List Value → Shared → Prop}
    (X : K.In s.heap) (I : PySem.W.InstAt s.heap x ox C (some (dictOf es n))) (hg : plainGet K C name = true) (hf : findIn K (.ref C) name = some (some (.ref f))) (ht : isFn K (.ref f) = true)
    (hl : getL name es = some none) (h : Q (.ref f, [.ref x]) s) : wpAny (model prog w) A (getMethod (.ref x) name pl) Q E s :=
  method_fn X I (plainGet_of hg).1 (plainGet_of hg).2 hf (beq_iff_eq.mp ht) (by show (lookIn name (dictOf es n)).map _ = _; rw [lookIn_dict, hl]; rfl) h

/-! the whole heap as the ledger: makes every rule that writes through a ledger a rule over any heap -/
def noObjs (h : Heap) : Heap := { h with objs := #[] }
theorem noObjs_get (h : Heap) (b : Addr) : (noObjs h).get? b = none := by
  cases e : (noObjs h).get? b with
  | none => rfl
  | some o => exact absurd (Heap.lt_size e) (Nat.not_lt_zero _)
def ledger (h : Heap) (L d : Addr) : List (Addr × Obj) := (List.range h.objs.size).filterMap fun a => if a = L ∨ a = d then none else (h.get? a).map fun o => (a, o)
theorem mem_ledger {h : Heap} {L d a : Addr} {o : Obj} : (a, o) ∈ ledger h L d ↔ a ≠ L ∧ a ≠ d ∧ h.get? a = some o := by
  unfold ledger
  rw [List.mem_filterMap]
  constructor
  · rintro ⟨b, _, e⟩
    split at e
    · cases e
    · rename_i hb
      obtain ⟨o', ho, e'⟩ := Option.map_eq_some_iff.mp e
      cases e'
      exact ⟨fun q => hb (.inl q), fun q => hb (.inr q), ho⟩
  · rintro ⟨n1, n2, ho⟩
    refine ⟨a, List.mem_range.mpr (Heap.lt_size ho), ?_⟩
    rw [if_neg (show ¬ (a = L ∨ a = d) from fun q => q.elim n1 n2), ho] <;> rfl
theorem news_ledger {h : Heap} {L d : Addr} {od : Obj} (hne : d ≠ L) (ho : h.get? d = some od) : News (noObjs h) L h ([] ++ (d, od) :: ledger h L d) := by
  rintro ⟨a, o⟩ hp
  rcases List.mem_cons.mp hp with e | hp
  · cases e
    exact ⟨ho, hne, noObjs_get _ _⟩
  · obtain ⟨n1, n2, e⟩ := mem_ledger.mp hp
    exact ⟨e, n1, noObjs_get _ _⟩
theorem fr_all {h : Heap} {L : Addr} {m : Str → Option Value} (n : h.Ns L m) : Fr (noObjs h) L h m :=
  ⟨n, fun b o e => (by rw [noObjs_get] at e; cases e), Nat.zero_le _⟩
/-- Upd of the head entry (for append_K, setItem_K ..) -/
theorem upd_ledger {h : Heap} {L d : Addr} {o o' : Obj} : Upd d o o' ((d, o) :: ledger h L d) ((d, o') :: ledger h L d) :=
  .head fun ⟨_, _⟩ hp => (mem_ledger.mp hp).2.1

/-- x.name = v over any heap: L is any namespace of the heap (the frame's, say): its map stays, its object is not told; all else but the dict stays -/
theorem set_field {x C dx L : Addr} {ox : Obj} {m : Str → Option Value} {es es' : List DictEntry} {n n' : Nat} {name : Str} {v : Value} {Q : Unit → Shared → Prop}
    (X : K.In s.heap) (I : PySem.W.InstAt s.heap x ox C (some (dictOf es n))) (hd : ox.dict = some dx) (hL : s.heap.Ns L m) (hne : dx ≠ L)
    (hs : findIn K (.ref C) "__setattr__" = some (some (.builtin "object.__setattr__"))) (hp : plainOver K C = true) (ht : takerIn K C name = some none) (hh : hasDictIn K C = true) (hl : (getL name es).isSome = true)
    (e : (putL name (PyData.keyHash w.params name) (.str name (s.toks + 1)) v es, putN name es n) = (es', n')) (hz : es'.length ≤ 1000)
    (h : ∀ h' : Heap, h'.Ns L m → h'.get? dx = some (dictOf es' n') → (∀ b o, b ≠ dx → b ≠ L → s.heap.get? b = some o → h'.get? b = some o) → Q () { s with heap := h', toks := s.toks + 2 }) :
    wpAny (model prog w) A (setAttr (.ref x) name v) Q E s := by
  obtain ⟨e1, e2⟩ := Prod.mk.inj e
  have hdx : s.heap.get? dx = some (dictOf es n) := by
    have := I.dict
    rw [hd] at this
    exact this
  refine set_plain X I hs (osa_dict (s := { s with toks := s.toks + 1 }) (h₀ := noObjs s.heap) (L := L) (m := m) (od := dictOf es n) (od' := dictOf es' n') (es := es') (n := n') (pre := []) (post := ledger s.heap L dx)
    (fr_all hL) (news_ledger hne hdx) X I hd hp ht hh hl (fun _ q => nomatch q) (fun ⟨_, _⟩ q => (mem_ledger.mp q).2.1) (by rw [putName_dict, e1, e2]) rfl hz fun h' F' N' => ?_)
  exact h h' F'.ns (N'.get (List.Mem.head _)) fun b o n1 n2 ho => N'.get (List.Mem.tail _ (mem_ledger.mpr ⟨n2, n1, ho⟩))
end
end Att

namespace L2
open PySem PySem.Spec PyProof.Rows

theorem vals_ints : ∀ {vs : List Value} {ns : List Int}, IntsAre vs ns → Vals (ns.map V.int) vs
  | _, _, .nil => .nil
  | _, _, .cons n t h => .cons ⟨t, rfl⟩ (vals_ints h)

/-- nothing is tracked but the script, known to the object (or it is an object of the module) -/
def Only (H : Hp) : Prop := ∀ b, H b = none ∨ ∃ o xs, H b = some (.frz o (.lst xs))

/-- THE HEAD: the law's promise, at the heap behind the top. F, the promise of the law's def, may use that base is part of the heap (so K.In base, base.Ns mainGlobals mg stand in Mod) -/
theorem law_call {P : Program} {w : World} {K : PySem.W.Frag} {mg mb : Str → Option Value} {CX : CXT} {k : Nat} {fa a : Addr} {fd : FuncData} {x : Str} {sp : Sp} {s₁ : Shared} {vs : List Value} {ns : List Int}
    (KX : K.In s₁.heap) (hns : s₁.heap.Ns mainGlobals mg) (hb : s₁.heap.Ns builtinsNs mb) (hbb : ∀ x : Str, x ≠ "__name__" → mb x = bootBuiltins x) (hlim : s₁.heap.NoLimit) (hg : s₁.gens = #[])
    (ha : s₁.heap.get? a = some { cls := .type "list", data := .seq vs.toArray }) (hi : IntsAre vs ns) (hl : ns.length ≤ sizeLine) (hr : Room k callerA)
    (F : ∀ base : Heap, K.In base → base.Ns mainGlobals mg → FnOk P w K mg base CX k fa fd [x] sp) (hbind : ∀ (s : Shared) (u : Value), BindsTo s fd ⟨[u], []⟩ [(x, u)])
    (hsp : ∀ H : Hp, Only H → SqL K H a (ns.map V.int) → sp [.ref a] H (fun v _ => v = .bl true) fun _ _ _ => False)
    (hCX : ∀ H e s', CX [] H s₁ (fun _ _ _ => False) e s' → False) :
    codeAny (model P w) callerA (.call (.ref fa) ⟨[.ref a], []⟩) (fun r s' => r = .ok (.ret (.bool true)) ∧ OldK s₁.heap s'.heap ∧ s'.os = s₁.os ∧ AllBare s'.gens) s₁ := by
  have rv := vals_ints hi
  have lenV := hi.length
  -- from an abstract heap in which nothing but the script may be tracked
  have core : ∀ H : Hp, Only H → SqL K H a (ns.map V.int) → HOk P w H s₁.heap → (∀ b, H b ≠ none → b = a) → (H a ≠ none → K.lookup a = none) →
      codeAny (model P w) callerA (.call (.ref fa) ⟨[.ref a], []⟩) (fun r s' => r = .ok (.ret (.bool true)) ∧ OldK s₁.heap s'.heap ∧ s'.os = s₁.os ∧ AllBare s'.gens) s₁ := by
    intro H hO hS hok hA hK
    have base_of : ∀ {b : Addr} {o : Obj}, s₁.heap.get? b = some o → H b = none → (hidT s₁.heap H).get? b = some o := fun e n => hidT_get e n
    have noA : ∀ {b : Addr} {o : Obj} {es : Array DictEntry} {ep : Nat}, s₁.heap.get? b = some o → o.data = .dict es ep → H b = none := fun {b o es ep} e d => by
      cases q : H b with
      | none => rfl
      | some u =>
        have e' : b = a := hA b (by rw [q]; simp)
        subst e'
        rw [ha] at e; cases e
        have d' : Data.seq vs.toArray _ = Data.dict es ep := d
        cases d'
    have nsK : ∀ {b : Addr} {m : Str → Option Value}, s₁.heap.Ns b m → (hidT s₁.heap H).Ns b m := fun {b m} ⟨o, es, ep, e, d, r⟩ => ⟨o, es, ep, base_of e (noA e d), d, r⟩
    have hKb : K.In (hidT s₁.heap H) := fun b o e => base_of (KX b o e) (by
      cases q : H b with
      | none => rfl
      | some u =>
        have e' : b = a := hA b (by rw [q]; simp)
        subst e'
        rw [hK (by rw [q]; simp)] at e; cases e)
    have hM : Mod K mg (hidT s₁.heap H) := ⟨hKb, nsK hns, ⟨mb, nsK hb, hbb⟩, let ⟨mc, h1, h2⟩ := hlim; ⟨mc, nsK h1, h2⟩⟩
    have e0 : Env0 P w K mg (hidT s₁.heap H) callerA [] s₁ H := ⟨rfl, hM, fun b o e => of_hidT e, Nat.le_of_eq (hidT_size _ _), trivial, fun b hb => absurd (show b ∈ ([] : List Addr) from hb) (by simp), hok, .of_eq hg⟩
    refine codeAny_mono ((F _ hKb (nsK hns)).run callerA [] s₁ H ⟨[.ref a], []⟩ [.ref a] [.ref a] _ _ hr e0 (hbind s₁ (.ref a)) (.cons rfl .nil) (hsp H hO hS)) fun r s' h => ?_
    cases r with
    | error e => exact (hCX H e s' h).elim
    | ok fl =>
      cases fl with
      | next => exact False.elim h
      | brk => exact False.elim h
      | cont => exact False.elim h
      | ret u =>
        obtain ⟨v, H', os, bare, un, hok', r', q⟩ := h
        have q' : v = .bl true := q
        subst q'
        obtain rfl : u = Value.bool true := r'
        refine ⟨rfl, OldK.of_keep fun b o e => ?_, os, bare⟩
        cases q : H b with
        | none => exact un.keep b o e q (by intro z; exact absurd (show b ∈ ([] : List Addr) from z) (by simp)) (by simp)
        | some u =>
          rcases hO b with z | ⟨ob, xs, z⟩
          · rw [q] at z; cases z
          · have z2 := un.frzs b ob _ z
            obtain ⟨e1, _⟩ := hok b _ z
            obtain ⟨e2, _⟩ := hok' b _ z2
            rw [e] at e1; cases e1
            exact e2
  cases hk : K.lookup a with
  | some o =>
    -- the script is one of the module's own objects
    have e := KX a o hk
    rw [ha] at e
    cases e
    refine core (fun _ => none) (fun _ => .inl rfl) (.inr ⟨_, vs.toArray, _, hk, rfl, rfl, rfl, by rw [List.size_toArray, lenV]; exact hl, by simpa using rv⟩) (fun b u z => by have z' : (none : Option HO) = some u := z; cases z') (fun b z => absurd rfl z) fun z => absurd rfl z
  | none =>
    refine core (fun b => if b = a then some (.frz { cls := .type "list", data := .seq vs.toArray } (.lst (ns.map V.int))) else none) (fun b => ?_) (.inl (.inr ⟨{ cls := .type "list", data := .seq vs.toArray }, if_pos rfl⟩)) (fun b u z => ?_) (fun b z => ?_) fun _ => hk
    · by_cases hb : b = a
      · exact .inr ⟨_, _, if_pos hb⟩
      · exact .inl (if_neg hb)
    · by_cases hb : b = a
      · have z' := (if_pos hb).symm.trans z
        cases z'
        subst hb
        exact ⟨ha, by rw [List.length_map]; exact hl, vs, _, rv, ha⟩
      · have z' := (if_neg hb).symm.trans z
        cases z'
    · by_cases hb : b = a
      · exact hb
      · exact absurd (if_neg hb) z
end L2

namespace L2
open PySem PySem.Spec PyProof.Rows

abbrev KOf {K : PySem.W.Frag} {h : Heap} (_ : K.In h) : PySem.W.Frag := K

/-- the goal that k_head leaves (case hc), from the law's promise. F gives the function object fd (K's own) once, then the promise over every base -/
theorem walk_of {l : PySem.W.OpenLaw} {n k : Nat} {q : Program} {loose : List Str} {XP : (Str → Option Value) → Heap → Prop} {YP : World → Heap → Prop} {d : DefRec} {K : Params → PySem.W.Frag} {CX : World → CXT} {sp : World → Sp} {x : Str}
    (hn : l.most = some n) (hn2 : n ≤ sizeLine) (hdf : d.params.defaults = []) (hr : Room k callerA)
    (hY : ∀ (w : World) (h : Heap), YP w h → (K w.params).In h)
    (F : ∀ (w : World) (mg : Str → Option Value) (fa : Addr) (h : Heap), (K w.params).In h → h.Ns mainGlobals mg → mg d.name = some (.ref fa) →
      ∃ fd : FuncData, (∀ (s : Shared) (u : Value), BindsTo s fd ⟨[u], []⟩ [(x, u)]) ∧
        ∀ base : Heap, (K w.params).In base → base.Ns mainGlobals mg → FnOk l.prog w (K w.params) mg base (CX w) k fa fd [x] (sp w))
    (hsp : ∀ (w : World) (H : Hp) (a : Addr) (ns : List Int), ns.length ≤ n → Only H → SqL (K w.params) H a (ns.map V.int) → sp w [.ref a] H (fun v _ => v = .bl true) fun _ _ _ => False)
    (hCX : ∀ (w : World) (H : Hp) (s : Shared) (e : Value) (s' : Shared), CX w [] H s (fun _ _ _ => False) e s' → False) :
    PySem.W.WalkO q loose XP YP l.row.toRowW d [] (fun f vs => PySem.call f vs) := by
  refine Att.attach_call hn hdf fun w s₀ s₁ mg mb fa o pm cd doc a vs ns G Y ho hd hcd hmg hobj hints hlen hg => ?_
  have KX := hY w _ Y
  obtain ⟨fd, hb, hF⟩ := F w mg fa _ KX G.T.g hmg
  exact law_call KX G.T.g G.T.b G.T.builtins G.T.nolimit hg hobj hints (Nat.le_trans hlen hn2) hr hF hb (fun H hO hS => hsp w H a ns hlen hO hS) fun H e s' => hCX w H s₁ e s'
/-- the same where the promise hangs on the written part alone: (sp := My.sp_law), no hole under a binder -/
theorem walk_ofK {l : PySem.W.OpenLaw} {n k : Nat} {q : Program} {loose : List Str} {XP : (Str → Option Value) → Heap → Prop} {YP : World → Heap → Prop} {d : DefRec} {K : Params → PySem.W.Frag} {CX : CXT} {sp : PySem.W.Frag → Sp} {x : Str}
    (hn : l.most = some n) (hn2 : n ≤ sizeLine) (hdf : d.params.defaults = []) (hr : Room k callerA)
    (hY : ∀ (w : World) (h : Heap), YP w h → (K w.params).In h)
    (F : ∀ (w : World) (mg : Str → Option Value) (fa : Addr) (h : Heap), (K w.params).In h → h.Ns mainGlobals mg → mg d.name = some (.ref fa) →
      ∃ fd : FuncData, (∀ (s : Shared) (u : Value), BindsTo s fd ⟨[u], []⟩ [(x, u)]) ∧
        ∀ base : Heap, (K w.params).In base → base.Ns mainGlobals mg → FnOk l.prog w (K w.params) mg base CX k fa fd [x] (sp (K w.params)))
    (hsp : ∀ (K : PySem.W.Frag) (H : Hp) (a : Addr) (ns : List Int), ns.length ≤ n → Only H → SqL K H a (ns.map V.int) → sp K [.ref a] H (fun v _ => v = .bl true) fun _ _ _ => False)
    (hCX : ∀ (H : Hp) (s : Shared) (e : Value) (s' : Shared), CX [] H s (fun _ _ _ => False) e s' → False) :
    PySem.W.WalkO q loose XP YP l.row.toRowW d [] (fun f vs => PySem.call f vs) :=
  walk_of (K := K) (CX := fun _ => CX) (sp := fun w => sp (K w.params)) hn hn2 hdf hr hY F (fun w H a ns h1 h2 h3 => hsp (K w.params) H a ns h1 h2 h3) fun _ H s e s' => hCX H s e s'
end L2

/- THE LAST THEOREM (shape; LID, My.* are yours):
   My.Adr: a structure of the addresses that your layer names (classes, functions); My.Txt K t: a structure (Prop) of the equations over K;
   My.txt_mk : {K} {implicit addresses ..} (e1 : nsIn K mainGlobals "law" = some (some (.ref f))) (e2 : K.lookup f = some ⟨oc, od, .func (fnOf "law" "law" params body scope dV kV doc pm an cdv ct), sl⟩) (e3 : codeIn K cdv "law" = true) .. : ∃ t, My.Txt K t

set_option maxRecDepth 100000 in
set_option maxHeartbeats 0 in
theorem PySem.Challenge.cw_LID_holds : PySem.Challenge.rw_LID.Holds := by
  w_on; o_law; k_head; (case hw => w_witness2)
  k_fill
  refine L2.walk_of (l := PySem.Challenge.rw_LID) (n := 63) (k := 40) (x := "script") (CX := fun w => ..) (sp := fun _ => My.sp_law) rfl (by decide) rfl ⟨rfl, by decide, by decide⟩ (fun w h Y => PySem.W.kIn_of Y) ?F ?S ?C
  case F =>
    intro w mg fa h KX G hmg
    have T : ∃ t, My.Txt (L2.KOf KX) t := by
      dsimp only [L2.KOf]                          -- K must stand as «<heap const> w.params» for k_is
      refine' My.txt_mk ?e1 ?e2 ?e3 ..
      (case e1 => PySem.W.k_is)                    -- in the order: a name -> its address -> its object -> its parts
      (case e2 => PySem.W.k_is)
      ..
    obtain ⟨t, T⟩ := T
    have e0 := hmg.symm.trans (PySem.W.mg_of KX G T.law)
    cases e0                                       -- fa is the law's own address
    exact ⟨_, fun s u => .of_eq rfl, fun base kb nb => My.law_fn T kb nb⟩     -- if «.of_eq rfl» comes too early: refine' ⟨_, ?b, fun base kb nb => My.law_fn T kb nb⟩; exact fun s u => .of_eq rfl
  case S => exact fun w H a ns hl hO hS => ..
  case C => exact ..
(the tactic k_is has no namespace: write k_is) -/

/-! SHORT WORDS over the layer: a def of the text, its body, what a loop and a test want. -/
namespace L2
open PySem PySem.Spec PyProof.Rows

/-! ### the text by places -/
/-- the j-th statement of a class's body -/
def inClass (s : Stmt) (j : Nat) : Stmt := match s with
  | .ClassDef _ _ _ body _ _ _ _ _ _ _ => body.getD j (.Pass ⟨0, 0, 0, 0⟩)
  | _ => .Pass ⟨0, 0, 0, 0⟩
def defArgs (s : Stmt) : Arguments := match s with
  | .FunctionDef _ a _ _ _ _ _ _ _ _ => a
  | _ => { posonlyargs := [], args := [], vararg := none, kwonlyargs := [], kw_defaults := [], kwarg := none, defaults := [] }
def defBody (s : Stmt) : List Stmt := match s with
  | .FunctionDef _ _ b _ _ _ _ _ _ _ => b
  | _ => []
def defScope (s : Stmt) : Scope := match s with
  | .FunctionDef _ _ _ _ _ _ sc _ _ _ => sc
  | _ => { kind := .function, names := [], isGenerator := false, isCoroutine := false }

/-! ### no exception leaves a def -/
abbrev CX0 : CXT := fun _ _ _ _ _ _ => False
abbrev E0 : XK := fun _ _ _ => False
theorem pass0 {X : Cx} : Passes CX0 X E0 := fun _ _ _ _ _ _ _ h => h.elim

/-! ### a def (or method) of the text as it stands behind the top -/
structure Fun (K : PySem.W.Frag) (x qual : Str) (st : Stmt) (f : Addr) (fd : FuncData) : Prop where
  ex : ∃ (oc : Value) (od : Option Addr) (kV doc pm : Value) (an : Option Addr) (cdv ct : Value) (osl : Array (Option Value)),
    fd = PySem.W.fnOf x qual (defArgs st) (defBody st) (defScope st) .none kV doc pm an cdv ct ∧ K.lookup f = some ⟨oc, od, .func fd, osl⟩ ∧ PySem.W.codeIn K cdv qual = true
  kp : PySem.W.keepIn K (.ref f) = true
section
variable {P : Program} {w : World} {K : PySem.W.Frag} {mg : Str → Option Value} {base : Heap}
/-- THE RULE for a def: its body as a term of rules, and the reading of that term -/
theorem Fun.ok {x qual : Str} {st : Stmt} {f : Addr} {fd : FuncData} {N ps : List Str} {k : Nat} {sp : Sp} (F : Fun K x qual st f fd) (S : FnScope N ps (defScope st)) (len : ∀ vs H Q E, sp vs H Q E → vs.length = ps.length)
    (hbody : ∀ (cdv : Value) (A : Around) (outer : List Env) (s : Shared) (H : Hp) (vs : List V) (Q : VK) (E : XK), Room k (A.deeper (envOfC qual (defScope st) s.heap.objs.size f cdv)) → sp vs H Q E →
      ∃ t, PSs (cxOf CX0 P w K mg base N qual (defScope st) f cdv A outer s H E).nox (defBody st) t ∧ t { nx := fun _ H' => Q .non H', rt := Q } (start N vs) H) : FnOk P w K mg base CX0 (k + 1) f fd ps sp := by
  obtain ⟨oc, od, kV, doc, pm, an, cdv, ct, osl, rfl, lk, hcd⟩ := F.ex
  refine fn_of lk hcd S len fun A outer s H vs Q E hr hsp => ?_
  obtain ⟨t, h, q⟩ := hbody cdv A outer s H vs Q E hr hsp
  exact ⟨t, h.nox, q⟩
/-- how its arguments bind (no defaults): h is «fun _ _ _ _ _ _ us hl => match us, hl with | [_, _], _ => rfl», one _ a parameter -/
theorem Fun.binds {x qual : Str} {st : Stmt} {f : Addr} {fd : FuncData} {ps : List Str} (F : Fun K x qual st f fd)
    (h : ∀ (kV doc pm : Value) (an : Option Addr) (cdv ct : Value) (us : List Value), us.length = ps.length → bindArgs (PySem.W.fnOf x qual (defArgs st) (defBody st) (defScope st) .none kV doc pm an cdv ct) ⟨us, []⟩ = pure (ps.zip us)) : Binds K fd ps [] := by
  obtain ⟨oc, od, kV, doc, pm, an, cdv, ct, osl, rfl, lk, hcd⟩ := F.ex
  exact .all (h kV doc pm an cdv ct)
theorem fun_mk {x qual : Str} {st : Stmt} {f : Addr} {oc : Value} {od an : Option Addr} {osl : Array (Option Value)} {kV doc pm cdv ct : Value} (l : K.lookup f = some ⟨oc, od, .func (PySem.W.fnOf x qual (defArgs st) (defBody st) (defScope st) .none kV doc pm an cdv ct), osl⟩)
    (c : PySem.W.codeIn K cdv qual = true) (k : PySem.W.keepIn K (.ref f) = true) : Fun K x qual st f (PySem.W.fnOf x qual (defArgs st) (defBody st) (defScope st) .none kV doc pm an cdv ct) := ⟨⟨oc, od, kV, doc, pm, an, cdv, ct, osl, rfl, l, c⟩, k⟩
end
theorem hu_of {A : Around} {k : Nat} (hr : Room k A) : A.units + 1 < cLine := Nat.lt_of_le_of_lt (Nat.add_le_add_left (by decide : 1 ≤ 64) _) hr.units
theorem small1000 {n : Nat} (h : n ≤ 1000) : n < sizeLine := Nat.lt_of_le_of_lt h (by decide)

/-! ### expressions in short: the name that stands in the i-th slot -/
section
variable {X : Cx}
theorem pv (i : Nat) {x : Str} {pos : Pos} (hN : X.N[i]? = some x := by rfl) (hv : Vis X.env.scope x := by first | exact Or.inl rfl | exact Or.inr (Or.inl rfl) | exact Or.inr (Or.inr rfl)) (hd : (x == ("__debug__" : Str)) = false := by decide)
    (hcd : (x == ("__classdict__" : Str)) = false := by decide) : PE X (.Name x pos) (tVar i) := pe_var hN hv hd hcd
end

/-! ### tests -/
theorem iteF {A B : Prop} (h : B) : if false = true then A else B := by
  rw [if_neg Bool.false_ne_true]
  exact h
theorem iteT {A B : Prop} (h : A) : if true = true then A else B := by
  rw [if_pos rfl]
  exact h
theorem ite2 {c A B : Prop} [Decidable c] (h1 : c → A) (h2 : ¬ c → B) : if c then A else B := by
  by_cases h : c
  · rw [if_pos h]
    exact h1 h
  · rw [if_neg h]
    exact h2 h
theorem iteNS {c A B : Prop} [Decidable c] (hc : c) (h : B) : if (!decide c) = true then A else B := by
  rw [decide_eq_true hc]
  exact iteF h

/-! ### heaps -/
/-- all that was tracked is as it was -/
def Same (H H' : Hp) : Prop := ∀ b o, H b = some o → H' b = some o
theorem Same.refl (H : Hp) : Same H H := fun _ _ h => h
theorem Same.trans {H H1 H2 : Hp} (a : Same H H1) (b : Same H1 H2) : Same H H2 := fun c o h => b c o (a c o h)
theorem Same.free {H H' : Hp} (e : Same H H') {l : Addr} (h : H' l = Option.none) : H l = Option.none := by
  cases q : H l with
  | none => rfl
  | some o =>
    rw [e l o q] at h
    cases h
theorem Same.seq {K : PySem.W.Frag} {H H' : Hp} {a : Addr} {xs : List V} (e : Same H H') (h : SqL K H a xs) : SqL K H' a xs := by
  rcases h with (h | ⟨o, h⟩) | h
  · exact .inl (.inl (e _ _ h))
  · exact .inl (.inr ⟨o, e _ _ h⟩)
  · exact .inr h

end L2

set_option Elab.async false
set_option linter.all false
set_option maxRecDepth 100000
set_option maxHeartbeats 4000000
namespace L2
open PySem PySem.Spec PyProof.Rows

/-! ### a range downwards -/
def Itd (hi : Int) (n : Nat) : It := ⟨fun i _ => i < n, fun i H x H' => H' = H ∧ x = .int (hi - i), fun i _ => n ≤ i⟩
theorem turn_down {P : Program} {w : World} {K : PySem.W.Frag} {tg : Expr} (it : Addr) (hi : Int) (n : Nat) : Turn P w K tg (Itd hi n) [it] it (fun i h => IsRangeIter h it (hi + (i : Nat) * (-1)) ((n : Int) - (i : Nat)) (-1)) where
  mem := by simp
  obj := fun i h st b hb => by
    have e : b = it := by simpa using hb
    subst e
    exact ⟨_, st, fun v z => by
      have z' : Data.fields _ = Data.cell v := z
      cases z'⟩
  keep := fun i h h' st k => k it (by simp) _ st
  item := by
    intro X hP hw hK hc i pins s σ H E I hf st hg
    subst hP hw hK
    obtain ⟨f0, f1, f2, f3, f4, f5⟩ := hf it (by simp)
    have W := Walks.range (prog := X.prog) (w := X.w) (I.ok.hd hc) it hi (-1) n
    refine W.item i s _ _ hg st fun v h' tk hv st' kk => ?_
    obtain ⟨t, rfl⟩ := hv
    have I1 : Inv X pins σ H { s with heap := h', toks := tk } := I.turned (fun b o hb e => kk b o (by simpa using hb) e) f0 f1 f3 f4 f5
    refine ⟨_, rfl, go_of (s := { s with heap := h', toks := tk }) (n := "range_iterator") st' rfl rfl (by decide) ⟨.int (hi - i), H, I1, ⟨t, ?_⟩, ⟨rfl, rfl⟩, st', fun b hb => (hf b hb).1⟩⟩
    have e : hi + (i : Int) * (-1) = hi - i := by omega
    rw [e]
  done := by
    intro X hP hw hK hc i pins s σ H E I hf st hg
    subst hP hw hK
    obtain ⟨f0, f1, f2, f3, f4, f5⟩ := hf it (by simp)
    exact wpAny_pyNext_range_end (I.ok.hd hc) st (by have : n ≤ i := hg; omega) fun h' eb => ⟨rfl, I.turned (t' := s.toks) (fun b o hb e => eb b o hb e) f0 f1 f3 f4 f5⟩
  self := fun _ _ _ _ _ st h => wpAny_pyIter_rangeiter st h
section
variable {X : Cx} {tg : Expr}
theorem down_it {pins : List (Addr × Obj)} {σ : St} {H : Hp} {s : Shared} {R : It → Hp → Prop} {E : Value → Shared → Prop} {lo hi : Int} {t u v : Tok} {tk : Nat} (I : Inv X pins σ H s) (h1 : -(2 ^ 62) ≤ lo) (h2 : lo < 2 ^ 62) (h3 : -(2 ^ 62) ≤ hi) (h4 : hi < 2 ^ 62)
    (q : R (Itd hi (hi - lo).toNat) H) : wpAny (model X.prog X.w) X.A (pyIter (.ref s.heap.objs.size)) (PIE X pins σ tg R) E { s with heap := s.heap.push { cls := .type "range", data := .fields #[.int hi t, .int lo u, .int (-1) v] }, toks := tk } := by
  refine wpAny_pyIter_range (IsRange.new ..) (PySem.W.small_down h3 h4 h1 h2) ?_
  have I1 : Inv X pins σ H { s with heap := s.heap.push { cls := .type "range", data := .fields #[.int hi t, .int lo u, .int (-1) v] }, toks := tk } := I.kept fun b o e => Heap.get?_push_of_some _ e
  refine ⟨(s.heap.push { cls := .type "range", data := .fields #[.int hi t, .int lo u, .int (-1) v] }).objs.size, [(s.heap.push { cls := .type "range", data := .fields #[.int hi t, .int lo u, .int (-1) v] }).objs.size], _, _, H, rfl,
    I1.kept (t' := tk) fun b o e => Heap.get?_push_of_some _ e, turn_down _ hi (hi - lo).toNat, ?_, fun b hb => ?_, q⟩
  · have e1 : hi + ((0 : Nat) : Int) * (-1) = hi := by simp
    have e2 : (((hi - lo).toNat : Nat) : Int) - ((0 : Nat) : Int) = Builtin.Range.rangeSize hi lo (-1) := by rw [PySem.W.rangeSize_downNat]; omega
    show IsRangeIter _ _ (hi + ((0 : Nat) : Int) * (-1)) ((((hi - lo).toNat : Nat) : Int) - ((0 : Nat) : Int)) (-1)
    rw [e1, e2]
    exact Heap.get?_push_size _ rfl
  · have e : b = (s.heap.push { cls := .type "range", data := .fields #[.int hi t, .int lo u, .int (-1) v] }).objs.size := by simpa using hb
    subst e
    exact I1.fpOk (Nat.le_refl _) (I1.hok.fresh (Nat.le_refl _))
def iRngD (ta : TA) : TI := fun σ H R => ta σ H fun vs H1 => ∃ i j : Int, vs = [.int i, .int j, .int (-1)] ∧ (-(2 ^ 62) ≤ i ∧ i < 2 ^ 62 ∧ -(2 ^ 62) ≤ j ∧ j < 2 ^ 62) ∧ R (Itd i (i - j).toNat) H1
theorem pi_rangeD {a b c : Expr} {ta : TA} {p pos : Pos} (hg : Gl X "range") (hm : X.mg "range" = none) (ha : PA X [a, b, c] ta) (hs : starEach [a, b, c] X.env = [(false, eval a X.env), (false, eval b X.env), (false, eval c X.env)] := by rfl) (hs2 : starEach [b, c] X.env = [(false, eval b X.env), (false, eval c X.env)] := by rfl) :
    PI X tg (.Call (.Name "range" p) [a, b, c] [] pos) (iRngD ta) := by
  intro pins s σ H R I h
  refine Call_ (ld_blt I hg hm boot_range (PyProof.Rows.callWith_type1 (thn (ha pos pins s σ H _ I h) fun us s1 ⟨vs, H1, I1, r1, q1⟩ => ?_) (by rw [hs, hs2]) (by rw [hs2]; rfl)))
  obtain ⟨i, j, e, ⟨q1, q2, q3, q4⟩, q⟩ := q1
  subst e
  cases r1 with
  | cons r rr =>
    cases rr with
    | cons r' rr =>
      cases rr with
      | cons r'' rr =>
        cases rr
        obtain ⟨t, rfl⟩ := r
        obtain ⟨t', rfl⟩ := r'
        obtain ⟨t'', rfl⟩ := r''
        exact call_range_3 (by decide) (down_it I1 q3 q4 q1 q2 q) (Or.inl (PyProof.noPylong_small (by decide)))
end
theorem for_down {hi : Int} {n : Nat} {g : TG} {tb : TS} {D : Ends} {σ : St} {H : Hp} (Pv : Nat → St → Hp → Prop) (h0 : Pv 0 σ H)
    (hs : ∀ i σ H, i < n → Pv i σ H → g (.int (hi - i)) σ H fun σ2 H2 => tb { D with nx := Pv (i + 1), ct := Pv (i + 1), bk := D.nx } σ2 H2) (hd : ∀ σ H, Pv n σ H → D.nx σ H) :
    ∃ W : Nat → Nat → St → Hp → Prop, (∃ m, W 0 m σ H) ∧ ∀ i m σ H, W i m σ H →
      ((Itd hi n).stop i H ∧ D.nx σ H) ∨ ((Itd hi n).go i H ∧ ∃ N : St → Hp → Prop, (∀ σ' H', N σ' H' → ∃ m', m' < m ∧ W (i + 1) m' σ' H') ∧ ∀ x H', (Itd hi n).yld i H x H' → g x σ H' fun σ2 H2 => tb { D with nx := N, ct := N, bk := D.nx } σ2 H2) := by
  refine ⟨fun i m σ H => m = n - i ∧ i ≤ n ∧ Pv i σ H, ⟨n, by simp, Nat.zero_le _, h0⟩, ?_⟩
  rintro i m σ H ⟨rfl, hi, p⟩
  by_cases hlt : i < n
  · refine .inr ⟨hlt, Pv (i + 1), fun σ' H' p' => ⟨n - (i + 1), by omega, rfl, hlt, p'⟩, fun x H' y => ?_⟩
    obtain ⟨e, y⟩ := y
    subst e y
    exact hs i σ _ hlt p
  · have e : i = n := by omega
    subst e
    exact .inl ⟨Nat.le_refl _, hd σ H p⟩

/-! ### == and != of two lists of flat items -/
def eqL : List V → List V → Bool
  | [], [] => true
  | x :: xs, y :: ys => eqV x y && eqL xs ys
  | _, _ => false
theorem eqL_all : ∀ (xs ys : List V), xs.length = ys.length → (List.range xs.length).all (fun j => eqV (xs.getD j .non) (ys.getD j .non)) = eqL xs ys
  | [], [], _ => rfl
  | [], _ :: _, h => by simp at h
  | _ :: _, [], h => by simp at h
  | x :: xs, y :: ys, h => by
    have ih := eqL_all xs ys (by simpa using h)
    rw [List.length_cons, List.range_succ_eq_map, List.all_cons, List.all_map]
    show (eqV x y && (List.range xs.length).all (fun j => eqV (xs.getD j .non) (ys.getD j .non))) = (eqV x y && eqL xs ys)
    rw [ih]
theorem eqL_len : ∀ (xs ys : List V), xs.length ≠ ys.length → eqL xs ys = false
  | [], [], h => absurd rfl h
  | [], _ :: _, _ => rfl
  | _ :: _, [], _ => rfl
  | x :: xs, y :: ys, h => by
    show (eqV x y && eqL xs ys) = false
    rw [eqL_len xs ys (fun e => h (by simp [e])), Bool.and_false]
theorem eqL_str : ∀ (xs ys : List Str), eqL (xs.map V.str) (ys.map V.str) = decide (xs = ys)
  | [], [] => rfl
  | [], _ :: _ => by simp [eqL]
  | _ :: _, [] => by simp [eqL]
  | x :: xs, y :: ys => by
    show (eqV (.str x) (.str y) && eqL (xs.map V.str) (ys.map V.str)) = _
    rw [eqL_str xs ys]
    show ((x == y) && decide (xs = ys)) = _
    by_cases h : x = y
    · subst h; simp
    · have : (x == y) = false := by simpa using h
      rw [this]; simp [h]
theorem eqL_nil : ∀ xs : List V, eqL xs [] = xs.isEmpty
  | [] => rfl
  | _ :: _ => rfl
theorem flat_str (xs : List Str) : (xs.map V.str).all flatV = true := by simp [flatV]
theorem flat_int (xs : List Int) : (xs.map V.int).all flatV = true := by simp [flatV]
def rEqL (K : PySem.W.Frag) (neg : Bool) : R2 := fun x y H Q => ∃ a b xs ys, x = .ref a ∧ y = .ref b ∧ SqL K H a xs ∧ SqL K H b ys ∧ xs.all flatV = true ∧ ys.all flatV = true ∧ Q (.bl (if neg then !eqL xs ys else eqL xs ys)) H
section
variable {X : Cx}
theorem eqAt_items {A : Around} {s : Shared} {xs ys : List V} {us ws : List Value} (r1 : Vals xs us) (r2 : Vals ys ws) (f1 : xs.all flatV = true) (f2 : ys.all flatV = true) (j : Nat) (h1 : j < us.toArray.size) (h2 : j < ws.toArray.size) :
    SeqAt.EqAt A s us.toArray[j] ws.toArray[j] (eqV (xs.getD j .non) (ys.getD j .non)) := by
  have l1 := r1.length
  have l2 := r2.length
  rw [List.size_toArray] at h1 h2
  have e1 : xs[j]? = some xs[j] := List.getElem?_eq_getElem (by omega)
  have e2 : ys[j]? = some ys[j] := List.getElem?_eq_getElem (by omega)
  obtain ⟨u, hu, ru⟩ := r1.get e1
  obtain ⟨w', hw, rw'⟩ := r2.get e2
  have g1 : us.toArray[j] = u := by
    rw [List.getElem_toArray]
    exact Option.some.inj ((List.getElem?_eq_getElem h1).symm.trans hu)
  have g2 : ws.toArray[j] = w' := by
    rw [List.getElem_toArray]
    exact Option.some.inj ((List.getElem?_eq_getElem h2).symm.trans hw)
  have d1 : xs.getD j .non = xs[j] := by rw [List.getD_eq_getElem?_getD, e1]; rfl
  have d2 : ys.getD j .non = ys[j] := by rw [List.getD_eq_getElem?_getD, e2]; rfl
  rw [g1, g2, d1, d2]
  exact eqAt_V ru rw' (List.all_eq_true.mp f1 _ (List.getElem_mem _)) (List.all_eq_true.mp f2 _ (List.getElem_mem _))
theorem op_eqL (hu : X.A.units < cLine) : OpR X (compareOp .Eq) (rEqL X.K false) := by
  intro pins s σ H x y v u Q I rx ry h
  obtain ⟨a, b, xs, ys, rfl, rfl, ha, hb, fa, fb, q⟩ := h
  cases rx
  cases ry
  obtain ⟨us, r1, p1, z1⟩ := I.list ha
  obtain ⟨ws, r2, p2, z2⟩ := I.list hb
  have l1 := r1.length
  have l2 := r2.length
  by_cases hl : xs.length = ys.length
  · refine SeqAt.eq_listAt (e := fun j => eqV (xs.getD j .non) (ys.getD j .non)) p1.isList p2.isList (by rw [List.size_toArray, List.size_toArray]; omega) hu (fun j h1 h2 => eqAt_items r1 r2 fa fb j h1 h2) ?_
    have e : (List.range us.toArray.size).all (fun j => eqV (xs.getD j .non) (ys.getD j .non)) = eqL xs ys := by rw [List.size_toArray, ← l1]; exact eqL_all xs ys hl
    rw [e]
    exact ⟨.bl _, H, I, rfl, q⟩
  · have q' : Q (.bl (eqL xs ys)) H := q
    rw [eqL_len xs ys hl] at q'
    exact SeqAt.eq_list_lengthsAt p1.isList p2.isList (by rw [List.size_toArray, List.size_toArray]; simp; omega) hu ⟨.bl false, H, I, rfl, q'⟩
theorem op_neL (hu : X.A.units < cLine) : OpR X (compareOp .NotEq) (rEqL X.K true) := by
  intro pins s σ H x y v u Q I rx ry h
  obtain ⟨a, b, xs, ys, rfl, rfl, ha, hb, fa, fb, q⟩ := h
  cases rx
  cases ry
  obtain ⟨us, r1, p1, z1⟩ := I.list ha
  obtain ⟨ws, r2, p2, z2⟩ := I.list hb
  have l1 := r1.length
  have l2 := r2.length
  by_cases hl : xs.length = ys.length
  · refine SeqAt.RcNeAt.lists (e := fun j => eqV (xs.getD j .non) (ys.getD j .non)) p1.isList p2.isList (by rw [List.size_toArray, List.size_toArray]; omega) hu (fun j h1 h2 => eqAt_items r1 r2 fa fb j h1 h2) _ _ _ _ ?_
    have e : (List.range us.toArray.size).all (fun j => eqV (xs.getD j .non) (ys.getD j .non)) = eqL xs ys := by rw [List.size_toArray, ← l1]; exact eqL_all xs ys hl
    rw [e]
    exact ⟨.bl _, H, I, rfl, q⟩
  · have q' : Q (.bl (!eqL xs ys)) H := q
    rw [eqL_len xs ys hl] at q'
    exact SeqAt.RcNeAt.lists_lengths p1.isList p2.isList (by rw [List.size_toArray, List.size_toArray]; simp; omega) hu _ _ _ _ ⟨.bl true, H, I, rfl, q'⟩

/-! ### isinstance with a built-in type -/
theorem call_isi : CallR X (.builtin "isinstance") (fun xs H Q => ∃ x T b t, xs = [x, .ty T] ∧ TyOf X.K H x t ∧ PySem.W.kitOne X.K t (.type T) = some b ∧ Q (.bl b) H) := by
  intro pins s σ H xs us Q I r h
  obtain ⟨x, T, b, t, rfl, ty, e, q⟩ := h
  obtain ⟨u, w', rfl, ru, rw'⟩ := vals2 r
  cases rw'
  exact isinst_ok I ru ty e fun tk => ⟨.bl b, H, I.tok tk, rfl, q⟩
theorem kit_same {K : PySem.W.Frag} (T : String) : PySem.W.kitOne K (.type T) (.type T) = some true := by unfold PySem.W.kitOne; rw [if_pos (beq_self_eq_true _)]
theorem kit_int_bool {K : PySem.W.Frag} : PySem.W.kitOne K (.type "int") (.type "bool") = some false := by
  have h : (if ((Value.type "int" : Value) == .type "bool") = true then some true else if PySem.W.kitMeta "bool" = true then (fastBuiltinMro "int").map (·.contains (Value.type "bool")) else none) = some false := by decide +kernel
  exact h
theorem isi_list {H : Hp} {K : PySem.W.Frag} {a : Addr} {xs : List V} (h : H a = some (.lst xs)) : ∃ b t, TyOf K H (.ref a) t ∧ PySem.W.kitOne K t (.type "list") = some b ∧ b = true := ⟨_, _, .lst h, kit_same "list", rfl⟩

/-! ### a text times a number -/
theorem op_mulS : OpR X (binaryOp .Mult) (fun x y H Q => ∃ (z : Str) (n : Int), x = .str z ∧ y = .int n ∧ z.length ≤ 16 ∧ 0 ≤ n ∧ n ≤ 1048576 ∧ ∀ z' : Str, z'.length ≤ 16 * n.toNat → Q (.str z') H) := by
  intro pins s σ H x y v u Q I rx ry h
  obtain ⟨z, n, rfl, rfl, hz, h0, h1, q⟩ := h
  obtain ⟨t, rfl⟩ := rx
  obtain ⟨t', rfl⟩ := ry
  refine SB.mul (mulOk_of 16 1048576 hz (by omega) (by omega) (by decide) (by decide)) fun t' k => ⟨.str _, H, I.tok k, ⟨_, rfl⟩, q _ ?_⟩
  unfold Txt.mul
  split
  · show (0 : Nat) ≤ _; omega
  · rename_i h2
    split
    · have : 1 ≤ n.toNat := by omega
      have := Nat.mul_le_mul (Nat.le_refl 16) this
      omega
    · show ((List.replicate n.toNat z.cps).foldl (· ++ ·) #[]).size ≤ _
      rw [len_reps]
      have e : z.cps.size ≤ 16 := hz
      have := Nat.mul_le_mul (Nat.le_refl n.toNat) e
      simp only [Array.size_empty]
      rw [Nat.mul_comm 16]
      omega
end
end L2

set_option Elab.async false
set_option linter.all false
set_option maxRecDepth 100000
set_option maxHeartbeats 4000000
namespace L2
open PySem PySem.Spec PyProof.Rows

/-! ### comprehensions: the block's own context -/
def blk (X : Cx) (sc : Scope) (cl : List (Str × Addr)) (N : List Str) (C : Addr) (s₀ : Shared) (H₀ : Hp) (fp : List Addr) (pins : List (Addr × Obj)) : Cx :=
  { X with N := N, s₀ := s₀, H₀ := H₀, env := compEnvC sc cl C X.env, outer := X.stack, stack := X.stack, ex := fp, fn := fun _ => false, pn := X.pn ++ pins, xe := fun _ _ => False }

/-- what a comprehension's scope wants: its names N (the loop's own first, then those of the def, at the places fr) -/
structure LcOk (X : Cx) (sc : Scope) (cl : List (Str × Addr)) (N : List Str) (fr : List Nat) (x : Str) : Prop where
  clos : closureFor sc X.env = pure cl
  nocell : ∀ y ∈ sc.names, y.2 ≠ .cell
  kind : sc.kind = .function
  names : ∀ y ∈ sc.names, y.2 = .local → sc.names.lookup y.1 = some .local
  own : sc.names.lookup x = some .local
  sub : ∀ y c, cl.lookup y = some c → X.env.cells.lookup y = some c
  has : ∀ y, ((relabel sc X.env).names.lookup y = some .cell ∨ (relabel sc X.env).names.lookup y = some .free) → ∃ c, cl.lookup y = some c
  fst : N[0]? = some x
  nd : N.Nodup
  len : N.length = fr.length + 1
  at' : ∀ (i j : Nat), fr[i]? = some j → ∃ y, N[i + 1]? = some y ∧ X.N[j]? = some y ∧ X.env.kindOf y = some .cell ∧ ((relabel sc X.env).names.lookup y = some .cell ∨ (relabel sc X.env).names.lookup y = some .free)
def st0 (fr : List Nat) (σ : St) : St := none :: fr.map fun j => (σ[j]?).join

section
variable {X : Cx} {pins : List (Addr × Obj)} {σ : St} {H : Hp} {s : Shared} {sc : Scope} {cl : List (Str × Addr)} {N : List Str} {fr : List Nat} {x : Str} {fp : List Addr}
theorem blk_start {h1 : Heap} {m : Str → Option Value} {tk : Nat} (I : Inv X pins σ H s) (L : LcOk X sc cl N fr x) (hfp : ∀ b ∈ fp, FpOk X pins H b) (hth : ∀ b ∈ fp, ∃ o, s.heap.get? b = some o)
    (hns : h1.Ns s.heap.objs.size m) (hk : ∀ b o, s.heap.get? b = some o → h1.get? b = some o) :
    Inv (blk X sc cl N s.heap.objs.size s H fp pins) [] (st0 fr σ) H { s with heap := h1, toks := tk } := by
  have hkd : (relabel sc X.env).kind = .function := L.kind
  refine ⟨⟨I.ok.mod, hkd, I.ok.glob, I.ok.blt, Nat.le_refl _, fun y z c h1 h2 => I.ok.inj y z c (L.sub y c h1) (L.sub z c h2), fun y hy => L.has y hy, fun y c hf _ => absurd hf Bool.false_ne_true, I.ok.hd, I.ok.frames, .inl rfl, fun b hb => ?_, fun b o e => I.bs b o e, ?_, fun b o e hb => ?_, fun b hb hf => ?_, I.stack, I.stkFree⟩,
    rfl, I.bare, Un.kept hk, ⟨m, hns, fun i y v e1 e2 e3 => ?_⟩, fun y c e => ?_, I.hok.fresh (Nat.le_refl _), fun y c e => I.freeC y c (L.sub y c e), fun p hp => ?_, I.hok.kept hk, ?_⟩
  · obtain ⟨o, ho⟩ := hth b hb
    obtain ⟨f0, f1, f2, f3, f4, f5⟩ := hfp b hb
    exact ⟨Nat.ne_of_lt (Heap.lt_size ho), fun y c e => f4 y c (L.sub y c e)⟩
  · exact Nat.le_trans I.ok.bsz I.sz
  · obtain ⟨f0, f1, f2, f3, f4, f5⟩ := hfp b hb
    rcases f3 with z | z
    · exact I.ok.noex b o e z
    · have l1 := Heap.lt_size e
      have l2 := I.ok.bsz
      exact absurd (Nat.lt_of_lt_of_le l1 (Nat.le_trans l2 z)) (Nat.lt_irrefl _)
  · obtain ⟨f0, f1, f2, f3, f4, f5⟩ := hfp b hb
    rcases List.mem_cons.mp (I.stkSub b hf) with z | z
    · exact f1 z
    · exact f2 z
  · -- a name of the def
    cases i with
    | zero => exact absurd e2 (by simp [st0])
    | succ i =>
      have e2' : (fr.map fun j => (σ[j]?).join)[i]? = some (some v) := e2
      rw [List.getElem?_map] at e2'
      cases ej : fr[i]? with
      | none => rw [ej] at e2'; cases e2'
      | some j =>
        rw [ej] at e2'
        have e4 : (σ[j]?).join = some v := Option.some.inj e2'
        have e5 : σ[j]? = some (some v) := by
          cases q : σ[j]? with
          | none => rw [q] at e4; cases e4
          | some w' => rw [q] at e4; exact congrArg some e4
        obtain ⟨y', n1, n2, n3, n4⟩ := L.at' i j ej
        have n1' : N[i + 1]? = some y := e1
        rw [n1] at n1'
        cases n1'
        obtain ⟨mX, hnX, hlX⟩ := I.loc
        obtain ⟨u, r, l⟩ := hlX j y v n2 e5 (.inr (.inl n3))
        refine ⟨u, r, .inr ⟨n4, ?_⟩⟩
        rcases l with ⟨k, _⟩ | ⟨_, c, ec, hc⟩
        · rw [n3] at k; cases k
        · obtain ⟨c', ec'⟩ := L.has y n4
          have := L.sub y c' ec'
          rw [ec] at this
          cases this
          obtain ⟨o, ho, hd⟩ := hc
          exact ⟨c, ec', o, hk c o ho, hd⟩
  · obtain ⟨v, o, ho, hd⟩ := I.cell y c (L.sub y c e)
    exact ⟨v, o, hk c o ho, hd⟩
  · have hp' : p ∈ X.pn ++ pins := by
      have : p ∈ (X.pn ++ pins) ++ ([] : List (Addr × Obj)) := hp
      rwa [List.append_nil] at this
    obtain ⟨e, n, ne, nf, d⟩ := I.pin p hp'
    refine ⟨hk _ _ e, n, Nat.ne_of_lt (Heap.lt_size e), fun z => ?_, d⟩
    rcases List.mem_cons.mp (I.stkSub p.1 z) with z | z
    · exact ne z
    · exact nf z
  · show (st0 fr σ).length = N.length
    rw [L.len]
    simp [st0]

/-- behind the block -/
theorem blk_end {C : Addr} {σ' : St} {H' : Hp} {s' : Shared} (I : Inv X pins σ H s) (hfp : ∀ b ∈ fp, FpOk X pins H b) (J : Inv (blk X sc cl N C s H fp pins) [] σ' H' s') : Inv X pins σ H' s' :=
  I.call' J.os J.base J.hok J.bare fun b hb => by
    obtain ⟨f0, f1, f2, f3, f4, f5⟩ := hfp b hb
    exact ⟨f3, f1, f4, f5⟩
end

/-! ### the tests of a comprehension -/
def PIfs (X : Cx) (ifs : List Expr) (t : TT) : Prop :=
  ∀ (pins : List (Addr × Obj)) (s : Shared) (σ : St) (H : Hp) (Q : Bool → Hp → Prop), Inv X pins σ H s → t σ H Q →
    wpAny (model X.prog X.w) X.A (forIn ifs true fun c r => if r = true then do let ok ← isTrue c X.env (eval c X.env); pure (ForInStep.yield ok) else pure (ForInStep.yield r)) (TP X pins σ Q) X.xe s
def tNoIf : TT := fun _ H Q => Q true H
theorem pf_nil {X : Cx} : PIfs X [] tNoIf := fun _ _ _ H _ I h => wpAny_tests_nil ⟨H, I, h⟩
theorem pf_one {X : Cx} {c : Expr} {t : TT} (h : PT X c t) : PIfs X [c] t := fun pins s σ H Q I hq => wpAny_tests_one (h pins s σ H Q I hq)

/-- the reading: W the invariant by the turn and a measure; D the new list -/
def tLC (fr : List Nat) (wi : TI) (tif : TT) (te : TE) : TE := fun σ H Q => wi σ H fun J H1 => ∀ D, H1 D = none → ∃ W : Nat → Nat → Hp → Prop, (∃ m, W 0 m (upd H1 D (.lst []))) ∧ ∀ i m H, W i m H →
  (J.stop i H ∧ Q (.ref D) H) ∨ (J.go i H ∧ ∃ Nx : Hp → Prop, (∀ H', Nx H' → ∃ m', m' < m ∧ W (i + 1) m' H') ∧ ∀ x H', J.yld i H x H' →
    tif ((st0 fr σ).set 0 (some x)) H' fun b H2 => if b = true then te ((st0 fr σ).set 0 (some x)) H2 fun v H3 => ∃ xs, H3 D = some (.lst xs) ∧ xs.length < sizeLine ∧ Nx (upd H3 D (.lst (xs ++ [v]))) else Nx H2)

theorem noif {σ : St} {H : Hp} {A B : Hp → Prop} (h : A H) : tNoIf σ H (fun b H2 => if b = true then A H2 else B H2) := by
  show (if (true : Bool) = true then A H else B H)
  exact iteT h
theorem comp_loop {prog : Program} {w : World} {A : Around} {R : Result → Shared → Prop} {s : Shared} {elt target iter : Expr} {ifs : List Expr} {scope : Scope} {pos : Pos} {it acc : Value} {env : Env} (I : Nat → Shared → Prop)
    (turn : ∀ n s, I n s → wpAny (model prog w) A (pyNext it) (fun r s₁ => match r with
      | none => R (.ok .next) s₁
      | some v => wpAny (model prog w) A (letOwnedTupleGo target it v) (fun _ s₁' => wpAny (model prog w) A (assign target env v) (fun _ s₂ =>
          wpAny (model prog w) A (forIn ifs true fun c r => if r = true then do let ok ← isTrue c env (eval c env); pure (ForInStep.yield ok) else pure (ForInStep.yield r)) (fun ok s₃ =>
            if ok = true then wpAny (model prog w) A (eval elt env) (fun x s₄ =>
              wpAny (model prog w) A (call (.builtin "list.append") [acc, x]) (fun _ s₅ => ∃ m, m < n ∧ I m s₅) (fun _ _ => False) s₄) (fun _ _ => False) s₃
            else ∃ m, m < n ∧ I m s₃) (fun _ _ => False) s₂) (fun _ _ => False) s₁') (fun _ _ => False) s₁) (fun _ _ => False) s)
    (n : Nat) (h : I n s) :
    codeAny (model prog w) A (.compLoop (.ListComp elt [⟨target, iter, ifs, 0⟩] scope pos) 0 it acc env) R s := by
  refine codeAny_loop rfl I (fun n s hI => ?_) n h
  show wpAny _ A ((compTurn (.ListComp elt [⟨target, iter, ifs, 0⟩] scope pos) 0 it acc env).onRaise (fun x => do noteFrame x env; theTreesLotGoes x)) _ _ s
  refine wpAny_noted ?_
  rw [compTurn_list]
  refine wpAny_bind (wpAny_standAt (wpAny_bind (wpAny_mono (turn n s hI) (fun r s₁ h₁ => ?_) fun _ _ h' => h'.elim)))
  cases r with
  | none => exact wpAny_pure h₁
  | some v =>
    refine wpAny_bind (wpAny_mono h₁ (fun _ s₁' h₁' => ?_) fun _ _ h' => h'.elim)
    refine wpAny_bind (wpAny_mono h₁' (fun _ s₂ h₂ => wpAny_bind (wpAny_mono h₂ (fun ok s₃ h₃ => ?_) fun _ _ h' => h'.elim)) fun _ _ h' => h'.elim)
    cases ok with
    | false => exact wpAny_pure ⟨rfl, h₃⟩
    | true =>
      exact wpAny_bind (wpAny_bind (wpAny_mono h₃ (fun x s₄ h₄ => wpAny_bind (wpAny_mono h₄ (fun _ s₅ h₅ => wpAny_pure (wpAny_pure ⟨rfl, h₅⟩)) fun _ _ h' => h'.elim)) fun _ _ h' => h'.elim))

section
variable {X : Cx} {sc : Scope} {cl : List (Str × Addr)} {N : List Str} {fr : List Nat} {x : Str} {px pos : Pos} {elt iter : Expr} {ifs : List Expr} {wi : TI} {tif : TT} {te : TE}
theorem comp_core {use : Option (Value → Sem Unit)} {ppos : Pos} {Q : Value → Shared → Prop} {pins : List (Addr × Obj)} {s : Shared} {σ : St} {H : Hp} {QV : VK} (hc : X.calm = true) (L : LcOk X sc cl N fr x) (hi : PI X (.Name x px) iter wi)
    (ht : ∀ C s₀ H₀ fp pins, PIfs (blk X sc cl N C s₀ H₀ fp pins) ifs tif) (he : ∀ C s₀ H₀ fp pins, PE (blk X sc cl N C s₀ H₀ fp pins) elt te)
    (I : Inv X pins σ H s) (h : tLC fr wi tif te σ H QV)
    (fin : ∀ (D C : Addr) (H' : Hp) (s' : Shared) (m : Str → Option Value), Inv X pins σ H' s' → QV (.ref D) H' → s'.heap.Ns C m → FpOk X pins H' C → compPost (model X.prog X.w) X.A X.xe use Q (.ref D) C (.ok .next) s')
    (hs : ∀ x, foldedSetIterable iter X.env x = pure x) :
    wpAny (model X.prog X.w) X.A (comprehension (.ListComp elt [⟨.Name x px, iter, ifs, 0⟩] sc pos) sc X.env ppos (newList []) false (eval iter X.env) use) Q X.xe s := by
  refine wpAny_comprehension_free rfl hs L.clos L.kind L.names (thn (hi pins s σ H _ I h) fun v s1 h1 => thn h1 fun itv s2 h2 => ?_)
  obtain ⟨it, fp, tn, J, H2, e, I2, T, st2, f2, h⟩ := h2
  subst e
  obtain ⟨W, ⟨m0, w0⟩, turn⟩ := h s2.heap.objs.size I2.fresh
  have I3 : Inv X pins σ (upd H2 s2.heap.objs.size (.lst [])) { s2 with heap := s2.heap.push { cls := .type "list", data := .seq ([] : List Value).toArray } } := I2.lnew (its := []) (t' := s2.toks) .nil (Nat.zero_le _)
  refine wpAny_newObj_type (wpAny_newFunctionEnv L.nocell (by intro y hy; simp at hy) (fun h₁ hns₁ hsb₁ => ?_) L.kind)
  dsimp only at hns₁ hsb₁ ⊢
  have th2 : ∀ b ∈ fp, ∃ o, s2.heap.get? b = some o := fun b hb => let ⟨o, ho, _⟩ := T.obj _ _ st2 b hb; ⟨o, ho⟩
  have ne2 : ∀ b ∈ fp, b ≠ s2.heap.objs.size := fun b hb => let ⟨o, ho⟩ := th2 b hb; Nat.ne_of_lt (Heap.lt_size ho)
  have f3 : ∀ b ∈ fp, FpOk X pins (upd H2 s2.heap.objs.size (.lst [])) b := fun b hb => ⟨by rw [upd_ne (ne2 b hb)]; exact (f2 b hb).1, (f2 b hb).2⟩
  have th3 : ∀ b ∈ fp, ∃ o, (s2.heap.push { cls := .type "list", data := .seq ([] : List Value).toArray }).get? b = some o := fun b hb => let ⟨o, ho⟩ := th2 b hb; ⟨o, Heap.get?_push_of_some _ ho⟩
  have hk : ∀ b o, (s2.heap.push { cls := .type "list", data := .seq ([] : List Value).toArray }).get? b = some o → h₁.get? b = some o := fun b o e =>
    hsb₁.extBut b o (Nat.ne_of_lt (Heap.lt_size e)) (Heap.get?_push_of_some _ e)
  generalize hS3 : ({ s2 with heap := s2.heap.push { cls := .type "list", data := .seq ([] : List Value).toArray } } : Shared) = s3 at I3
  have eh : s2.heap.push { cls := .type "list", data := .seq ([] : List Value).toArray } = s3.heap := by rw [← hS3]
  rw [eh] at hk th3 hns₁
  generalize hH3 : upd H2 s2.heap.objs.size (HO.lst []) = H3 at I3 f3 w0
  have st1 : tn 0 h₁ := T.keep _ _ _ st2 fun b hb o e => hk b o (by rw [← eh]; exact Heap.get?_push_of_some _ e)
  have hS4 : ∀ tk, ({ s2 with heap := h₁, toks := tk } : Shared) = { s3 with heap := h₁, toks := tk } := fun tk => by rw [← hS3]
  -- the loop, at any count of tokens
  have loop : ∀ tk, codeAny (model X.prog X.w) X.A (.compLoop (.ListComp elt [⟨.Name x px, iter, ifs, 0⟩] sc pos) 0 (.ref it) (.ref s2.heap.objs.size) (compEnvC sc cl s3.heap.objs.size X.env))
      (compPost (model X.prog X.w) X.A X.xe use Q (.ref s2.heap.objs.size) s3.heap.objs.size) { s3 with heap := h₁, toks := tk } := fun tk => by
    have I4 := blk_start (tk := tk) I3 L f3 th3 hns₁ hk
    generalize hY : blk X sc cl N s3.heap.objs.size s3 H3 fp pins = Y at I4
    have hYe : Y.env = compEnvC sc cl s3.heap.objs.size X.env := by rw [← hY]; rfl
    have hYp : Y.prog = X.prog := by rw [← hY]; rfl
    have hYw : Y.w = X.w := by rw [← hY]; rfl
    have hYK : Y.K = X.K := by rw [← hY]; rfl
    have hYA : Y.A = X.A := by rw [← hY]; rfl
    have hYc : Y.calm = true := by rw [← hY]; exact hc
    have hYx : Y.xe = fun _ _ => False := by rw [← hY]; rfl
    have hYl : Y.env.locals = s3.heap.objs.size := by rw [hYe]; rfl
    have het : PE Y elt te := by rw [← hY]; exact he _ _ _ _ _
    have htt : PIfs Y ifs tif := by rw [← hY]; exact ht _ _ _ _ _
    have hgt : PG Y (.Name x px) (gName 0) := by
      refine pg_name (by rw [← hY]; exact L.nd) (by rw [← hY]; exact L.fst) ?_ (.inr ?_)
      · rw [hYe]; exact .inl (lookup_relabel_local L.own)
      · rw [hYe]; exact lookup_relabel_local L.own
    have stat : ∀ {H' : Hp}, (∀ b ∈ fp, H' b = none) → ∀ b ∈ fp, FpOk Y [] H' b := fun {H'} hn b hb => by
      obtain ⟨f0, f1, f2', f3', f4, f5⟩ := f3 b hb
      obtain ⟨o, ho⟩ := th3 b hb
      refine ⟨hn b hb, by rw [hYl]; exact Nat.ne_of_lt (Heap.lt_size ho), fun z => ?_, .inl (by rw [← hY]; exact hb), fun y c e => ?_, fun p hp => ?_⟩
      · have z' : b ∈ frs X.stack := by rw [← hY] at z; exact z
        rcases List.mem_cons.mp (I3.stkSub b z') with q | q
        · exact f1 q
        · exact f2' q
      · have e' : cl.lookup y = some c := by rw [hYe] at e; exact e
        exact f4 y c (L.sub y c e')
      · have hp' : p ∈ (X.pn ++ pins) ++ ([] : List (Addr × Obj)) := by rw [← hY] at hp; exact hp
        rw [List.append_nil] at hp'
        exact f5 p hp'
    have TY : Turn Y.prog Y.w Y.K (.Name x px) J fp it tn := by rw [hYp, hYw, hYK]; exact T
    rw [← hYe, ← hYp, ← hYw, ← hYA]
    refine comp_loop (fun n s' => ∃ i H', Inv Y [] (st0 fr σ) H' s' ∧ tn i s'.heap ∧ (∀ b ∈ fp, H' b = none) ∧ W i n H') ?_ m0 ⟨0, H3, I4, st1, fun b hb => (f3 b hb).1, w0⟩
    rintro n s5 ⟨i, H5, I5, st5, fr5, w5⟩
    rcases turn i n H5 w5 with ⟨stop, qn⟩ | ⟨go, Nx, hN, step⟩
    · refine thn (TY.done Y rfl rfl rfl hYc i [] s5 (st0 fr σ) H5 _ I5 (stat fr5) st5 stop) fun r s6 ⟨hr, I6⟩ => ?_
      subst hr
      have I6' : Inv X pins σ H5 s6 := blk_end I3 f3 (by rw [hY]; exact I6)
      obtain ⟨mm, hmm, _⟩ := I6.loc
      rw [hYl] at hmm
      have fC : FpOk X pins H5 s3.heap.objs.size := by
        have := I3.fpOk (H' := H5) (Nat.le_refl _) (by have := I6.free; rw [hYl] at this; exact this)
        exact this
      have q := fin s2.heap.objs.size s3.heap.objs.size H5 s6 mm I6' qn hmm fC
      rw [hYp, hYw, hYA]
      exact q
    · refine thn (TY.item Y rfl rfl rfl hYc i [] s5 (st0 fr σ) H5 _ I5 (stat fr5) st5 go) fun r s6 ⟨u, hr, h6⟩ => ?_
      subst hr
      refine thn h6 fun _ s7 ⟨xv, H7, I7, r7, y7, st7, fr7⟩ => ?_
      have I7' := I7.pinned (stat fr7) (T.obj _ _ st7)
      have step' := step xv H7 y7
      have again : ∀ {σ8 : St} {H8 : Hp} {s8 : Shared}, Inv Y ([] ++ pinsAt fp s7.heap) σ8 H8 s8 → σ8 = (st0 fr σ).set 0 (some xv) → Nx H8 → ∃ m, m < n ∧ ∃ i H', Inv Y [] (st0 fr σ) H' s8 ∧ tn i s8.heap ∧ (∀ b ∈ fp, H' b = none) ∧ W i m H' := fun {σ8 H8 s8} I8 e8 n8 => by
        obtain ⟨m', hm, w8⟩ := hN H8 n8
        subst e8
        refine ⟨m', hm, i + 1, H8, I8.unpinned.weak (by simp) (fun k v e => ?_), T.keep _ _ _ st7 fun b hb o e => (I8.pin (b, o) (List.mem_append_right _ (List.mem_append_right _ (mem_pinsAt hb e)))).1, fun b hb => ?_, w8⟩
        · cases k with
          | zero => exact absurd e (by simp [st0])
          | succ k => rw [List.getElem?_set_ne (by omega)]; exact e
        · obtain ⟨o, e, d⟩ := T.obj _ _ st7 b hb
          exact (I8.pin (b, o) (List.mem_append_right _ (List.mem_append_right _ (mem_pinsAt hb e)))).2.1
      have a1 := hgt _ s7 (st0 fr σ) H7 xv u (fun σ' H' => σ' = (st0 fr σ).set 0 (some xv) ∧ H' = H7) I7' r7 ⟨rfl, rfl⟩
      rw [hYx] at a1
      refine thn a1 fun _ s8 ⟨σ8, H8, I8, e8, e8'⟩ => ?_
      subst e8 e8'
      have a2 := htt _ s8 _ H8 _ I8 step'
      rw [hYx] at a2
      refine thn a2 fun ok s9 ⟨H9, I9, q9⟩ => ?_
      cases ok with
      | false =>
        rw [if_neg Bool.false_ne_true] at q9 ⊢
        exact again I9 rfl q9
      | true =>
        rw [if_pos rfl] at q9 ⊢
        have a3 := het _ s9 _ H9 _ I9 q9
        rw [hYx] at a3
        refine thn a3 fun y s10 ⟨vv, H10, I10, r10, xs, hD, hz, n10⟩ => ?_
        have a4 := mt_append (X := Y) _ s10 _ H10 (.ref s2.heap.objs.size) [vv] (.ref s2.heap.objs.size) [y] (fun _ H' => Nx H') I10 rfl (.cons r10 .nil) ⟨_, xs, vv, rfl, rfl, hD, hz, n10⟩
        rw [hYx] at a4
        refine thn a4 fun _ s11 ⟨_, H11, I11, _, n11⟩ => ?_
        exact again I11 rfl n11
  have e0 : ∀ tk, ({ s2 with heap := h₁, toks := tk } : Shared) = { s3 with heap := h₁, toks := tk } := hS4
  have e1 : (s2.heap.push { cls := .type "list", dict := none, data := .seq ([] : List Value).toArray }).objs.size = s3.heap.objs.size := by rw [← hS3]
  have key := codeAny_compStart_list (loop (s2.toks + ([] : List (Str × Value)).length)) (T.self X.A 0 _ _ _ st1 (loop _))
  rw [← e0] at key
  revert key
  rw [← hS3]
  exact fun key => key
/-- [elt for x in iter if ..] as a value -/
theorem pe_lc (hc : X.calm = true) (L : LcOk X sc cl N fr x) (hi : PI X (.Name x px) iter wi)
    (ht : ∀ C s₀ H₀ fp pins, PIfs (blk X sc cl N C s₀ H₀ fp pins) ifs tif) (he : ∀ C s₀ H₀ fp pins, PE (blk X sc cl N C s₀ H₀ fp pins) elt te)
    (hs : ∀ x, foldedSetIterable iter X.env x = pure x := by intro _; rfl) : PE X (.ListComp elt [⟨.Name x px, iter, ifs, 0⟩] sc pos) (tLC fr wi tif te) := by
  intro pins s σ H Q I h
  rw [eval_ListComp]
  refine comp_core (use := none) hc L hi ht he I h (fun D C H' s' m I' q hn f => ?_) hs
  refine ⟨m, hn, fun h' sb => ?_⟩
  obtain ⟨f0, f1, f2, f3, f4, f5⟩ := f
  exact ⟨.ref D, H', I'.turned (t' := s'.toks) (fun b o hb e => (sb.2 b hb).trans e) f0 (Ne.symm (Ne.symm f1)) f3 f4 f5, rfl, q⟩
/-- y = [elt for x in iter if ..], stored ahead of the names' going -/
theorem ps_lc {i : Nat} {y : Str} {py spos : Pos} (hc : X.calm = true) (hN : X.N.Nodup) (hi' : X.N[i]? = some y) (hy : Loc X.env.scope y) (L : LcOk X sc cl N fr x) (hi : PI X (.Name x px) iter wi)
    (ht : ∀ C s₀ H₀ fp pins, PIfs (blk X sc cl N C s₀ H₀ fp pins) ifs tif) (he : ∀ C s₀ H₀ fp pins, PE (blk X sc cl N C s₀ H₀ fp pins) elt te)
    (hsw : swapsWith (.ListComp elt [⟨.Name x px, iter, ifs, 0⟩] sc pos) (some (.Name y py)) spos.line X.env = pure true := by rfl)
    (hs : ∀ x, foldedSetIterable iter X.env x = pure x := by intro _; rfl) (hf : X.fn y = true ∨ X.env.scope.names.lookup y = some .local := by first | exact .inl rfl | exact .inr rfl | assumption) :
    PS X (.Assign [.Name y py] (.ListComp elt [⟨.Name x px, iter, ifs, 0⟩] sc pos) spos) (tAsg (tLC fr wi tif te) (gName i)) := by
  intro pins s σ H D I h
  rw [exec_Assign_Name_used _ _ _ _ hsw]
  refine wpAny_bind (wpAny_standAt (wpAny_bind ?_))
  show wpAny _ X.A (do let _ ← comprehension (.ListComp elt [⟨.Name x px, iter, ifs, 0⟩] sc pos) sc X.env _ (newList []) false (eval iter X.env) (some (assign (.Name y py) X.env))) _ _ s
  refine wpAny_bind (thn (comp_core (use := some (assign (.Name y py) X.env)) (Q := fun _ s' => SP X pins D .next s') hc L hi ht he I h (fun D' C H' s' m I' q hn f => ?_) hs) fun _ s' hq => wpAny_pure (wpAny_pure hq))
  obtain ⟨f0, f1, f2, f3, f4, f5⟩ := f
  show wpAny _ X.A (assign (.Name y py) X.env (.ref D')) _ _ s'
  refine wpAny_assign_Name (store_ok2 (v := .ref D') I' hN hi' hy rfl (fun s2 I2 hsb => ?_) hf)
  obtain ⟨a, sb, ha⟩ := hsb
  have nC : C ≠ a := by
    rcases ha with z | z
    · rw [z]; exact f1
    · exact (f4 y a z).symm
  refine ⟨m, hn.sameBut sb nC, fun h' sb' => ?_⟩
  exact ⟨_, H', I2.turned (t' := s2.toks) (fun b o hb e => (sb'.2 b hb).trans e) f0 f1 f3 f4 f5, q⟩
end

/-! ### the forms one uses -/
theorem lc_list {K : PySem.W.Frag} {a : Addr} {xs : List V} {tif : TT} {te : TE} {τ : St} {Q : Hp → Prop} {D : Addr} {H : Hp} (Pv : Nat → Hp → Prop) (h0 : Pv 0 H) (hl : ∀ i H, i ≤ xs.length → Pv i H → SqL K H a xs)
    (hs : ∀ i x H, xs[i]? = some x → Pv i H → tif (τ.set 0 (some x)) H fun b H2 => if b = true then te (τ.set 0 (some x)) H2 fun v H3 => ∃ ys, H3 D = some (.lst ys) ∧ ys.length < sizeLine ∧ Pv (i + 1) (upd H3 D (.lst (ys ++ [v]))) else Pv (i + 1) H2)
    (hd : ∀ H, Pv xs.length H → Q H) :
    ∃ W : Nat → Nat → Hp → Prop, (∃ m, W 0 m H) ∧ ∀ i m H, W i m H →
      ((Itl K a).stop i H ∧ Q H) ∨ ((Itl K a).go i H ∧ ∃ Nx : Hp → Prop, (∀ H', Nx H' → ∃ m', m' < m ∧ W (i + 1) m' H') ∧ ∀ x H', (Itl K a).yld i H x H' →
        tif (τ.set 0 (some x)) H' fun b H2 => if b = true then te (τ.set 0 (some x)) H2 fun v H3 => ∃ xs, H3 D = some (.lst xs) ∧ xs.length < sizeLine ∧ Nx (upd H3 D (.lst (xs ++ [v]))) else Nx H2) := by
  refine ⟨fun i m H => m = xs.length - i ∧ i ≤ xs.length ∧ Pv i H, ⟨xs.length, by simp, Nat.zero_le _, h0⟩, ?_⟩
  rintro i m H ⟨rfl, hi, p⟩
  have q := hl i H hi p
  by_cases hlt : i < xs.length
  · refine .inr ⟨⟨xs, xs[i], q, by simp [hlt]⟩, Pv (i + 1), fun H' p' => ⟨xs.length - (i + 1), by omega, rfl, hlt, p'⟩, fun x H' y => ?_⟩
    obtain ⟨e, y⟩ := y
    subst e
    exact hs i x _ (y xs q) p
  · have e : i = xs.length := by omega
    subst e
    exact .inl ⟨⟨xs, q, Nat.le_refl _⟩, hd H p⟩
theorem lc_range {lo : Int} {n : Nat} {tif : TT} {te : TE} {τ : St} {Q : Hp → Prop} {D : Addr} {H : Hp} (Pv : Nat → Hp → Prop) (h0 : Pv 0 H)
    (hs : ∀ i H, i < n → Pv i H → tif (τ.set 0 (some (.int (lo + i)))) H fun b H2 => if b = true then te (τ.set 0 (some (.int (lo + i)))) H2 fun v H3 => ∃ ys, H3 D = some (.lst ys) ∧ ys.length < sizeLine ∧ Pv (i + 1) (upd H3 D (.lst (ys ++ [v]))) else Pv (i + 1) H2)
    (hd : ∀ H, Pv n H → Q H) :
    ∃ W : Nat → Nat → Hp → Prop, (∃ m, W 0 m H) ∧ ∀ i m H, W i m H →
      ((Itr lo n).stop i H ∧ Q H) ∨ ((Itr lo n).go i H ∧ ∃ Nx : Hp → Prop, (∀ H', Nx H' → ∃ m', m' < m ∧ W (i + 1) m' H') ∧ ∀ x H', (Itr lo n).yld i H x H' →
        tif (τ.set 0 (some x)) H' fun b H2 => if b = true then te (τ.set 0 (some x)) H2 fun v H3 => ∃ xs, H3 D = some (.lst xs) ∧ xs.length < sizeLine ∧ Nx (upd H3 D (.lst (xs ++ [v]))) else Nx H2) := by
  refine ⟨fun i m H => m = n - i ∧ i ≤ n ∧ Pv i H, ⟨n, by simp, Nat.zero_le _, h0⟩, ?_⟩
  rintro i m H ⟨rfl, hi, p⟩
  by_cases hlt : i < n
  · refine .inr ⟨hlt, Pv (i + 1), fun H' p' => ⟨n - (i + 1), by omega, rfl, hlt, p'⟩, fun x H' y => ?_⟩
    obtain ⟨e, y⟩ := y
    subst e y
    exact hs i _ hlt p
  · have e : i = n := by omega
    subst e
    exact .inl ⟨Nat.le_refl _, hd H p⟩
end L2

set_option linter.all false
set_option maxHeartbeats 4000000
namespace My
/-! ### the longest common part of two rows -/
section
variable {α : Type} [DecidableEq α]
def lcs : List α → List α → Nat
  | [], _ => 0
  | _ :: _, [] => 0
  | a :: r, b :: t => if a = b then lcs r t + 1 else max (lcs r (b :: t)) (lcs (a :: r) t)
termination_by x y => x.length + y.length

theorem lcs_nil_l (y : List α) : lcs ([] : List α) y = 0 := by rw [lcs]
theorem lcs_nil_r : ∀ x : List α, lcs x [] = 0
  | [] => by rw [lcs]
  | _ :: _ => by rw [lcs]
theorem lcs_cc (a b : α) (r t : List α) : lcs (a :: r) (b :: t) = if a = b then lcs r t + 1 else max (lcs r (b :: t)) (lcs (a :: r) t) := by rw [lcs]
/-- every common part is no longer -/
theorem lcs_max : ∀ (n : Nat) (x y t : List α), x.length + y.length ≤ n → t.Sublist x → t.Sublist y → t.length ≤ lcs x y
  | _, [], y, t, _, h, _ => by
    have := h.length_le
    simp at this
    subst this
    exact Nat.zero_le _
  | _, _ :: _, [], t, _, _, h => by
    have := h.length_le
    simp at this
    subst this
    exact Nat.zero_le _
  | 0, _ :: _, _ :: _, _, h, _, _ => by simp at h
  | n + 1, a :: r, b :: s, t, hn, h1, h2 => by
    simp only [List.length_cons] at hn
    rw [lcs_cc]
    by_cases hab : a = b
    · rw [if_pos hab]
      cases t with
      | nil => exact Nat.zero_le _
      | cons c t =>
        have e1 : t.Sublist r := by
          cases h1 with
          | cons _ h => exact (List.sublist_cons_self c t).trans h
          | cons_cons _ h => exact h
        have e2 : t.Sublist s := by
          cases h2 with
          | cons _ h => exact (List.sublist_cons_self c t).trans h
          | cons_cons _ h => exact h
        have := lcs_max n r s t (by omega) e1 e2
        simp only [List.length_cons]
        omega
    · rw [if_neg hab]
      cases h1 with
      | cons _ h =>
        have := lcs_max n r (b :: s) t (by simp only [List.length_cons]; omega) h h2
        omega
      | @cons_cons t' _ _ h =>
        cases h2 with
        | cons _ h' =>
          have := lcs_max n (a :: r) s (a :: t') (by simp only [List.length_cons]; omega) (h.cons_cons a) h'
          omega
        | cons_cons _ h' => exact absurd rfl hab
theorem lcs_ge {x y t : List α} (h1 : t.Sublist x) (h2 : t.Sublist y) : t.length ≤ lcs x y := lcs_max _ x y t (Nat.le_refl _) h1 h2
/-- there is a common part of that length -/
theorem lcs_has : ∀ (n : Nat) (x y : List α), x.length + y.length ≤ n → ∃ t : List α, t.Sublist x ∧ t.Sublist y ∧ t.length = lcs x y
  | _, [], y, _ => ⟨[], List.nil_sublist _, List.nil_sublist _, by rw [lcs_nil_l]; rfl⟩
  | _, a :: r, [], _ => ⟨[], List.nil_sublist _, List.nil_sublist _, by rw [lcs_nil_r]; rfl⟩
  | 0, _ :: _, _ :: _, h => by simp at h
  | n + 1, a :: r, b :: s, hn => by
    simp only [List.length_cons] at hn
    rw [lcs_cc]
    by_cases hab : a = b
    · rw [if_pos hab]
      obtain ⟨t, h1, h2, h3⟩ := lcs_has n r s (by omega)
      subst hab
      exact ⟨a :: t, h1.cons_cons a, h2.cons_cons a, by simp [h3]⟩
    · rw [if_neg hab]
      obtain ⟨t, h1, h2, h3⟩ := lcs_has n r (b :: s) (by simp only [List.length_cons]; omega)
      obtain ⟨u, g1, g2, g3⟩ := lcs_has n (a :: r) s (by simp only [List.length_cons]; omega)
      by_cases hm : lcs r (b :: s) ≤ lcs (a :: r) s
      · exact ⟨u, g1, g2.cons _, by omega⟩
      · exact ⟨t, h1.cons _, h2, by omega⟩
theorem lcs_mono {x y x' y' : List α} (h1 : x'.Sublist x) (h2 : y'.Sublist y) : lcs x' y' ≤ lcs x y := by
  obtain ⟨t, g1, g2, g3⟩ := lcs_has _ x' y' (Nat.le_refl _)
  rw [← g3]
  exact lcs_ge (g1.trans h1) (g2.trans h2)
/-- two parts of one row meet in no less than what must be -/
theorem meet : ∀ (b s u : List α), s.Sublist b → u.Sublist b → ∃ t : List α, t.Sublist s ∧ t.Sublist u ∧ s.length + u.length ≤ t.length + b.length
  | [], s, u, h1, h2 => by
    have e1 := h1.length_le
    have e2 := h2.length_le
    exact ⟨[], List.nil_sublist _, List.nil_sublist _, by simp only [List.length_nil] at *; omega⟩
  | c :: b, s, u, h1, h2 => by
    cases h1 with
    | cons _ h =>
      cases h2 with
      | cons _ g =>
        obtain ⟨t, a1, a2, a3⟩ := meet b s u h g
        exact ⟨t, a1, a2, by simp only [List.length_cons]; omega⟩
      | @cons_cons u' _ _ g =>
        obtain ⟨t, a1, a2, a3⟩ := meet b s u' h g
        exact ⟨t, a1, a2.cons _, by simp only [List.length_cons]; omega⟩
    | @cons_cons s' _ _ h =>
      cases h2 with
      | cons _ g =>
        obtain ⟨t, a1, a2, a3⟩ := meet b s' u h g
        exact ⟨t, a1.cons _, a2, by simp only [List.length_cons]; omega⟩
      | @cons_cons u' _ _ g =>
        obtain ⟨t, a1, a2, a3⟩ := meet b s' u' h g
        exact ⟨c :: t, a1.cons_cons c, a2.cons_cons c, by simp only [List.length_cons]; omega⟩
theorem drop_cons {l : List α} {i : Nat} {a : α} (h : l[i]? = some a) : l.drop i = a :: l.drop (i + 1) := by
  obtain ⟨hi, e⟩ := List.getElem?_eq_some_iff.mp h
  rw [List.drop_eq_getElem_cons hi, e]
/-- what stands at [i][j] of the table -/
def cellOf (x y : List α) (i j : Nat) : Nat := lcs (x.drop i) (y.drop j)
theorem cell_end_l {x y : List α} {i j : Nat} (h : x.length ≤ i) : cellOf x y i j = 0 := by unfold cellOf; rw [List.drop_eq_nil_of_le h, lcs_nil_l]
theorem cell_end_r {x y : List α} {i j : Nat} (h : y.length ≤ j) : cellOf x y i j = 0 := by unfold cellOf; rw [List.drop_eq_nil_of_le h, lcs_nil_r]
theorem cell_eq {x y : List α} {i j : Nat} {a b : α} (h1 : x[i]? = some a) (h2 : y[j]? = some b) (e : a = b) : cellOf x y i j = cellOf x y (i + 1) (j + 1) + 1 := by
  unfold cellOf; rw [drop_cons h1, drop_cons h2, lcs_cc, if_pos e]
theorem cell_ne {x y : List α} {i j : Nat} {a b : α} (h1 : x[i]? = some a) (h2 : y[j]? = some b) (e : ¬ a = b) : cellOf x y i j = max (cellOf x y (i + 1) j) (cellOf x y i (j + 1)) := by
  unfold cellOf; rw [drop_cons h1, drop_cons h2, lcs_cc, if_neg e, ← drop_cons h1, ← drop_cons h2]
theorem cell_mono {x y : List α} {i j i' j' : Nat} (h1 : i ≤ i') (h2 : j ≤ j') : cellOf x y i' j' ≤ cellOf x y i j := by
  unfold cellOf
  refine lcs_mono ?_ ?_
  · have e : x.drop i' = (x.drop i).drop (i' - i) := by rw [List.drop_drop]; congr 1; omega
    rw [e]; exact List.drop_sublist _ _
  · have e : y.drop j' = (y.drop j).drop (j' - j) := by rw [List.drop_drop]; congr 1; omega
    rw [e]; exact List.drop_sublist _ _
theorem cell_le_l {x y : List α} {i j : Nat} : cellOf x y i j ≤ x.length := by
  unfold cellOf
  obtain ⟨t, h1, _, h3⟩ := lcs_has _ (x.drop i) (y.drop j) (Nat.le_refl _)
  rw [← h3]
  have := h1.length_le
  rw [List.length_drop] at this
  omega
theorem cell_zero (x y : List α) : cellOf x y 0 0 = lcs x y := rfl
/-- a like pair ahead of another one has a greater cell -/
theorem cell_less {x y : List α} {i j i' j' : Nat} {a : α} (h1 : x[i]? = some a) (h2 : y[j]? = some a) (hi : i < i') (hj : j < j') : cellOf x y i' j' < cellOf x y i j := by
  rw [cell_eq h1 h2 rfl]
  have := cell_mono (x := x) (y := y) (i := i + 1) (j := j + 1) (i' := i') (j' := j') hi hj
  omega
theorem cell_pos {x y : List α} {i j : Nat} {a : α} (h1 : x[i]? = some a) (h2 : y[j]? = some a) : 1 ≤ cellOf x y i j := by rw [cell_eq h1 h2 rfl]; omega
end

/-! ### blocks with their lines -/
section
variable {α : Type}
inductive Blk (α : Type) where
  | keep (ks : List α)
  | swap (g c : List α)
def Blk.old : Blk α → List α
  | .keep ks => ks
  | .swap g _ => g
def Blk.new : Blk α → List α
  | .keep ks => ks
  | .swap _ c => c
def Blk.isKeep : Blk α → Bool
  | .keep _ => true
  | .swap _ _ => false
def Blk.kept : Blk α → Nat
  | .keep ks => ks.length
  | .swap _ _ => 0
def Blk.size : Blk α → Nat
  | .keep _ => 0
  | .swap g c => g.length + c.length
def Blk.empty : Blk α → Bool
  | .keep ks => ks.isEmpty
  | .swap g c => g.isEmpty && c.isEmpty
def Blk.turn : Blk α → Blk α
  | .keep ks => .keep ks
  | .swap g c => .swap c g
def Blk.unite : Blk α → Blk α → Blk α
  | .keep a, b => .keep (a ++ b.old)
  | .swap g c, b => .swap (g ++ b.old) (c ++ b.new)
theorem turn_old (b : Blk α) : b.turn.old = b.new := by cases b <;> rfl
theorem turn_new (b : Blk α) : b.turn.new = b.old := by cases b <;> rfl
theorem turn_keep (b : Blk α) : b.turn.isKeep = b.isKeep := by cases b <;> rfl
def olds (bs : List (Blk α)) : List α := bs.flatMap Blk.old
def news (bs : List (Blk α)) : List α := bs.flatMap Blk.new
def kepts (bs : List (Blk α)) : Nat := (bs.map Blk.kept).sum
def sizes (bs : List (Blk α)) : Nat := (bs.map Blk.size).sum
theorem olds_app (a b : List (Blk α)) : olds (a ++ b) = olds a ++ olds b := by unfold olds; rw [List.flatMap_append]
theorem news_app (a b : List (Blk α)) : news (a ++ b) = news a ++ news b := by unfold news; rw [List.flatMap_append]
theorem kepts_app (a b : List (Blk α)) : kepts (a ++ b) = kepts a + kepts b := by unfold kepts; rw [List.map_append, List.sum_append]
theorem sizes_app (a b : List (Blk α)) : sizes (a ++ b) = sizes a + sizes b := by unfold sizes; rw [List.map_append, List.sum_append]
theorem olds_one (b : Blk α) : olds [b] = b.old := by simp [olds]
theorem news_one (b : Blk α) : news [b] = b.new := by simp [news]
theorem kepts_one (b : Blk α) : kepts [b] = b.kept := by simp [kepts]
theorem sizes_one (b : Blk α) : sizes [b] = b.size := by simp [sizes]
theorem olds_turn (bs : List (Blk α)) : olds (bs.map Blk.turn) = news bs := by
  unfold olds news
  induction bs with
  | nil => rfl
  | cons b r ih => simp [turn_old, ih]
theorem news_turn (bs : List (Blk α)) : news (bs.map Blk.turn) = olds bs := by
  unfold olds news
  induction bs with
  | nil => rfl
  | cons b r ih => simp [turn_new, ih]
theorem size_eq (bs : List (Blk α)) : sizes bs + 2 * kepts bs = (olds bs).length + (news bs).length := by
  induction bs with
  | nil => rfl
  | cons b r ih =>
    have e : b :: r = [b] ++ r := rfl
    rw [e, sizes_app, kepts_app, olds_app, news_app, List.length_append, List.length_append, sizes_one, kepts_one, olds_one, news_one]
    cases b with
    | keep ks => simp only [Blk.size, Blk.kept, Blk.old, Blk.new]; omega
    | swap g c => simp only [Blk.size, Blk.kept, Blk.old, Blk.new]; omega
/-- no empty block, no two of a kind side by side -/
structure Fine (bs : List (Blk α)) : Prop where
  full : ∀ b ∈ bs, b.empty = false
  alt : ∀ (i : Nat) (b c : Blk α), bs[i]? = some b → bs[i + 1]? = some c → b.isKeep ≠ c.isKeep
theorem Fine.nil : Fine ([] : List (Blk α)) := ⟨(fun _ h => nomatch h), fun i b c h => by simp at h⟩
theorem Fine.turn {bs : List (Blk α)} (f : Fine bs) : Fine (bs.map Blk.turn) := by
  refine ⟨fun b hb => ?_, fun i b c h1 h2 => ?_⟩
  · obtain ⟨x, hx, rfl⟩ := List.mem_map.mp hb
    have := f.full x hx
    cases x with
    | keep ks => exact this
    | swap g c => simp only [Blk.turn, Blk.empty] at this ⊢; rw [Bool.and_comm]; exact this
  · rw [List.getElem?_map] at h1 h2
    cases e1 : bs[i]? with
    | none => rw [e1] at h1; cases h1
    | some x =>
      cases e2 : bs[i + 1]? with
      | none => rw [e2] at h2; cases h2
      | some y =>
        rw [e1] at h1; rw [e2] at h2
        cases h1; cases h2
        rw [turn_keep, turn_keep]
        exact f.alt i x y e1 e2
/-- one part more -/
def tidyStep (acc : List (Blk α)) (b : Blk α) : List (Blk α) :=
  if b.empty = true then acc
  else match acc.getLast? with
    | none => acc ++ [b]
    | some l => if l.isKeep = b.isKeep then acc.set (acc.length - 1) (l.unite b) else acc ++ [b]
theorem set_last (acc : List (Blk α)) (l x : Blk α) : (acc ++ [l]).set ((acc ++ [l]).length - 1) x = acc ++ [x] := by
  rw [List.length_append, List.length_singleton, Nat.add_sub_cancel, List.set_append_right _ _ (Nat.le_refl _), Nat.sub_self]
  rfl
theorem empty_old {b : Blk α} (h : b.empty = true) : b.old = [] := by
  cases b with
  | keep ks => exact List.isEmpty_iff.mp h
  | swap g c => simp only [Blk.empty, Bool.and_eq_true] at h; exact List.isEmpty_iff.mp h.1
theorem empty_new {b : Blk α} (h : b.empty = true) : b.new = [] := by
  cases b with
  | keep ks => exact List.isEmpty_iff.mp h
  | swap g c => simp only [Blk.empty, Bool.and_eq_true] at h; exact List.isEmpty_iff.mp h.2
theorem empty_kept {b : Blk α} (h : b.empty = true) : b.kept = 0 := by
  cases b with
  | keep ks => simp only [Blk.kept]; rw [show ks = [] from empty_old h]; rfl
  | swap g c => rfl
theorem unite_old (l b : Blk α) (h : l.isKeep = b.isKeep) : (l.unite b).old = l.old ++ b.old := by cases l <;> rfl
theorem unite_new (l b : Blk α) (h : l.isKeep = b.isKeep) : (l.unite b).new = l.new ++ b.new := by
  cases l with
  | keep a => cases b with
    | keep c => rfl
    | swap _ _ => cases h
  | swap g c => rfl
theorem unite_kept (l b : Blk α) (h : l.isKeep = b.isKeep) : (l.unite b).kept = l.kept + b.kept := by
  cases l with
  | keep a => cases b with
    | keep c => simp [Blk.unite, Blk.kept, Blk.old]
    | swap _ _ => cases h
  | swap g c => cases b with
    | keep c => cases h
    | swap _ _ => rfl
theorem unite_isKeep (l b : Blk α) : (l.unite b).isKeep = l.isKeep := by cases l <;> rfl
theorem unite_full (l b : Blk α) (h : l.empty = false) : (l.unite b).empty = false := by
  cases l with
  | keep a =>
    cases a with
    | nil => cases h
    | cons _ _ => rfl
  | swap g c =>
    cases g with
    | nil =>
      cases c with
      | nil => cases h
      | cons _ _ => simp [Blk.unite, Blk.empty]
    | cons _ _ => simp [Blk.unite, Blk.empty]
theorem tidy_split (acc : List (Blk α)) : acc = [] ∨ ∃ a l, acc = a ++ [l] ∧ acc.getLast? = some l := by
  cases h : acc.getLast? with
  | none => exact .inl (List.getLast?_eq_none_iff.mp h)
  | some l => obtain ⟨a, e⟩ := List.getLast?_eq_some_iff.mp h; exact .inr ⟨a, l, e, rfl⟩
theorem tidy_facts (acc : List (Blk α)) (b : Blk α) : olds (tidyStep acc b) = olds acc ++ b.old ∧ news (tidyStep acc b) = news acc ++ b.new ∧ kepts (tidyStep acc b) = kepts acc + b.kept := by
  unfold tidyStep
  by_cases he : b.empty = true
  · rw [if_pos he, empty_old he, empty_new he, empty_kept he]; simp
  · rw [if_neg he]
    rcases tidy_split acc with rfl | ⟨a, l, e, hl⟩
    · simp only [List.getLast?_nil, List.nil_append]
      rw [olds_one, news_one, kepts_one]
      exact ⟨rfl, rfl, by simp [kepts]⟩
    · rw [hl]
      dsimp only
      by_cases hk : l.isKeep = b.isKeep
      · rw [if_pos hk, e, set_last, olds_app, news_app, kepts_app, olds_app, news_app, kepts_app, olds_one, news_one, kepts_one, olds_one, news_one, kepts_one, unite_old l b hk, unite_new l b hk, unite_kept l b hk]
        exact ⟨by simp, by simp, by omega⟩
      · rw [if_neg hk, olds_app, news_app, kepts_app, olds_one, news_one, kepts_one]
        exact ⟨rfl, rfl, rfl⟩
theorem Fine.snoc {a : List (Blk α)} {b : Blk α} (f : Fine a) (hb : b.empty = false) (hl : ∀ l, a.getLast? = some l → l.isKeep ≠ b.isKeep) : Fine (a ++ [b]) := by
  refine ⟨fun x hx => ?_, fun i x y h1 h2 => ?_⟩
  · rcases List.mem_append.mp hx with h | h
    · exact f.full x h
    · rw [List.mem_singleton.mp h]; exact hb
  · by_cases hi : i + 1 < a.length
    · rw [List.getElem?_append_left (by omega)] at h1 h2
      exact f.alt i x y h1 h2
    · have hi2 : i + 1 < (a ++ [b]).length := (List.getElem?_eq_some_iff.mp h2).1
      rw [List.length_append, List.length_singleton] at hi2
      have e : i + 1 = a.length := by omega
      rw [e, List.getElem?_append_right (Nat.le_refl _), Nat.sub_self] at h2
      cases h2
      rw [List.getElem?_append_left (by omega)] at h1
      refine hl x ?_
      rw [List.getLast?_eq_getElem?, ← e, Nat.add_sub_cancel]
      exact h1
theorem Fine.init {a : List (Blk α)} {l : Blk α} (f : Fine (a ++ [l])) : Fine a ∧ l.empty = false ∧ ∀ x, a.getLast? = some x → x.isKeep ≠ l.isKeep := by
  refine ⟨⟨fun x hx => f.full x (List.mem_append_left _ hx), fun i x y h1 h2 => ?_⟩, f.full l (List.mem_append_right _ List.mem_cons_self), fun x hx => ?_⟩
  · have i1 := (List.getElem?_eq_some_iff.mp h1).1
    have i2 := (List.getElem?_eq_some_iff.mp h2).1
    exact f.alt i x y (by rw [List.getElem?_append_left i1]; exact h1) (by rw [List.getElem?_append_left i2]; exact h2)
  · rw [List.getLast?_eq_getElem?] at hx
    have i1 := (List.getElem?_eq_some_iff.mp hx).1
    refine f.alt (a.length - 1) x l (by rw [List.getElem?_append_left i1]; exact hx) ?_
    have e : a.length - 1 + 1 = a.length := by omega
    rw [e, List.getElem?_append_right (Nat.le_refl _), Nat.sub_self]
    rfl
theorem tidy_fine {acc : List (Blk α)} (b : Blk α) (f : Fine acc) : Fine (tidyStep acc b) := by
  unfold tidyStep
  by_cases he : b.empty = true
  · rw [if_pos he]; exact f
  · rw [if_neg he]
    have he' : b.empty = false := by simpa using he
    rcases tidy_split acc with rfl | ⟨a, l, e, hl⟩
    · exact Fine.snoc f he' fun l h => by simp at h
    · rw [hl]
      dsimp only
      by_cases hk : l.isKeep = b.isKeep
      · rw [if_pos hk, e, set_last]
        rw [e] at f
        obtain ⟨f1, f2, f3⟩ := f.init
        exact f1.snoc (unite_full l b f2) fun x hx => by rw [unite_isKeep]; exact f3 x hx
      · rw [if_neg hk]
        exact f.snoc he' fun x hx => by rw [hl] at hx; cases hx; exact hk
/-- the whole -/
def tidy (ps : List (Blk α)) : List (Blk α) := ps.foldl tidyStep []
theorem tidy_snoc (ps : List (Blk α)) (b : Blk α) : tidy (ps ++ [b]) = tidyStep (tidy ps) b := by unfold tidy; rw [List.foldl_append]; rfl
theorem tidy_take {ps : List (Blk α)} {i : Nat} {b : Blk α} (h : ps[i]? = some b) : tidy (ps.take (i + 1)) = tidyStep (tidy (ps.take i)) b := by
  rw [List.take_add_one, h]
  exact tidy_snoc _ _
theorem foldl_facts : ∀ (ps acc : List (Blk α)), olds (ps.foldl tidyStep acc) = olds acc ++ olds ps ∧ news (ps.foldl tidyStep acc) = news acc ++ news ps ∧ kepts (ps.foldl tidyStep acc) = kepts acc + kepts ps ∧ (Fine acc → Fine (ps.foldl tidyStep acc))
  | [], acc => by simp [olds, news, kepts]
  | b :: r, acc => by
    obtain ⟨h1, h2, h3⟩ := tidy_facts acc b
    obtain ⟨g1, g2, g3, g4⟩ := foldl_facts r (tidyStep acc b)
    have e : b :: r = [b] ++ r := rfl
    refine ⟨?_, ?_, ?_, fun f => g4 (tidy_fine b f)⟩
    · show olds (r.foldl tidyStep (tidyStep acc b)) = _
      rw [g1, h1, e, olds_app, olds_one, List.append_assoc]
    · show news (r.foldl tidyStep (tidyStep acc b)) = _
      rw [g2, h2, e, news_app, news_one, List.append_assoc]
    · show kepts (r.foldl tidyStep (tidyStep acc b)) = _
      rw [g3, h3, e, kepts_app, kepts_one, Nat.add_assoc]
theorem tidy_olds (ps : List (Blk α)) : olds (tidy ps) = olds ps := by have := (foldl_facts ps []).1; simpa [tidy, olds] using this
theorem tidy_news (ps : List (Blk α)) : news (tidy ps) = news ps := by have := (foldl_facts ps []).2.1; simpa [tidy, news] using this
theorem tidy_kepts (ps : List (Blk α)) : kepts (tidy ps) = kepts ps := by have := (foldl_facts ps []).2.2.1; simpa [tidy, kepts] using this
theorem tidy_Fine (ps : List (Blk α)) : Fine (tidy ps) := (foldl_facts ps []).2.2.2 Fine.nil
theorem tidy_len_le : ∀ (ps acc : List (Blk α)), (ps.foldl tidyStep acc).length ≤ acc.length + ps.length
  | [], acc => by simp
  | b :: r, acc => by
    have := tidy_len_le r (tidyStep acc b)
    have h : (tidyStep acc b).length ≤ acc.length + 1 := by
      unfold tidyStep
      split
      · omega
      · split
        · simp
        · split
          · simp
          · simp
    show (r.foldl tidyStep (tidyStep acc b)).length ≤ _
    simp only [List.length_cons]
    omega
end

section
variable {α : Type}
theorem full_one {b : Blk α} (h : b.empty = false) : 1 ≤ b.old.length + b.new.length := by
  cases b with
  | keep ks =>
    cases ks with
    | nil => cases h
    | cons _ _ => simp only [Blk.old, Blk.new, List.length_cons]; omega
  | swap g c =>
    cases g with
    | nil =>
      cases c with
      | nil => cases h
      | cons _ _ => simp only [Blk.old, Blk.new, List.length_cons]; omega
    | cons _ _ => simp only [Blk.old, Blk.new, List.length_cons]; omega
theorem full_len : ∀ cs : List (Blk α), (∀ b ∈ cs, b.empty = false) → cs.length ≤ (olds cs).length + (news cs).length
  | [], _ => by simp
  | b :: r, hf => by
    have h1 := full_len r fun c hc => hf c (List.mem_cons_of_mem _ hc)
    have h3 := full_one (hf b List.mem_cons_self)
    rw [show b :: r = [b] ++ r from rfl, olds_app, news_app, olds_one, news_one]
    simp only [List.length_append, List.length_singleton]
    omega
end
/-! ### pairs of a walk -/
section
variable {α : Type} [DecidableEq α]
/-- a walk's pairs: like, rising, below (i, j) -/
structure Pairs (x y : List α) (ps : List (Nat × Nat)) (i j : Nat) : Prop where
  like : ∀ p ∈ ps, ∃ a, x[p.1]? = some a ∧ y[p.2]? = some a
  rise : ps.Pairwise fun p q => p.1 < q.1 ∧ p.2 < q.2
  low : ∀ p ∈ ps, p.1 < i ∧ p.2 < j
theorem Pairs.nil (x y : List α) (i j : Nat) : Pairs x y [] i j := ⟨(fun _ h => nomatch h), List.Pairwise.nil, (fun _ h => nomatch h)⟩
theorem Pairs.up {x y : List α} {ps : List (Nat × Nat)} {i j i' j' : Nat} (h : Pairs x y ps i j) (h1 : i ≤ i') (h2 : j ≤ j') : Pairs x y ps i' j' :=
  ⟨h.like, h.rise, fun p hp => ⟨Nat.lt_of_lt_of_le (h.low p hp).1 h1, Nat.lt_of_lt_of_le (h.low p hp).2 h2⟩⟩
theorem Pairs.more {x y : List α} {ps : List (Nat × Nat)} {i j : Nat} {a : α} (h : Pairs x y ps i j) (h1 : x[i]? = some a) (h2 : y[j]? = some a) : Pairs x y (ps ++ [(i, j)]) (i + 1) (j + 1) := by
  refine ⟨fun p hp => ?_, ?_, fun p hp => ?_⟩
  · rcases List.mem_append.mp hp with q | q
    · exact h.like p q
    · rw [List.mem_singleton.mp q]; exact ⟨a, h1, h2⟩
  · rw [List.pairwise_append]
    exact ⟨h.rise, List.pairwise_singleton _ _, fun p hp q hq => by rw [List.mem_singleton.mp hq]; exact h.low p hp⟩
  · rcases List.mem_append.mp hp with q | q
    · have := h.low p q; omega
    · rw [List.mem_singleton.mp q]; exact ⟨Nat.lt_succ_self _, Nat.lt_succ_self _⟩
end
end My

set_option Elab.async false
set_option linter.all false
set_option maxRecDepth 100000
set_option maxHeartbeats 4000000
namespace L2
open PySem PySem.Spec PyProof.Rows
section
variable {X : Cx} {a : Expr} {ta : TE} {pos : Pos}
/-- not e, by e's truth -/
theorem pe_notT (ha : PE X a ta) : PE X (.UnaryOp .Not a pos) (fun σ H Q => ta σ H fun x H1 => ∃ k, TruV X.K x H1 k ∧ Q (.bl (!k)) H1) := by
  intro pins s σ H Q I h
  refine UnaryOp_ (thn (ha pins s σ H _ I h) fun v s1 ⟨x, H1, I1, r1, q1⟩ => ?_)
  exact not_of (thn (tru_ok pins s1 σ H1 x v (fun k H => Q (.bl (!k)) H) I1 r1 q1) fun b s2 ⟨H2, I2, q2⟩ => ⟨.bl (!b), H2, I2, rfl, q2⟩)
end
theorem call_lenK {X : Cx} (K : PySem.W.Frag) (h : X.K = K) : CallR X (.builtin "len") (fun xs H Q => ∃ p ys, xs = [.ref p] ∧ (SqL K H p ys ∨ SqT K H p ys) ∧ Q (.int ys.length) H) := by subst h; exact call_len_seq
theorem ix_tupK {X : Cx} (K : PySem.W.Frag) (h : X.K = K) : IxR X (rIxT K) := by subst h; exact ix_tup
theorem ix_listK {X : Cx} (K : PySem.W.Frag) (h : X.K = K) : IxR X (rIxL K) := by subst h; exact ix_list
theorem lc_plain {X : Cx} {sc : Scope} {x : Str} (nf : ∀ y ∈ sc.names, y.2 ≠ .free) (nc : ∀ y ∈ sc.names, y.2 ≠ .cell) (k : sc.kind = .function) (nm : ∀ y ∈ sc.names, y.2 = .local → sc.names.lookup y.1 = some .local)
    (ow : sc.names.lookup x = some .local) : LcOk X sc [] [x] [] x := by
  have er : (relabel sc X.env).names = sc.names := map_eq_self (fun y hy => by
    obtain ⟨n, k⟩ := y
    have : (k == NameKind.free) = false := by simpa using nf _ hy
    simp [this])
  refine ⟨closureFor_none nf, nc, k, nm, ow, fun y c h => by simp at h, fun y h => ?_, rfl, by simp, rfl, fun i j h => by simp at h⟩
  rw [er] at h
  rcases h with h | h
  · exact absurd rfl (nc _ (PySem.mem_of_lookup h))
  · exact absurd rfl (nf _ (PySem.mem_of_lookup h))
theorem lc_one {X : Cx} {sc : Scope} {x y : Str} {c : Addr} {j : Nat} (cs : closureFor sc X.env = pure [(y, c)]) (nf : ∀ z ∈ sc.names, z.2 = .free → z.1 = y) (nc : ∀ y ∈ sc.names, y.2 ≠ .cell) (k : sc.kind = .function)
    (nm : ∀ y ∈ sc.names, y.2 = .local → sc.names.lookup y.1 = some .local) (ow : sc.names.lookup x = some .local) (ce : X.env.cells.lookup y = some c) (kd : X.env.kindOf y = some .cell)
    (rl : (relabel sc X.env).names.lookup y = some .cell) (hj : X.N[j]? = some y) (ne : x ≠ y) : LcOk X sc [(y, c)] [x, y] [j] x := by
  refine ⟨cs, nc, k, nm, ow, fun z d h => ?_, fun z h => ?_, rfl, by simp [ne], rfl, fun i l h => ?_⟩
  · by_cases hz : z = y
    · subst hz
      have : c = d := by simpa using h
      rw [← this]; exact ce
    · have hb : (z == y) = false := by simpa using hz
      simp [List.lookup_cons, hb] at h
  · by_cases hz : z = y
    · subst hz; exact ⟨c, by simp⟩
    · exfalso
      have hm : ∀ kk, (relabel sc X.env).names.lookup z = some kk → kk = .cell ∨ kk = .free → False := fun kk hk hc => by
        have m := PySem.mem_of_lookup hk
        obtain ⟨⟨n, k0⟩, m1, m2⟩ := List.mem_map.mp m
        by_cases h0 : k0 = .free
        · have e1 : n = y := nf (n, k0) m1 h0
          have e2 : n = z := by
            dsimp only at m2
            split at m2
            · exact congrArg Prod.fst m2
            · exact congrArg Prod.fst m2
          exact hz (e2.symm.trans e1)
        · have hb : (k0 == NameKind.free) = false := by simpa using h0
          dsimp only at m2
          rw [hb] at m2
          have e2 : k0 = kk := congrArg Prod.snd m2
          rcases hc with hc | hc
          · exact nc (n, k0) m1 (e2.trans hc)
          · exact h0 (e2.trans hc)
      rcases h with h | h
      · exact hm _ h (.inl rfl)
      · exact hm _ h (.inr rfl)
  · cases i with
    | zero =>
      have e : j = l := by simpa using h
      subst e
      exact ⟨y, rfl, hj, kd, .inl rl⟩
    | succ i => simp at h
end L2

namespace Rm
open PySem L2 My
/-! ### heaps -/
theorem same_new {H : Hp} {p : Addr} (h : H p = none) (o : HO) : Same H (upd H p o) := fun b u q => by rw [upd_ne (ne_of_none q h)]; exact q
/-- without what stands at l -/
def rm (H : Hp) (l : Addr) : Hp := fun b => if b = l then none else H b
theorem rm_ne {H : Hp} {l b : Addr} (h : b ≠ l) : rm H l b = H b := by unfold rm; rw [if_neg h]
theorem rm_self {H : Hp} {l : Addr} : rm H l l = none := by unfold rm; rw [if_pos rfl]
theorem rm_upd {H : Hp} {l : Addr} {o : HO} : rm (upd H l o) l = rm H l := by
  funext b
  by_cases h : b = l
  · subst h; rw [rm_self, rm_self]
  · rw [rm_ne h, rm_ne h, upd_ne h]
theorem rm_sub {H : Hp} {l : Addr} : Same (rm H l) H := fun b o h => by
  by_cases hb : b = l
  · subst hb; rw [rm_self] at h; cases h
  · rw [rm_ne hb] at h; exact h
theorem same_rm {H H' : Hp} {l : Addr} (e : Same H H') : Same (rm H l) (rm H' l) := fun b o h => by
  by_cases hb : b = l
  · subst hb; rw [rm_self] at h; cases h
  · rw [rm_ne hb] at h ⊢; exact e b o h
theorem same_to {H H' : Hp} {l : Addr} (h : H l = none) (e : Same H H') : Same H (rm H' l) := fun b o q => by
  rw [rm_ne (ne_of_none q h)]; exact e b o q
/-- a new object, told without l -/
theorem same_put {H H' : Hp} {l : Addr} {o : HO} (h : H l = none) (e : Same H H') : Same H (upd H' l o) := fun b u q => by
  rw [upd_ne (ne_of_none q h)]; exact e b u q

/-! ### what stands in the heap -/
abbrev txt (r : List Str) : HO := .lst (r.map V.str)
def BlkAt (H : Hp) (p : Addr) : Blk Str → Prop
  | .keep ks => H p = some (.tup [.str "keep", .int (ks.length : Int)])
  | .swap g c => ∃ pg pc, H p = some (.tup [.str "swap", .ref pg, .ref pc]) ∧ H pg = some (txt g) ∧ H pc = some (txt c)
theorem BlkAt.same {H H' : Hp} {p : Addr} {b : Blk Str} (e : Same H H') (h : BlkAt H p b) : BlkAt H' p b := by
  cases b with
  | keep ks => exact e _ _ h
  | swap g c => obtain ⟨pg, pc, h1, h2, h3⟩ := h; exact ⟨pg, pc, e _ _ h1, e _ _ h2, e _ _ h3⟩
def BlksAt (H : Hp) (ps : List Addr) (bs : List (Blk Str)) : Prop := Paired (BlkAt H) ps bs
theorem BlksAt.same {H H' : Hp} (e : Same H H') : ∀ {ps : List Addr} {bs : List (Blk Str)}, BlksAt H ps bs → BlksAt H' ps bs
  | _, _, .nil => .nil
  | _, _, .cons h t => .cons (h.same e) (BlksAt.same e t)
theorem paired_get {α β : Type} {F : α → β → Prop} : ∀ {xs : List α} {ys : List β} {i : Nat} {x : α}, Paired F xs ys → xs[i]? = some x → ∃ y, ys[i]? = some y ∧ F x y
  | _, _, _, _, .nil, e => by simp at e
  | _, _, 0, _, .cons r _, e => by simp at e; subst e; exact ⟨_, rfl, r⟩
  | _, _, i + 1, x, .cons _ t, e => by
    obtain ⟨u, h1, h2⟩ := paired_get (i := i) (x := x) t (by simpa using e)
    exact ⟨u, by simpa using h1, h2⟩
theorem paired_get' {α β : Type} {F : α → β → Prop} : ∀ {xs : List α} {ys : List β} {i : Nat} {y : β}, Paired F xs ys → ys[i]? = some y → ∃ x, xs[i]? = some x ∧ F x y
  | _, _, _, _, .nil, e => by simp at e
  | _, _, 0, _, .cons r _, e => by simp at e; subst e; exact ⟨_, rfl, r⟩
  | _, _, i + 1, y, .cons _ t, e => by
    obtain ⟨u, h1, h2⟩ := paired_get' (i := i) (y := y) t (by simpa using e)
    exact ⟨u, by simpa using h1, h2⟩
theorem paired_snoc {α β : Type} {F : α → β → Prop} {x : α} {y : β} : ∀ {xs : List α} {ys : List β}, Paired F xs ys → F x y → Paired F (xs ++ [x]) (ys ++ [y])
  | _, _, .nil, h => .cons h .nil
  | _, _, .cons a t, h => .cons a (paired_snoc t h)
theorem paired_set {α β : Type} {F : α → β → Prop} {x : α} {y : β} (h : F x y) : ∀ {xs : List α} {ys : List β} (i : Nat), Paired F xs ys → Paired F (xs.set i x) (ys.set i y)
  | _, _, _, .nil => .nil
  | _, _, 0, .cons _ t => .cons h t
  | _, _, i + 1, .cons a t => .cons a (paired_set h i t)
theorem paired_init {α β : Type} {F : α → β → Prop} {x : α} {y : β} : ∀ {xs : List α} {ys : List β}, Paired F (xs ++ [x]) (ys ++ [y]) → Paired F xs ys ∧ F x y
  | [], [], .cons h .nil => ⟨.nil, h⟩
  | [], b :: ys, h => by have := h.length; simp at this
  | a :: xs, [], h => by have := h.length; simp at this
  | a :: xs, b :: ys, .cons h t => let ⟨h1, h2⟩ := paired_init (xs := xs) (ys := ys) t; ⟨.cons h h1, h2⟩
/-- a change stands at a -/
def ChgAt (H : Hp) (a : Addr) (bs : List (Blk Str)) : Prop := ∃ ps : List Addr, H a = some (.lst (ps.map V.ref)) ∧ BlksAt H ps bs
theorem ChgAt.same {H H' : Hp} {a : Addr} {bs : List (Blk Str)} (e : Same H H') (h : ChgAt H a bs) : ChgAt H' a bs := let ⟨ps, h1, h2⟩ := h; ⟨ps, e _ _ h1, h2.same e⟩
theorem map_get {α β : Type} {f : α → β} {xs : List α} {i : Nat} {y : β} (h : (xs.map f)[i]? = some y) : ∃ x, xs[i]? = some x ∧ y = f x := by
  rw [List.getElem?_map] at h
  cases e : xs[i]? with
  | none => rw [e] at h; cases h
  | some x => rw [e] at h; exact ⟨x, rfl, (Option.some.inj h).symm⟩
theorem get_map {α β : Type} {f : α → β} {xs : List α} {i : Nat} {x : α} (h : xs[i]? = some x) : (xs.map f)[i]? = some (f x) := by rw [List.getElem?_map, h]; rfl

/-! ### tests -/
theorem iteYes {c A B : Prop} [Decidable c] (hc : c) (h : A) : if decide c = true then A else B := by rw [decide_eq_true hc]; exact iteT h
theorem iteNo {c A B : Prop} [Decidable c] (hc : ¬ c) (h : B) : if decide c = true then A else B := by rw [decide_eq_false hc]; exact iteF h
theorem iteNYes {c A B : Prop} [Decidable c] (hc : ¬ c) (h : A) : if (!decide c) = true then A else B := by rw [decide_eq_false hc]; exact iteT h
theorem iteNNo {c A B : Prop} [Decidable c] (hc : c) (h : B) : if (!decide c) = true then A else B := by rw [decide_eq_true hc]; exact iteF h
theorem ite2d {c A B : Prop} [Decidable c] (h1 : c → A) (h2 : ¬ c → B) : if decide c = true then A else B := by
  by_cases h : c
  · exact iteYes h (h1 h)
  · exact iteNo h (h2 h)
theorem ite2b {b : Bool} {A B : Prop} (h1 : b = true → A) (h2 : b = false → B) : if b = true then A else B := by
  cases b with
  | true => exact iteT (h1 rfl)
  | false => exact iteF (h2 rfl)
theorem ks_ne : ¬ (V.str "keep" = V.str "swap") := by intro h; have : ("keep" : Str) = "swap" := V.str.inj h; revert this; decide +kernel
theorem sk_ne : ¬ (V.str "swap" = V.str "keep") := fun h => ks_ne h.symm
theorem small {n : Nat} (h : n ≤ 100000) : n ≤ sizeLine := Nat.le_trans h (by decide)
theorem small' {n : Nat} (h : n ≤ 100000) : n < sizeLine := Nat.lt_of_le_of_lt h (by decide)

/-! ### slices -/
def cutG {α : Type} (xs : List α) (lo hi : Option Int) : List α := (xs.drop (HT.sIx xs.length 0 lo)).take (HT.sIx xs.length xs.length hi - HT.sIx xs.length 0 lo)
theorem cut_map {α : Type} (f : α → V) (xs : List α) (lo hi : Option Int) : cutV (xs.map f) lo hi = (cutG xs lo hi).map f := by
  unfold cutV cutG
  rw [List.length_map, List.map_take, List.map_drop]
theorem cut_mid {α : Type} (xs : List α) {i j : Nat} (h1 : i ≤ j) (h2 : j ≤ xs.length) : cutG xs (some (i : Int)) (some (j : Int)) = (xs.drop i).take (j - i) := by
  unfold cutG
  rw [HT.sIx_nat, HT.sIx_nat, Nat.min_eq_left (show i ≤ xs.length by omega), Nat.min_eq_left h2]
theorem cut_from {α : Type} (xs : List α) {i : Nat} (h1 : i ≤ xs.length) : cutG xs (some (i : Int)) none = xs.drop i := by
  unfold cutG
  rw [HT.sIx_nat, HT.sIx_none, Nat.min_eq_left h1, List.take_of_length_le (by rw [List.length_drop]; omega)]
theorem cut_len {α : Type} (xs : List α) (lo hi : Option Int) : (cutG xs lo hi).length ≤ xs.length := by
  unfold cutG
  rw [List.length_take, List.length_drop]
  omega
theorem take_mid {α : Type} (xs : List α) {i j : Nat} (h : i ≤ j) : xs.take i ++ (xs.drop i).take (j - i) = xs.take j := by
  have e : j = i + (j - i) := by omega
  conv => rhs; rw [e, List.take_add]
theorem atI_get {α : Type} {xs : List α} {j : Nat} {v : α} {i : Int} (h : xs[j]? = some v) (e : i = (j : Int)) : atI xs i = some v := by rw [e]; exact atI_nat h
theorem ixN_nat {n j : Nat} {i : Int} (h : j < n) (e : i = (j : Int)) : ixN n i = some j := by
  subst e
  unfold ixN
  rw [if_pos (Int.natCast_nonneg j), if_pos (by omega)]
  simp
theorem olds_mem {α : Type} {bs : List (Blk α)} {b : Blk α} (h : b ∈ bs) : b.old.length ≤ (olds bs).length := by
  obtain ⟨x, y, rfl⟩ := List.append_of_mem h
  rw [olds_app, show b :: y = [b] ++ y from rfl, olds_app, olds_one]
  simp only [List.length_append]
  omega
theorem news_mem {α : Type} {bs : List (Blk α)} {b : Blk α} (h : b ∈ bs) : b.new.length ≤ (news bs).length := by
  obtain ⟨x, y, rfl⟩ := List.append_of_mem h
  rw [news_app, show b :: y = [b] ++ y from rfl, news_app, news_one]
  simp only [List.length_append]
  omega
theorem olds_take {α : Type} {bs : List (Blk α)} {b : Blk α} {i : Nat} (h : bs[i]? = some b) : olds (bs.take (i + 1)) = olds (bs.take i) ++ b.old := by
  rw [List.take_add_one, h, olds_app]
  show _ ++ olds [b] = _
  rw [olds_one]
theorem news_take {α : Type} {bs : List (Blk α)} {b : Blk α} {i : Nat} (h : bs[i]? = some b) : news (bs.take (i + 1)) = news (bs.take i) ++ b.new := by
  rw [List.take_add_one, h, news_app]
  show _ ++ news [b] = _
  rw [news_one]
theorem olds_split {α : Type} (bs : List (Blk α)) (i : Nat) : olds bs = olds (bs.take i) ++ olds (bs.drop i) := by rw [← olds_app, List.take_append_drop]
theorem news_split {α : Type} (bs : List (Blk α)) (i : Nat) : news bs = news (bs.take i) ++ news (bs.drop i) := by rw [← news_app, List.take_append_drop]
end Rm

set_option Elab.async false
set_option linter.all false
set_option maxRecDepth 100000
set_option maxHeartbeats 4000000
namespace L2
open PySem PySem.Spec PyProof.Rows
/-- sum of a list of ints -/
theorem call_sum {X : Cx} (hc : X.calm = true) : CallR X (.builtin "sum") (fun xs H Q => ∃ (p : Addr) (ns : List Int), xs = [.ref p] ∧ SqL X.K H p (ns.map V.int) ∧ Q (.int ns.sum) H) := by
  intro pins s σ H xs us Q I r h
  obtain ⟨p, ns, rfl, hS, q⟩ := h
  obtain ⟨u, rfl, ru⟩ := vals1 r
  cases ru
  obtain ⟨its, rv, pl, hz⟩ := I.list hS
  have hi : IntsAre its ns := intsAre_of rv
  obtain ⟨zs, hx⟩ := hi.allInts.items
  have hl' : s.heap.IsList p (intItems zs) := hx ▸ pl.isList
  refine sum_intListG (I.ok.hd hc) hl' fun h' tk t' hk => ?_
  have e1 : ns = zs.toList.map (·.1) := by
    rw [← nums_intItems, ← hx]
    exact (show numsOf its.toArray.toList = ns from hi.numsOf).symm
  have e2 : preSum (numAt zs) zs.size = ns.sum := by
    rw [preSum_eq, List.take_of_length_le (by simp), e1]
  rw [e2]
  exact ⟨.int _, H, I.kept hk, ⟨_, rfl⟩, q⟩
end L2
namespace My
/-! ### steps of a drawn change -/
inductive Stp where
  | put (s : PySem.Str)
  | cut (s : PySem.Str)
  | keep (s : PySem.Str)
def Stp.line : Stp → PySem.Str
  | .put s => s
  | .cut s => s
  | .keep s => s
def Stp.bef : Stp → Option PySem.Str
  | .put _ => none
  | .cut s => some s
  | .keep s => some s
def Stp.aft : Stp → Option PySem.Str
  | .put s => some s
  | .cut _ => none
  | .keep s => some s
def Stp.kep : Stp → Option PySem.Str
  | .keep s => some s
  | _ => none
def Stp.one : Stp → Nat
  | .keep _ => 0
  | _ => 1
def before (st : List Stp) : List PySem.Str := st.filterMap Stp.bef
def after (st : List Stp) : List PySem.Str := st.filterMap Stp.aft
def keeps (st : List Stp) : List PySem.Str := st.filterMap Stp.kep
def count (st : List Stp) : Nat := (st.map Stp.one).sum
theorem before_snoc (st : List Stp) (x : Stp) : before (st ++ [x]) = before st ++ x.bef.toList := by unfold before; rw [List.filterMap_append]; cases x <;> rfl
theorem after_snoc (st : List Stp) (x : Stp) : after (st ++ [x]) = after st ++ x.aft.toList := by unfold after; rw [List.filterMap_append]; cases x <;> rfl
theorem count_snoc (st : List Stp) (x : Stp) : count (st ++ [x]) = count st + x.one := by unfold count; rw [List.map_append, List.sum_append]; simp
theorem count_app (a b : List Stp) : count (a ++ b) = count a + count b := by unfold count; rw [List.map_append, List.sum_append]
theorem after_len (st : List Stp) : (after st).length ≤ st.length := by unfold after; exact List.length_filterMap_le _ _
theorem before_len (st : List Stp) : (before st).length ≤ st.length := by unfold before; exact List.length_filterMap_le _ _
theorem keeps_before : ∀ st : List Stp, (keeps st).Sublist (before st)
  | [] => .slnil
  | .put s :: r => keeps_before r
  | .cut s :: r => (keeps_before r).cons s
  | .keep s :: r => (keeps_before r).cons_cons s
theorem keeps_after : ∀ st : List Stp, (keeps st).Sublist (after st)
  | [] => .slnil
  | .put s :: r => (keeps_after r).cons s
  | .cut s :: r => keeps_after r
  | .keep s :: r => (keeps_after r).cons_cons s
theorem steps_count : ∀ st : List Stp, (before st).length + (after st).length = 2 * (keeps st).length + count st
  | [] => rfl
  | .put s :: r => by
    have := steps_count r
    show (before r).length + ((after r).length + 1) = 2 * (keeps r).length + (1 + count r)
    omega
  | .cut s :: r => by
    have := steps_count r
    show ((before r).length + 1) + (after r).length = 2 * (keeps r).length + (1 + count r)
    omega
  | .keep s :: r => by
    have := steps_count r
    show ((before r).length + 1) + ((after r).length + 1) = 2 * ((keeps r).length + 1) + (0 + count r)
    omega
theorem triangle {s1 s2 : List Stp} (h : after s1 = before s2) : (before s1).length + (after s2).length ≤ 2 * lcs (before s1) (after s2) + (count s1 + count s2) := by
  obtain ⟨t, h1, h2, h3⟩ := meet (after s1) (keeps s1) (keeps s2) (keeps_after s1) (by rw [h]; exact keeps_before s2)
  have h4 := lcs_ge (h1.trans (keeps_before s1)) (h2.trans (keeps_after s2))
  have c1 := steps_count s1
  have c2 := steps_count s2
  rw [← h] at c2
  omega
theorem take_add_one' {α : Type} {l : List α} {i : Nat} {a : α} (h : l[i]? = some a) : l.take (i + 1) = l.take i ++ [a] := by rw [List.take_add_one, h]; rfl
theorem sizes_take {α : Type} {bs : List (Blk α)} {b : Blk α} {i : Nat} (h : bs[i]? = some b) : sizes (bs.take (i + 1)) = sizes (bs.take i) + b.size := by rw [take_add_one' h, sizes_app, sizes_one]
end My
namespace Rm
open PySem L2 My
def kwd : Stp → Str
  | .put _ => "put"
  | .cut _ => "cut"
  | .keep _ => "keep"
def StepAt (H : Hp) (p : Addr) (x : Stp) : Prop := H p = some (.tup [.str (kwd x), .str x.line])
theorem steps_same {H H' : Hp} (e : Same H H') : ∀ {qs : List Addr} {st : List Stp}, Paired (StepAt H) qs st → Paired (StepAt H') qs st
  | _, _, .nil => .nil
  | _, _, .cons h t => .cons (e _ _ h) (steps_same e t)
/-- a list is written: the tuples stay -/
theorem steps_upd {H : Hp} {l : Addr} {xs : List V} {o : HO} (h : H l = some (.lst xs)) : ∀ {qs : List Addr} {st : List Stp}, Paired (StepAt H) qs st → Paired (StepAt (upd H l o)) qs st
  | _, _, .nil => .nil
  | _, _, .cons (a := q) a t => .cons (by show upd H l o q = _; rw [upd_ne (ne_of a h (by intro z; cases z))]; exact a) (steps_upd h t)
theorem kw_put_cut : ¬ (V.str "put" = V.str "cut") := by intro h; have : ("put" : Str) = "cut" := V.str.inj h; revert this; decide +kernel
theorem kw_keep_cut : ¬ (V.str "keep" = V.str "cut") := by intro h; have : ("keep" : Str) = "cut" := V.str.inj h; revert this; decide +kernel
theorem kw_put_keep : ¬ (V.str "put" = V.str "keep") := by intro h; have : ("put" : Str) = "keep" := V.str.inj h; revert this; decide +kernel
theorem kw_cut_keep : ¬ (V.str "cut" = V.str "keep") := by intro h; have : ("cut" : Str) = "keep" := V.str.inj h; revert this; decide +kernel
/-- a list of lines at b, a list of steps at l, both made here; all else as in H0 -/
structure B5 (H0 : Hp) (b l : Addr) (H : Hp) (r : List Str) (qs : List Addr) (st : List Stp) : Prop where
  same : Same H0 H
  hb : H b = some (txt r)
  hl : H l = some (.lst (qs.map V.ref))
  ps : Paired (StepAt H) qs st
theorem B5.step {H0 H : Hp} {b l q : Addr} {r : List Str} {qs : List Addr} {st : List Stp} (T : B5 H0 b l H r qs st) (hbl : b ≠ l) (h0 : H0 l = none) (x : Stp) (hq : H q = none) :
    B5 H0 b l (upd (upd H q (.tup [.str (kwd x), .str x.line])) l (.lst (qs.map V.ref ++ [.ref q]))) r (qs ++ [q]) (st ++ [x]) := by
  have s1 := same_new hq (.tup [.str (kwd x), .str x.line])
  refine ⟨same_put h0 (T.same.trans s1), by rw [upd_ne hbl]; exact s1 _ _ T.hb, by rw [upd_same, List.map_append]; rfl, ?_⟩
  refine steps_upd (s1 _ _ T.hl) (paired_snoc (steps_same s1 T.ps) upd_same)
theorem B5.line {H0 H : Hp} {b l : Addr} {r : List Str} {qs : List Addr} {st : List Stp} (T : B5 H0 b l H r qs st) (hbl : b ≠ l) (h0 : H0 b = none) (s : Str) :
    B5 H0 b l (upd H b (.lst (r.map V.str ++ [.str s]))) (r ++ [s]) qs st :=
  ⟨same_put h0 T.same, by rw [upd_same]; show _ = some (HO.lst ((r ++ [s]).map V.str)); rw [List.map_append]; rfl, by rw [upd_ne hbl.symm]; exact T.hl, steps_upd T.hb T.ps⟩
theorem B5.up {H0 H H' : Hp} {b l : Addr} {r : List Str} {qs : List Addr} {st : List Stp} (T : B5 H0 b l H r qs st) (e : Same H H') : B5 H0 b l H' r qs st := ⟨T.same.trans e, e _ _ T.hb, e _ _ T.hl, steps_same e T.ps⟩
theorem app5 {K : PySem.W.Frag} {De : Ends} {σ : St} {H : Hp} {i j : Nat} {kw s : Str} {l : Addr} {xs : List V} (hi : σ[i]? = some (some (.ref l))) (hj : σ[j]? = some (some (.str s))) (hl : H l = some (.lst xs)) (hx : xs.length < sizeLine)
    (k : ∀ q, H q = none → De.nx σ (upd (upd H q (.tup [.str kw, .str s])) l (.lst (xs ++ [.ref q])))) :
    tDrop (tBM K "list" rAppend (tVar i) (tCons (tTup (tCons (tC (.str kw)) (tCons (tVar j) tNil))) tNil)) De σ H := by
  refine ⟨_, hi, .inl ⟨rfl, _, SqL.of hl⟩, _, hj, (by show 2 ≤ sizeLine; decide), fun q hq => ?_⟩
  exact ⟨l, _, _, rfl, rfl, same_new hq _ _ _ hl, hx, k q hq⟩
theorem pick3 (a b c : Str) {i : Int} (h0 : 0 ≤ i) (h1 : i < 3) : ∃ x, atI [V.str a, V.str b, V.str c] i = some (.str x) := by
  have : i = 0 ∨ i = 1 ∨ i = 2 := by omega
  rcases this with rfl | rfl | rfl
  · exact ⟨_, rfl⟩
  · exact ⟨_, rfl⟩
  · exact ⟨_, rfl⟩
theorem pick4' (a b c d : Str) {i : Int} (h0 : 0 ≤ i) (h1 : i < 4) : ∃ x, atI [V.str a, V.str b, V.str c, V.str d] i = some (.str x) := by
  have : i = 0 ∨ i = 1 ∨ i = 2 ∨ i = 3 := by omega
  rcases this with rfl | rfl | rfl | rfl
  · exact ⟨_, rfl⟩
  · exact ⟨_, rfl⟩
  · exact ⟨_, rfl⟩
  · exact ⟨_, rfl⟩
end Rm
namespace L2
open PySem PySem.Spec PyProof.Rows
/-- a statement and the rest, with a word J between them -/
def tCut (t u : TS) : TS := fun D σ H => ∃ J : St → Hp → Prop, t { D with nx := J } σ H ∧ ∀ σ' H', J σ' H' → u D σ' H'
theorem pss_cut {X : Cx} {st : Stmt} {rest : List Stmt} {t u : TS} (h1 : PS X st t) (h2 : PSs X rest u) : PSs X (st :: rest) (tCut t u) := by
  intro pins s σ H D I h
  obtain ⟨J, hj, hu⟩ := h
  refine wpAny_execs_cons (thn (h1 pins s σ H { D with nx := J } I hj) fun f s1 q => ?_)
  cases f with
  | next =>
    obtain ⟨σ', H', I', q⟩ := q
    exact h2 pins s1 σ' H' D I' (hu σ' H' q)
  | ret v => exact q
  | brk => exact q
  | cont => exact q
end L2

set_option Elab.async false
set_option linter.all false
set_option maxRecDepth 100000
set_option maxHeartbeats 4000000
namespace L2
open PySem PySem.Spec PyProof.Rows
/-! ### a list against an empty one -/
def rEqE (K : PySem.W.Frag) (neg : Bool) : R2 := fun x y H Q => ∃ a b xs, x = .ref a ∧ y = .ref b ∧ SqL K H a xs ∧ SqL K H b [] ∧ Q (.bl (if neg then !xs.isEmpty else xs.isEmpty)) H
section
variable {X : Cx}
theorem op_eqE (hu : X.A.units < cLine) : OpR X (compareOp .Eq) (rEqE X.K false) := by
  intro pins s σ H x y v u Q I rx ry h
  obtain ⟨a, b, xs, rfl, rfl, ha, hb, q⟩ := h
  cases rx
  cases ry
  obtain ⟨us, r1, p1, z1⟩ := I.list ha
  obtain ⟨ws, r2, p2, z2⟩ := I.list hb
  have l1 := r1.length
  cases r2
  cases xs with
  | nil =>
    cases r1
    refine SeqAt.eq_listAt (e := fun _ => true) p1.isList p2.isList rfl hu (fun j h1 h2 => absurd h1 (by simp)) ?_
    exact ⟨.bl true, H, I, rfl, q⟩
  | cons c r =>
    exact SeqAt.eq_list_lengthsAt p1.isList p2.isList (by rw [List.size_toArray, List.size_toArray, ← l1]; simp) hu ⟨.bl false, H, I, rfl, q⟩
theorem op_neE (hu : X.A.units < cLine) : OpR X (compareOp .NotEq) (rEqE X.K true) := by
  intro pins s σ H x y v u Q I rx ry h
  obtain ⟨a, b, xs, rfl, rfl, ha, hb, q⟩ := h
  cases rx
  cases ry
  obtain ⟨us, r1, p1, z1⟩ := I.list ha
  obtain ⟨ws, r2, p2, z2⟩ := I.list hb
  have l1 := r1.length
  cases r2
  cases xs with
  | nil =>
    cases r1
    refine SeqAt.RcNeAt.lists (e := fun _ => true) p1.isList p2.isList rfl hu (fun j h1 h2 => absurd h1 (by simp)) _ _ _ _ ?_
    exact ⟨.bl false, H, I, rfl, q⟩
  | cons c r =>
    exact SeqAt.RcNeAt.lists_lengths p1.isList p2.isList (by rw [List.size_toArray, List.size_toArray, ← l1]; simp) hu _ _ _ _ ⟨.bl true, H, I, rfl, q⟩
end
end L2
namespace Rm
open PySem L2 My
/-! ### == of two changes that tell the same -/
theorem eqAt_texts {A : Around} {s : Shared} {P : Program} {w : World} {H : Hp} {a b : Addr} {x : List Str} (hu : A.units < cLine) (ok : HOk P w H s.heap) (ha : H a = some (txt x)) (hb : H b = some (txt x)) : SeqAt.EqAt A s (.ref a) (.ref b) true := by
  by_cases e : a = b
  · subst e; exact SeqAt.EqAt.same _
  · obtain ⟨_, i1, n1, r1, t1⟩ := (show ObjOk P w H s.heap a (.lst (x.map V.str)) from ok a _ ha)
    obtain ⟨_, i2, n2, r2, t2⟩ := (show ObjOk P w H s.heap b (.lst (x.map V.str)) from ok b _ hb)
    have l1 := r1.length
    have l2 := r2.length
    refine SeqAt.EqAt.of_refs e ?_
    have q := SeqAt.RcAt.lists (A := A) (s := s) (e := fun j => eqV ((x.map V.str).getD j .non) ((x.map V.str).getD j .non)) (⟨_, t1, rfl, _, rfl⟩ : s.heap.IsList a i1.toArray) (⟨_, t2, rfl, _, rfl⟩ : s.heap.IsList b i2.toArray) (by rw [List.size_toArray, List.size_toArray]; omega) hu
      (fun j h1 h2 => eqAt_items r1 r2 (flat_str x) (flat_str x) j h1 h2)
    have e1 : (List.range i1.toArray.size).all (fun j => eqV ((x.map V.str).getD j .non) ((x.map V.str).getD j .non)) = true := by
      rw [List.size_toArray, ← l1, eqL_all _ _ rfl, eqL_str, decide_eq_true rfl]
    rw [e1] at q
    exact q
theorem eqAt_blk {A : Around} {s : Shared} {P : Program} {w : World} {H : Hp} {p q : Addr} {b : Blk Str} (hu : A.units < cLine) (hu1 : A.in1.units < cLine) (ok : HOk P w H s.heap) (hp : BlkAt H p b) (hq : BlkAt H q b) : SeqAt.EqAt A s (.ref p) (.ref q) true := by
  by_cases e : p = q
  · subst e; exact SeqAt.EqAt.same _
  · refine SeqAt.EqAt.of_refs e ?_
    cases b with
    | keep ks =>
      obtain ⟨_, i1, r1, t1⟩ := (show ObjOk P w H s.heap p (.tup [.str "keep", .int (ks.length : Int)]) from ok p _ hp)
      obtain ⟨_, i2, r2, t2⟩ := (show ObjOk P w H s.heap q (.tup [.str "keep", .int (ks.length : Int)]) from ok q _ hq)
      obtain ⟨u1, u2, rfl, ⟨t, rfl⟩, ⟨t', rfl⟩⟩ := r1.two
      obtain ⟨w1, w2, rfl, ⟨y, rfl⟩, ⟨y', rfl⟩⟩ := r2.two
      have := SeqAt.RcAt.tuples (A := A) (s := s) (e := fun j => true) t1 t2 hu (fun j h1 h2 => by
        have hj : j = 0 ∨ j = 1 := by
          have : j < 2 := h1
          omega
        rcases hj with rfl | rfl
        · have := SeqAt.EqAt.str_str (A := A.in1) (s := s) ("keep" : Str) t "keep" y
          rw [beq_self_eq_true] at this
          exact this
        · have := SeqAt.EqAt.int_int (A := A.in1) (s := s) (ks.length : Int) t' (ks.length : Int) y'
          rw [beq_self_eq_true] at this
          exact this)
      exact this
    | swap g c =>
      obtain ⟨pg, pc, h1, h2, h3⟩ := hp
      obtain ⟨qg, qc, g1, g2, g3⟩ := hq
      obtain ⟨_, i1, r1, t1⟩ := (show ObjOk P w H s.heap p (.tup [.str "swap", .ref pg, .ref pc]) from ok p _ h1)
      obtain ⟨_, i2, r2, t2⟩ := (show ObjOk P w H s.heap q (.tup [.str "swap", .ref qg, .ref qc]) from ok q _ g1)
      cases r1 with
      | cons a1 r1 => cases r1 with
        | cons a2 r1 => cases r1 with
          | cons a3 r1 =>
            cases r1
            cases r2 with
            | cons b1 r2 => cases r2 with
              | cons b2 r2 => cases r2 with
                | cons b3 r2 =>
                  cases r2
                  obtain ⟨t, rfl⟩ := a1
                  obtain ⟨y, rfl⟩ := b1
                  cases a2; cases a3; cases b2; cases b3
                  have := SeqAt.RcAt.tuples (A := A) (s := s) (e := fun j => true) t1 t2 hu (fun j z1 z2 => by
                    have hj : j = 0 ∨ j = 1 ∨ j = 2 := by
                      have : j < 3 := z1
                      omega
                    rcases hj with rfl | rfl | rfl
                    · have := SeqAt.EqAt.str_str (A := A.in1) (s := s) ("swap" : Str) t "swap" y
                      rw [beq_self_eq_true] at this
                      exact this
                    · exact eqAt_texts hu1 ok h2 g2
                    · exact eqAt_texts hu1 ok h3 g3)
                  exact this
def rEqC (K : PySem.W.Frag) : R2 := fun x y H Q => ∃ (a b : Addr) (bs : List (Blk Str)), x = .ref a ∧ y = .ref b ∧ ChgAt H a bs ∧ ChgAt H b bs ∧ Q (.bl true) H
theorem vals_get_refs {qs : List Addr} {us : List Value} (r : Vals (qs.map V.ref) us) : us = qs.map Value.ref := by
  induction qs generalizing us with
  | nil => cases r; rfl
  | cons q r' ih =>
    cases r with
    | cons h t =>
      have : _ = Value.ref q := h
      rw [this, ih t]
      rfl
theorem op_eqC {X : Cx} (hu : X.A.units < cLine) (hu1 : X.A.in1.units < cLine) (hu2 : X.A.in1.in1.units < cLine) : OpR X (compareOp .Eq) (rEqC X.K) := by
  intro pins s σ H x y v u Q I rx ry h
  obtain ⟨a, b, bs, rfl, rfl, ⟨ps, ha, hbs⟩, ⟨qs, hb, hcs⟩, k⟩ := h
  cases rx
  cases ry
  obtain ⟨i1, r1, p1, _⟩ := I.list (SqL.of (K := X.K) ha)
  obtain ⟨i2, r2, p2, _⟩ := I.list (SqL.of (K := X.K) hb)
  have e1 := vals_get_refs r1
  have e2 := vals_get_refs r2
  subst e1 e2
  have l1 := hbs.length
  have l2 := hcs.length
  refine SeqAt.eq_listAt (e := fun _ => true) p1.isList p2.isList (by rw [List.size_toArray, List.size_toArray, List.length_map, List.length_map]; omega) hu (fun j h1 h2 => ?_) ?_
  · rw [List.size_toArray, List.length_map] at h1 h2
    have g1 : ps[j]? = some ps[j] := List.getElem?_eq_getElem h1
    have g2 : qs[j]? = some qs[j] := List.getElem?_eq_getElem h2
    obtain ⟨c, c1, c2⟩ := paired_get hbs g1
    obtain ⟨d, d1, d2⟩ := paired_get hcs g2
    rw [c1] at d1
    cases d1
    have := eqAt_blk (A := X.A.in1) (s := s) hu1 hu2 I.hok c2 d2
    rw [List.getElem_toArray, List.getElem_toArray, List.getElem_map, List.getElem_map]
    exact this
  · have e3 : (List.range (ps.map Value.ref).toArray.size).all (fun _ => true) = true := by simp
    rw [e3]
    exact ⟨.bl true, H, I, rfl, k⟩
/-! ### a step as a block -/
def toBlk : Stp → Blk Str
  | .put s => .swap [] [s]
  | .cut s => .swap [s] []
  | .keep s => .keep [s]
theorem toBlk_full (x : Stp) : (toBlk x).empty = false := by cases x <;> rfl
def blocksOf (st : List Stp) : List (Blk Str) := tidy (st.map toBlk)
theorem olds_steps : ∀ st : List Stp, olds (st.map toBlk) = before st
  | [] => rfl
  | x :: r => by
    have ih := olds_steps r
    have e : (x :: r).map toBlk = [toBlk x] ++ r.map toBlk := rfl
    rw [e, olds_app, olds_one, ih]
    cases x <;> rfl
theorem news_steps : ∀ st : List Stp, news (st.map toBlk) = after st
  | [] => rfl
  | x :: r => by
    have ih := news_steps r
    have e : (x :: r).map toBlk = [toBlk x] ++ r.map toBlk := rfl
    rw [e, news_app, news_one, ih]
    cases x <;> rfl
theorem kepts_steps : ∀ st : List Stp, kepts (st.map toBlk) = (keeps st).length
  | [] => rfl
  | x :: r => by
    have ih := kepts_steps r
    have e : (x :: r).map toBlk = [toBlk x] ++ r.map toBlk := rfl
    rw [e, kepts_app, kepts_one, ih]
    cases x with
    | put s => show 0 + _ = _; rw [Nat.zero_add]; rfl
    | cut s => show 0 + _ = _; rw [Nat.zero_add]; rfl
    | keep s => show 1 + (keeps r).length = (keeps r).length + 1; omega
theorem blocks_olds (st : List Stp) : olds (blocksOf st) = before st := by unfold blocksOf; rw [tidy_olds, olds_steps]
theorem blocks_news (st : List Stp) : news (blocksOf st) = after st := by unfold blocksOf; rw [tidy_news, news_steps]
theorem blocks_kepts (st : List Stp) : kepts (blocksOf st) = (keeps st).length := by unfold blocksOf; rw [tidy_kepts, kepts_steps]
theorem blocks_fine (st : List Stp) : Fine (blocksOf st) := tidy_Fine _
theorem blocks_take {st : List Stp} {i : Nat} {x : Stp} (h : st[i]? = some x) : blocksOf (st.take (i + 1)) = tidyStep (blocksOf (st.take i)) (toBlk x) := by
  unfold blocksOf
  rw [take_add_one' h, List.map_append]
  exact tidy_snoc _ _
theorem blocks_len (st : List Stp) : (blocksOf st).length ≤ st.length := by
  have := tidy_len_le (st.map toBlk) []
  rw [List.length_map] at this
  simpa [blocksOf, tidy] using this
theorem cut_init {α : Type} (xs : List α) : cutG xs none (some (-1)) = xs.dropLast := by
  unfold cutG
  have e : HT.sIx xs.length xs.length (some (-1)) = xs.length - 1 := by
    have e0 : HT.sIx xs.length xs.length (some (-1)) = ((-1 : Int) + (xs.length : Int)).toNat := rfl
    rw [e0]
    omega
  rw [e, HT.sIx_none, List.drop_zero, Nat.sub_zero, List.dropLast_eq_take]
end Rm

set_option Elab.async false
set_option linter.all false
set_option maxRecDepth 100000
set_option maxHeartbeats 4000000
namespace My
variable {α β : Type}
/-! ### chaining: the blocks in halves, and what the row between knows of them -/
def Blk.halves : Blk α → List (Blk α)
  | .keep ks => [.keep ks]
  | .swap g c => [.swap g [], .swap [] c]
def heapL (bs : List (Blk α)) : List (Blk α) := (bs.flatMap Blk.halves).filter fun b => !b.empty
def Blk.half : Blk α → Prop
  | .keep _ => True
  | .swap g c => g = [] ∨ c = []
def Blk.mN : Blk α → List Bool
  | .keep ks => List.replicate ks.length true
  | .swap _ c => List.replicate c.length false
def Blk.mO : Blk α → List Bool
  | .keep ks => List.replicate ks.length true
  | .swap g _ => List.replicate g.length false
def marksN (bs : List (Blk α)) : List Bool := bs.flatMap Blk.mN
def marksO (bs : List (Blk α)) : List Bool := bs.flatMap Blk.mO
def bothOf : List Bool → List Bool → Nat
  | a :: x, b :: y => (if (a && b) = true then 1 else 0) + bothOf x y
  | _, _ => 0
theorem both_nil (y : List Bool) : bothOf [] y = 0 := by cases y <;> rfl
theorem both_app : ∀ (x y x' y' : List Bool), x.length = y.length → bothOf (x ++ x') (y ++ y') = bothOf x y + bothOf x' y'
  | [], [], x', y', _ => by show _ = 0 + _; rw [Nat.zero_add]; rfl
  | a :: x, b :: y, x', y', h => by
    have ih := both_app x y x' y' (by simpa using h)
    show (if (a && b) = true then 1 else 0) + bothOf (x ++ x') (y ++ y') = (if (a && b) = true then 1 else 0) + bothOf x y + _
    rw [ih]; omega
  | [], _ :: _, _, _, h => by simp at h
  | _ :: _, [], _, _, h => by simp at h
theorem both_rep_tt (n : Nat) : bothOf (List.replicate n true) (List.replicate n true) = n := by
  induction n with
  | zero => rfl
  | succ n ih => show (1 + bothOf (List.replicate n true) (List.replicate n true)) = n + 1; rw [ih]; omega
theorem both_rep_f (n : Nat) : ∀ y : List Bool, bothOf (List.replicate n false) y = 0 := by
  induction n with
  | zero => exact both_nil
  | succ n ih =>
    intro y
    cases y with
    | nil => rfl
    | cons b y => show 0 + bothOf (List.replicate n false) y = 0; rw [ih]
theorem both_rep_f' (n : Nat) : ∀ x : List Bool, bothOf x (List.replicate n false) = 0 := by
  induction n with
  | zero => intro x; cases x <;> rfl
  | succ n ih =>
    intro x
    cases x with
    | nil => rfl
    | cons a x =>
      show (if (a && false) = true then 1 else 0) + bothOf x (List.replicate n false) = 0
      rw [ih, Bool.and_false]
      rfl
theorem filter_flat {f : Blk α → List β} (h : ∀ b, b.empty = true → f b = []) (xs : List (Blk α)) : (xs.filter fun b => !b.empty).flatMap f = xs.flatMap f := by
  induction xs with
  | nil => rfl
  | cons b r ih =>
    cases e : b.empty with
    | true => rw [List.filter_cons_of_neg (by simp [e]), ih, List.flatMap_cons, h b e, List.nil_append]
    | false => rw [List.filter_cons_of_pos (by simp [e]), List.flatMap_cons, List.flatMap_cons, ih]
theorem halves_flat {f : Blk α → List β} (h : ∀ g c, f (.swap g []) ++ f (.swap [] c) = f (.swap g c)) (bs : List (Blk α)) : (bs.flatMap Blk.halves).flatMap f = bs.flatMap f := by
  induction bs with
  | nil => rfl
  | cons b r ih =>
    rw [List.flatMap_cons, List.flatMap_append, ih, List.flatMap_cons]
    congr 1
    cases b with
    | keep ks => simp [Blk.halves]
    | swap g c => rw [← h g c]; simp [Blk.halves]
theorem heap_flat {f : Blk α → List β} (h1 : ∀ b, b.empty = true → f b = []) (h2 : ∀ g c, f (.swap g []) ++ f (.swap [] c) = f (.swap g c)) (bs : List (Blk α)) : (heapL bs).flatMap f = bs.flatMap f := by
  unfold heapL
  rw [filter_flat h1, halves_flat h2]
theorem empty_mN {b : Blk α} (h : b.empty = true) : b.mN = [] := by
  have := empty_new h
  cases b with
  | keep ks => show List.replicate ks.length true = []; rw [show ks = [] from this]; rfl
  | swap g c => show List.replicate c.length false = []; rw [show c = [] from this]; rfl
theorem empty_mO {b : Blk α} (h : b.empty = true) : b.mO = [] := by
  have := empty_old h
  cases b with
  | keep ks => show List.replicate ks.length true = []; rw [show ks = [] from this]; rfl
  | swap g c => show List.replicate g.length false = []; rw [show g = [] from this]; rfl
theorem heap_olds (bs : List (Blk α)) : olds (heapL bs) = olds bs := heap_flat (fun _ h => empty_old h) (fun g c => by simp [Blk.old]) bs
theorem heap_news (bs : List (Blk α)) : news (heapL bs) = news bs := heap_flat (fun _ h => empty_new h) (fun g c => by simp [Blk.new]) bs
theorem heap_mN (bs : List (Blk α)) : marksN (heapL bs) = marksN bs := heap_flat (fun _ h => empty_mN h) (fun g c => by simp [Blk.mN]) bs
theorem heap_mO (bs : List (Blk α)) : marksO (heapL bs) = marksO bs := heap_flat (fun _ h => empty_mO h) (fun g c => by simp [Blk.mO]) bs
theorem heap_full (bs : List (Blk α)) : ∀ b ∈ heapL bs, b.empty = false ∧ b.half := by
  intro b hb
  obtain ⟨h1, h2⟩ := List.mem_filter.mp hb
  refine ⟨by simpa using h2, ?_⟩
  obtain ⟨c, _, h3⟩ := List.mem_flatMap.mp h1
  cases c with
  | keep ks => simp only [Blk.halves, List.mem_singleton] at h3; subst h3; exact trivial
  | swap g c =>
    simp only [Blk.halves, List.mem_cons, List.not_mem_nil, or_false] at h3
    rcases h3 with rfl | rfl
    · exact .inr rfl
    · exact .inl rfl
/-! ### a block in two parts -/
def Blk.front (n : Nat) : Blk α → Blk α
  | .keep ks => .keep (ks.take n)
  | .swap g c => .swap (g.take n) (c.take n)
def Blk.back (n : Nat) : Blk α → Blk α
  | .keep ks => .keep (ks.drop n)
  | .swap g c => .swap (g.drop n) (c.drop n)
theorem front_old (n : Nat) (b : Blk α) : (b.front n).old = b.old.take n := by cases b <;> rfl
theorem front_new (n : Nat) (b : Blk α) : (b.front n).new = b.new.take n := by cases b <;> rfl
theorem back_old (n : Nat) (b : Blk α) : (b.back n).old = b.old.drop n := by cases b <;> rfl
theorem back_new (n : Nat) (b : Blk α) : (b.back n).new = b.new.drop n := by cases b <;> rfl
theorem rep_split {γ : Type} (n : Nat) (ks : List α) (x : γ) : List.replicate (ks.take n).length x ++ List.replicate (ks.drop n).length x = List.replicate ks.length x := by
  rw [List.replicate_append_replicate, ← List.length_append, List.take_append_drop]
theorem split_mN (n : Nat) (b : Blk α) : (b.front n).mN ++ (b.back n).mN = b.mN := by
  cases b with
  | keep ks => exact rep_split n ks true
  | swap g c => exact rep_split n c false
theorem split_mO (n : Nat) (b : Blk α) : (b.front n).mO ++ (b.back n).mO = b.mO := by
  cases b with
  | keep ks => exact rep_split n ks true
  | swap g c => exact rep_split n g false
theorem back_half (n : Nat) {b : Blk α} (h : b.half) : (b.back n).half := by
  cases b with
  | keep ks => exact trivial
  | swap g c =>
    rcases h with h | h
    · exact .inl (by subst h; exact List.drop_nil)
    · exact .inr (by subst h; exact List.drop_nil)
theorem mN_len (b : Blk α) : b.mN.length = b.new.length := by cases b <;> simp [Blk.mN, Blk.new]
theorem mO_len (b : Blk α) : b.mO.length = b.old.length := by cases b <;> simp [Blk.mO, Blk.old]
def pushB (b : Blk α) (A : List (Blk α)) : List (Blk α) := if b.empty = true then A else b :: A
theorem push_flat {f : Blk α → List β} (h1 : ∀ b, b.empty = true → f b = []) (b : Blk α) (A : List (Blk α)) : (pushB b A).flatMap f = f b ++ A.flatMap f := by
  unfold pushB
  by_cases h : b.empty = true
  · rw [if_pos h, h1 b h, List.nil_append]
  · rw [if_neg h, List.flatMap_cons]
theorem push_olds (b : Blk α) (A : List (Blk α)) : olds (pushB b A) = b.old ++ olds A := push_flat (fun _ h => empty_old h) b A
theorem push_news (b : Blk α) (A : List (Blk α)) : news (pushB b A) = b.new ++ news A := push_flat (fun _ h => empty_new h) b A
theorem push_mN (b : Blk α) (A : List (Blk α)) : marksN (pushB b A) = b.mN ++ marksN A := push_flat (fun _ h => empty_mN h) b A
theorem push_mO (b : Blk α) (A : List (Blk α)) : marksO (pushB b A) = b.mO ++ marksO A := push_flat (fun _ h => empty_mO h) b A
/-! ### lines between -/
def metB : Blk α → Blk α → Blk α
  | .keep _, b => b
  | a, .keep _ => a
  | .swap _ _, .swap _ _ => .swap [] []
theorem half_new {a : Blk α} (h : a.half) (hn : a.new ≠ []) (hk : a.isKeep = false) : ∃ c, a = .swap [] c := by
  cases a with
  | keep ks => cases hk
  | swap g c =>
    rcases h with h | h
    · subst h; exact ⟨c, rfl⟩
    · exact absurd h hn
theorem half_old {b : Blk α} (h : b.half) (hn : b.old ≠ []) (hk : b.isKeep = false) : ∃ g, b = .swap g [] := by
  cases b with
  | keep ks => cases hk
  | swap g c =>
    rcases h with h | h
    · exact absurd h hn
    · subst h; exact ⟨g, rfl⟩
theorem met_facts {a b : Blk α} {n : Nat} (ha : a.half) (hb : b.half) (na : a.new ≠ []) (nb : b.old ≠ []) (e : a.new.take n = b.old.take n) :
    (metB (a.front n) (b.front n)).old = (a.front n).old ∧ (metB (a.front n) (b.front n)).new = (b.front n).new ∧ (metB (a.front n) (b.front n)).kept = bothOf (a.front n).mN (b.front n).mO := by
  cases a with
  | keep ks =>
    cases b with
    | keep js =>
      have e' : ks.take n = js.take n := e
      refine ⟨e'.symm, rfl, ?_⟩
      show (js.take n).length = bothOf (List.replicate (ks.take n).length true) (List.replicate (js.take n).length true)
      rw [e', both_rep_tt]
    | swap g c =>
      obtain ⟨g', h⟩ := half_old hb nb rfl
      cases h
      have e' : ks.take n = g.take n := e
      refine ⟨e'.symm, rfl, ?_⟩
      show 0 = bothOf _ (List.replicate (g.take n).length false)
      rw [both_rep_f']
  | swap g c =>
    obtain ⟨c', h⟩ := half_new ha na rfl
    cases h
    cases b with
    | keep js =>
      have e' : c.take n = js.take n := e
      refine ⟨rfl, e', ?_⟩
      show 0 = bothOf (List.replicate (c.take n).length false) _
      rw [both_rep_f]
    | swap g' d =>
      obtain ⟨g2, h⟩ := half_old hb nb rfl
      cases h
      refine ⟨?_, ?_, ?_⟩
      · show [] = List.take n []; rw [List.take_nil]
      · show [] = List.take n []; rw [List.take_nil]
      · show 0 = bothOf (List.replicate (c.take n).length false) _
        rw [both_rep_f]
/-! ### marks of a tidied change -/
theorem unite_mN (l b : Blk α) (h : l.isKeep = b.isKeep) : (l.unite b).mN = l.mN ++ b.mN := by
  cases l with
  | keep ks => cases b with
    | keep js => show List.replicate (ks ++ js).length true = _; rw [List.length_append, ← List.replicate_append_replicate]; rfl
    | swap _ _ => cases h
  | swap g c => cases b with
    | keep js => cases h
    | swap g' c' => show List.replicate (c ++ c').length false = _; rw [List.length_append, ← List.replicate_append_replicate]; rfl
theorem unite_mO (l b : Blk α) (h : l.isKeep = b.isKeep) : (l.unite b).mO = l.mO ++ b.mO := by
  cases l with
  | keep ks => cases b with
    | keep js => show List.replicate (ks ++ js).length true = _; rw [List.length_append, ← List.replicate_append_replicate]; rfl
    | swap _ _ => cases h
  | swap g c => cases b with
    | keep js => cases h
    | swap g' c' => show List.replicate (g ++ g').length false = _; rw [List.length_append, ← List.replicate_append_replicate]; rfl
theorem tidyStep_flat {f : Blk α → List β} (h1 : ∀ b, b.empty = true → f b = []) (h2 : ∀ l b : Blk α, l.isKeep = b.isKeep → f (l.unite b) = f l ++ f b) (acc : List (Blk α)) (b : Blk α) : (tidyStep acc b).flatMap f = acc.flatMap f ++ f b := by
  unfold tidyStep
  by_cases e : b.empty = true
  · rw [if_pos e, h1 b e, List.append_nil]
  · rw [if_neg e]
    rcases tidy_split acc with rfl | ⟨a, l, rfl, hl⟩
    · simp
    · rw [hl]
      dsimp only
      by_cases hk : l.isKeep = b.isKeep
      · rw [if_pos hk, set_last, List.flatMap_append, List.flatMap_append]
        simp [h2 l b hk]
      · rw [if_neg hk, List.flatMap_append, List.flatMap_append]
        simp
theorem tidy_flat {f : Blk α → List β} (h1 : ∀ b, b.empty = true → f b = []) (h2 : ∀ l b : Blk α, l.isKeep = b.isKeep → f (l.unite b) = f l ++ f b) : ∀ (ps acc : List (Blk α)), (ps.foldl tidyStep acc).flatMap f = acc.flatMap f ++ ps.flatMap f
  | [], acc => by simp
  | b :: r, acc => by
    rw [List.foldl_cons, tidy_flat h1 h2 r, tidyStep_flat h1 h2, List.flatMap_cons, List.append_assoc]
theorem tidy_mN (ps : List (Blk α)) : marksN (tidy ps) = marksN ps := by have := tidy_flat (fun _ h => empty_mN h) unite_mN ps []; simpa [tidy, marksN] using this
theorem tidy_mO (ps : List (Blk α)) : marksO (tidy ps) = marksO ps := by have := tidy_flat (fun _ h => empty_mO h) unite_mO ps []; simpa [tidy, marksO] using this
/-! ### marks of steps -/
def Stp.mkN : Stp → Option Bool
  | .put _ => some false
  | .cut _ => none
  | .keep _ => some true
def Stp.mkO : Stp → Option Bool
  | .put _ => none
  | .cut _ => some false
  | .keep _ => some true
def markN (st : List Stp) : List Bool := st.filterMap Stp.mkN
def markO (st : List Stp) : List Bool := st.filterMap Stp.mkO
theorem markN_len : ∀ st : List Stp, (markN st).length = (after st).length
  | [] => rfl
  | .put s :: r => by have := markN_len r; show (markN r).length + 1 = (after r).length + 1; omega
  | .cut s :: r => markN_len r
  | .keep s :: r => by have := markN_len r; show (markN r).length + 1 = (after r).length + 1; omega
theorem markO_len : ∀ st : List Stp, (markO st).length = (before st).length
  | [] => rfl
  | .put s :: r => markO_len r
  | .cut s :: r => by have := markO_len r; show (markO r).length + 1 = (before r).length + 1; omega
  | .keep s :: r => by have := markO_len r; show (markO r).length + 1 = (before r).length + 1; omega
theorem markN_snoc (st : List Stp) (x : Stp) : markN (st ++ [x]) = markN st ++ x.mkN.toList := by unfold markN; rw [List.filterMap_append]; cases x <;> rfl
theorem markO_snoc (st : List Stp) (x : Stp) : markO (st ++ [x]) = markO st ++ x.mkO.toList := by unfold markO; rw [List.filterMap_append]; cases x <;> rfl
end My
namespace Rm
open PySem L2 My
theorem marksN_steps : ∀ st : List Stp, marksN (st.map toBlk) = markN st
  | [] => rfl
  | x :: r => by
    have ih := marksN_steps r
    show (toBlk x).mN ++ marksN (r.map toBlk) = _
    rw [ih]
    cases x <;> rfl
theorem marksO_steps : ∀ st : List Stp, marksO (st.map toBlk) = markO st
  | [] => rfl
  | x :: r => by
    have ih := marksO_steps r
    show (toBlk x).mO ++ marksO (r.map toBlk) = _
    rw [ih]
    cases x <;> rfl
theorem blocks_mN (st : List Stp) : marksN (blocksOf st) = markN st := by unfold blocksOf; rw [tidy_mN, marksN_steps]
theorem blocks_mO (st : List Stp) : marksO (blocksOf st) = markO st := by unfold blocksOf; rw [tidy_mO, marksO_steps]
/-! ### heaps without some places -/
def wo (H : Hp) (L : List Addr) : Hp := fun b => if b ∈ L then none else H b
theorem wo_in {H : Hp} {L : List Addr} {b : Addr} (h : b ∈ L) : wo H L b = none := by unfold wo; rw [if_pos h]
theorem wo_out {H : Hp} {L : List Addr} {b : Addr} (h : b ∉ L) : wo H L b = H b := by unfold wo; rw [if_neg h]
theorem wo_sub {H : Hp} {L : List Addr} : Same (wo H L) H := fun b o h => by
  by_cases hb : b ∈ L
  · rw [wo_in hb] at h; cases h
  · rw [wo_out hb] at h; exact h
theorem wo_same {H H' : Hp} {L : List Addr} (e : Same H H') : Same (wo H L) (wo H' L) := fun b o h => by
  by_cases hb : b ∈ L
  · rw [wo_in hb] at h; cases h
  · rw [wo_out hb] at h ⊢; exact e b o h
theorem wo_upd {H : Hp} {L : List Addr} {l : Addr} {o : HO} (hl : l ∈ L) : wo (upd H l o) L = wo H L := by
  funext b
  by_cases h : b ∈ L
  · rw [wo_in h, wo_in h]
  · rw [wo_out h, wo_out h, upd_ne (fun e => h (by rw [e]; exact hl))]
theorem wo_new {H : Hp} {L : List Addr} {q : Addr} (h : ∀ x ∈ L, H x ≠ none) (hq : H q = none) : q ∉ L := fun z => h q z hq
theorem wo_to {H H' : Hp} {L : List Addr} (h : ∀ x ∈ L, H x = none) (e : Same H H') : Same H (wo H' L) := fun b o q => by
  rw [wo_out (fun z => by rw [h b z] at q; cases q)]; exact e b o q
theorem wo_but {H H' : Hp} {L : List Addr} {l : Addr} (hl : l ∈ L) (e : Same (rm H l) H') : Same (wo H L) (wo H' L) := fun b o h => by
  by_cases hb : b ∈ L
  · rw [wo_in hb] at h; cases h
  · rw [wo_out hb] at h ⊢
    exact e b o (by rw [rm_ne (fun z => hb (by rw [z]; exact hl))]; exact h)
/-- one more place, new -/
theorem wo_more {H H' : Hp} {L : List Addr} {l : Addr} (hl : H l = none) (e : Same H H') : Same (wo H L) (wo H' (l :: L)) := fun b o h => by
  by_cases hb : b ∈ L
  · rw [wo_in hb] at h; cases h
  · rw [wo_out hb] at h
    rw [wo_out (fun z => by rcases List.mem_cons.mp z with z | z; · rw [z, hl] at h; cases h
                            · exact hb z)]
    exact e b o h
theorem wo_less {H : Hp} {L L' : List Addr} (h : ∀ x ∈ L', x ∈ L) : Same (wo H L) (wo H L') := fun b o q => by
  by_cases hb : b ∈ L
  · rw [wo_in hb] at q; cases q
  · rw [wo_out hb] at q; rw [wo_out (fun z => hb (h b z))]; exact q
theorem paired_rev {α β : Type} {F : α → β → Prop} : ∀ {xs : List α} {ys : List β}, Paired F xs ys → Paired F xs.reverse ys.reverse
  | _, _, .nil => .nil
  | _, _, .cons h t => by rw [List.reverse_cons, List.reverse_cons]; exact paired_snoc (paired_rev t) h
theorem cut_to {α : Type} (xs : List α) (n : Nat) : cutG xs none (some (n : Int)) = xs.take n := by
  unfold cutG
  rw [HT.sIx_none, HT.sIx_nat, List.drop_zero, Nat.sub_zero]
  by_cases h : n ≤ xs.length
  · rw [Nat.min_eq_left h]
  · rw [Nat.min_eq_right (by omega), List.take_length, List.take_of_length_le (by omega)]
theorem cut_fromG {α : Type} (xs : List α) (n : Nat) : cutG xs (some (n : Int)) none = xs.drop n := by
  by_cases h : n ≤ xs.length
  · exact cut_from xs h
  · unfold cutG
    rw [HT.sIx_nat, HT.sIx_none, Nat.min_eq_right (by omega), List.drop_length, List.drop_eq_nil_of_le (by omega), List.take_nil]
end Rm

set_option Elab.async false
set_option linter.all false
set_option maxRecDepth 100000
set_option maxHeartbeats 4000000
namespace L2
open PySem PySem.Spec PyProof.Rows
/-! ### walking a text, sign by sign -/
def Its (x : Str) : It := ⟨fun i _ => i < x.cps.size, fun i H v H' => H' = H ∧ ∃ c, x.cps[i]? = some c ∧ v = .str ⟨#[c]⟩, fun i _ => x.cps.size ≤ i⟩
theorem turn_str {P : Program} {w : World} {K : PySem.W.Frag} {tg : Expr} (it : Addr) (x : Str) (t : Tok) (T : String) (hT : T = "str_ascii_iterator" ∨ T = "str_iterator") :
    Turn P w K tg (Its x) [it] it (fun i h => h.IsStrIter it T x t i) where
  mem := by simp
  obj := fun i h st b hb => by
    have e : b = it := by simpa using hb
    subst e
    obtain ⟨o, e, _, d⟩ := st
    exact ⟨o, e, fun v z => by rw [d] at z; cases z⟩
  keep := fun i h h' st k => by
    obtain ⟨o, e, r⟩ := st
    exact ⟨o, k it (by simp) o e, r⟩
  item := by
    intro X hP hw hK hc i pins s σ H E I hf st hg
    subst hP hw hK
    obtain ⟨f0, f1, f2, f3, f4, f5⟩ := hf it (by simp)
    have hi : i < x.cps.size := hg
    have hx : x.cps[i]? = some x.cps[i] := by simp [hi]
    rcases hT with rfl | rfl
    · refine wpAny_pyNext_ascii_item st hx fun h' st' sb => ?_
      have I1 : Inv X pins σ H { s with heap := h', toks := s.toks + 1 } := I.turned (t' := s.toks + 1) (fun b o hb e => (sb.2 b hb).trans e) f0 f1 f3 f4 f5
      obtain ⟨o, e, c, d⟩ := id st'
      exact ⟨_, rfl, go_of (s := { s with heap := h', toks := s.toks + 1 }) e c d (by decide) ⟨.str ⟨#[x.cps[i]]⟩, H, I1, ⟨_, rfl⟩, ⟨rfl, _, hx, rfl⟩, st', fun b hb => (hf b hb).1⟩⟩
    · refine wpAny_pyNext_wide_item st hx fun h' st' sb => ?_
      have I1 : Inv X pins σ H { s with heap := h', toks := s.toks + 1 } := I.turned (t' := s.toks + 1) (fun b o hb e => (sb.2 b hb).trans e) f0 f1 f3 f4 f5
      obtain ⟨o, e, c, d⟩ := id st'
      exact ⟨_, rfl, go_of (s := { s with heap := h', toks := s.toks + 1 }) e c d (by decide) ⟨.str ⟨#[x.cps[i]]⟩, H, I1, ⟨_, rfl⟩, ⟨rfl, _, hx, rfl⟩, st', fun b hb => (hf b hb).1⟩⟩
  done := by
    intro X hP hw hK hc i pins s σ H E I hf st hg
    subst hP hw hK
    obtain ⟨f0, f1, f2, f3, f4, f5⟩ := hf it (by simp)
    have hi : x.cps.size ≤ i := hg
    have hx : x.cps[i]? = none := by simp [hi]
    rcases hT with rfl | rfl
    · exact wpAny_pyNext_ascii_end (I.ok.hd hc) st hx fun h' eb => ⟨rfl, I.turned (t' := s.toks) (fun b o hb e => eb b o hb e) f0 f1 f3 f4 f5⟩
    · exact wpAny_pyNext_wide_end (I.ok.hd hc) st hx fun h' eb => ⟨rfl, I.turned (t' := s.toks) (fun b o hb e => eb b o hb e) f0 f1 f3 f4 f5⟩
  self := fun _ _ _ _ _ st h => by
    rcases hT with rfl | rfl
    · exact wpAny_pyIter_striter_ascii st h
    · exact wpAny_pyIter_striter_wide st h
def iStr (tl : TE) : TI := fun σ H R => tl σ H fun x H1 => ∃ z, x = .str z ∧ R (Its z) H1
section
variable {X : Cx} {tg : Expr}
theorem pi_str {l : Expr} {tl : TE} (hl : PE X l tl) : PI X tg l (iStr tl) := by
  intro pins s σ H R I h
  refine thn (hl pins s σ H _ I h) fun v s1 ⟨x, H1, I1, r1, q1⟩ => ?_
  obtain ⟨z, e, q⟩ := q1
  subst e
  obtain ⟨t, rfl⟩ := r1
  have fp : ∀ b ∈ [s1.heap.objs.size], FpOk X pins H1 b := fun b hb => by
    rw [List.mem_singleton.mp hb]
    exact I1.fpOk (Nat.le_refl _) I1.fresh
  cases ha : z.cps.all (· < 128) with
  | false => exact wpAny_pyIter_wide ha ⟨s1.heap.objs.size, _, _, _, H1, rfl, I1.kept (t' := s1.toks) fun b o e => Heap.get?_push_of_some _ e, turn_str _ z t _ (.inr rfl), ⟨_, Heap.get?_push_size _ rfl, rfl, rfl⟩, fp, q⟩
  | true => exact wpAny_pyIter_ascii ha ⟨s1.heap.objs.size, _, _, _, H1, rfl, I1.kept (t' := s1.toks) fun b o e => Heap.get?_push_of_some _ e, turn_str _ z t _ (.inl rfl), ⟨_, Heap.get?_push_size _ rfl, rfl, rfl⟩, fp, q⟩
end
/-- a comprehension over the signs of a text -/
theorem lc_str {z : Str} {tif : TT} {te : TE} {τ : St} {Q : Hp → Prop} {D : Addr} {H : Hp} (Pv : Nat → Hp → Prop) (h0 : Pv 0 H)
    (hs : ∀ i c H, z.cps[i]? = some c → Pv i H → tif (τ.set 0 (some (.str ⟨#[c]⟩))) H fun b H2 => if b = true then te (τ.set 0 (some (.str ⟨#[c]⟩))) H2 fun v H3 => ∃ ys, H3 D = some (.lst ys) ∧ ys.length < sizeLine ∧ Pv (i + 1) (upd H3 D (.lst (ys ++ [v]))) else Pv (i + 1) H2)
    (hd : ∀ H, Pv z.cps.size H → Q H) :
    ∃ W : Nat → Nat → Hp → Prop, (∃ m, W 0 m H) ∧ ∀ i m H, W i m H →
      ((Its z).stop i H ∧ Q H) ∨ ((Its z).go i H ∧ ∃ Nx : Hp → Prop, (∀ H', Nx H' → ∃ m', m' < m ∧ W (i + 1) m' H') ∧ ∀ x H', (Its z).yld i H x H' →
        tif (τ.set 0 (some x)) H' fun b H2 => if b = true then te (τ.set 0 (some x)) H2 fun v H3 => ∃ xs, H3 D = some (.lst xs) ∧ xs.length < sizeLine ∧ Nx (upd H3 D (.lst (xs ++ [v]))) else Nx H2) := by
  refine ⟨fun i m H => m = z.cps.size - i ∧ i ≤ z.cps.size ∧ Pv i H, ⟨z.cps.size, by simp, Nat.zero_le _, h0⟩, ?_⟩
  rintro i m H ⟨rfl, hi, p⟩
  by_cases hlt : i < z.cps.size
  · refine .inr ⟨hlt, Pv (i + 1), fun H' p' => ⟨z.cps.size - (i + 1), by omega, rfl, hlt, p'⟩, fun x H' y => ?_⟩
    obtain ⟨e, c, hc, rfl⟩ := y
    subst e
    exact hs i c _ hc p
  · have e : i = z.cps.size := by omega
    subst e
    exact .inl ⟨Nat.le_refl _, hd H p⟩
section
variable {X : Cx}
/-! ### startswith, a part of a text, int of a text, all -/
theorem mt_starts : MtR X "str.startswith" (fun x vs H Q => ∃ a b : Str, x = .str a ∧ vs = [.str b] ∧ Q (.bl (Txt.startswith a b)) H) := by
  intro pins s σ H x xs v us Q I rx rs h
  obtain ⟨a, b, rfl, rfl, q⟩ := h
  obtain ⟨t, rfl⟩ := rx
  obtain ⟨u, rfl, t', rfl⟩ := vals1 rs
  exact SC.startswith ⟨.bl _, H, I, rfl, q⟩
def rSlS : V → Option Int → Option Int → Hp → VK → Prop := fun x lo hi H Q => ∃ z : Str, x = .str z ∧ z.length ≤ sizeLine ∧ Q (.str (Txt.slice z lo hi)) H
theorem sl_str : SlR X rSlS := by
  intro pins s σ H x v vl vu lo hi sl Q I rx hs pl pu h
  obtain ⟨z, rfl, hz, q⟩ := h
  obtain ⟨t, rfl⟩ := rx
  obtain ⟨o, e1, e2, e3⟩ := hs
  refine ⟨"str", _, F.slot_str_getitem.lookup, typeIs_str _ _ _, ?_⟩
  cases pl with
  | none =>
    cases pu with
    | none => exact wpAny_getItem_str_slice (l := none) (u := none) (st := none) ⟨o, e1, e2, e3⟩ rfl (post_val_or_str ⟨Nat.le_trans (Txt.slice_le z _ _) hz, fun t' k => ⟨.str _, H, I.tok k, ⟨t', rfl⟩, q⟩⟩)
    | int j tj => exact wpAny_getItem_str_slice (l := none) (u := some (j, tj)) (st := none) ⟨o, e1, e2, e3⟩ rfl (post_val_or_str ⟨Nat.le_trans (Txt.slice_le z _ _) hz, fun t' k => ⟨.str _, H, I.tok k, ⟨t', rfl⟩, q⟩⟩)
  | int i ti =>
    cases pu with
    | none => exact wpAny_getItem_str_slice (l := some (i, ti)) (u := none) (st := none) ⟨o, e1, e2, e3⟩ rfl (post_val_or_str ⟨Nat.le_trans (Txt.slice_le z _ _) hz, fun t' k => ⟨.str _, H, I.tok k, ⟨t', rfl⟩, q⟩⟩)
    | int j tj => exact wpAny_getItem_str_slice (l := some (i, ti)) (u := some (j, tj)) (st := none) ⟨o, e1, e2, e3⟩ rfl (post_val_or_str ⟨Nat.le_trans (Txt.slice_le z _ _) hz, fun t' k => ⟨.str _, H, I.tok k, ⟨t', rfl⟩, q⟩⟩)
theorem call_int_text : CallR X (.type "int") (fun xs H Q => ∃ (z : Str) (n : Int), xs = [.str z] ∧ PySem.intText? z = some n ∧ z.length ≤ 640 ∧ Q (.int n) H) := by
  intro pins s σ H xs us Q I r h
  obtain ⟨z, n, rfl, hn, hz, q⟩ := h
  obtain ⟨u, rfl, t, rfl⟩ := vals1 r
  exact PySem.W.KIN.call_text hn hz ⟨.int n, H, I.tok _, ⟨_, rfl⟩, q⟩
theorem call_all (hc : X.calm = true) : CallR X (.builtin "all") (fun xs H Q => ∃ (p : Addr) (bs : List Bool), xs = [.ref p] ∧ SqL X.K H p (bs.map V.bl) ∧ Q (.bl (bs.all id)) H) := by
  intro pins s σ H xs us Q I r h
  obtain ⟨p, bs, rfl, hS, q⟩ := h
  obtain ⟨u, rfl, ru⟩ := vals1 r
  cases ru
  obtain ⟨its, rv, pl, hz⟩ := I.list hS
  have hl := pl.isList
  have lt : p < s.heap.objs.size := by
    obtain ⟨_, e, _⟩ := hl
    exact Heap.lt_size e
  have gt : ∀ (i : Nat) (v : Value), its[i]? = some v → ∃ b, bs[i]? = some b ∧ v = .bool b := fun i v hv => by
    obtain ⟨x, hx, rx⟩ := Rm.paired_get' rv hv
    obtain ⟨b, hb, rfl⟩ := Rm.map_get hx
    exact ⟨b, hb, rx⟩
  have ln : its.length = bs.length := by
    have := rv.length
    rw [List.length_map] at this
    exact this.symm
  refine call_all_walk (wpAny_pyIter_list hl ⟨s.heap.objs.size, _, _, _, _, _, fun i => (bs[i]?).getD true, rfl, Walks.list (A := X.A.in1) (I.ok.hd hc) _ p (Nat.ne_of_lt lt) its.toArray,
    ⟨⟨_, Heap.get?_push_size _ rfl, rfl, rfl⟩, hl.push _⟩, ?_, ?_⟩)
  · intro i v s' Q' E' hP hQ
    obtain ⟨b, e, rfl⟩ := gt i v (by simpa using hP)
    simp only [e, Option.getD_some] at hQ
    exact wpAny_truthy_bool hQ
  · intro h' tk hk
    have e : ((List.range its.toArray.size).all fun i => (bs[i]?).getD true) = bs.all id := by
      rw [List.size_toArray, ln]
      exact LSm.range_all bs
    rw [e]
    exact ⟨.bl _, H, I.kept (LSm.kept_iter hk), rfl, q⟩
end
/-- the part of a text behind its first sign -/
theorem slice_tail {d y : Str} (hd : d.length = 1) : Txt.slice (d ++ y) (some 1) none = y := by
  have hl : (d ++ y).length = 1 + y.length := by rw [PySem.Str.length_append, hd]
  have e0 : Builtin.Str.strSliceIndices (some 1) none 1 (d ++ y).length = Builtin.Str.strSliceIndices (some ((1 : Nat) : Int)) (some (((d ++ y).length : Nat) : Int)) 1 (d ++ y).length := by
    have h2 : ¬ ((((d ++ y).length : Nat) : Int) < 0) := by omega
    have e2 : max (0 : Int) (min (((d ++ y).length : Nat) : Int) (((d ++ y).length : Nat) : Int)) = (((d ++ y).length : Nat) : Int) := by omega
    simp only [Builtin.Str.strSliceIndices, h2, if_false, e2, show ((1 : Int) > 0) = True from by simp, if_true]
    rfl
  have e1 := PySem.StrLaws.sliced_plain (d ++ y) (a := 1) (b := (d ++ y).length) (by omega) (Nat.le_refl _)
  have e3 : (Builtin.Str.strSliceIndices (some 1) none 1 (d ++ y).length).length = y.length := by
    rw [e0, PySem.StrLaws.strSliceIndices_plain (by omega) (Nat.le_refl _), List.length_map, List.length_range]
    omega
  unfold Txt.slice
  rw [if_neg (by rw [e3]; simp; omega), e0, e1]
  have e4 : (d ++ y).cps.toList = d.cps.toList ++ y.cps.toList := PySem.W.KAf.app_list d y
  have e5 : d.cps.toList.length = 1 := by rw [Array.length_toList]; exact hd
  have e6 : y.cps.toList.length = y.length := Array.length_toList
  rw [e4, List.drop_append_of_le_length (by omega), List.drop_eq_nil_of_le (by omega), List.nil_append, List.take_of_length_le (by omega)]
end L2

set_option Elab.async false
set_option linter.all false
set_option maxRecDepth 100000
set_option maxHeartbeats 4000000
namespace L2
open PySem PySem.Spec PyProof.Rows
/-- a loop over the signs of a text -/
theorem for_str {z : Str} {g : TG} {tb : TS} {D : Ends} {σ : St} {H : Hp} (Pv : Nat → St → Hp → Prop) (h0 : Pv 0 σ H)
    (hs : ∀ i c σ H, z.cps[i]? = some c → Pv i σ H → g (.str ⟨#[c]⟩) σ H fun σ2 H2 => tb { D with nx := Pv (i + 1), ct := Pv (i + 1), bk := D.nx } σ2 H2) (hd : ∀ σ H, Pv z.cps.size σ H → D.nx σ H) :
    ∃ W : Nat → Nat → St → Hp → Prop, (∃ m, W 0 m σ H) ∧ ∀ i m σ H, W i m σ H →
      ((Its z).stop i H ∧ D.nx σ H) ∨ ((Its z).go i H ∧ ∃ N : St → Hp → Prop, (∀ σ' H', N σ' H' → ∃ m', m' < m ∧ W (i + 1) m' σ' H') ∧ ∀ x H', (Its z).yld i H x H' → g x σ H' fun σ2 H2 => tb { D with nx := N, ct := N, bk := D.nx } σ2 H2) := by
  refine ⟨fun i m σ H => m = z.cps.size - i ∧ i ≤ z.cps.size ∧ Pv i σ H, ⟨z.cps.size, by simp, Nat.zero_le _, h0⟩, ?_⟩
  rintro i m σ H ⟨rfl, hi, p⟩
  by_cases hlt : i < z.cps.size
  · refine .inr ⟨hlt, Pv (i + 1), fun σ' H' p' => ⟨z.cps.size - (i + 1), by omega, rfl, hlt, p'⟩, fun x H' y => ?_⟩
    obtain ⟨e, c, hc, rfl⟩ := y
    subst e
    exact hs i c σ _ hc p
  · have e : i = z.cps.size := by omega
    subst e
    exact .inl ⟨Nat.le_refl _, hd σ H p⟩
/-- few signs, none beyond ASCII -/
def Asc (x : Str) : Prop := x.length ≤ 400 ∧ ∀ c ∈ x.cps.toList, c < 128
section
variable {X : Cx}
/-- f"..{v!r}" of a text -/
theorem pe_frepr {a : Str} {v : Expr} {tv : TE} {j : Nat} {p1 p2 pos : Pos} (hv : PE X v tv) (ha : a.length ≤ 1000) :
    PE X (.JoinedStr [.Constant (.str a) j p1, .FormattedValue v 114 none p2] pos) (fun σ H Q => tv σ H fun x H1 => ∃ z : Str, x = .str z ∧ Asc z ∧ ∀ y : Str, Q (.str y) H1) := by
  intro pins s σ H Q I h
  refine wpAny_JoinedStr ?_
  show wpAny _ _ (eval (.Constant (.str a) j p1) X.env) _ _ s
  refine Calls.Constant_str ⟨a, _, rfl, ?_, ?_⟩
  · rw [PySem.Str.length_append]
    show 0 + a.length ≤ sizeLine
    exact Nat.le_trans (by omega : 0 + a.length ≤ 1000) (by decide)
  show wpAny _ _ (eval (.FormattedValue v 114 none p2) X.env) _ _ _
  refine wpAny_FormattedValue_repr (thn (hv pins _ σ H _ (I.tok _) h) fun u s1 ⟨x, H1, I1, r1, z, e, hz, q⟩ => ?_)
  subst e
  obtain ⟨t, rfl⟩ := r1
  have hl : (PySem.reprText z).length ≤ 4002 := Nat.le_trans (PySem.StrLaws.reprText_len z fun c hc => Nat.lt_of_lt_of_le (hz.2 c hc) (by decide)) (by have := hz.1; omega)
  have hs : (PySem.reprText z).length ≤ sizeLine := Nat.le_trans hl (by decide)
  refine wpAny_pyReprObj_gives (typeIs_str _ _ _) PySem.F.slot_str_repr PySem.F.entry_str_repr (PySem.F.args_str_repr_1 _) (PySem.gives_str_repr z t) ?_ rfl hs
  have fin : ∀ t' k, (fun (v : Value) (s₁ : Shared) => ∃ y t, v = .str y t ∧ ((Str.empty ++ a) ++ y).length ≤ sizeLine ∧ Joins (model X.prog X.w) X.A X.xe (evalEach [] X.env) ((Str.empty ++ a) ++ y) (fun out s₁ => out.length ≤ sizeLine ∧ EP X pins σ Q (.str out s₁.toks) { s₁ with toks := s₁.toks + 1 }) s₁) (.str (PySem.reprText z) t') { s1 with toks := k } := fun t' k => by
    have hh : ((Str.empty ++ a) ++ PySem.reprText z).length ≤ sizeLine := by
      rw [PySem.Str.length_append, PySem.Str.length_append]
      show 0 + a.length + _ ≤ sizeLine
      exact Nat.le_trans (by omega : 0 + a.length + (PySem.reprText z).length ≤ 5002) (by decide)
    exact ⟨_, _, rfl, hh, hh, .str _, H1, I1.tok _, ⟨_, rfl⟩, q _⟩
  exact wpAny_formatField_str (fin _ _) (fin _ _) hs
/-- "..".join(texts) -/
theorem mt_join : MtR X "str.join" (fun x vs H Q => ∃ (a : Str) (p : Addr) (l : List Str), x = .str a ∧ vs = [.ref p] ∧ SqL X.K H p (l.map V.str) ∧ JoinOk a l = true ∧ Q (.str (Txt.join a l)) H) := by
  intro pins s σ H x xs v us Q I rx rs h
  obtain ⟨a, p, l, rfl, rfl, hp, hj, q⟩ := h
  obtain ⟨t, rfl⟩ := rx
  obtain ⟨u, rfl, ru⟩ := vals1 rs
  cases ru
  obtain ⟨its, rv, pl, hz⟩ := I.list hp
  have : ∃ l2 : List (Str × Tok), its = strValues l2 ∧ l2.map (·.1) = l := by
    clear hp hj pl hz q
    induction l generalizing its with
    | nil =>
      cases rv
      exact ⟨[], rfl, rfl⟩
    | cons y r ih =>
      cases rv with
      | cons h1 h2 =>
        obtain ⟨t1, rfl⟩ := h1
        obtain ⟨l2, rfl, e2⟩ := ih _ h2
        exact ⟨(y, t1) :: l2, rfl, by rw [List.map_cons, e2]⟩
  obtain ⟨l2, rfl, e2⟩ := this
  exact SC.join pl.isList e2 hj fun t' k => ⟨.str _, H, I.tok k, ⟨t', rfl⟩, q⟩
theorem mt_index : MtR X "str.index" (fun x vs H Q => ∃ (a b : Str) (i : Nat) (r : List Nat), x = .str a ∧ vs = [.str b] ∧ Builtin.Str.occurrences a b 0 a.length 1 = i :: r ∧ Q (.int (i : Int)) H) := by
  intro pins s σ H x xs v us Q I rx rs h
  obtain ⟨a, b, i, r, rfl, rfl, ho, q⟩ := h
  obtain ⟨t, rfl⟩ := rx
  obtain ⟨u, rfl, t', rfl⟩ := vals1 rs
  exact SC.index ho ⟨.int _, H, I.tok _, ⟨_, rfl⟩, q⟩
end
end L2
namespace Rm
open PySem L2 My
def rNeC (K : PySem.W.Frag) : R2 := fun x y H Q => ∃ (a b : Addr) (bs : List (Blk Str)), x = .ref a ∧ y = .ref b ∧ ChgAt H a bs ∧ ChgAt H b bs ∧ Q (.bl false) H
theorem op_neC {X : Cx} (hu : X.A.units < cLine) (hu1 : X.A.in1.units < cLine) (hu2 : X.A.in1.in1.units < cLine) : OpR X (compareOp .NotEq) (rNeC X.K) := by
  intro pins s σ H x y v u Q I rx ry h
  obtain ⟨a, b, bs, rfl, rfl, ⟨ps, ha, hbs⟩, ⟨qs, hb, hcs⟩, k⟩ := h
  cases rx
  cases ry
  obtain ⟨i1, r1, p1, _⟩ := I.list (SqL.of (K := X.K) ha)
  obtain ⟨i2, r2, p2, _⟩ := I.list (SqL.of (K := X.K) hb)
  have e1 := vals_get_refs r1
  have e2 := vals_get_refs r2
  subst e1 e2
  have l1 := hbs.length
  have l2 := hcs.length
  refine SeqAt.RcNeAt.lists (e := fun _ => true) p1.isList p2.isList (by rw [List.size_toArray, List.size_toArray, List.length_map, List.length_map]; omega) hu (fun j h1 h2 => ?_) _ _ _ _ ?_
  · rw [List.size_toArray, List.length_map] at h1 h2
    have g1 : ps[j]? = some ps[j] := List.getElem?_eq_getElem h1
    have g2 : qs[j]? = some qs[j] := List.getElem?_eq_getElem h2
    obtain ⟨c, c1, c2⟩ := paired_get hbs g1
    obtain ⟨d, d1, d2⟩ := paired_get hcs g2
    rw [c1] at d1
    cases d1
    have := eqAt_blk (A := X.A.in1) (s := s) hu1 hu2 I.hok c2 d2
    rw [List.getElem_toArray, List.getElem_toArray, List.getElem_map, List.getElem_map]
    exact this
  · have e3 : (List.range (ps.map Value.ref).toArray.size).all (fun _ => true) = true := by simp
    rw [e3]
    exact ⟨.bl false, H, I, rfl, k⟩
end Rm

set_option Elab.async false
set_option linter.all false
set_option maxRecDepth 100000
set_option maxHeartbeats 4000000
namespace L2
open PySem PySem.Spec PyProof.Rows
theorem ObjOk.there {P : Program} {w : World} {H : Hp} {h : Heap} {a : Addr} {o : HO} (x : ObjOk P w H h a o) : ∃ u, h.get? a = some u := by
  cases o with
  | lst xs => obtain ⟨_, _, _, _, e⟩ := x; exact ⟨_, e⟩
  | tup xs => obtain ⟨_, _, _, ob, e, _⟩ := x; exact ⟨_, e⟩
  | dK kvs => obtain ⟨_, _, _, _, o, _, _, e, _⟩ := x; exact ⟨_, e⟩
  | dT kvs => obtain ⟨_, _, _, _, o, _, _, e, _⟩ := x; exact ⟨_, e⟩
  | set S n => obtain ⟨o, _, _, _, e, _⟩ := x; exact ⟨_, e⟩
  | ins C dx fs => obtain ⟨_, _, _, e, _⟩ := x; exact ⟨_, e⟩
  | own y => obtain ⟨_, e⟩ := x; exact ⟨_, e⟩
  | xd fs => obtain ⟨_, ⟨_, _, _, e, _⟩, _⟩ := x; exact ⟨_, e⟩
  | rng lo hi => obtain ⟨_, _, _, e⟩ := x; exact ⟨_, e⟩
  | frz ob u => obtain ⟨e, _⟩ := x; exact ⟨_, e⟩
  | tbl ps => exact ⟨_, (show h.get? a = some _ from x)⟩
  | met f y => exact ⟨_, (show h.get? a = some _ from x)⟩
  | ext φ => obtain ⟨_, ⟨_, e⟩, _⟩ := x; exact ⟨_, e⟩
/-- the state while an exception flies (or is held), seen from a call made at H, s under the frames st: B is what stays -/
structure Ovr (P : Program) (w : World) (st : List Env) (H : Hp) (s : Shared) (H' : Hp) (B : Heap) (s' : Shared) : Prop where
  os : s'.os = s.os
  bare : AllBare s'.gens
  un : Un (frs st) [] H H' s.heap s'.heap
  hok : HOk P w H' s'.heap
  stays : B.StaysIn s'.heap
  frf : ∀ b ∈ frs st, H b = none ∧ ∃ o, s.heap.get? b = some o
  cov : ∀ b o, ((∃ o', s.heap.get? b = some o') ∨ H' b ≠ none) → b ∉ frs st → s'.heap.get? b = some o → B.get? b = some o
theorem Ovr.out {P : Program} {w : World} {st : List Env} {H : Hp} {s : Shared} {H' : Hp} {B : Heap} {s' : Shared} (O : Ovr P w st H s H' B s') {b : Addr} (h : H' b ≠ none) : b ∉ frs st := fun hb => by
  obtain ⟨h1, o, h2⟩ := O.frf b hb
  exact h (O.un.free b o h2 h1 (by simp))
/-- the heap changes by what an exception's way writes -/
theorem Ovr.step {P : Program} {w : World} {st : List Env} {H : Hp} {s : Shared} {H' : Hp} {B : Heap} {s' : Shared} {h1 : Heap} (O : Ovr P w st H s H' B s') (ff : s'.heap.FunFrames B st) (hB : B.StaysIn h1) (up : s'.heap.UpToSlots h1) :
    Ovr P w st H s H' B { s' with heap := h1 } := by
  have slot : ∀ b o, s'.heap.get? b = some o → b ∈ frs st → ∃ sl, h1.get? b = some { o with slots := sl } := fun b o e hb => by
    obtain ⟨_, o1, e1, d1⟩ := ff.mem hb
    rw [e] at e1
    cases e1
    exact up b o e d1
  have keep : ∀ b o, ((∃ o', s.heap.get? b = some o') ∨ H' b ≠ none) → b ∉ frs st → s'.heap.get? b = some o → h1.get? b = some o := fun b o h hb e => hB b o (O.cov b o h hb e)
  refine ⟨O.os, O.bare, ⟨fun b o q n hb hx => keep b o (.inl ⟨o, q⟩) hb (O.un.keep b o q n hb hx), fun b o q n hb hx => ?_, O.un.free, fun b o q hx => ?_, O.un.tups, O.un.frzs, O.un.tbls⟩, fun a o e => ?_, hB, O.frf, fun b o h hb e => ?_⟩
  · obtain ⟨sl, e⟩ := O.un.slot b o q n hb hx
    obtain ⟨sl', e'⟩ := slot b _ e hb
    exact ⟨sl', e'⟩
  · obtain ⟨o', e⟩ := O.un.there b o q hx
    by_cases hb : b ∈ frs st
    · obtain ⟨sl, e'⟩ := slot b _ e hb
      exact ⟨_, e'⟩
    · exact ⟨_, keep b o' (.inl ⟨o, q⟩) hb e⟩
  · refine (O.hok a o e).stay (fun b u hb q => ?_) (fun b q => q) (fun b xs q => q)
    have hb' : H' b ≠ none := by
      rcases hb with z | z
      · rw [z, e]; exact fun z => by cases z
      · rw [z]; exact fun z => by cases z
    exact keep b u (.inr hb') (O.out hb') q
  · have : ∃ u, s'.heap.get? b = some u := by
      rcases h with ⟨o', q⟩ | q
      · exact O.un.there b o' q (by simp)
      · cases hh : H' b with
        | none => exact absurd hh q
        | some ho => exact (O.hok b ho hh).there
    obtain ⟨u, hu⟩ := this
    have h2 := keep b u h hb hu
    have e' : h1.get? b = some o := e
    rw [h2] at e'
    cases e'
    exact O.cov b _ h hb hu
section
variable {X : Cx} {pins : List (Addr × Obj)} {σ : St} {H H' : Hp} {s s' : Shared} {B : Heap}
/-- behind a call that raised: the caller's own word, with the heap as it is now -/
theorem Inv.fly (I : Inv X pins σ H s) (O : Ovr X.prog X.w X.stack H s H' B s') : Inv X pins σ H' s' := I.call' O.os O.un O.hok O.bare (fun b z => absurd z (by simp))
/-- a def's body: one frame of its own -/
structure Own (X : Cx) : Prop where
  stk : X.stack = X.env :: X.outer
  fr : X.env.frame = some X.env.locals
  ex : X.ex = []
theorem Own.frs {X : Cx} (w : Own X) : L2.frs X.stack = X.env.locals :: X.fs := by
  rw [w.stk]
  unfold L2.frs
  rw [List.filterMap_cons, w.fr]
  rfl
theorem Inv.notL (I : Inv X pins σ H s) {b : Addr} {o : Obj} (h : X.s₀.heap.get? b = some o) : b ≠ X.env.locals := fun z => by
  have h1 := Heap.lt_size h
  have h2 := I.ok.above
  rw [z] at h1
  exact absurd h1 (Nat.not_lt.mpr h2)
/-- the exception leaves the def: seen from the caller -/
theorem Inv.up (I : Inv X pins σ H s) (W : Own X) (O : Ovr X.prog X.w X.stack H s H' B s') : Ovr X.prog X.w X.outer X.H₀ X.s₀ H' B s' := by
  have J := I.fly O
  have hb := J.base
  rw [W.ex] at hb
  refine ⟨J.os, O.bare, hb, O.hok, O.stays, fun b hb' => ?_, fun b o h hn e => ?_⟩
  · obtain ⟨_, o, h1, _⟩ := I.ok.funs.mem hb'
    exact ⟨I.ok.frf b hb', o, h1⟩
  · have hout : b ∉ frs X.stack := by
      rw [W.frs]
      intro z
      rcases List.mem_cons.mp z with z | z
      · rcases h with ⟨o', q⟩ | q
        · exact I.notL q z
        · exact q (by rw [z]; exact J.free)
      · exact hn z
    refine O.cov b o ?_ hout e
    rcases h with ⟨o', q⟩ | q
    · have hb0 := I.base
      rw [W.ex] at hb0
      exact .inl (hb0.there b o' q (by simp))
    · exact .inr q
/-- an exception is made in the def's body -/
theorem Inv.madeX (I : Inv X pins σ H s) (W : Own X) {h' : Heap} {e : Addr} {cls : Value} {args : List Value} (hx : Heap.MadeExcOf s.heap h' e cls args) :
    Ovr X.prog X.w X.outer X.H₀ X.s₀ H (PySem.W.hideAll s.heap (frs X.stack)) { s with heap := h' } := by
  have I2 : Inv X pins σ H { s with heap := h' } := I.kept (t' := s.toks) hx.keeps
  have hb := I2.base
  rw [W.ex] at hb
  refine ⟨I2.os, I2.bare, hb, I2.hok, fun b o q => hx.keeps b o (PySem.W.of_hideAll _ q), fun b hb' => ?_, fun b o h hn e' => ?_⟩
  · obtain ⟨_, o, h1, _⟩ := I.ok.funs.mem hb'
    exact ⟨I.ok.frf b hb', o, h1⟩
  · have hout : b ∉ frs X.stack := by
      rw [W.frs]
      intro z
      rcases List.mem_cons.mp z with z | z
      · rcases h with ⟨o', q⟩ | q
        · exact I.notL q z
        · exact q (by rw [z]; exact I.free)
      · exact hn z
    have : ∃ u, s.heap.get? b = some u := by
      rcases h with ⟨o', q⟩ | q
      · have hb0 := I.base
        rw [W.ex] at hb0
        exact hb0.there b o' q (by simp)
      · cases hh : H b with
        | none => exact absurd hh q
        | some ho => exact (I.hok b ho hh).there
    obtain ⟨u, hu⟩ := this
    have e2 : h'.get? b = some o := e'
    rw [hx.keeps b u hu] at e2
    cases e2
    exact PySem.W.hideAll_get _ hu hout
end
/-- how an exception lies behind a call -/
def CXR (P : Program) (w : World) : CXT := fun outer H s E v s' => ∃ (e : Addr) (cls a0 : Value) (H' : Hp) (B : Heap), v = .ref e ∧ E cls none H' ∧ Ovr P w outer H s H' B s' ∧ Heap.FlyingW B outer e cls a0 s'.heap
/-- a context of a def's body under this -/
theorem own_cx {CX : CXT} {P : Program} {w : World} {K : PySem.W.Frag} {mg : Str → Option Value} {base : Heap} {N : List Str} {qual : Str} {scope : Scope} {f : Addr} {cd : Value} {A : Around} {outer : List Env} {s : Shared} {H : Hp} {E : XK} :
    Own (cxOf CX P w K mg base N qual scope f cd A outer s H E) := ⟨rfl, rfl, rfl⟩
/-- an exception of a callee goes on -/
theorem pass_on {P : Program} {w : World} {K : PySem.W.Frag} {mg : Str → Option Value} {base : Heap} {N : List Str} {qual : Str} {scope : Scope} {f : Addr} {cd : Value} {A : Around} {outer : List Env} {s : Shared} {H : Hp} {E : XK} :
    Passes (CXR P w) (cxOf (CXR P w) P w K mg base N qual scope f cd A outer s H E) E := by
  intro pins σ H1 s1 v s2 I h
  obtain ⟨e, cls, a0, H', B, rfl, he, O, fl⟩ := h
  have O2 := I.up own_cx O
  refine wpAny_leaves_onW I.ok.frames rfl fl fun h' f1 f2 => ?_
  exact ⟨e, cls, a0, H', B, rfl, he, O2.step (by obtain ⟨_, _, ⟨_, _, k⟩, _⟩ := fl; exact k) f1.1 f2, f1⟩
/-- an exception made here leaves -/
theorem made_leaves {P : Program} {w : World} {K : PySem.W.Frag} {mg : Str → Option Value} {base : Heap} {N : List Str} {qual : Str} {scope : Scope} {f : Addr} {cd : Value} {A : Around} {outer : List Env} {s0 : Shared} {H0 : Hp} {E : XK}
    {pins : List (Addr × Obj)} {σ : St} {H : Hp} {s : Shared} {h' : Heap} {e : Addr} {cls : Value} {args : List Value} (I : Inv (cxOf (CXR P w) P w K mg base N qual scope f cd A outer s0 H0 E) pins σ H s) (hx : Heap.MadeExcOf s.heap h' e cls args) (he : E cls none H) :
    (cxOf (CXR P w) P w K mg base N qual scope f cd A outer s0 H0 E).xe (.ref e) { s with heap := h' } := by
  have O := I.madeX own_cx hx
  have hin : ∀ env ∈ (cxOf (CXR P w) P w K mg base N qual scope f cd A outer s0 H0 E).stack, ∀ b, env.frame = some b → b ∈ frs (cxOf (CXR P w) P w K mg base N qual scope f cd A outer s0 H0 E).stack := fun env he b hb => List.mem_filterMap.mpr ⟨env, he, hb⟩
  have ff := PySem.W.funFrames_hide I.stack hin
  refine wpAny_leaves_madeW I.ok.frames rfl (fun b o q => PySem.W.of_hideAll _ q) ff hx fun h2 t f1 f2 f3 f4 => ?_
  refine ⟨e, cls, .ref t, H, _, rfl, he, O.step ?_ f1.1 f4, f1⟩
  obtain ⟨_, _, k⟩ := ff
  exact k.of_keeps fun b o hb _ => ⟨o, hx.keeps b o hb, rfl⟩
end L2

set_option Elab.async false
set_option linter.all false
set_option maxRecDepth 100000
set_option maxHeartbeats 4000000
namespace L2
open PySem PySem.Spec PyProof.Rows
/-! ### a class of one's own over ValueError -/
def bmV : List Value := [.type "ValueError", .type "Exception", .type "BaseException", .type "object"]
theorem exc_obj {K : PySem.W.Frag} {h : Heap} {C : Addr} {bmB : List Value} {newId : String} (X : K.In h) (q : PySem.W.excIn K C bmB newId = true) :
    ∃ bm N nm qn bs hdct sn sub ab col dd k0 k1 k2 k3 k5 mN, h.get? C = some (excClassObj nm qn C N bs bm hdct sn sub ab col dd k0 k1 k2 k3 k5 newId) ∧ h.Ns N mN ∧ mN "__init__" = none ∧ OwnTail h bmB bm := by
  unfold PySem.W.excIn at q
  split at q
  · rename_i dd cd sl ho
    split at q
    · rename_i C' bm k0 k1 k2 k3 n k5 hm hs
      simp only [Bool.and_eq_true, beq_iff_eq, Bool.not_eq_true'] at q
      obtain ⟨⟨⟨⟨⟨rfl, rfl⟩, hdel⟩, ht⟩, hok⟩, hni⟩ := q
      obtain ⟨nm, bs, mro, ns, qn, hd, sn, sub, ab, col, del⟩ := cd
      dsimp only at hm hdel hok hni
      subst hm hdel
      have hsl : sl = #[k0, k1, k2, k3, some (.builtin n), k5] := by
        obtain ⟨l⟩ := sl
        simp only at hs
        rw [hs]
      subst hsl
      exact ⟨bm, ns, nm, qn, bs, hd, sn, sub, ab, col, dd, k0, k1, k2, k3, k5, _, X _ _ ho, .of_isNs (PySem.W.isNs_of_in X hok), PySem.W.nsMap_none_of_in X hok hni, PySem.W.tail_of_in X ht⟩
    · cases q
  · cases q
/-- raise C(e) -/
theorem ps_raise {P : Program} {w : World} {K : PySem.W.Frag} {mg : Str → Option Value} {base : Heap} {N : List Str} {qual : Str} {scope : Scope} {f : Addr} {cd : Value} {A : Around} {outer : List Env} {s0 : Shared} {H0 : Hp} {E : XK} {x : Str} {C : Addr} {e0 : Expr} {te : TE} {np cpos pos : Pos}
    (q : PySem.W.excIn K C bmV "ValueError.__new__" = true) (hh : A.handled = none) (hg : Gl (cxOf (CXR P w) P w K mg base N qual scope f cd A outer s0 H0 E) x) (hm : mg x = some (.ref C)) (he : PE (cxOf (CXR P w) P w K mg base N qual scope f cd A outer s0 H0 E) e0 te)
    (hs : starEach [e0] (cxOf (CXR P w) P w K mg base N qual scope f cd A outer s0 H0 E).env = [(false, eval e0 (cxOf (CXR P w) P w K mg base N qual scope f cd A outer s0 H0 E).env)] := by rfl) (hd : (x == ("__debug__" : Str)) = false := by decide) :
    PS (cxOf (CXR P w) P w K mg base N qual scope f cd A outer s0 H0 E) (.Raise (some (.Call (.Name x np) [e0] [] cpos)) none pos) (fun D σ H => tCons te tNil σ H fun vs H1 => vs.length ≤ sizeLine ∧ E (.ref C) none H1) := by
  intro pins s σ H D I h
  have lv := fun {σ : St} {H : Hp} {s : Shared} {h' : Heap} {e : Addr} {cls : Value} {args : List Value} (I : Inv (cxOf (CXR P w) P w K mg base N qual scope f cd A outer s0 H0 E) pins σ H s) (hx : Heap.MadeExcOf s.heap h' e cls args) (he : E cls none H) => made_leaves I hx he
  generalize hX : cxOf (CXR P w) P w K mg base N qual scope f cd A outer s0 H0 E = X at *
  have kin : K.In base := by have := I.ok.mod.kin; rw [← hX] at this; exact this
  obtain ⟨tl, Nn, nm, qn, bs, hdct, sn, sub, ab, col, dd, k0, k1, k2, k3, k5, mN, hC, hN, hni, T⟩ := exc_obj kin q
  have bk : ∀ {σ : St} {H : Hp} {s : Shared}, Inv X pins σ H s → ∀ b o, base.get? b = some o → s.heap.get? b = some o := fun J b o e => J.bk b o (by rw [← hX]; exact e)
  have hA : X.A.handled = none := by rw [← hX]; exact hh
  refine wpAny_Raise_call_subT (C := C) (nm := nm) (q := qn) (N := Nn) (bs := bs) (bm := tl) (hdct := hdct) (sn := sn) (sub := sub) (ab := ab) (col := col) (dd := dd) (k0 := k0) (k1 := k1) (k2 := k2) (k3 := k3) (k5 := k5)
    PySem.F.excBase_ValueError (mN := mN) (T.hasType PySem.F.excBase_ValueError.hasBase) hA (by rw [hs]; rfl) hni (ld_glob I hg (by rw [← hX]; exact hm) ⟨rfl, ?_⟩ hd)
  have hp := (pa_cons he pa_nil (by rw [hs]; rfl)) cpos pins s σ H (fun vs H1 => vs.length ≤ sizeLine ∧ E (.ref C) none H1) I h
  rw [hs] at hp ⊢
  exact Calls.evalArgs_plain (wpAny_mono hp (fun us s2 ⟨vs, H2, I2, r, l, e⟩ => ⟨rfl, by rw [← r.length]; exact l, bk I2 _ _ hC, hN.keeps (bk I2), T.keeps (bk I2), fun h' e' hx => lv I2 hx e⟩) fun _ _ y => y)
/-! ### a call within try -/
def tryX (X : Cx) (pins : List (Addr × Obj)) (J : Value → St → Hp → Prop) : Cx :=
  { X with pn := X.pn ++ pins, xe := fun v s' => ∃ (e : Addr) (cls a0 : Value) (σ : St) (H : Hp) (s : Shared) (H' : Hp) (B : Heap), v = .ref e ∧ J cls σ H' ∧ Inv X pins σ H s ∧ Ovr X.prog X.w X.stack H s H' B s' ∧ Heap.FlyingW B X.stack e cls a0 s'.heap }
section
variable {X : Cx} {pins pins' : List (Addr × Obj)} {J : Value → St → Hp → Prop} {σ : St} {H : Hp} {s : Shared}
theorem Cx.Ok.try (ok : X.Ok) : (tryX X pins J).Ok := ⟨ok.mod, ok.kind, ok.glob, ok.blt, ok.above, ok.inj, ok.has, ok.cab, ok.hd, ok.frames, ok.stk, ok.exf, ok.bs, ok.bsz, ok.noex, ok.exfs, ok.funs, ok.frf⟩
theorem Inv.intoTry (I : Inv X pins σ H s) : Inv (tryX X pins J) [] σ H s :=
  ⟨I.ok.try, I.os, I.bare, I.base, I.loc, I.cell, I.free, I.freeC, fun p hp => I.pin p (by
    have hp' : p ∈ (X.pn ++ pins) ++ ([] : List (Addr × Obj)) := hp
    rwa [List.append_nil] at hp'), I.hok, I.len⟩
theorem Inv.outTry (ok : X.Ok) (I : Inv (tryX X pins J) pins' σ H s) : Inv X pins σ H s :=
  ⟨ok, I.os, I.bare, I.base, I.loc, I.cell, I.free, I.freeC, fun p hp => I.pin p (List.mem_append_left _ hp), I.hok, I.len⟩
/-- f(..) whose exception is caught here: J knows the names' values -/
theorem pe_callX {k : Nat} {f : Addr} {fd : FuncData} {ps : List Str} {sp : Sp} {dvs : List V} {ds : List Value} {x : Str} {p pos : Pos} {e : Expr} {es : List Expr} {t : TA} (ok : X.Ok)
    (F : FnOk X.prog X.w X.K X.mg X.base (CXR X.prog X.w) k f fd ps sp) (hr : Room k X.A) (hg : Gl X x) (hm : X.mg x = some (.ref f)) (hk : PySem.W.keepIn X.K (.ref f) = true) (hb : Binds X.K fd ps ds) (hd : Vals dvs ds)
    (ha : PA (tryX X pins J) (e :: es) t) (hdb : (x == ("__debug__" : Str)) = false := by decide) (he : starEach (e :: es) X.env = (false, eval e X.env) :: starEach es X.env := by rfl) (hpl : (backTo pos (starEach es X.env)).any (·.1) = false := by rfl) :
    PE (tryX X pins J) (.Call (.Name x p) (e :: es) [] pos) (fun σ H Q => t σ H fun vs H1 => sp (vs ++ dvs) H1 Q (fun cls _ H' => J cls σ H')) := by
  intro pins' s σ H Q I h
  refine wpAny_Call_Name_kw (ld_glob (X := tryX X pins J) I hg hm ?_ hdb)
  refine PySem.W.callWith_K (h₀ := X.base) I.ok.mod.kin hk (thn (ha pos pins' s σ H _ I h) fun us s1 ⟨vs, H1, I1, r, q⟩ => ⟨I1.kIn, ?_⟩) he hpl
  have r2 : Vals (vs ++ dvs) (us ++ ds) := r.append hd
  have hl : (us ++ ds).length = ps.length := by rw [← r2.length]; exact F.len _ _ _ _ q
  refine wpAny_call (codeAny_mono (F.run X.A X.stack s1 H1 ⟨us, []⟩ (us ++ ds) (vs ++ dvs) Q _ hr I1.env0 (hb s1 us I1.kIn hl) r2 q) fun r s' hq => ?_)
  cases r with
  | error v =>
    obtain ⟨e', cls, a0, H', B, rfl, j, O, fl⟩ := hq
    exact ⟨e', cls, a0, σ, H1, s1, H', B, rfl, j, I1.outTry ok, O, fl⟩
  | ok fl =>
    cases fl with
    | ret u => exact I1.after hq
    | next => exact False.elim hq
    | brk => exact False.elim hq
    | cont => exact False.elim hq
/-! ### the suite of an except -/
def hndX (X : Cx) (e : Addr) : Cx := { X with A := X.A.mark (some (.ref e)), calm := false, xe := fun _ _ => False }
theorem Inv.intoHnd {e : Addr} (I : Inv X pins σ H s) : Inv (hndX X e) pins σ H s :=
  ⟨⟨I.ok.mod, I.ok.kind, I.ok.glob, I.ok.blt, I.ok.above, I.ok.inj, I.ok.has, I.ok.cab, fun z => (Bool.false_ne_true z).elim, I.ok.frames, I.ok.stk, I.ok.exf, I.ok.bs, I.ok.bsz, I.ok.noex, I.ok.exfs, I.ok.funs, I.ok.frf⟩, I.os, I.bare, I.base, I.loc, I.cell, I.free, I.freeC, I.pin, I.hok, I.len⟩
theorem Inv.outHnd {e : Addr} (ok : X.Ok) (I : Inv (hndX X e) pins σ H s) : Inv X pins σ H s := ⟨ok, I.os, I.bare, I.base, I.loc, I.cell, I.free, I.freeC, I.pin, I.hok, I.len⟩
def tTry (C : Addr) (tb : (Value → St → Hp → Prop) → TS) (th : TS) : TS := fun D σ H => ∃ J : Value → St → Hp → Prop, tb J D σ H ∧ ∀ cls σ' H', J cls σ' H' → cls = .ref C ∧ th D σ' H'
theorem SP.outTry {D : Ends} {fl : Flow} {s' : Shared} (ok : X.Ok) (h : SP (tryX X pins J) pins' D fl s') : SP X pins D fl s' := by
  cases fl with
  | next => obtain ⟨σ', H', I, q⟩ := h; exact ⟨σ', H', I.outTry ok, q⟩
  | brk => obtain ⟨σ', H', I, q⟩ := h; exact ⟨σ', H', I.outTry ok, q⟩
  | cont => obtain ⟨σ', H', I, q⟩ := h; exact ⟨σ', H', I.outTry ok, q⟩
  | ret u => obtain ⟨v, σ', H', I, r, q⟩ := h; exact ⟨v, σ', H', I.outTry ok, r, q⟩
theorem SP.outHnd {e : Addr} {D : Ends} {fl : Flow} {s' : Shared} (ok : X.Ok) (h : SP (hndX X e) pins D fl s') : SP X pins D fl s' := by
  cases fl with
  | next => obtain ⟨σ', H', I, q⟩ := h; exact ⟨σ', H', I.outHnd ok, q⟩
  | brk => obtain ⟨σ', H', I, q⟩ := h; exact ⟨σ', H', I.outHnd ok, q⟩
  | cont => obtain ⟨σ', H', I, q⟩ := h; exact ⟨σ', H', I.outHnd ok, q⟩
  | ret u => obtain ⟨v, σ', H', I, r, q⟩ := h; exact ⟨v, σ', H', I.outHnd ok, r, q⟩
/-- try: body, except C: suite -/
theorem ps_try {body : List Stmt} {x : Str} {np hpos pos : Pos} {b0 : Stmt} {suite : List Stmt} {tb : (Value → St → Hp → Prop) → TS} {th : TS} {C : Addr} (W : Own X) (q : PySem.W.excIn X.K C bmV "ValueError.__new__" = true) (hg : Gl X x) (hm : X.mg x = some (.ref C))
    (hb : X.Ok → ∀ pins J, PSs (tryX X pins J) body (tb J)) (hh : ∀ e, PSs (hndX X e) (b0 :: suite) th) (hd : (x == ("__debug__" : Str)) = false := by decide) :
    PS X (.Try body [.ExceptHandler (some (.Name x np)) none (b0 :: suite) hpos] [] [] pos) (tTry C tb th) := by
  intro pins s σ H D I h
  obtain ⟨J, h1, h2⟩ := h
  have ok := I.ok
  refine wpAny_Try_except (wpAny_mono (hb ok pins J [] s σ H D I.intoTry h1) (fun fl s1 g => ?_) (fun v s1 g => ?_))
  · cases fl with
    | next =>
      have g' : SP X pins D .next s1 := SP.outTry ok g
      exact wpAny_execs_nil g'
    | brk => exact SP.outTry (fl := .brk) ok g
    | cont => exact SP.outTry (fl := .cont) ok g
    | ret u => exact SP.outTry (fl := .ret u) ok g
  · obtain ⟨e, cls, a0, σ1, H1, s0, H', B, rfl, j, I1, O, fl⟩ := g
    obtain ⟨rfl, hth⟩ := h2 _ _ _ j
    have fl' : Heap.FlyingW B (X.env :: X.outer) e (.ref C) a0 s1.heap := by rw [← W.stk]; exact fl
    have hfr : X.A.frames = some (X.env :: X.outer) := by rw [← W.stk]; exact ok.frames
    refine wpAny_looks_onW hfr W.fr fl' fun h4 held up4 => ?_
    have O4 := O.step fl.2.2.1 held.1 up4
    refine wpAny_landsW held fun h5 fl5 up5 => ?_
    have O5 := O4.step (by rw [W.stk]; exact held.2.2.1) fl5.1 up5
    have J5 := I1.fly O5
    obtain ⟨ob, hob, hobc⟩ := fl5.there
    refine wpAny_handleBy_cons (codeAny_handlers_test (ld_glob (X := hndX X e) J5.intoHnd hg hm ?_ hd)) (by intro q; cases q)
    obtain ⟨tl, Nn, nm, qn, bs, hdct, sn, sub, ab, col, dd, k0, k1, k2, k3, k5, mN, hC, hN, hni, T⟩ := exc_obj J5.kIn q
    refine wpAny_excMatches_sub_self hC hob hobc (T.hasType PySem.F.excBase_ValueError.hasBase) (codeAny_handlers_suite ?_)
    refine lands_againW fl5 fun h6 fl6 up6 => ?_
    have O6 := O5.step (by rw [W.stk]; exact fl5.2.2.1) fl6.1 up6
    have J6 := I1.fly O6
    exact wpAny_mono (hh e pins _ σ1 H' D J6.intoHnd hth) (fun f s2 g => SP.outHnd ok g) fun _ _ z => z.elim
end
end L2

set_option Elab.async false
set_option linter.all false
set_option maxRecDepth 100000
set_option maxHeartbeats 4000000
namespace L2
open PySem PySem.Spec PySem.Calls PyProof.Rows Builtin Builtin.ObjectAttr Builtin.Getset_descriptor
/-! ### isinstance of an exception of one's own -/
structure ExcC (K : PySem.W.Frag) (C : Addr) : Prop where
  ex : PySem.W.excIn K C bmV "ValueError.__new__" = true
  ga : PySem.W.findIn K (.ref C) "__getattribute__" = some (some (.builtin "BaseException.__getattribute__"))
  gt : PySem.W.findIn K (.ref C) "__getattr__" = some none
  cl : PySem.W.findIn K (.ref C) "__class__" = some (some (.builtin "object.__class__"))
  hn : PySem.W.specialIn K (.builtin "object.__class__") "__get__" = some (some (.builtin "getset_descriptor.__get__"))
  tk : PySem.W.takesIn K (.builtin "object.__class__") = some true
  mo : PySem.W.mroIn K C (.type "object") = some true
  mb : PySem.W.mroIn K C (.type "BaseException") = some true
section
variable {prog : Program} {w : World} {A : Around} {E : Value → Shared → Prop} {s : Shared} {K : PySem.W.Frag} {x C : Addr} {o : Obj}
theorem class_getE {tp : Value} {R : Result → Shared → Prop} (X : K.In s.heap) (Z : ExcC K C) (hx : s.heap.get? x = some o) (hc : o.cls = .ref C)
    (hq : R (.ok (.ret (.ref C))) s) : codeAny (model prog w) A (.call (.builtin "getset_descriptor.__get__") ⟨[.builtin "object.__class__", .ref x, tp], []⟩) R s := by
  obtain ⟨hh, g, dr, t, os⟩ := s
  have L0 : PySem.W.Looks (model prog w) hh (typeOf (.ref x)) (.ref C) := hc ▸ (PySem.W.Looks.ld hx).andThen .now
  have L1 := PySem.W.looks_mroIn (M := model prog w) X Z.mo
  refine codeAny_call_builtin PySem.W.KF.slot_gs.plain PySem.W.KF.entry_gs (PySem.W.KF.slot_gs.check _ _ _ _ _ _ _ _ PySem.W.KF.type_class (PySem.W.KF.args_gs _ _ _) ?_)
  unfold Builtin.«getset_descriptor.__get__» descrGet
  rw [PySem.W.dga_obj]
  refine wpAny_bind (wpAny_pure ?_)
  unfold descrGetter descrCheckInstance descrNameAndClass isInstance
  simp only [PySem.W.KF.owner_class]
  repeat lk
  refine ⟨Code.quiet_builtin _ (by decide +kernel), codeAny_builtin PySem.W.KF.entry_class ?_⟩
  unfold Builtin.«object.__class__» shownTypeOf
  repeat lk
  exact hq
theorem find_E {h : Heap} {M : Model} (X : K.In h) (Z : ExcC K C) : PySem.W.Looks M h (find (.ref x) (.ref C) "__class__") (.bind (.builtin "getset_descriptor.__get__") (.builtin "object.__class__")) := by
  have L3 := PySem.W.looks_findIn (M := M) X Z.cl
  have L4 := PySem.W.looks_specialIn (M := M) X Z.hn
  have L5 := PySem.W.looks_takesIn (M := M) X Z.tk
  exact L3.andThen (PySem.W.Looks.andThen (show PySem.W.Looks M h (getOf (some (.builtin "object.__class__"))) _ from L4) ((show PySem.W.Looks M h (dataDescriptor? (some (.builtin "object.__class__")) (some (.builtin "getset_descriptor.__get__"))) (some (.builtin "getset_descriptor.__get__", .builtin "object.__class__")) from L5.andThen .now).andThen (PySem.W.Looks.tag .now)))
theorem ga_entry {tk : Tok} {Q : Fin → Shared → Prop} (X : K.In s.heap) (Z : ExcC K C) (hx : s.heap.get? x = some o) (hc : o.cls = .ref C) (hq : Q (.done (.ret (.ref C))) s) :
    wpAny (model prog w) A (Builtin.«object.__getattribute__» ⟨[.ref x, .str "__class__" tk], []⟩) Q E s := by
  obtain ⟨hh, g, d, t, os⟩ := s
  have L0 : PySem.W.Looks (model prog w) hh (typeOf (.ref x)) (.ref C) := hc ▸ (PySem.W.Looks.ld hx).andThen .now
  have LF := find_E (x := x) (M := model prog w) X Z
  unfold Builtin.«object.__getattribute__»
  refine wpAny_bind (wpAny_pure (wpAny_bind (wpAny_pure (wpAny_bind (L0.at (wpAny_bind (LF.at ?_)))))))
  dsimp only
  exact wpAny_bind (wpAny_holding (wpAny_call (class_getE (s := ⟨hh, g, d, t, os⟩) X Z hx hc (wpAny_pure hq))))
theorem ga_ne : (onTheHeap (Value.ref C) && Value.builtin "BaseException.__getattribute__" == Value.builtin "object.__getattribute__") = false := by
  have hx2 : (Value.builtin "BaseException.__getattribute__" == Value.builtin "object.__getattribute__") = false := by decide +kernel
  rw [hx2]; rfl
theorem class_attrE {Q : Option Value → Shared → Prop} (X : K.In s.heap) (Z : ExcC K C) (hx : s.heap.get? x = some o) (hc : o.cls = .ref C) (h : Q (some (.ref C)) { s with toks := s.toks + 1 }) :
    wpAny (model prog w) A (getAttr? (.ref x) "__class__") Q E s := by
  obtain ⟨hh, g, d, t, os⟩ := s
  have L0 : PySem.W.Looks (model prog w) hh (typeOf (.ref x)) (.ref C) := hc ▸ (PySem.W.Looks.ld hx).andThen .now
  have LB := PySem.W.looks_mroIn (M := model prog w) X Z.mb
  have L1 := PySem.W.looks_findIn (M := model prog w) X Z.ga
  have L2 := PySem.W.looks_findIn (M := model prog w) X Z.gt
  unfold getAttr? getAttrBy? getAttrBy
  refine wpAny_bind (wpAny_mkText (wpAny_bind (wpAny_attempt (wpAny_holding (wpAny_bind (L0.at (wpAny_bind (L1.at ?_))))))))
  dsimp only
  rw [ga_ne, if_neg (by decide)]
  unfold getAttrByItsOwn hookBefore
  refine wpAny_bind (L2.at (wpAny_bind (wpAny_attempt (wpAny_holding ?_))))
  unfold callGetattribute
  rw [if_neg (by decide)]
  unfold boundAndCalled
  rw [F.attr_ValueError.ga.bind (.ref x)]
  refine wpAny_bind (wpAny_pure ?_)
  refine wpAny_call (codeAny_call_builtin F.attr_ValueError.ga.plain F.entry_bexc_ga ?_)
  have hk : builtinKind "BaseException.__getattribute__" = some .slot := by decide +kernel
  have hsplit : splitId "BaseException.__getattribute__" = some ("BaseException", "__getattribute__") := by decide +kernel
  have hargs := F.args_bexc_ga (.ref x) (.str "__class__" t)
  have LI : PySem.W.Looks (model prog w) hh (isInstance (.ref x) (.type "BaseException")) true := L0.andThen LB
  show wpAny _ _ (checkBuiltinCall _ ⟨[.ref x, .str "__class__" t], []⟩) _ _ _
  simp only [checkBuiltinCall, hk, hsplit]
  refine wpAny_bind (LI.at ?_)
  rw [if_neg (by decide)]
  split
  · rename_i sig hs
    rw [argsOk, hs] at hargs
    rw [show Bind.checkArgs "BaseException.__getattribute__" sig ⟨[.ref x, .str "__class__" t], []⟩ = pure () from hargs]
    refine wpAny_pure (ga_entry (s := ⟨hh, g, d, t + 1, os⟩) X Z hx hc ?_)
    exact PySem.W.handed_on rfl (wpAny_pure h)
  · refine wpAny_pure (ga_entry (s := ⟨hh, g, d, t + 1, os⟩) X Z hx hc ?_)
    exact PySem.W.handed_on rfl (wpAny_pure h)
theorem kitxE (Z : ExcC K C) : PySem.W.KitX K (.ref x) (.ref C) (fun h => ∃ o, h.get? x = some o ∧ o.cls = .ref C) where
  ty := fun _ _ _ ⟨o, h1, h2⟩ => h2 ▸ (PySem.W.Looks.ld h1).andThen .now
  it := fun M h X ⟨o, h1, h2⟩ => by
    obtain ⟨bm, N, nm, qn, bs, hdct, sn, sub, ab, col, dd, k0, k1, k2, k3, k5, mN, hC, _⟩ := exc_obj X Z.ex
    intro A' Q' E' s' k q
    unfold isType loadHead
    exact wpAny_bind (wpAny_loadPart (k _ _ hC) (wpAny_pure q))
  ne := fun h tp dd its n sl X htp => by
    obtain ⟨bm, N, nm, qn, bs, hdct, sn, sub, ab, col, dd, k0, k1, k2, k3, k5, mN, hC, _⟩ := exc_obj X Z.ex
    refine Bool.eq_false_iff.mpr fun q => ?_
    have e : C = tp := Value.ref.inj (beq_iff_eq.mp q)
    subst e
    have z := hC.symm.trans htp
    have z3 := congrArg (fun o : Option Obj => o.map (·.data)) z
    cases z3
  ca := fun X ⟨o, h1, h2⟩ k => class_attrE X Z h1 h2 k
end
/-! ### except M as n, for a class over C's -/
theorem matches_over {M : Model} {A : Around} {E : Value → Shared → Prop} {h : Heap} {g : Array GenState} {d : Drawn} {t : Nat} {os : OsState} {e : Addr} {oe : Obj} {Q : Bool → Shared → Prop}
    {nm q : Str} {C N : Addr} {bs bm : List Value} {hdct : Bool} {sn : List Str} {sub : List Value} {ab : Bool} {col : Option Bool} {dd : Option Addr} {k0 k1 k2 k3 k5 : Option Value} {newId : String}
    {nm' q' : Str} {D N' : Addr} {bs' bm' : List Value} {hdct' : Bool} {sn' : List Str} {sub' : List Value} {ab' : Bool} {col' : Option Bool} {dd' : Option Addr} {k0' k1' k2' k3' k5' : Option Value} {newId' : String}
    (hC : h.get? C = some (excClassObj nm q C N bs bm hdct sn sub ab col dd k0 k1 k2 k3 k5 newId)) (hD : h.get? D = some (excClassObj nm' q' D N' bs' bm' hdct' sn' sub' ab' col' dd' k0' k1' k2' k3' k5' newId')) (he : h.get? e = some oe) (hcls : oe.cls = .ref C)
    (hbase : bm'.contains (.type "BaseException") = true) (hsub : (Value.ref C :: bm).contains (.ref D) = true)
    (hq : Q true ⟨h, g, d, t, os⟩) : wpAny M A (excMatches (.ref e) (.ref D)) Q E ⟨h, g, d, t, os⟩ := by
  have hcB : (Value.ref D :: bm').contains (.type "BaseException") = true := by rw [List.contains_cons, hbase, Bool.or_true]
  have f := tc_notTuple
  unfold excMatches
  repeat (first | (with_reducible refine wpAny_loadPart_at he ?_; rw [hcls]) | with_reducible refine wpAny_loadPart_at hD ?_ | (with_reducible refine wpAny_isSubtype_exc hD ?_; rw [hcB]) | (with_reducible refine wpAny_isSubtype_exc hC ?_; rw [hsub]) | wp_step)
  exact hq
/-- the suite's context: the exception's object stays -/
def asX (X : Cx) (pins : List (Addr × Obj)) (e : Addr) (ob : Obj) : Cx := { X with A := X.A.mark (some (.ref e)), calm := false, pn := X.pn ++ pins ++ [(e, ob)], xe := fun _ _ => False }
section
variable {X : Cx} {pins pins' : List (Addr × Obj)} {σ : St} {H : Hp} {s : Shared} {e : Addr} {ob : Obj}
theorem Inv.intoAs (I : Inv X pins σ H s) (h : s.heap.get? e = some ob ∧ H e = none ∧ e ≠ X.env.locals ∧ e ∉ X.fs ∧ ∀ v, ob.data ≠ .cell v) : Inv (asX X pins e ob) [] σ H s :=
  ⟨⟨I.ok.mod, I.ok.kind, I.ok.glob, I.ok.blt, I.ok.above, I.ok.inj, I.ok.has, I.ok.cab, fun z => (Bool.false_ne_true z).elim, I.ok.frames, I.ok.stk, I.ok.exf, I.ok.bs, I.ok.bsz, I.ok.noex, I.ok.exfs, I.ok.funs, I.ok.frf⟩, I.os, I.bare, I.base, I.loc, I.cell, I.free, I.freeC, fun p hp => by
    have hp' : p ∈ (X.pn ++ pins ++ [(e, ob)]) ++ ([] : List (Addr × Obj)) := hp
    rw [List.append_nil] at hp'
    rcases List.mem_append.mp hp' with z | z
    · exact I.pin p z
    · rw [List.mem_singleton.mp z]; exact h, I.hok, I.len⟩
theorem Inv.outAs (ok : X.Ok) (I : Inv (asX X pins e ob) pins' σ H s) : Inv X pins σ H s :=
  ⟨ok, I.os, I.bare, I.base, I.loc, I.cell, I.free, I.freeC, fun p hp => I.pin p (List.mem_append_left _ (List.mem_append_left _ hp)), I.hok, I.len⟩
/-- isinstance(e, class) in the suite -/
theorem call_isiE {C : Addr} (Z : ExcC X.K C) (hc : ob.cls = .ref C) : CallR (asX X pins e ob) (.builtin "isinstance") (fun xs H Q => ∃ c cv b, xs = [.ref e, c] ∧ (∀ u, RelV c u → u = cv) ∧ PySem.W.kitOne X.K (.ref C) cv = some b ∧ Q (.bl b) H) := by
  intro pins' s σ H xs us Q I r h
  obtain ⟨c, cv, b, rfl, hcv, k, q⟩ := h
  obtain ⟨u, w', rfl, ru, rw'⟩ := vals2 r
  cases hcv _ rw'
  cases (show u = Value.ref e from ru)
  have hp := (I.pin (e, ob) (List.mem_append_left _ (List.mem_append_right _ (List.mem_singleton.mpr rfl)))).1
  exact PySem.W.kia_one (kitxE Z) I.kIn ⟨ob, hp, hc⟩ k (fun z => nomatch z) fun tk => ⟨.bl b, H, I.tok tk, rfl, q⟩
theorem Inv.forget {h' : Heap} {m' : Str → Option Value} {tk : Nat} (I : Inv X pins σ H s) (hn' : h'.Ns X.env.locals m') (hs : Heap.SameBut X.env.locals s.heap h') :
    Inv X pins (List.replicate X.N.length none) H { s with heap := h', toks := tk } := by
  have cne := I.cne
  refine ⟨I.ok, I.os, I.bare, ⟨fun b o e n hb hx => ?_, fun b o e n hb hx => ?_, I.base.free, fun b o e hx => ?_, I.base.tups, I.base.frzs, I.base.tbls⟩, ⟨_, hn', fun j y v' e1 e2 e3 => ?_⟩, fun y c e => ?_, I.free, I.freeC, fun p hp => ?_, fun b ob e => ?_, List.length_replicate⟩
  · exact (hs.2 b (Nat.ne_of_lt (Nat.lt_of_lt_of_le (Heap.lt_size e) I.ok.above))).trans (I.base.keep b o e n hb hx)
  · obtain ⟨sl, e1⟩ := I.base.slot b o e n hb hx
    exact ⟨sl, (hs.2 b (Nat.ne_of_lt (Nat.lt_of_lt_of_le (Heap.lt_size e) I.ok.above))).trans e1⟩
  · obtain ⟨o', e1⟩ := I.base.there b o e hx
    exact ⟨o', (hs.2 b (Nat.ne_of_lt (Nat.lt_of_lt_of_le (Heap.lt_size e) I.ok.above))).trans e1⟩
  · rw [List.getElem?_replicate] at e2
    split at e2 <;> cases e2
  · obtain ⟨w', z⟩ := I.cell y c e
    exact ⟨w', z.sameBut hs (cne y c e)⟩
  · obtain ⟨e, n, ne, nf, d⟩ := I.pin p hp
    exact ⟨(hs.2 p.1 ne).trans e, n, ne, nf, d⟩
  · refine (I.hok b ob e).stay (fun c w' hc q => (hs.2 c ?_).trans q) (fun _ q => q) fun _ _ q => q
    rintro rfl
    rcases hc with rfl | hc
    · rw [I.free] at e; cases e
    · rw [I.free] at hc; cases hc
def tTryAs (C : Addr) (i : Nat) (tb : (Value → St → Hp → Prop) → TS) (th : Addr → TS) : TS := fun D σ H => ∃ J : Value → St → Hp → Prop, tb J D σ H ∧ ∀ cls σ' H', J cls σ' H' → cls = .ref C ∧ ∀ e, th e { nx := fun _ _ => False, rt := D.rt } (σ'.set i (some (.ref e))) H'
/-- try: body, except M as n: a suite that returns; M is over C -/
theorem ps_tryAs {body : List Stmt} {x n : Str} {np hpos pos : Pos} {b0 : Stmt} {suite : List Stmt} {tb : (Value → St → Hp → Prop) → TS} {th : Addr → TS} {C M : Addr} {i : Nat} (W : Own X) (Z : ExcC X.K C) (qM : PySem.W.excIn X.K M bmV "ValueError.__new__" = true) (hsub : PySem.W.mroIn X.K C (.ref M) = some true)
    (hg : Gl X x) (hm : X.mg x = some (.ref M)) (hN : X.N.Nodup) (hi : X.N[i]? = some n) (hl : X.env.kindOf n = some .local) (hx : Loc X.env.scope n) (hf : X.env.scope.names.lookup n = some .local)
    (hb : X.Ok → ∀ pins J, PSs (tryX X pins J) body (tb J)) (hh : ∀ pins e ob, ob.cls = .ref C → PSs (asX X pins e ob) (b0 :: suite) (th e)) (hd : (x == ("__debug__" : Str)) = false := by decide) :
    PS X (.Try body [.ExceptHandler (some (.Name x np)) (some n) (b0 :: suite) hpos] [] [] pos) (tTryAs C i tb th) := by
  intro pins s σ H D I h
  obtain ⟨J, h1, h2⟩ := h
  have ok := I.ok
  refine wpAny_Try_except (wpAny_mono (hb ok pins J [] s σ H D I.intoTry h1) (fun fl s1 g => ?_) (fun v s1 g => ?_))
  · cases fl with
    | next =>
      have g' : SP X pins D .next s1 := SP.outTry ok g
      exact wpAny_execs_nil g'
    | brk => exact SP.outTry (fl := .brk) ok g
    | cont => exact SP.outTry (fl := .cont) ok g
    | ret u => exact SP.outTry (fl := .ret u) ok g
  · obtain ⟨e, cls, a0, σ1, H1, s0, H', B, rfl, j, I1, O, fl⟩ := g
    obtain ⟨rfl, hth⟩ := h2 _ _ _ j
    have fl' : Heap.FlyingW B (X.env :: X.outer) e (.ref C) a0 s1.heap := by rw [← W.stk]; exact fl
    have hfr : X.A.frames = some (X.env :: X.outer) := by rw [← W.stk]; exact ok.frames
    refine wpAny_looks_onW hfr W.fr fl' fun h4 held up4 => ?_
    have O4 := O.step fl.2.2.1 held.1 up4
    refine wpAny_landsW held fun h5 fl5 up5 => ?_
    have O5 := O4.step (by rw [W.stk]; exact held.2.2.1) fl5.1 up5
    have J5 := I1.fly O5
    obtain ⟨ob, hob, hobc⟩ := fl5.there
    refine wpAny_handleBy_cons (codeAny_handlers_test (ld_glob (X := hndX X e) J5.intoHnd hg hm ?_ hd)) (by intro q; cases q)
    obtain ⟨tl, Nn, nm, qn, bs, hdct, sn, sub, ab, col, dd, k0, k1, k2, k3, k5, mN, hC, hN', hni, T⟩ := exc_obj J5.kIn Z.ex
    obtain ⟨tl', Nn', nm', qn', bs', hdct', sn', sub', ab', col', dd', k0', k1', k2', k3', k5', mN', hC', _, _, T'⟩ := exc_obj J5.kIn qM
    have hc2 : (Value.ref C :: tl).contains (.ref M) = true := by
      unfold PySem.W.mroIn at hsub
      obtain ⟨cd, a, b⟩ := Option.bind_eq_some_iff.mp hsub
      unfold PySem.W.clsIn at a
      split at a
      · rename_i c' d' cd' sl' ho
        cases a
        have z := (J5.kIn _ _ ho).symm.trans hC
        injection z with z
        injection z with z1 z2 z3 z4
        injection z3 with z3
        rw [z3] at b
        split at b
        · cases b
        · exact Option.some.inj b
      · cases a
    refine matches_over hC hC' hob hobc (T'.hasType PySem.F.excBase_ValueError.hasBase) hc2 (codeAny_handlers_suite_as ?_)
    refine lands_againW fl5 fun h6 fl6 up6 => ?_
    have O6 := O5.step (by rw [W.stk]; exact fl5.2.2.1) fl6.1 up6
    have J6 := I1.fly O6
    obtain ⟨oe, vs, T1, oT, ts, he6, ⟨hc6, _⟩, hd6, _⟩ := fl6.2.2.2
    have hfrs : e ∉ frs X.stack := fun hm => by
      obtain ⟨_, o, ho, hnf⟩ := (show Heap.FunFrames h6 B X.stack from by rw [W.stk]; exact fl6.2.2.1).mem hm
      rw [he6] at ho
      cases ho
      exact hnf vs hd6
    have hnone : H' e = none := by
      cases hH : H' e with
      | none => rfl
      | some y =>
        have hne : H' e ≠ none := by rw [hH]; exact fun z => by cases z
        have := O6.cov e oe (.inr hne) hfrs he6
        rw [fl6.2.1] at this
        cases this
    rw [W.frs] at hfrs
    have I6 := J6.intoAs (e := e) (ob := oe) ⟨he6, hnone, fun z => hfrs (z ▸ List.mem_cons_self), fun z => hfrs (List.mem_cons_of_mem _ z), fun v z => by rw [hd6] at z; cases z⟩
    refine store_ok (X := asX X pins e oe) (v := .ref e) I6 hN hi hx rfl (fun s7 I7 => ?_) (.inr hf)
    refine wpAny_mono (hh pins e oe hc6 [] s7 _ H' _ I7 (hth e)) (fun f s8 g => ?_) fun _ _ z => z.elim
    cases f with
    | next => obtain ⟨_, _, _, z⟩ := g; exact z.elim
    | brk => obtain ⟨_, _, _, z⟩ := g; exact z.elim
    | cont => obtain ⟨_, _, _, z⟩ := g; exact z.elim
    | ret u =>
      obtain ⟨v, σ', H8, I8, r, q⟩ := g
      have I9 := I8.outAs ok
      obtain ⟨m, hn9, _⟩ := id I9.loc
      refine wpAny_nameGoes hl hn9 (by rw [ok.kind]; rfl) fun h' m' hn' hs => ?_
      exact ⟨v, _, H8, I9.forget hn' hs, r, q⟩
end
end L2

set_option Elab.async false
set_option linter.all false
set_option maxRecDepth 100000
set_option maxHeartbeats 4000000
namespace L2
open PySem PySem.Spec PyProof.Rows
section
variable {P : Program} {w : World} {K : PySem.W.Frag} {mg : Str → Option Value} {base : Heap}
/-- THE RULE for a def that may raise -/
theorem Fun.okR {x qual : Str} {st : Stmt} {f : Addr} {fd : FuncData} {N ps : List Str} {k : Nat} {sp : Sp} (F : Fun K x qual st f fd) (S : FnScope N ps (defScope st)) (len : ∀ vs H Q E, sp vs H Q E → vs.length = ps.length)
    (hbody : ∀ (cdv : Value) (A : Around) (outer : List Env) (s : Shared) (H : Hp) (vs : List V) (Q : VK) (E : XK), Room k (A.deeper (envOfC qual (defScope st) s.heap.objs.size f cdv)) → sp vs H Q E →
      ∃ t, PSs (cxOf (CXR P w) P w K mg base N qual (defScope st) f cdv A outer s H E) (defBody st) t ∧ t { nx := fun _ H' => Q .non H', rt := Q } (start N vs) H) : FnOk P w K mg base (CXR P w) (k + 1) f fd ps sp := by
  obtain ⟨oc, od, kV, doc, pm, an, cdv, ct, osl, rfl, lk, hcd⟩ := F.ex
  refine fn_of lk hcd S len fun A outer s H vs Q E hr hsp => ?_
  obtain ⟨t, h, q⟩ := hbody cdv A outer s H vs Q E hr hsp
  exact ⟨t, h, q⟩
end
/-- a statement that raises nothing, under any wish -/
theorem PS.nox' {X : Cx} {st : Stmt} {t : TS} (h : PS X.nox st t) : PS X st t := by
  intro pins s σ H D I g
  refine wpAny_mono (h pins s σ H D (I.wish _) g) (fun f s' q => SP.unwish q) fun _ _ z => z.elim
end L2

set_option Elab.async false
set_option linter.all false
set_option maxRecDepth 100000
set_option maxHeartbeats 4000000
namespace L2
open PySem PySem.Spec PyProof.Rows
/-! ### an exception that leaves a comprehension -/
theorem noteFrame_eq {v : Value} {env env' : Env} (h : env'.frame = env.frame) : noteFrame v env' = noteFrame v env := by
  unfold noteFrame PySem.frameOf
  rw [h]
/-- frames that are not C stay frames -/
theorem frames_but {B g g' : Heap} {C : Addr} (sb : ∀ b, b ≠ C → g'.get? b = g.get? b) : ∀ {l : List Env}, g.FunFrames B l → (∀ env ∈ l, env.frame ≠ some C) → g'.FunFrames B l
  | [], _, _ => True.intro
  | env :: r, z, hn => by
    obtain ⟨z1, ⟨L, o, z2, z3, z4, z5⟩, z6⟩ := z
    refine ⟨z1, ⟨L, o, z2, z3, ?_, z5⟩, frames_but sb z6 fun e he => hn e (List.mem_cons_of_mem _ he)⟩
    rw [sb L (fun q => hn env (List.mem_cons_self ..) (by rw [← q]; exact z2))]
    exact z4
/-- the state without what stands at C, where nobody else looks -/
theorem Ovr.but {P : Program} {w : World} {st : List Env} {H : Hp} {s : Shared} {H' : Hp} {B : Heap} {s' : Shared} {h1 : Heap} {C : Addr} (O : Ovr P w st H s H' B s') (sb : ∀ b, b ≠ C → h1.get? b = s'.heap.get? b)
    (hs : s.heap.get? C = none) (hH : H' C = none) : Ovr P w st H s H' (PySem.W.hideAll B [C]) { s' with heap := h1 } := by
  have ne1 : ∀ {b : Addr} {o : Obj}, s.heap.get? b = some o → b ≠ C := fun {b o} e z => by rw [z, hs] at e; cases e
  have ne2 : ∀ {b : Addr}, H' b ≠ none → b ≠ C := fun {b} e z => e (by rw [z]; exact hH)
  refine ⟨O.os, O.bare, ⟨fun b o q n hb hx => (sb b (ne1 q)).trans (O.un.keep b o q n hb hx), fun b o q n hb hx => ?_, O.un.free, fun b o q hx => ?_, O.un.tups, O.un.frzs, O.un.tbls⟩, fun a o e => ?_, fun b o q => ?_, O.frf, fun b o h hb e => ?_⟩
  · obtain ⟨sl, e⟩ := O.un.slot b o q n hb hx
    exact ⟨sl, (sb b (ne1 q)).trans e⟩
  · obtain ⟨o', e⟩ := O.un.there b o q hx
    exact ⟨o', (sb b (ne1 q)).trans e⟩
  · refine (O.hok a o e).stay (fun b u hb q => ?_) (fun b q => q) (fun b xs q => q)
    have hb' : H' b ≠ none := by
      rcases hb with z | z
      · rw [z, e]; exact fun z => by cases z
      · rw [z]; exact fun z => by cases z
    exact (sb b (ne2 hb')).trans q
  · have hne : b ≠ C := fun z => by
      rw [z, PySem.W.hideAll_none _ (List.mem_singleton.mpr rfl)] at q
      cases q
    exact (sb b hne).trans (O.stays b o (PySem.W.of_hideAll _ q))
  · have hne : b ≠ C := by
      rcases h with ⟨o', q⟩ | q
      · exact ne1 q
      · exact ne2 q
    have e' : s'.heap.get? b = some o := (sb b hne).symm.trans e
    exact PySem.W.hideAll_get _ (O.cov b o h hb e') fun z => hne (List.mem_singleton.mp z)
section
variable {M : Model} {A : Around} {E : Value → Shared → Prop} {s : Shared} {B : Heap} {e : Addr} {cls a0 fl : Value}
/-- its flight set anew -/
theorem flight_any {l : List Env} {fr : Option Addr} {Q : Unit → Shared → Prop} (k1 : B.StaysIn s.heap) (k2 : s.heap.FunFrames B l) (k3 : s.heap.TracedAtW B e cls a0 fl)
    (h : ∀ g, B.StaysIn g → g.FunFrames B l → g.TracedAtW B e cls a0 (fr.elim .none fun f => rawInt f) → s.heap.UpToSlots g → Q () { s with heap := g }) : wpAny M A (setFlight (.ref e) fr) Q E s := by
  obtain ⟨x, xs, T, y, ys, t1, t2, t3, t4, t5, t6, t7, t8, t9⟩ := k3
  have l3 : 3 < ys.size := (Array.getElem?_eq_some_iff.mp t9).1
  have off : ∀ b, b ≠ T → (s.heap.update T (Obj.mapFields (·.setIfInBounds 3 (fr.elim Value.none fun f => rawInt f)))).get? b = s.heap.get? b := fun b hb => Heap.get?_update_other _ _ hb.symm
  have nT : ∀ b o, s.heap.get? b = some o → (∀ vs, o.data ≠ .fields vs) → b ≠ T := fun b o q hn z => by
    rw [z, t7] at q
    cases q
    exact hn ys t8
  unfold setFlight
  refine wpAny_bind (wpAny_field t1 t3 t4 ?_)
  rw [if_pos (by simp : (Value.ref T != Value.none) = true)]
  refine wpAny_setField t7 t8 l3 (h _ (fun b o q => ?_) (k2.of_keeps fun b o q hn => ⟨o, (off b (nT b o q hn)).trans q, rfl⟩) ?_ fun b o q hn => ⟨o.slots, (off b (nT b o q hn)).trans q⟩)
  · exact (off b fun z => by rw [z, t5] at q; cases q).trans (k1 b o q)
  · exact ⟨x, xs, T, _, _, (off e t6.symm).trans t1, t2, t3, t4, t5, t6, Heap.get?_update_self _ t7 (Obj.isFreed_of_fields (Obj.data_mapFields t8 _)), Obj.data_mapFields t8 _, by simp [l3]⟩
/-- it leaves the def, whatever its flight -/
theorem leaves_any {env : Env} {outer : List Env} {L : Addr} {Q : Unit → Shared → Prop} (hA : A.frames = some (env :: outer)) (hL : env.frame = some L) (k0 : B.get? e = none) (k1 : B.StaysIn s.heap) (k2 : s.heap.FunFrames B (env :: outer))
    (k3 : s.heap.TracedAtW B e cls a0 fl) (h : ∀ g, Heap.FlyingW B outer e cls a0 g → s.heap.UpToSlots g → Q () { s with heap := g }) : wpAny M A (leaving env (.ref e)) Q E s := by
  by_cases c : fl = rawInt L
  · subst c
    unfold leaving
    refine wpAny_bind (wpAny_noteFrame_againW hL k3 (wpAny_landsW (L := L) ⟨k1, k0, k2, k3⟩ fun g x up => ?_))
    obtain ⟨x1, x2, ⟨_, _, x3⟩, x4⟩ := x
    exact h g ⟨x1, x2, x3, x4⟩ up
  · obtain ⟨x, xs, T, y, ys, t1, ⟨t2, t2'⟩, t3, t4, t5, t6, t7, t8, t9⟩ := k3
    subst t2
    have nT : ∀ b o, s.heap.get? b = some o → (∀ vs, o.data ≠ .fields vs) → b ≠ T := fun b o q hn z => by
      rw [z, t7] at q
      cases q
      exact hn ys t8
    have off : ∀ b, b ≠ T → (s.heap.update T (Obj.mapFields (·.setIfInBounds 3 Value.none))).get? b = s.heap.get? b := fun b hb => Heap.get?_update_other _ _ hb.symm
    unfold leaving noteFrame
    simp only [hL]
    refine wpAny_bind (wpAny_bind (wpAny_field t1 t3 t4 ?_))
    rw [if_pos (by simp : (Value.ref T != Value.none) = true)]
    refine wpAny_bind (wpAny_field t7 t8 t9 ?_)
    rw [if_neg (by simpa using c)]
    refine wpAny_bind (wpAny_setField t7 t8 (Array.getElem?_eq_some_iff.mp t9).1 ?_)
    refine wpAny_newEntryW hA (k2.of_keeps fun b o q hn => ⟨o, (off b (nT b o q hn)).trans q, rfl⟩) hL ((off e t6.symm).trans t1) (fun b o q => (off b fun z => by rw [z, t5] at q; cases q).trans (k1 b o q)) k0 t3
      (Array.getElem?_eq_some_iff.mp t4).1 t2' fun g ⟨x1, ⟨_, _, x2⟩, x3, x4⟩ => ?_
    exact h g ⟨x1, k0, x2, x3⟩ fun b o q hn => x4 b o ((off b (nT b o q hn)).trans q) hn
end
/-- an exception seen in a comprehension's block -/
def flyB (Y : Cx) (E : XK) : Value → Shared → Prop := fun v s' => ∃ (pins : List (Addr × Obj)) (σ : St) (H : Hp) (s : Shared) (e : Addr) (cls a0 : Value) (H' : Hp) (B : Heap), v = .ref e ∧ E cls none H' ∧ Inv Y pins σ H s ∧ Ovr Y.prog Y.w Y.stack H s H' B s' ∧ Heap.FlyingW B Y.stack e cls a0 s'.heap
theorem pass_blk {Y : Cx} {E : XK} : Passes (CXR Y.prog Y.w) (Y.wish (flyB Y E)) E := by
  intro pins σ H s v s' I h
  obtain ⟨e, cls, a0, H', B, rfl, he, O, fl⟩ := h
  exact ⟨pins, σ, H, s, e, cls, a0, H', B, rfl, he, I.unwish, O, fl⟩
theorem comp_loopX {prog : Program} {w : World} {A : Around} {R : Result → Shared → Prop} {s : Shared} {elt target iter : Expr} {ifs : List Expr} {scope : Scope} {pos : Pos} {it acc : Value} {env : Env} {W : Value → Shared → Prop} (I : Nat → Shared → Prop)
    (hW : ∀ v s', W v s' → notedBy (model prog w) A env (fun x s'' => R (.error x) s'') v s')
    (turn : ∀ n s, I n s → wpAny (model prog w) A (pyNext it) (fun r s₁ => match r with
      | none => R (.ok .next) s₁
      | some v => wpAny (model prog w) A (letOwnedTupleGo target it v) (fun _ s₁' => wpAny (model prog w) A (assign target env v) (fun _ s₂ =>
          wpAny (model prog w) A (forIn ifs true fun c r => if r = true then do let ok ← isTrue c env (eval c env); pure (ForInStep.yield ok) else pure (ForInStep.yield r)) (fun ok s₃ =>
            if ok = true then wpAny (model prog w) A (eval elt env) (fun x s₄ =>
              wpAny (model prog w) A (call (.builtin "list.append") [acc, x]) (fun _ s₅ => ∃ m, m < n ∧ I m s₅) (fun _ _ => False) s₄) W s₃
            else ∃ m, m < n ∧ I m s₃) (fun _ _ => False) s₂) (fun _ _ => False) s₁') (fun _ _ => False) s₁) (fun _ _ => False) s)
    (n : Nat) (h : I n s) :
    codeAny (model prog w) A (.compLoop (.ListComp elt [⟨target, iter, ifs, 0⟩] scope pos) 0 it acc env) R s := by
  refine codeAny_loop rfl I (fun n s hI => ?_) n h
  show wpAny _ A ((compTurn (.ListComp elt [⟨target, iter, ifs, 0⟩] scope pos) 0 it acc env).onRaise (fun x => do noteFrame x env; theTreesLotGoes x)) _ _ s
  refine wpAny_noted ?_
  rw [compTurn_list]
  refine wpAny_bind (wpAny_standAt (wpAny_bind (wpAny_mono (turn n s hI) (fun r s₁ h₁ => ?_) fun _ _ h' => h'.elim)))
  cases r with
  | none => exact wpAny_pure h₁
  | some v =>
    refine wpAny_bind (wpAny_mono h₁ (fun _ s₁' h₁' => ?_) fun _ _ h' => h'.elim)
    refine wpAny_bind (wpAny_mono h₁' (fun _ s₂ h₂ => wpAny_bind (wpAny_mono h₂ (fun ok s₃ h₃ => ?_) fun _ _ h' => h'.elim)) fun _ _ h' => h'.elim)
    cases ok with
    | false => exact wpAny_pure ⟨rfl, h₃⟩
    | true =>
      exact wpAny_bind (wpAny_bind (wpAny_mono h₃ (fun x s₄ h₄ => wpAny_bind (wpAny_mono h₄ (fun _ s₅ h₅ => wpAny_pure (wpAny_pure ⟨rfl, h₅⟩)) fun _ _ h' => h'.elim)) hW))
section
variable {X : Cx} {sc : Scope} {cl : List (Str × Addr)} {N : List Str} {fr : List Nat} {x : Str} {px pos : Pos} {elt iter : Expr} {ifs : List Expr} {wi : TI} {tif : TT} {te : TE} {E : XK}
/-- what an exception of the block becomes -/
theorem blk_out {pins : List (Addr × Obj)} {σ : St} {H3 : Hp} {s3 : Shared} {fp : List Addr} {use : Option (Value → Sem Unit)} {Q : Value → Shared → Prop} {acc : Value} {v : Value} {s2 : Shared} (W : Own X)
    (hxe : ∀ v s', wpAny (model X.prog X.w) X.A (leaving X.env v) (fun _ s'' => CXR X.prog X.w X.outer X.H₀ X.s₀ E v s'') (fun e' s'' => CXR X.prog X.w X.outer X.H₀ X.s₀ E e' s'') s' → X.xe v s')
    (I3 : Inv X pins σ H3 s3) (f3 : ∀ b ∈ fp, FpOk X pins H3 b) (hw : flyB (blk X sc cl N s3.heap.objs.size s3 H3 fp pins) E v s2) :
    notedBy (model X.prog X.w) X.A (compEnvC sc cl s3.heap.objs.size X.env) (fun x s'' => compPost (model X.prog X.w) X.A X.xe use Q acc s3.heap.objs.size (.error x) s'') v s2 := by
  have frA : X.A.frames = some (X.env :: X.outer) := by rw [← W.stk]; exact I3.ok.frames
  obtain ⟨pl, σ1, H1, s1, e, cls, a0, H', B, rfl, he, Jb, O, fl⟩ := hw
  have J0 : Inv (blk X sc cl N s3.heap.objs.size s3 H3 fp pins) [] σ1 H1 s1 := Inv.unpinned (pins := []) (pl := pl) Jb
  have I1 : Inv X pins σ H1 s1 := blk_end I3 f3 J0
  have O' : Ovr X.prog X.w X.stack H1 s1 H' B s2 := O
  have fl' : Heap.FlyingW B (X.env :: X.outer) e cls a0 s2.heap := by rw [← W.stk]; exact fl
  show wpAny _ _ (noteFrame (.ref e) (compEnvC sc cl s3.heap.objs.size X.env)) _ _ _
  rw [noteFrame_eq (env := X.env) (env' := compEnvC sc cl s3.heap.objs.size X.env) rfl]
  refine wpAny_looks_onW frA W.fr fl' fun h4 held up4 => ?_
  have O4 : Ovr X.prog X.w X.stack H1 s1 H' B { s2 with heap := h4 } := O'.step (by rw [W.stk]; exact fl'.2.2.1) held.1 up4
  have J4 : Inv (blk X sc cl N s3.heap.objs.size s3 H3 fp pins) [] σ1 H' { s2 with heap := h4 } := J0.fly O4
  obtain ⟨m, hm, _⟩ := J4.loc
  have hm' : h4.Ns s3.heap.objs.size m := hm
  have OX := I1.up W O4
  have nC : H' s3.heap.objs.size = none := J4.free
  have sC : X.s₀.heap.get? s3.heap.objs.size = none := by
    cases q : X.s₀.heap.get? s3.heap.objs.size with
    | none => rfl
    | some o => exact absurd (Heap.lt_size q) (Nat.not_lt.mpr I3.sz)
  have goal : ∃ m, h4.Ns s3.heap.objs.size m ∧ ∀ h', Heap.SameBut s3.heap.objs.size h4 h' → ∀ cenv : Env, cenv.locals = s3.heap.objs.size →
      wpAny (model X.prog X.w) X.A (PySem.passOn "comprehension.variables-let-go" (.ref e) cenv : Sem Value) (fun _ _ => False) X.xe { s2 with heap := h' } := by
    refine ⟨m, hm', fun h5 sb cenv _ => ?_⟩
    have sb' : ∀ b, b ≠ s3.heap.objs.size → h5.get? b = h4.get? b := fun b hb => sb.2 b hb
    have O5 : Ovr X.prog X.w X.outer X.H₀ X.s₀ H' (PySem.W.hideAll B [s3.heap.objs.size]) { s2 with heap := h5 } := OX.but sb' sC nC
    obtain ⟨c1, c2, c3, c4⟩ := held
    have bN : ∀ {b : Addr}, B.get? b = none → (PySem.W.hideAll B [s3.heap.objs.size]).get? b = none := fun {b} q => by
      cases z : (PySem.W.hideAll B [s3.heap.objs.size]).get? b with
      | none => rfl
      | some o => rw [PySem.W.of_hideAll _ z] at q; cases q
    have k2 : h5.FunFrames (PySem.W.hideAll B [s3.heap.objs.size]) (X.env :: X.outer) := by
      refine frames_but sb' (PySem.W.funFrames_base (fun b o q => PySem.W.of_hideAll _ q) c3) fun env hv q => ?_
      have hb : s3.heap.objs.size ∈ frs X.stack := by rw [W.stk]; exact List.mem_filterMap.mpr ⟨env, hv, q⟩
      rw [W.frs] at hb
      rcases List.mem_cons.mp hb with z | z
      · exact absurd I3.lt (by rw [← z]; exact Nat.lt_irrefl _)
      · exact I3.nofs (Nat.le_refl _) z
    have notC : ∀ {b : Addr} {o : Obj} {vs : Array Value}, h4.get? b = some o → o.data = .fields vs → b ≠ s3.heap.objs.size := fun {b o vs} q d z => by
      obtain ⟨oc, es, ep, ho, hd, _⟩ := hm'
      rw [z, ho] at q
      cases q
      rw [hd] at d
      cases d
    have k3 : h5.TracedAtW (PySem.W.hideAll B [s3.heap.objs.size]) e cls a0 (rawInt X.env.locals) := by
      obtain ⟨x, xs, T, y, ys, t1, t2, t3, t4, t5, t6, t7, t8, t9⟩ := c4
      exact ⟨x, xs, T, y, ys, (sb' e (notC t1 t3)).trans t1, t2, t3, t4, bN t5, t6, (sb' T (notC t7 t8)).trans t7, t8, t9⟩
    unfold PySem.passOn
    obtain ⟨x, xs, T, y, ys, t1, t2, t3, t4, _⟩ := id k3
    refine wpAny_bind (wpAny_field t1 t3 t4 ?_)
    rw [if_neg (by simp : ¬ ((Value.ref T == Value.none) = true))]
    refine wpAny_bind (flight_any O5.stays k2 k3 fun h6 g1 g2 g3 up6 => ?_)
    have O6 : Ovr X.prog X.w X.outer X.H₀ X.s₀ H' (PySem.W.hideAll B [s3.heap.objs.size]) { s2 with heap := h6 } := O5.step k2.2.2 g1 up6
    refine wpAny_throw (hxe _ _ (leaves_any frA W.fr (bN c2) g1 g2 g3 fun h7 fl7 up7 => ?_))
    exact ⟨e, cls, a0, H', _, rfl, he, O6.step g2.2.2 fl7.1 up7, fl7⟩
  cases use <;> exact goal
end
end L2

set_option Elab.async false
set_option linter.all false
set_option maxRecDepth 100000
set_option maxHeartbeats 4000000
namespace L2
open PySem PySem.Spec PyProof.Rows
section
variable {X : Cx} {sc : Scope} {cl : List (Str × Addr)} {N : List Str} {fr : List Nat} {x : Str} {px pos : Pos} {elt iter : Expr} {ifs : List Expr} {wi : TI} {tif : TT} {te : TE} {E : XK}
theorem comp_coreX {use : Option (Value → Sem Unit)} {ppos : Pos} {Q : Value → Shared → Prop} {pins : List (Addr × Obj)} {s : Shared} {σ : St} {H : Hp} {QV : VK} (W : Own X)
    (hxe : ∀ v s', wpAny (model X.prog X.w) X.A (leaving X.env v) (fun _ s'' => CXR X.prog X.w X.outer X.H₀ X.s₀ E v s'') (fun e' s'' => CXR X.prog X.w X.outer X.H₀ X.s₀ E e' s'') s' → X.xe v s') (hc : X.calm = true) (L : LcOk X sc cl N fr x) (hi : PI X (.Name x px) iter wi)
    (ht : ∀ C s₀ H₀ fp pins, PIfs (blk X sc cl N C s₀ H₀ fp pins) ifs tif) (he : ∀ C s₀ H₀ fp pins, PE ((blk X sc cl N C s₀ H₀ fp pins).wish (flyB (blk X sc cl N C s₀ H₀ fp pins) E)) elt te)
    (I : Inv X pins σ H s) (h : tLC fr wi tif te σ H QV)
    (fin : ∀ (D C : Addr) (H' : Hp) (s' : Shared) (m : Str → Option Value), Inv X pins σ H' s' → QV (.ref D) H' → s'.heap.Ns C m → FpOk X pins H' C → compPost (model X.prog X.w) X.A X.xe use Q (.ref D) C (.ok .next) s')
    (hs : ∀ x, foldedSetIterable iter X.env x = pure x) :
    wpAny (model X.prog X.w) X.A (comprehension (.ListComp elt [⟨.Name x px, iter, ifs, 0⟩] sc pos) sc X.env ppos (newList []) false (eval iter X.env) use) Q X.xe s := by
  refine wpAny_comprehension_free rfl hs L.clos L.kind L.names (thn (hi pins s σ H _ I h) fun v s1 h1 => thn h1 fun itv s2 h2 => ?_)
  obtain ⟨it, fp, tn, J, H2, e, I2, T, st2, f2, h⟩ := h2
  subst e
  obtain ⟨Wv, ⟨m0, w0⟩, turn⟩ := h s2.heap.objs.size I2.fresh
  have I3 : Inv X pins σ (upd H2 s2.heap.objs.size (.lst [])) { s2 with heap := s2.heap.push { cls := .type "list", data := .seq ([] : List Value).toArray } } := I2.lnew (its := []) (t' := s2.toks) .nil (Nat.zero_le _)
  refine wpAny_newObj_type (wpAny_newFunctionEnv L.nocell (by intro y hy; simp at hy) (fun h₁ hns₁ hsb₁ => ?_) L.kind)
  dsimp only at hns₁ hsb₁ ⊢
  have th2 : ∀ b ∈ fp, ∃ o, s2.heap.get? b = some o := fun b hb => let ⟨o, ho, _⟩ := T.obj _ _ st2 b hb; ⟨o, ho⟩
  have ne2 : ∀ b ∈ fp, b ≠ s2.heap.objs.size := fun b hb => let ⟨o, ho⟩ := th2 b hb; Nat.ne_of_lt (Heap.lt_size ho)
  have f3 : ∀ b ∈ fp, FpOk X pins (upd H2 s2.heap.objs.size (.lst [])) b := fun b hb => ⟨by rw [upd_ne (ne2 b hb)]; exact (f2 b hb).1, (f2 b hb).2⟩
  have th3 : ∀ b ∈ fp, ∃ o, (s2.heap.push { cls := .type "list", data := .seq ([] : List Value).toArray }).get? b = some o := fun b hb => let ⟨o, ho⟩ := th2 b hb; ⟨o, Heap.get?_push_of_some _ ho⟩
  have hk : ∀ b o, (s2.heap.push { cls := .type "list", data := .seq ([] : List Value).toArray }).get? b = some o → h₁.get? b = some o := fun b o e =>
    hsb₁.extBut b o (Nat.ne_of_lt (Heap.lt_size e)) (Heap.get?_push_of_some _ e)
  generalize hS3 : ({ s2 with heap := s2.heap.push { cls := .type "list", data := .seq ([] : List Value).toArray } } : Shared) = s3 at I3
  have eh : s2.heap.push { cls := .type "list", data := .seq ([] : List Value).toArray } = s3.heap := by rw [← hS3]
  rw [eh] at hk th3 hns₁
  generalize hH3 : upd H2 s2.heap.objs.size (HO.lst []) = H3 at I3 f3 w0
  have st1 : tn 0 h₁ := T.keep _ _ _ st2 fun b hb o e => hk b o (by rw [← eh]; exact Heap.get?_push_of_some _ e)
  have hS4 : ∀ tk, ({ s2 with heap := h₁, toks := tk } : Shared) = { s3 with heap := h₁, toks := tk } := fun tk => by rw [← hS3]
  -- the loop, at any count of tokens
  have loop : ∀ tk, codeAny (model X.prog X.w) X.A (.compLoop (.ListComp elt [⟨.Name x px, iter, ifs, 0⟩] sc pos) 0 (.ref it) (.ref s2.heap.objs.size) (compEnvC sc cl s3.heap.objs.size X.env))
      (compPost (model X.prog X.w) X.A X.xe use Q (.ref s2.heap.objs.size) s3.heap.objs.size) { s3 with heap := h₁, toks := tk } := fun tk => by
    have I4 := blk_start (tk := tk) I3 L f3 th3 hns₁ hk
    generalize hY : blk X sc cl N s3.heap.objs.size s3 H3 fp pins = Y at I4
    have hYe : Y.env = compEnvC sc cl s3.heap.objs.size X.env := by rw [← hY]; rfl
    have hYp : Y.prog = X.prog := by rw [← hY]; rfl
    have hYw : Y.w = X.w := by rw [← hY]; rfl
    have hYK : Y.K = X.K := by rw [← hY]; rfl
    have hYA : Y.A = X.A := by rw [← hY]; rfl
    have hYc : Y.calm = true := by rw [← hY]; exact hc
    have hYx : Y.xe = fun _ _ => False := by rw [← hY]; rfl
    have hYl : Y.env.locals = s3.heap.objs.size := by rw [hYe]; rfl
    have het : PE (Y.wish (flyB Y E)) elt te := by rw [← hY]; exact he _ _ _ _ _
    have out : ∀ v s', flyB Y E v s' → notedBy (model X.prog X.w) X.A Y.env (fun x s'' => compPost (model X.prog X.w) X.A X.xe use Q (.ref s2.heap.objs.size) s3.heap.objs.size (.error x) s'') v s' := by
      rw [← hY]
      exact fun v s' hw => blk_out W hxe I3 f3 hw
    have htt : PIfs Y ifs tif := by rw [← hY]; exact ht _ _ _ _ _
    have hgt : PG Y (.Name x px) (gName 0) := by
      refine pg_name (by rw [← hY]; exact L.nd) (by rw [← hY]; exact L.fst) ?_ (.inr ?_)
      · rw [hYe]; exact .inl (lookup_relabel_local L.own)
      · rw [hYe]; exact lookup_relabel_local L.own
    have stat : ∀ {H' : Hp}, (∀ b ∈ fp, H' b = none) → ∀ b ∈ fp, FpOk Y [] H' b := fun {H'} hn b hb => by
      obtain ⟨f0, f1, f2', f3', f4, f5⟩ := f3 b hb
      obtain ⟨o, ho⟩ := th3 b hb
      refine ⟨hn b hb, by rw [hYl]; exact Nat.ne_of_lt (Heap.lt_size ho), fun z => ?_, .inl (by rw [← hY]; exact hb), fun y c e => ?_, fun p hp => ?_⟩
      · have z' : b ∈ frs X.stack := by rw [← hY] at z; exact z
        rcases List.mem_cons.mp (I3.stkSub b z') with q | q
        · exact f1 q
        · exact f2' q
      · have e' : cl.lookup y = some c := by rw [hYe] at e; exact e
        exact f4 y c (L.sub y c e')
      · have hp' : p ∈ (X.pn ++ pins) ++ ([] : List (Addr × Obj)) := by rw [← hY] at hp; exact hp
        rw [List.append_nil] at hp'
        exact f5 p hp'
    have TY : Turn Y.prog Y.w Y.K (.Name x px) J fp it tn := by rw [hYp, hYw, hYK]; exact T
    rw [← hYe, ← hYp, ← hYw, ← hYA]
    refine comp_loopX (W := flyB Y E) (fun n s' => ∃ i H', Inv Y [] (st0 fr σ) H' s' ∧ tn i s'.heap ∧ (∀ b ∈ fp, H' b = none) ∧ Wv i n H') ?_ ?_ m0 ⟨0, H3, I4, st1, fun b hb => (f3 b hb).1, w0⟩
    · rw [hYp, hYw, hYA]; exact out
    rintro n s5 ⟨i, H5, I5, st5, fr5, w5⟩
    rcases turn i n H5 w5 with ⟨stop, qn⟩ | ⟨go, Nx, hN, step⟩
    · refine thn (TY.done Y rfl rfl rfl hYc i [] s5 (st0 fr σ) H5 _ I5 (stat fr5) st5 stop) fun r s6 ⟨hr, I6⟩ => ?_
      subst hr
      have I6' : Inv X pins σ H5 s6 := blk_end I3 f3 (by rw [hY]; exact I6)
      obtain ⟨mm, hmm, _⟩ := I6.loc
      rw [hYl] at hmm
      have fC : FpOk X pins H5 s3.heap.objs.size := by
        have := I3.fpOk (H' := H5) (Nat.le_refl _) (by have := I6.free; rw [hYl] at this; exact this)
        exact this
      have q := fin s2.heap.objs.size s3.heap.objs.size H5 s6 mm I6' qn hmm fC
      rw [hYp, hYw, hYA]
      exact q
    · refine thn (TY.item Y rfl rfl rfl hYc i [] s5 (st0 fr σ) H5 _ I5 (stat fr5) st5 go) fun r s6 ⟨u, hr, h6⟩ => ?_
      subst hr
      refine thn h6 fun _ s7 ⟨xv, H7, I7, r7, y7, st7, fr7⟩ => ?_
      have I7' := I7.pinned (stat fr7) (T.obj _ _ st7)
      have step' := step xv H7 y7
      have again : ∀ {σ8 : St} {H8 : Hp} {s8 : Shared}, Inv Y ([] ++ pinsAt fp s7.heap) σ8 H8 s8 → σ8 = (st0 fr σ).set 0 (some xv) → Nx H8 → ∃ m, m < n ∧ ∃ i H', Inv Y [] (st0 fr σ) H' s8 ∧ tn i s8.heap ∧ (∀ b ∈ fp, H' b = none) ∧ Wv i m H' := fun {σ8 H8 s8} I8 e8 n8 => by
        obtain ⟨m', hm, w8⟩ := hN H8 n8
        subst e8
        refine ⟨m', hm, i + 1, H8, I8.unpinned.weak (by simp) (fun k v e => ?_), T.keep _ _ _ st7 fun b hb o e => (I8.pin (b, o) (List.mem_append_right _ (List.mem_append_right _ (mem_pinsAt hb e)))).1, fun b hb => ?_, w8⟩
        · cases k with
          | zero => exact absurd e (by simp [st0])
          | succ k => rw [List.getElem?_set_ne (by omega)]; exact e
        · obtain ⟨o, e, d⟩ := T.obj _ _ st7 b hb
          exact (I8.pin (b, o) (List.mem_append_right _ (List.mem_append_right _ (mem_pinsAt hb e)))).2.1
      have a1 := hgt _ s7 (st0 fr σ) H7 xv u (fun σ' H' => σ' = (st0 fr σ).set 0 (some xv) ∧ H' = H7) I7' r7 ⟨rfl, rfl⟩
      rw [hYx] at a1
      refine thn a1 fun _ s8 ⟨σ8, H8, I8, e8, e8'⟩ => ?_
      subst e8 e8'
      have a2 := htt _ s8 _ H8 _ I8 step'
      rw [hYx] at a2
      refine thn a2 fun ok s9 ⟨H9, I9, q9⟩ => ?_
      cases ok with
      | false =>
        rw [if_neg Bool.false_ne_true] at q9 ⊢
        exact again I9 rfl q9
      | true =>
        rw [if_pos rfl] at q9 ⊢
        have a3 := het _ s9 _ H9 _ (I9.wish _) q9
        refine thn a3 fun y s10 ⟨vv, H10, I10', r10, xs, hD, hz, n10⟩ => ?_
        have I10 := I10'.unwish
        have a4 := mt_append (X := Y) _ s10 _ H10 (.ref s2.heap.objs.size) [vv] (.ref s2.heap.objs.size) [y] (fun _ H' => Nx H') I10 rfl (.cons r10 .nil) ⟨_, xs, vv, rfl, rfl, hD, hz, n10⟩
        rw [hYx] at a4
        refine thn a4 fun _ s11 ⟨_, H11, I11, _, n11⟩ => ?_
        exact again I11 rfl n11
  have e0 : ∀ tk, ({ s2 with heap := h₁, toks := tk } : Shared) = { s3 with heap := h₁, toks := tk } := hS4
  have e1 : (s2.heap.push { cls := .type "list", dict := none, data := .seq ([] : List Value).toArray }).objs.size = s3.heap.objs.size := by rw [← hS3]
  have key := codeAny_compStart_list (loop (s2.toks + ([] : List (Str × Value)).length)) (T.self X.A 0 _ _ _ st1 (loop _))
  rw [← e0] at key
  revert key
  rw [← hS3]
  exact fun key => key
/-- [elt for x in iter if ..] as a value, where elt may raise -/
theorem pe_lcX (W : Own X)
    (hxe : ∀ v s', wpAny (model X.prog X.w) X.A (leaving X.env v) (fun _ s'' => CXR X.prog X.w X.outer X.H₀ X.s₀ E v s'') (fun e' s'' => CXR X.prog X.w X.outer X.H₀ X.s₀ E e' s'') s' → X.xe v s') (hc : X.calm = true) (L : LcOk X sc cl N fr x) (hi : PI X (.Name x px) iter wi)
    (ht : ∀ C s₀ H₀ fp pins, PIfs (blk X sc cl N C s₀ H₀ fp pins) ifs tif) (he : ∀ C s₀ H₀ fp pins, PE ((blk X sc cl N C s₀ H₀ fp pins).wish (flyB (blk X sc cl N C s₀ H₀ fp pins) E)) elt te)
    (hs : ∀ x, foldedSetIterable iter X.env x = pure x := by intro _; rfl) : PE X (.ListComp elt [⟨.Name x px, iter, ifs, 0⟩] sc pos) (tLC fr wi tif te) := by
  intro pins s σ H Q I h
  rw [eval_ListComp]
  refine comp_coreX (use := none) W hxe hc L hi ht he I h (fun D C H' s' m I' q hn f => ?_) hs
  refine ⟨m, hn, fun h' sb => ?_⟩
  obtain ⟨f0, f1, f2, f3, f4, f5⟩ := f
  exact ⟨.ref D, H', I'.turned (t' := s'.toks) (fun b o hb e => (sb.2 b hb).trans e) f0 (Ne.symm (Ne.symm f1)) f3 f4 f5, rfl, q⟩
end
end L2

namespace Rm
open PySem L2
def top (i : Nat) : Stmt := PySem.Challenge.pw_rowmend_k12_notes_that_write_nothing.main.body.getD i (.Pass ⟨0, 0, 0, 0⟩)
abbrev s_tidied : Stmt := top 1
abbrev s_is_empty : Stmt := top 2
abbrev s_united : Stmt := top 3
abbrev s_shown : Stmt := top 10
abbrev s_read : Stmt := top 11
abbrev s_refuse_order : Stmt := top 12
abbrev s_part_of : Stmt := top 13
abbrev s_is_number : Stmt := top 14
abbrev s_whole : Stmt := top 16
abbrev s_texts : Stmt := top 17
abbrev s_is_change : Stmt := top 18
abbrev s_nth : Stmt := top 19
abbrev s_same_lines : Stmt := top 20
abbrev s_begun : Stmt := top 21
abbrev s_good : Stmt := top 22
abbrev s_any_text : Stmt := top 23
abbrev s_base_tells : Stmt := top 24
abbrev s_told_by : Stmt := top 25
abbrev s_noughted : Stmt := top 26
abbrev s_law : Stmt := top 27
end Rm

set_option Elab.async false
set_option linter.all false
set_option maxRecDepth 100000
set_option maxHeartbeats 4000000
namespace Rm
open PySem L2 My
section
variable {P : Program} {w : World} {K : PySem.W.Frag} {mg : Str → Option Value} {base : Heap}
/-! ### is_empty -/
def spEmpty : Sp := fun vs H Q _ => ∃ (p : Addr) (b : Blk Str), vs = [.ref p] ∧ BlkAt H p b ∧ Q (.bl b.empty) H
theorem sc_is_empty : FnScope ["part"] ["part"] (defScope s_is_empty) := ⟨rfl, rfl, rfl, by decide +kernel, rfl, by decide +kernel, by decide +kernel⟩
theorem ok_is_empty {f : Addr} {fd : FuncData} (F : Fun K "is_empty" "is_empty" s_is_empty f fd) : FnOk P w K mg base CX0 1 f fd ["part"] spEmpty := by
  refine F.ok sc_is_empty (fun vs H Q E h => ?_) (fun cdv A outer s H vs Q E hr h => ?_)
  · obtain ⟨p, b, rfl, _⟩ := h
    rfl
  obtain ⟨p, b, rfl, hb, q⟩ := h
  refine ⟨_, pss_cons (ps_if (pt_cmpR op_eq (pe_ix ix_tup (pv 0) pe_int (fun _ _ => rfl)) pe_str (nomark _)) (pss_one (ps_ret (pe_cmpR op_eq (pe_ix ix_tup (pv 0) pe_int (fun _ _ => rfl)) pe_int (nomark _)))) pss_nil)
    (pss_one (ps_ret (pe_and (pe_notT (pe_ix ix_tup (pv 0) pe_int (fun _ _ => rfl))) (pe_one (pe_notT (pe_ix ix_tup (pv 0) pe_int (fun _ _ => rfl))))))), ?_⟩
  cases b with
  | keep ks =>
    refine ⟨_, rfl, p, _, _, _, rfl, rfl, SqT.of hb, rfl, rfl, _, rfl, iteYes rfl ?_⟩
    refine ⟨_, rfl, p, _, _, _, rfl, rfl, SqT.of hb, rfl, rfl, ?_⟩
    have e : decide (V.int (ks.length : Int) = V.int 0) = (Blk.keep ks).empty := by
      cases ks with
      | nil => rfl
      | cons a r =>
        refine decide_eq_false fun h => ?_
        have := V.int.inj h
        simp only [List.length_cons] at this
        omega
    show Q (.bl (decide (V.int (ks.length : Int) = V.int 0))) H
    rw [e]; exact q
  | swap g c =>
    obtain ⟨pg, pc, h1, h2, h3⟩ := hb
    refine ⟨_, rfl, p, _, _, _, rfl, rfl, SqT.of h1, rfl, rfl, _, rfl, iteNo sk_ne ?_⟩
    refine ⟨_, rfl, p, _, _, _, rfl, rfl, SqT.of h1, rfl, _, .inl ⟨_, SqL.of h2, rfl⟩, _, rfl, ?_⟩
    refine ite2b (fun e => ?_) (fun e => ?_)
    · refine ⟨_, rfl, p, _, _, _, rfl, rfl, SqT.of h1, rfl, _, .inl ⟨_, SqL.of h3, rfl⟩, ?_⟩
      have e' : (Blk.swap g c).empty = !(!(c.map V.str).isEmpty) := by
        have : g.isEmpty = true := by simpa using e
        simp [Blk.empty, this]
      rw [← e']; exact q
    · have e' : (Blk.swap g c).empty = false := by
        have : g.isEmpty = false := by simpa using e
        simp [Blk.empty, this]
      rw [← e']; exact q
/-! ### united -/
def spUnited : Sp := fun vs H Q _ => ∃ (p q : Addr) (b c : Blk Str), vs = [.ref p, .ref q] ∧ BlkAt H p b ∧ BlkAt H q c ∧ b.isKeep = c.isKeep ∧ b.old.length + c.old.length ≤ 1000 ∧ b.new.length + c.new.length ≤ 1000 ∧
  ∀ (r : Addr) (H' : Hp), Same H H' → (∀ l o, H l = some o → BlkAt (rm H' l) r (b.unite c)) → Q (.ref r) H'
theorem sc_united : FnScope ["ahead", "behind"] ["ahead", "behind"] (defScope s_united) := ⟨rfl, rfl, rfl, by decide +kernel, rfl, by decide +kernel, by decide +kernel⟩
theorem ok_united {f : Addr} {fd : FuncData} (F : Fun K "united" "united" s_united f fd) : FnOk P w K mg base CX0 1 f fd ["ahead", "behind"] spUnited := by
  refine F.ok sc_united (fun vs H Q E h => ?_) (fun cdv A outer s H vs Q E hr h => ?_)
  · obtain ⟨p, q, b, c, rfl, _⟩ := h
    rfl
  obtain ⟨p, q, b, c, rfl, hb, hc, hk, l1, l2, k⟩ := h
  refine ⟨_, pss_cons (ps_if (pt_cmpR op_eq (pe_ix ix_tup (pv 0) pe_int (fun _ _ => rfl)) pe_str (nomark _))
      (pss_one (ps_ret (pe_tup (pa_cons pe_str (pa_cons (pe_op op_add (pe_ix ix_tup (pv 0) pe_int (fun _ _ => rfl)) (pe_ix ix_tup (pv 1) pe_int (fun _ _ => rfl))) pa_nil))))) pss_nil)
    (pss_one (ps_ret (pe_tup (pa_cons pe_str (pa_cons (pe_op op_cat (pe_ix ix_tup (pv 0) pe_int (fun _ _ => rfl)) (pe_ix ix_tup (pv 1) pe_int (fun _ _ => rfl)))
      (pa_cons (pe_op op_cat (pe_ix ix_tup (pv 0) pe_int (fun _ _ => rfl)) (pe_ix ix_tup (pv 1) pe_int (fun _ _ => rfl))) pa_nil)))))), ?_⟩
  cases b with
  | keep ks =>
    cases c with
    | swap _ _ => cases hk
    | keep js =>
      refine ⟨_, rfl, p, _, _, _, rfl, rfl, SqT.of hb, rfl, rfl, _, rfl, iteYes rfl ?_⟩
      refine ⟨_, rfl, p, _, _, _, rfl, rfl, SqT.of hb, rfl, _, rfl, q, _, _, _, rfl, rfl, SqT.of hc, rfl, _, _, rfl, rfl, (by show 2 ≤ sizeLine; decide), fun r hr' => ?_⟩
      refine k r _ (same_new hr' _) fun l o hlo => ?_
      show rm (upd H r _) l r = some (.tup [.str "keep", .int (((ks ++ js).length : Nat) : Int)])
      rw [rm_ne (ne_of_none hlo hr').symm, upd_same, List.length_append, Int.natCast_add]
  | swap g d =>
    cases c with
    | keep _ => cases hk
    | swap g' d' =>
      obtain ⟨pg, pc, h1, h2, h3⟩ := hb
      obtain ⟨qg, qc, g1, g2, g3⟩ := hc
      simp only [Blk.old] at l1
      simp only [Blk.new] at l2
      refine ⟨_, rfl, p, _, _, _, rfl, rfl, SqT.of h1, rfl, rfl, _, rfl, iteNo sk_ne ?_⟩
      refine ⟨_, rfl, p, _, _, _, rfl, rfl, SqT.of h1, rfl, _, rfl, q, _, _, _, rfl, rfl, SqT.of g1, rfl, pg, qg, _, _, rfl, rfl, h2, g2, (by rw [List.length_map, List.length_map]; exact small (by omega)), fun x hx => ?_⟩
      have s1 := same_new hx (.lst (g.map V.str ++ g'.map V.str))
      refine ⟨_, rfl, p, _, _, _, rfl, rfl, SqT.of (s1 _ _ h1), rfl, _, rfl, q, _, _, _, rfl, rfl, SqT.of (s1 _ _ g1), rfl, pc, qc, _, _, rfl, rfl, s1 _ _ h3, s1 _ _ g3, (by rw [List.length_map, List.length_map]; exact small (by omega)), fun y hy => ?_⟩
      have s2 := same_new hy (.lst (d.map V.str ++ d'.map V.str))
      refine ⟨(by show 3 ≤ sizeLine; decide), fun r hr' => ?_⟩
      have s3 := same_new hr' (.tup [.str "swap", .ref x, .ref y])
      refine k r _ (s1.trans (s2.trans s3)) fun l o hlo => ⟨x, y, ?_, ?_, ?_⟩
      · rw [rm_ne (ne_of_none (s2 _ _ (s1 _ _ hlo)) hr').symm, upd_same]
      · show rm _ l x = some (.lst ((g ++ g').map V.str))
        rw [List.map_append, rm_ne (ne_of_none hlo hx).symm]
        exact s3 _ _ (s2 _ _ upd_same)
      · show rm _ l y = some (.lst ((d ++ d').map V.str))
        rw [List.map_append, rm_ne (ne_of_none (s1 _ _ hlo) hy).symm]
        exact s3 _ _ upd_same
/-! ### tidied -/
def spTidied (K : PySem.W.Frag) : Sp := fun vs H Q _ => ∃ (a : Addr) (bs : List (Blk Str)), vs = [.ref a] ∧ ChgAt H a bs ∧ bs.length ≤ 1000 ∧ (olds bs).length ≤ 1000 ∧ (news bs).length ≤ 1000 ∧
  ∀ (r : Addr) (H' : Hp), Same H H' → ChgAt H' r (tidy bs) → Q (.ref r) H'
theorem sc_tidied : FnScope ["parts", "change", "part"] ["parts"] (defScope s_tidied) := ⟨rfl, rfl, rfl, by decide +kernel, rfl, by decide +kernel, by decide +kernel⟩
theorem ok_tidied {f fe fu : Addr} {fd fde fdu : FuncData} (F : Fun K "tidied" "tidied" s_tidied f fd) (FE : Fun K "is_empty" "is_empty" s_is_empty fe fde) (bE : Binds K fde ["part"] []) (mE : mg "is_empty" = some (.ref fe))
    (FU : Fun K "united" "united" s_united fu fdu) (bU : Binds K fdu ["ahead", "behind"] []) (mU : mg "united" = some (.ref fu)) : FnOk P w K mg base CX0 2 f fd ["parts"] (spTidied K) := by
  have GE : FnOk P w K mg base CX0 1 fe fde ["part"] spEmpty := ok_is_empty FE
  have GU : FnOk P w K mg base CX0 1 fu fdu ["ahead", "behind"] spUnited := ok_united FU
  refine F.ok sc_tidied (fun vs H Q E h => ?_) (fun cdv A outer s H vs Q E hr h => ?_)
  · obtain ⟨a, bs, rfl, _⟩ := h
    rfl
  obtain ⟨a, bs, rfl, ⟨ps, ha, hbs⟩, hl, ho, hn, k⟩ := h
  refine ⟨_, pss_cons (ps_set (i := 1) sc_tidied.nd rfl (Or.inl rfl) (pe_lst pa_nil))
    (pss_cons (ps_for PassesOwn.never rfl (pi_list (pv 0)) (pg_name (i := 2) sc_tidied.nd rfl (Or.inl rfl))
      (pss_cons (ps_if (pt_val (pe_call GE hr rfl mE FE.kp bE .nil pass0 (pa_cons (pv 2) pa_nil))) (pss_one ps_continue) pss_nil)
      (pss_one (ps_if (PW.pt (pw_and (pt_truth (pv 1) (fun _ => rfl)) (pw_and1 (pt_cmpR op_eq (pe_ix ix_tup (pe_ix ix_list (pv 1) (pe_un un_neg pe_int) (fun _ _ => rfl)) pe_int (fun _ _ => rfl)) (pe_ix ix_tup (pv 2) pe_int (fun _ _ => rfl)) (nomark _)))))
        (pss_one (ps_asg (pe_call GU hr rfl mU FU.kp bU .nil pass0 (pa_cons (pe_ix ix_list (pv 1) (pe_un un_neg pe_int) (fun _ _ => rfl)) (pa_cons (pv 2) pa_nil))) (pg_sub (pv 1) (pe_un un_neg pe_int) set_list)))
        (pss_one (ps_expr (pe_bm PySem.F.plainAttrs_list PySem.F.slot_list_append PySem.F.type_list_append mt_append (pv 1) (pa_cons (pv 2) pa_nil))))))))
    (pss_one (ps_ret (pv 1)))), ?_⟩
  refine ⟨(by show 0 ≤ sizeLine; decide), fun l hl0 => ?_⟩
  have pl : ps.length = bs.length := hbs.length
  have s0 := same_new hl0 (.lst [])
  have tl : ∀ i, (tidy (bs.take i)).length ≤ i := fun i => by
    have := tidy_len_le (bs.take i) []
    rw [List.length_take] at this
    simp only [List.length_nil] at this
    unfold tidy
    omega
  refine ⟨_, rfl, a, rfl, ⟨_, SqL.of (s0 _ _ ha)⟩, for_list (K := K) (a := a) (xs := ps.map V.ref)
    (fun i σ H2 => ∃ (qs : List Addr) (v : Option V), σ = [some (.ref a), some (.ref l), v] ∧ Same H H2 ∧ H2 l = some (.lst (qs.map V.ref)) ∧ BlksAt (rm H2 l) qs (tidy (bs.take i)))
    ⟨[], none, rfl, s0, upd_same, by simp only [List.take_zero]; exact .nil⟩ (fun i σ H2 _ ⟨_, _, _, s2, _⟩ => SqL.of (s2 _ _ ha)) ?_ ?_⟩
  · rintro i y σ H2 hi ⟨qs, v, rfl, s2, h2, hb2⟩
    obtain ⟨p, hp, rfl⟩ := map_get hi
    obtain ⟨b, hbi, hbp⟩ := paired_get hbs hp
    have hil : i < bs.length := (List.getElem?_eq_some_iff.mp hbi).1
    have ql : qs.length = (tidy (bs.take i)).length := hb2.length
    have tli := tl i
    have et := tidy_take hbi
    -- is_empty(part)
    refine ⟨_, rfl, p, b, rfl, hbp.same s2, _, rfl, ?_⟩
    refine ite2b (fun e => ?_) (fun e => ?_)
    · refine ⟨qs, _, rfl, s2, h2, ?_⟩
      have : tidyStep (tidy (bs.take i)) b = tidy (bs.take i) := by unfold tidyStep; rw [if_pos e]
      rw [et, this]; exact hb2
    · have hp' : BlkAt (rm H2 l) p b := hbp.same (same_to hl0 s2)
      have e' : ¬ b.empty = true := by rw [e]; exact Bool.false_ne_true
      have app : tidyStep (tidy (bs.take i)) b = tidy (bs.take i) ++ [b] → ∃ (qs' : List Addr) (v' : Option V), [some (.ref a), some (.ref l), some (V.ref p)] = [some (.ref a), some (.ref l), v'] ∧ Same H (upd H2 l (.lst (qs.map V.ref ++ [.ref p]))) ∧
          upd H2 l (.lst (qs.map V.ref ++ [.ref p])) l = some (.lst (qs'.map V.ref)) ∧ BlksAt (rm (upd H2 l (.lst (qs.map V.ref ++ [.ref p]))) l) qs' (tidy (bs.take (i + 1))) := fun z => by
        refine ⟨qs ++ [p], _, rfl, same_put hl0 s2, by rw [upd_same, List.map_append]; rfl, ?_⟩
        rw [rm_upd, et, z]
        exact paired_snoc hb2 hp'
      have ln : (qs.map V.ref).length < sizeLine := by rw [List.length_map]; exact small' (by omega)
      -- if change
      refine ⟨_, rfl, _, .inl ⟨_, SqL.of h2, rfl⟩, ?_⟩
      refine ite2b (fun c => ?_) (fun c => ?_)
      · -- there is a last one
        have hne : qs ≠ [] := by
          intro z; subst z; simp at c
        obtain ⟨qa, ql', eq⟩ : ∃ qa ql', qs = qa ++ [ql'] := ⟨qs.dropLast, qs.getLast hne, (List.dropLast_concat_getLast hne).symm⟩
        subst eq
        rcases tidy_split (tidy (bs.take i)) with z | ⟨ta, tb, ez, el⟩
        · rw [z] at ql; simp at ql
        have hb2' := hb2
        rw [ez] at hb2'
        obtain ⟨hinit, hlast⟩ := paired_init hb2'
        have at1 : atI ((qa ++ [ql']).map V.ref) (-1) = some (.ref ql') := by rw [List.map_append]; exact atI_last _ _
        have k0 : ∀ (b : Blk Str) (p : Addr), BlkAt (rm H2 l) p b → ∃ xs, H2 p = some (.tup xs) ∧ atI xs 0 = some (.str (if b.isKeep then "keep" else "swap")) := fun b p hb => by
          cases b with
          | keep ks => exact ⟨_, rm_sub _ _ hb, rfl⟩
          | swap g c => obtain ⟨pg, pc, g1, _⟩ := hb; exact ⟨_, rm_sub _ _ g1, rfl⟩
        obtain ⟨x1, t1, a1⟩ := k0 tb ql' hlast
        obtain ⟨x2, t2, a2⟩ := k0 b p hp'
        refine ⟨_, rfl, _, rfl, l, _, _, _, rfl, rfl, SqL.of h2, at1, ql', _, _, _, rfl, rfl, SqT.of t1, a1, _, rfl, p, _, _, _, rfl, rfl, SqT.of t2, a2, rfl, _, rfl, ?_⟩
        refine ite2d (fun d => ?_) (fun d => ?_)
        · have hk : tb.isKeep = b.isKeep := by
            cases h1 : tb.isKeep <;> cases h2 : b.isKeep
            · rfl
            · rw [h1, h2] at d; exact absurd d sk_ne
            · rw [h1, h2] at d; exact absurd d ks_ne
            · rfl
          have m1 : tb ∈ tidy (bs.take i) := by rw [ez]; simp
          have o1 := olds_mem m1
          have n1 := news_mem m1
          rw [tidy_olds] at o1
          rw [tidy_news] at n1
          have o2 := olds_take hbi
          have n2 := news_take hbi
          have o3 := congrArg List.length (olds_split bs (i + 1))
          have n3 := congrArg List.length (news_split bs (i + 1))
          rw [o2, List.length_append, List.length_append] at o3
          rw [n2, List.length_append, List.length_append] at n3
          refine ⟨_, rfl, _, rfl, l, _, _, _, rfl, rfl, SqL.of h2, at1, _, rfl, ql', p, tb, b, rfl, hlast.same rm_sub, hp'.same rm_sub, hk, by omega, by omega, fun r H3 s3 hr3 => ?_⟩
          refine ⟨_, rfl, _, rfl, l, _, _, qa.length, rfl, rfl, s3 _ _ h2, ?_, ?_⟩
          · show ixN ((qa ++ [ql']).map V.ref).length (-1) = some qa.length
            rw [List.length_map, List.length_append, List.length_singleton]
            unfold ixN
            rw [if_neg (by decide), if_pos (by omega)]
            congr 1
            omega
          · refine ⟨qa ++ [r], _, rfl, same_put hl0 (s2.trans s3), ?_, ?_⟩
            · rw [upd_same, List.map_append, List.map_append, ← List.length_map (f := V.ref), List.set_append_right _ _ (Nat.le_refl _), Nat.sub_self]
              all_goals rfl
            · have e4 : tidyStep (tidy (bs.take i)) b = ta ++ [tb.unite b] := by
                unfold tidyStep
                rw [if_neg e', el]
                dsimp only
                rw [if_pos hk, ez, set_last]
              rw [rm_upd, et, e4]
              exact paired_snoc (BlksAt.same (same_rm s3) hinit) (hr3 l _ h2)
        · have hk : ¬ tb.isKeep = b.isKeep := fun z => d (by rw [z])
          refine ⟨_, rfl, .inl ⟨rfl, _, SqL.of h2⟩, _, rfl, l, _, _, rfl, rfl, h2, ln, ?_⟩
          refine app ?_
          unfold tidyStep
          rw [if_neg e', el]
          dsimp only
          rw [if_neg hk]
      · -- none yet
        have z : tidy (bs.take i) = [] := by
          have : qs = [] := by
            cases qs with
            | nil => rfl
            | cons _ _ => simp at c
          subst this
          exact List.length_eq_zero_iff.mp ql.symm
        refine iteF ?_
        refine ⟨_, rfl, .inl ⟨rfl, _, SqL.of h2⟩, _, rfl, l, _, _, rfl, rfl, h2, ln, ?_⟩
        refine app ?_
        rw [z]
        unfold tidyStep
        rw [if_neg e']
        rfl
  · rintro σ H2 ⟨qs, v, rfl, s2, h2, hb2⟩
    refine ⟨_, rfl, k l H2 s2 ⟨qs, h2, ?_⟩⟩
    have e : bs.take (ps.map V.ref).length = bs := by rw [List.length_map, pl]; exact List.take_length
    rw [e] at hb2
    exact BlksAt.same rm_sub hb2
end
end Rm

set_option Elab.async false
set_option linter.all false
set_option maxRecDepth 100000
set_option maxHeartbeats 4000000
namespace Rm
open PySem L2 My
/-! ### the lines of swaps alone -/
def swO : Blk Str → List Str
  | .keep _ => []
  | .swap g _ => g
def swN : Blk Str → List Str
  | .keep _ => []
  | .swap _ c => c
def sOf (bs : List (Blk Str)) : List Str := bs.flatMap swO
def sNf (bs : List (Blk Str)) : List Str := bs.flatMap swN
theorem sw_len {b : Blk Str} (h : b.isKeep = false) : (swO b).length = b.old.length ∧ (swN b).length = b.new.length := by
  cases b with
  | keep ks => cases h
  | swap g c => exact ⟨rfl, rfl⟩
theorem flat_mem {f : Blk Str → List Str} : ∀ {bs : List (Blk Str)} {b : Blk Str}, b ∈ bs → (f b).length ≤ (bs.flatMap f).length
  | c :: r, b, h => by
    rw [List.flatMap_cons, List.length_append]
    rcases List.mem_cons.mp h with z | z
    · rw [z]; omega
    · have := flat_mem (f := f) z; omega
theorem sOf_mem {bs : List (Blk Str)} {b : Blk Str} (h : b ∈ bs) : (swO b).length ≤ (sOf bs).length := flat_mem h
theorem sNf_mem {bs : List (Blk Str)} {b : Blk Str} (h : b ∈ bs) : (swN b).length ≤ (sNf bs).length := flat_mem h
theorem flat_split {f : Blk Str → List Str} (bs : List (Blk Str)) {i : Nat} {b : Blk Str} (h : bs[i]? = some b) : bs.flatMap f = (bs.take i).flatMap f ++ (f b ++ (bs.drop (i + 1)).flatMap f) := by
  obtain ⟨h1, h2⟩ := List.getElem?_eq_some_iff.mp h
  have e : bs = bs.take i ++ (b :: bs.drop (i + 1)) := by rw [← h2, ← List.drop_eq_getElem_cons h1, List.take_append_drop]
  calc bs.flatMap f = (bs.take i ++ (b :: bs.drop (i + 1))).flatMap f := by rw [← e]
    _ = _ := by rw [List.flatMap_append, List.flatMap_cons]
theorem sOf_split (bs : List (Blk Str)) {i : Nat} {b : Blk Str} (h : bs[i]? = some b) : sOf bs = sOf (bs.take i) ++ (swO b ++ sOf (bs.drop (i + 1))) := flat_split bs h
theorem sNf_split (bs : List (Blk Str)) {i : Nat} {b : Blk Str} (h : bs[i]? = some b) : sNf bs = sNf (bs.take i) ++ (swN b ++ sNf (bs.drop (i + 1))) := flat_split bs h
theorem swO_empty (b : Blk Str) (h : b.empty = true) : swO b = [] := by
  cases b with
  | keep ks => rfl
  | swap g c => exact empty_old h
theorem swN_empty (b : Blk Str) (h : b.empty = true) : swN b = [] := by
  cases b with
  | keep ks => rfl
  | swap g c => exact empty_new h
theorem swO_unite (l b : Blk Str) (h : l.isKeep = b.isKeep) : swO (l.unite b) = swO l ++ swO b := by
  cases l <;> cases b <;> first | rfl | cases h
theorem swN_unite (l b : Blk Str) (h : l.isKeep = b.isKeep) : swN (l.unite b) = swN l ++ swN b := by
  cases l <;> cases b <;> first | rfl | cases h
theorem tidy_sO (ps : List (Blk Str)) : sOf (tidy ps) = sOf ps := by have := tidy_flat swO_empty swO_unite ps []; simpa [tidy, sOf] using this
theorem tidy_sN (ps : List (Blk Str)) : sNf (tidy ps) = sNf ps := by have := tidy_flat swN_empty swN_unite ps []; simpa [tidy, sNf] using this
section
variable {P : Program} {w : World} {K : PySem.W.Frag} {mg : Str → Option Value} {base : Heap}
/-! ### united -/
def spUnitedX : Sp := fun vs H Q _ => ∃ (p q : Addr) (b c : Blk Str), vs = [.ref p, .ref q] ∧ BlkAt H p b ∧ BlkAt H q c ∧ b.isKeep = c.isKeep ∧ (b.isKeep = false → b.old.length + c.old.length ≤ 1000 ∧ b.new.length + c.new.length ≤ 1000) ∧
  ∀ (r : Addr) (H' : Hp), Same H H' → (∀ l o, H l = some o → BlkAt (rm H' l) r (b.unite c)) → Q (.ref r) H'
theorem ok_unitedX {f : Addr} {fd : FuncData} (F : Fun K "united" "united" s_united f fd) : FnOk P w K mg base CX0 1 f fd ["ahead", "behind"] spUnitedX := by
  refine F.ok sc_united (fun vs H Q E h => ?_) (fun cdv A outer s H vs Q E hr h => ?_)
  · obtain ⟨p, q, b, c, rfl, _⟩ := h
    rfl
  obtain ⟨p, q, b, c, rfl, hb, hc, hk, l12, k⟩ := h
  refine ⟨_, pss_cons (ps_if (pt_cmpR op_eq (pe_ix ix_tup (pv 0) pe_int (fun _ _ => rfl)) pe_str (nomark _))
      (pss_one (ps_ret (pe_tup (pa_cons pe_str (pa_cons (pe_op op_add (pe_ix ix_tup (pv 0) pe_int (fun _ _ => rfl)) (pe_ix ix_tup (pv 1) pe_int (fun _ _ => rfl))) pa_nil))))) pss_nil)
    (pss_one (ps_ret (pe_tup (pa_cons pe_str (pa_cons (pe_op op_cat (pe_ix ix_tup (pv 0) pe_int (fun _ _ => rfl)) (pe_ix ix_tup (pv 1) pe_int (fun _ _ => rfl)))
      (pa_cons (pe_op op_cat (pe_ix ix_tup (pv 0) pe_int (fun _ _ => rfl)) (pe_ix ix_tup (pv 1) pe_int (fun _ _ => rfl))) pa_nil)))))), ?_⟩
  cases b with
  | keep ks =>
    cases c with
    | swap _ _ => cases hk
    | keep js =>
      refine ⟨_, rfl, p, _, _, _, rfl, rfl, SqT.of hb, rfl, rfl, _, rfl, iteYes rfl ?_⟩
      refine ⟨_, rfl, p, _, _, _, rfl, rfl, SqT.of hb, rfl, _, rfl, q, _, _, _, rfl, rfl, SqT.of hc, rfl, _, _, rfl, rfl, (by show 2 ≤ sizeLine; decide), fun r hr' => ?_⟩
      refine k r _ (same_new hr' _) fun l o hlo => ?_
      show rm (upd H r _) l r = some (.tup [.str "keep", .int (((ks ++ js).length : Nat) : Int)])
      rw [rm_ne (ne_of_none hlo hr').symm, upd_same, List.length_append, Int.natCast_add]
  | swap g d =>
    cases c with
    | keep _ => cases hk
    | swap g' d' =>
      obtain ⟨pg, pc, h1, h2, h3⟩ := hb
      obtain ⟨qg, qc, g1, g2, g3⟩ := hc
      obtain ⟨l1, l2⟩ := l12 rfl
      simp only [Blk.old] at l1
      simp only [Blk.new] at l2
      refine ⟨_, rfl, p, _, _, _, rfl, rfl, SqT.of h1, rfl, rfl, _, rfl, iteNo sk_ne ?_⟩
      refine ⟨_, rfl, p, _, _, _, rfl, rfl, SqT.of h1, rfl, _, rfl, q, _, _, _, rfl, rfl, SqT.of g1, rfl, pg, qg, _, _, rfl, rfl, h2, g2, (by rw [List.length_map, List.length_map]; exact small (by omega)), fun x hx => ?_⟩
      have s1 := same_new hx (.lst (g.map V.str ++ g'.map V.str))
      refine ⟨_, rfl, p, _, _, _, rfl, rfl, SqT.of (s1 _ _ h1), rfl, _, rfl, q, _, _, _, rfl, rfl, SqT.of (s1 _ _ g1), rfl, pc, qc, _, _, rfl, rfl, s1 _ _ h3, s1 _ _ g3, (by rw [List.length_map, List.length_map]; exact small (by omega)), fun y hy => ?_⟩
      have s2 := same_new hy (.lst (d.map V.str ++ d'.map V.str))
      refine ⟨(by show 3 ≤ sizeLine; decide), fun r hr' => ?_⟩
      have s3 := same_new hr' (.tup [.str "swap", .ref x, .ref y])
      refine k r _ (s1.trans (s2.trans s3)) fun l o hlo => ⟨x, y, ?_, ?_, ?_⟩
      · rw [rm_ne (ne_of_none (s2 _ _ (s1 _ _ hlo)) hr').symm, upd_same]
      · show rm _ l x = some (.lst ((g ++ g').map V.str))
        rw [List.map_append, rm_ne (ne_of_none hlo hx).symm]
        exact s3 _ _ (s2 _ _ upd_same)
      · show rm _ l y = some (.lst ((d ++ d').map V.str))
        rw [List.map_append, rm_ne (ne_of_none (s1 _ _ hlo) hy).symm]
        exact s3 _ _ upd_same
/-! ### tidied -/
def spTidiedX (K : PySem.W.Frag) : Sp := fun vs H Q _ => ∃ (a : Addr) (bs : List (Blk Str)), vs = [.ref a] ∧ ChgAt H a bs ∧ bs.length ≤ 1000 ∧ (sOf bs).length ≤ 1000 ∧ (sNf bs).length ≤ 1000 ∧
  ∀ (r : Addr) (H' : Hp), Same H H' → ChgAt H' r (tidy bs) → Q (.ref r) H'
theorem ok_tidiedX {f fe fu : Addr} {fd fde fdu : FuncData} (F : Fun K "tidied" "tidied" s_tidied f fd) (FE : Fun K "is_empty" "is_empty" s_is_empty fe fde) (bE : Binds K fde ["part"] []) (mE : mg "is_empty" = some (.ref fe))
    (FU : Fun K "united" "united" s_united fu fdu) (bU : Binds K fdu ["ahead", "behind"] []) (mU : mg "united" = some (.ref fu)) : FnOk P w K mg base CX0 2 f fd ["parts"] (spTidiedX K) := by
  have GE : FnOk P w K mg base CX0 1 fe fde ["part"] spEmpty := ok_is_empty FE
  have GU : FnOk P w K mg base CX0 1 fu fdu ["ahead", "behind"] spUnitedX := ok_unitedX FU
  refine F.ok sc_tidied (fun vs H Q E h => ?_) (fun cdv A outer s H vs Q E hr h => ?_)
  · obtain ⟨a, bs, rfl, _⟩ := h
    rfl
  obtain ⟨a, bs, rfl, ⟨ps, ha, hbs⟩, hl, ho, hn, k⟩ := h
  refine ⟨_, pss_cons (ps_set (i := 1) sc_tidied.nd rfl (Or.inl rfl) (pe_lst pa_nil))
    (pss_cons (ps_for PassesOwn.never rfl (pi_list (pv 0)) (pg_name (i := 2) sc_tidied.nd rfl (Or.inl rfl))
      (pss_cons (ps_if (pt_val (pe_call GE hr rfl mE FE.kp bE .nil pass0 (pa_cons (pv 2) pa_nil))) (pss_one ps_continue) pss_nil)
      (pss_one (ps_if (PW.pt (pw_and (pt_truth (pv 1) (fun _ => rfl)) (pw_and1 (pt_cmpR op_eq (pe_ix ix_tup (pe_ix ix_list (pv 1) (pe_un un_neg pe_int) (fun _ _ => rfl)) pe_int (fun _ _ => rfl)) (pe_ix ix_tup (pv 2) pe_int (fun _ _ => rfl)) (nomark _)))))
        (pss_one (ps_asg (pe_call GU hr rfl mU FU.kp bU .nil pass0 (pa_cons (pe_ix ix_list (pv 1) (pe_un un_neg pe_int) (fun _ _ => rfl)) (pa_cons (pv 2) pa_nil))) (pg_sub (pv 1) (pe_un un_neg pe_int) set_list)))
        (pss_one (ps_expr (pe_bm PySem.F.plainAttrs_list PySem.F.slot_list_append PySem.F.type_list_append mt_append (pv 1) (pa_cons (pv 2) pa_nil))))))))
    (pss_one (ps_ret (pv 1)))), ?_⟩
  refine ⟨(by show 0 ≤ sizeLine; decide), fun l hl0 => ?_⟩
  have pl : ps.length = bs.length := hbs.length
  have s0 := same_new hl0 (.lst [])
  have tl : ∀ i, (tidy (bs.take i)).length ≤ i := fun i => by
    have := tidy_len_le (bs.take i) []
    rw [List.length_take] at this
    simp only [List.length_nil] at this
    unfold tidy
    omega
  refine ⟨_, rfl, a, rfl, ⟨_, SqL.of (s0 _ _ ha)⟩, for_list (K := K) (a := a) (xs := ps.map V.ref)
    (fun i σ H2 => ∃ (qs : List Addr) (v : Option V), σ = [some (.ref a), some (.ref l), v] ∧ Same H H2 ∧ H2 l = some (.lst (qs.map V.ref)) ∧ BlksAt (rm H2 l) qs (tidy (bs.take i)))
    ⟨[], none, rfl, s0, upd_same, by simp only [List.take_zero]; exact .nil⟩ (fun i σ H2 _ ⟨_, _, _, s2, _⟩ => SqL.of (s2 _ _ ha)) ?_ ?_⟩
  · rintro i y σ H2 hi ⟨qs, v, rfl, s2, h2, hb2⟩
    obtain ⟨p, hp, rfl⟩ := map_get hi
    obtain ⟨b, hbi, hbp⟩ := paired_get hbs hp
    have hil : i < bs.length := (List.getElem?_eq_some_iff.mp hbi).1
    have ql : qs.length = (tidy (bs.take i)).length := hb2.length
    have tli := tl i
    have et := tidy_take hbi
    -- is_empty(part)
    refine ⟨_, rfl, p, b, rfl, hbp.same s2, _, rfl, ?_⟩
    refine ite2b (fun e => ?_) (fun e => ?_)
    · refine ⟨qs, _, rfl, s2, h2, ?_⟩
      have : tidyStep (tidy (bs.take i)) b = tidy (bs.take i) := by unfold tidyStep; rw [if_pos e]
      rw [et, this]; exact hb2
    · have hp' : BlkAt (rm H2 l) p b := hbp.same (same_to hl0 s2)
      have e' : ¬ b.empty = true := by rw [e]; exact Bool.false_ne_true
      have app : tidyStep (tidy (bs.take i)) b = tidy (bs.take i) ++ [b] → ∃ (qs' : List Addr) (v' : Option V), [some (.ref a), some (.ref l), some (V.ref p)] = [some (.ref a), some (.ref l), v'] ∧ Same H (upd H2 l (.lst (qs.map V.ref ++ [.ref p]))) ∧
          upd H2 l (.lst (qs.map V.ref ++ [.ref p])) l = some (.lst (qs'.map V.ref)) ∧ BlksAt (rm (upd H2 l (.lst (qs.map V.ref ++ [.ref p]))) l) qs' (tidy (bs.take (i + 1))) := fun z => by
        refine ⟨qs ++ [p], _, rfl, same_put hl0 s2, by rw [upd_same, List.map_append]; rfl, ?_⟩
        rw [rm_upd, et, z]
        exact paired_snoc hb2 hp'
      have ln : (qs.map V.ref).length < sizeLine := by rw [List.length_map]; exact small' (by omega)
      -- if change
      refine ⟨_, rfl, _, .inl ⟨_, SqL.of h2, rfl⟩, ?_⟩
      refine ite2b (fun c => ?_) (fun c => ?_)
      · -- there is a last one
        have hne : qs ≠ [] := by
          intro z; subst z; simp at c
        obtain ⟨qa, ql', eq⟩ : ∃ qa ql', qs = qa ++ [ql'] := ⟨qs.dropLast, qs.getLast hne, (List.dropLast_concat_getLast hne).symm⟩
        subst eq
        rcases tidy_split (tidy (bs.take i)) with z | ⟨ta, tb, ez, el⟩
        · rw [z] at ql; simp at ql
        have hb2' := hb2
        rw [ez] at hb2'
        obtain ⟨hinit, hlast⟩ := paired_init hb2'
        have at1 : atI ((qa ++ [ql']).map V.ref) (-1) = some (.ref ql') := by rw [List.map_append]; exact atI_last _ _
        have k0 : ∀ (b : Blk Str) (p : Addr), BlkAt (rm H2 l) p b → ∃ xs, H2 p = some (.tup xs) ∧ atI xs 0 = some (.str (if b.isKeep then "keep" else "swap")) := fun b p hb => by
          cases b with
          | keep ks => exact ⟨_, rm_sub _ _ hb, rfl⟩
          | swap g c => obtain ⟨pg, pc, g1, _⟩ := hb; exact ⟨_, rm_sub _ _ g1, rfl⟩
        obtain ⟨x1, t1, a1⟩ := k0 tb ql' hlast
        obtain ⟨x2, t2, a2⟩ := k0 b p hp'
        refine ⟨_, rfl, _, rfl, l, _, _, _, rfl, rfl, SqL.of h2, at1, ql', _, _, _, rfl, rfl, SqT.of t1, a1, _, rfl, p, _, _, _, rfl, rfl, SqT.of t2, a2, rfl, _, rfl, ?_⟩
        refine ite2d (fun d => ?_) (fun d => ?_)
        · have hk : tb.isKeep = b.isKeep := by
            cases h1 : tb.isKeep <;> cases h2 : b.isKeep
            · rfl
            · rw [h1, h2] at d; exact absurd d sk_ne
            · rw [h1, h2] at d; exact absurd d ks_ne
            · rfl
          have m1 : tb ∈ tidy (bs.take i) := by rw [ez]; simp
          have o1 := sOf_mem m1
          have n1 := sNf_mem m1
          rw [tidy_sO] at o1
          rw [tidy_sN] at n1
          have o3 := congrArg List.length (sOf_split bs hbi)
          have n3 := congrArg List.length (sNf_split bs hbi)
          rw [List.length_append, List.length_append] at o3
          rw [List.length_append, List.length_append] at n3
          have bnd : tb.isKeep = false → tb.old.length + b.old.length ≤ 1000 ∧ tb.new.length + b.new.length ≤ 1000 := fun z => by
            have z2 : b.isKeep = false := hk.symm.trans z
            have e1 := sw_len z
            have e2 := sw_len z2
            omega
          refine ⟨_, rfl, _, rfl, l, _, _, _, rfl, rfl, SqL.of h2, at1, _, rfl, ql', p, tb, b, rfl, hlast.same rm_sub, hp'.same rm_sub, hk, bnd, fun r H3 s3 hr3 => ?_⟩
          refine ⟨_, rfl, _, rfl, l, _, _, qa.length, rfl, rfl, s3 _ _ h2, ?_, ?_⟩
          · show ixN ((qa ++ [ql']).map V.ref).length (-1) = some qa.length
            rw [List.length_map, List.length_append, List.length_singleton]
            unfold ixN
            rw [if_neg (by decide), if_pos (by omega)]
            congr 1
            omega
          · refine ⟨qa ++ [r], _, rfl, same_put hl0 (s2.trans s3), ?_, ?_⟩
            · rw [upd_same, List.map_append, List.map_append, ← List.length_map (f := V.ref), List.set_append_right _ _ (Nat.le_refl _), Nat.sub_self]
              all_goals rfl
            · have e4 : tidyStep (tidy (bs.take i)) b = ta ++ [tb.unite b] := by
                unfold tidyStep
                rw [if_neg e', el]
                dsimp only
                rw [if_pos hk, ez, set_last]
              rw [rm_upd, et, e4]
              exact paired_snoc (BlksAt.same (same_rm s3) hinit) (hr3 l _ h2)
        · have hk : ¬ tb.isKeep = b.isKeep := fun z => d (by rw [z])
          refine ⟨_, rfl, .inl ⟨rfl, _, SqL.of h2⟩, _, rfl, l, _, _, rfl, rfl, h2, ln, ?_⟩
          refine app ?_
          unfold tidyStep
          rw [if_neg e', el]
          dsimp only
          rw [if_neg hk]
      · -- none yet
        have z : tidy (bs.take i) = [] := by
          have : qs = [] := by
            cases qs with
            | nil => rfl
            | cons _ _ => simp at c
          subst this
          exact List.length_eq_zero_iff.mp ql.symm
        refine iteF ?_
        refine ⟨_, rfl, .inl ⟨rfl, _, SqL.of h2⟩, _, rfl, l, _, _, rfl, rfl, h2, ln, ?_⟩
        refine app ?_
        rw [z]
        unfold tidyStep
        rw [if_neg e']
        rfl
  · rintro σ H2 ⟨qs, v, rfl, s2, h2, hb2⟩
    refine ⟨_, rfl, k l H2 s2 ⟨qs, h2, ?_⟩⟩
    have e : bs.take (ps.map V.ref).length = bs := by rw [List.length_map, pl]; exact List.take_length
    rw [e] at hb2
    exact BlksAt.same rm_sub hb2
end
end Rm

set_option Elab.async false
set_option linter.all false
set_option maxRecDepth 100000
set_option maxHeartbeats 4000000
namespace Rm
open PySem L2 My
/-- the built-in names that the text leaves alone -/
structure Bn (mg : Str → Option Value) : Prop where
  len : mg "len" = none
  range : mg "range" = none
  max : mg "max" = none
  isi : mg "isinstance" = none
  int : mg "int" = none
  bool : mg "bool" = none
  str : mg "str" = none
  list : mg "list" = none
  tuple : mg "tuple" = none
  abs : mg "abs" = none
theorem iteNT {A B : Prop} (h : B) : if (!true) = true then A else B := iteF h
theorem iteNF {A B : Prop} (h : A) : if (!false) = true then A else B := iteT h
section
variable {P : Program} {w : World} {K : PySem.W.Frag} {mg : Str → Option Value} {base : Heap}
/-! ### _law_texts -/
def spTexts : Sp := fun vs H Q _ => ∃ (a : Addr) (x : List Str), vs = [.ref a] ∧ H a = some (txt x) ∧ Q (.bl true) H
theorem sc_texts : FnScope ["_law_found", "_law_line"] ["_law_found"] (defScope s_texts) := ⟨rfl, rfl, rfl, by decide +kernel, rfl, by decide +kernel, by decide +kernel⟩
theorem ok_texts {f : Addr} {fd : FuncData} (F : Fun K "_law_texts" "_law_texts" s_texts f fd) (B : Bn mg) : FnOk P w K mg base CX0 1 f fd ["_law_found"] spTexts := by
  refine F.ok sc_texts (fun vs H Q E h => ?_) (fun cdv A outer s H vs Q E hr h => ?_)
  · obtain ⟨a, x, rfl, _⟩ := h
    rfl
  obtain ⟨a, x, rfl, ha, q⟩ := h
  refine ⟨_, pss_cons (ps_if (pt_not (pt_val (pe_callB call_isi rfl B.isi PyProof.Rows.boot_isinstance (pa_cons (pv 0) (pa_cons (pe_bltn (v := .ty "list") rfl B.list PyProof.Rows.boot_list rfl) pa_nil))))) (pss_one (ps_ret pe_bl)) pss_nil)
    (pss_cons (ps_for PassesOwn.never rfl (pi_list (pv 0)) (pg_name (i := 1) sc_texts.nd rfl (Or.inl rfl))
      (pss_one (ps_if (pt_not (pt_val (pe_callB call_isi rfl B.isi PyProof.Rows.boot_isinstance (pa_cons (pv 1) (pa_cons (pe_bltn (v := .ty "str") rfl B.str PyProof.Rows.boot_str rfl) pa_nil))))) (pss_one (ps_ret pe_bl)) pss_nil)))
    (pss_one (ps_ret pe_bl))), ?_⟩
  refine ⟨_, rfl, _, _, _, _, rfl, .lst ha, kit_same "list", _, rfl, iteNT ?_⟩
  refine ⟨_, rfl, a, rfl, ⟨_, SqL.of ha⟩, for_list (K := K) (a := a) (xs := x.map V.str) (fun i σ H2 => ∃ v : Option V, σ = [some (.ref a), v] ∧ H2 = H) ⟨_, rfl, rfl⟩ (fun i σ H2 _ ⟨_, _, e⟩ => by rw [e]; exact SqL.of ha) ?_ ?_⟩
  · rintro i y σ H2 hi ⟨v, rfl, rfl⟩
    obtain ⟨t, ht, rfl⟩ := map_get hi
    refine ⟨_, rfl, _, _, _, _, rfl, .str t, kit_same "str", _, rfl, iteNT ?_⟩
    exact ⟨_, rfl, rfl⟩
  · rintro σ H2 ⟨v, rfl, rfl⟩
    exact q
def kindS (b : Blk Str) : Str := if b.isKeep then "keep" else "swap"
theorem kind_ne {b c : Blk Str} (h : b.isKeep ≠ c.isKeep) : ¬ (V.str (kindS c) = V.str (kindS b)) := by
  unfold kindS
  cases h1 : b.isKeep <;> cases h2 : c.isKeep
  · rw [h1, h2] at h; exact absurd rfl h
  · exact ks_ne
  · exact sk_ne
  · rw [h1, h2] at h; exact absurd rfl h
theorem kind_ne0 (b : Blk Str) : ¬ (V.str (kindS b) = V.str "") := by
  intro h
  have h' := V.str.inj h
  unfold kindS at h'
  cases h1 : b.isKeep
  · rw [h1] at h'; revert h'; decide +kernel
  · rw [h1] at h'; revert h'; decide +kernel
end
end Rm

set_option Elab.async false
set_option linter.all false
set_option maxRecDepth 100000
set_option maxHeartbeats 4000000
namespace Rm
open PySem L2 My
section
variable {P : Program} {w : World} {K : PySem.W.Frag} {mg : Str → Option Value} {base : Heap}
/-! ### _law_whole -/
def spWhole : Sp := fun vs H Q _ => ∃ i : Int, vs = [.int i] ∧ Q (.bl true) H
theorem sc_whole : FnScope ["_law_found"] ["_law_found"] (defScope s_whole) := ⟨rfl, rfl, rfl, by decide +kernel, rfl, by decide +kernel, by decide +kernel⟩
theorem ok_whole {f : Addr} {fd : FuncData} (F : Fun K "_law_whole" "_law_whole" s_whole f fd) (B : Bn mg) : FnOk P w K mg base CX0 1 f fd ["_law_found"] spWhole := by
  refine F.ok sc_whole (fun vs H Q E h => ?_) (fun cdv A outer s H vs Q E hr h => ?_)
  · obtain ⟨i, rfl, _⟩ := h
    rfl
  obtain ⟨i, rfl, q⟩ := h
  refine ⟨_, pss_one (ps_ret (pe_and (pe_callB call_isi rfl B.isi PyProof.Rows.boot_isinstance (pa_cons (pv 0) (pa_cons (pe_bltn (v := .ty "int") rfl B.int PyProof.Rows.boot_int rfl) pa_nil)))
    (pe_one (pe_not (pe_callB call_isi rfl B.isi PyProof.Rows.boot_isinstance (pa_cons (pv 0) (pa_cons (pe_bltn (v := .ty "bool") rfl B.bool PyProof.Rows.boot_bool rfl) pa_nil))))))), ?_⟩
  refine ⟨_, rfl, _, _, _, _, rfl, .int i, kit_same "int", _, rfl, iteT ?_⟩
  exact ⟨_, rfl, _, _, _, _, rfl, .int i, kit_int_bool, _, rfl, q⟩
/-! ### _law_is_change -/
def spIsChange : Sp := fun vs H Q _ => ∃ (a : Addr) (bs : List (Blk Str)), vs = [.ref a] ∧ ChgAt H a bs ∧ Fine bs ∧ (olds bs).length ≤ 1000 ∧ (news bs).length ≤ 1000 ∧ ∀ H' : Hp, Same H H' → Q (.bl true) H'
theorem sc_is_change : FnScope ["_law_found", "_law_last", "_law_block"] ["_law_found"] (defScope s_is_change) := ⟨rfl, rfl, rfl, by decide +kernel, rfl, by decide +kernel, by decide +kernel⟩
theorem ok_is_change {f fw ft : Addr} {fd fdw fdt : FuncData} (F : Fun K "_law_is_change" "_law_is_change" s_is_change f fd) (FW : Fun K "_law_whole" "_law_whole" s_whole fw fdw) (bW : Binds K fdw ["_law_found"] []) (mW : mg "_law_whole" = some (.ref fw))
    (FT : Fun K "_law_texts" "_law_texts" s_texts ft fdt) (bT : Binds K fdt ["_law_found"] []) (mT : mg "_law_texts" = some (.ref ft)) (B : Bn mg) : FnOk P w K mg base CX0 2 f fd ["_law_found"] spIsChange := by
  have GW : FnOk P w K mg base CX0 1 fw fdw ["_law_found"] spWhole := ok_whole FW B
  have GT : FnOk P w K mg base CX0 1 ft fdt ["_law_found"] spTexts := ok_texts FT B
  refine F.ok sc_is_change (fun vs H Q E h => ?_) (fun cdv A outer s H vs Q E hr h => ?_)
  · obtain ⟨a, bs, rfl, _⟩ := h
    rfl
  obtain ⟨a, bs, rfl, ⟨ps, ha, hbs⟩, fi, lo, ln, k⟩ := h
  have hu := hr.units0
  refine ⟨_, pss_cons (ps_if (pt_not (pt_val (pe_callB call_isi rfl B.isi PyProof.Rows.boot_isinstance (pa_cons (pv 0) (pa_cons (pe_bltn (v := .ty "list") rfl B.list PyProof.Rows.boot_list rfl) pa_nil))))) (pss_one (ps_ret pe_bl)) pss_nil)
    (pss_cons (ps_set (i := 1) sc_is_change.nd rfl (Or.inl rfl) pe_str)
    (pss_cons (ps_for PassesOwn.never rfl (pi_list (pv 0)) (pg_name (i := 2) sc_is_change.nd rfl (Or.inl rfl))
      (pss_cons (ps_if (PW.pt (pw_or (pt_not (pt_val (pe_callB call_isi rfl B.isi PyProof.Rows.boot_isinstance (pa_cons (pv 2) (pa_cons (pe_bltn (v := .ty "tuple") rfl B.tuple PyProof.Rows.boot_tuple rfl) pa_nil)))))
          (pw_or (pt_cmpR op_lt (pe_callB call_len_seq rfl B.len PySem.boot_len (pa_cons (pv 2) pa_nil)) pe_int (nomark _))
          (pw_or1 (pt_not (pt_val (pe_callB call_isi rfl B.isi PyProof.Rows.boot_isinstance (pa_cons (pe_ix ix_tup (pv 2) pe_int (fun _ _ => rfl)) (pa_cons (pe_bltn (v := .ty "str") rfl B.str PyProof.Rows.boot_str rfl) pa_nil))))))))) (pss_one (ps_ret pe_bl)) pss_nil)
      (pss_cons (ps_if (pt_cmpR op_eq (pe_ix ix_tup (pv 2) pe_int (fun _ _ => rfl)) (pv 1) (nomark _)) (pss_one (ps_ret pe_bl)) pss_nil)
      (pss_cons (ps_if (pt_cmpR op_eq (pe_ix ix_tup (pv 2) pe_int (fun _ _ => rfl)) pe_str (nomark _))
          (pss_one (ps_if (PW.pt (pw_or (pt_cmpR op_ne (pe_callB call_len_seq rfl B.len PySem.boot_len (pa_cons (pv 2) pa_nil)) pe_int (nomark _))
            (pw_or (pt_not (pt_val (pe_call GW hr rfl mW FW.kp bW .nil pass0 (pa_cons (pe_ix ix_tup (pv 2) pe_int (fun _ _ => rfl)) pa_nil))))
            (pw_or1 (pt_cmpR op_lt (pe_ix ix_tup (pv 2) pe_int (fun _ _ => rfl)) pe_int (nomark _)))))) (pss_one (ps_ret pe_bl)) pss_nil))
          (pss_one (ps_if (PW.pt (pw_or (pt_cmpR op_ne (pe_ix ix_tup (pv 2) pe_int (fun _ _ => rfl)) pe_str (nomark _)) (pw_or1 (pt_cmpR op_ne (pe_callB call_len_seq rfl B.len PySem.boot_len (pa_cons (pv 2) pa_nil)) pe_int (nomark _))))) (pss_one (ps_ret pe_bl))
            (pss_one (ps_if (PW.pt (pw_or (pt_not (pt_val (pe_call GT hr rfl mT FT.kp bT .nil pass0 (pa_cons (pe_ix ix_tup (pv 2) pe_int (fun _ _ => rfl)) pa_nil))))
              (pw_or (pt_not (pt_val (pe_call GT hr rfl mT FT.kp bT .nil pass0 (pa_cons (pe_ix ix_tup (pv 2) pe_int (fun _ _ => rfl)) pa_nil))))
              (pw_or1 (pt_cmpR (op_eqL hu) (pe_op op_cat (pe_ix ix_tup (pv 2) pe_int (fun _ _ => rfl)) (pe_ix ix_tup (pv 2) pe_int (fun _ _ => rfl))) (pe_lst pa_nil) (nomark _)))))) (pss_one (ps_ret pe_bl)) pss_nil)))))
      (pss_one (ps_set (i := 1) sc_is_change.nd rfl (Or.inl rfl) (pe_ix ix_tup (pv 2) pe_int (fun _ _ => rfl))))))))
    (pss_one (ps_ret pe_bl)))), ?_⟩
  refine ⟨_, rfl, _, _, _, _, rfl, .lst ha, kit_same "list", _, rfl, iteNT ?_⟩
  refine ⟨_, rfl, a, rfl, ⟨_, SqL.of ha⟩, for_list (K := K) (a := a) (xs := ps.map V.ref)
    (fun i σ H2 => ∃ (t : Str) (v : Option V), σ = [some (.ref a), some (.str t), v] ∧ Same H H2 ∧ (i = 0 → t = "") ∧ ∀ (j : Nat) (b : Blk Str), i = j + 1 → bs[j]? = some b → t = kindS b)
    ⟨_, _, rfl, Same.refl _, fun _ => rfl, fun j b z => by omega⟩ (fun i σ H2 _ ⟨_, _, _, s2, _⟩ => SqL.of (s2 _ _ ha)) ?_ ?_⟩
  · rintro i y σ H2 hi ⟨t, v, rfl, s2, t0, t1⟩
    obtain ⟨p, hp, rfl⟩ := map_get hi
    obtain ⟨b, hbi, hbp⟩ := paired_get hbs hp
    have hb2 := hbp.same s2
    have bm : b ∈ bs := List.mem_of_getElem? hbi
    have be := fi.full b bm
    have bo := olds_mem bm
    have bn := news_mem bm
    -- the kind is another one than the last
    have hne : ¬ (V.str (kindS b) = V.str t) := by
      cases i with
      | zero => rw [t0 rfl]; exact kind_ne0 b
      | succ i =>
        have hi' : i < bs.length := by have := (List.getElem?_eq_some_iff.mp hbi).1; omega
        have e : bs[i]? = some bs[i] := List.getElem?_eq_getElem hi'
        rw [t1 i _ rfl e]
        exact kind_ne (fi.alt i _ b e hbi)
    have nx : ∀ H3, Same H2 H3 → ∃ (t' : Str) (v : Option V), [some (.ref a), some (.str (kindS b)), some (V.ref p)] = [some (.ref a), some (.str t'), v] ∧ Same H H3 ∧ (i + 1 = 0 → t' = "") ∧ ∀ (j : Nat) (c : Blk Str), i + 1 = j + 1 → bs[j]? = some c → t' = kindS c := fun H3 s3 =>
      ⟨_, _, rfl, s2.trans s3, fun z => by omega, fun j c z h => by
        have : i = j := by omega
        subst this
        rw [hbi] at h; cases h; rfl⟩
    cases b with
    | keep ks =>
      have hk : H2 p = some (.tup [.str "keep", .int (ks.length : Int)]) := hb2
      refine ⟨_, rfl, _, _, _, _, rfl, .tup hk, kit_same "tuple", _, rfl, iteNT ?_⟩
      refine ⟨_, rfl, p, _, rfl, .inr (SqT.of hk), _, _, rfl, rfl, _, rfl, iteNo (by show ¬ ((2 : Nat) : Int) < 2; decide) ?_⟩
      refine ⟨_, rfl, p, _, _, _, rfl, rfl, SqT.of hk, rfl, _, _, _, _, rfl, .str _, kit_same "str", _, rfl, iteNT ?_⟩
      refine ⟨_, rfl, p, _, _, _, rfl, rfl, SqT.of hk, rfl, _, rfl, rfl, _, rfl, iteNo hne ?_⟩
      refine ⟨_, rfl, p, _, _, _, rfl, rfl, SqT.of hk, rfl, rfl, _, rfl, iteYes rfl ?_⟩
      refine ⟨_, rfl, p, _, rfl, .inr (SqT.of hk), rfl, _, rfl, iteNNo rfl ?_⟩
      refine ⟨_, rfl, p, _, _, _, rfl, rfl, SqT.of hk, rfl, _, rfl, _, rfl, iteNT ?_⟩
      have l1 : 1 ≤ ks.length := by
        cases ks with
        | nil => cases be
        | cons _ _ => simp
      refine ⟨_, rfl, p, _, _, _, rfl, rfl, SqT.of hk, rfl, _, _, rfl, rfl, _, rfl, iteNo (by omega) ?_⟩
      refine ⟨_, rfl, p, _, _, _, rfl, rfl, SqT.of hk, rfl, ?_⟩
      exact nx H2 (Same.refl _)
    | swap g c =>
      obtain ⟨pg, pc, hk, hg, hc⟩ := hb2
      refine ⟨_, rfl, _, _, _, _, rfl, .tup hk, kit_same "tuple", _, rfl, iteNT ?_⟩
      refine ⟨_, rfl, p, _, rfl, .inr (SqT.of hk), _, _, rfl, rfl, _, rfl, iteNo (by show ¬ ((3 : Nat) : Int) < 2; decide) ?_⟩
      refine ⟨_, rfl, p, _, _, _, rfl, rfl, SqT.of hk, rfl, _, _, _, _, rfl, .str _, kit_same "str", _, rfl, iteNT ?_⟩
      refine ⟨_, rfl, p, _, _, _, rfl, rfl, SqT.of hk, rfl, _, rfl, rfl, _, rfl, iteNo hne ?_⟩
      refine ⟨_, rfl, p, _, _, _, rfl, rfl, SqT.of hk, rfl, rfl, _, rfl, iteNo sk_ne ?_⟩
      refine ⟨_, rfl, p, _, _, _, rfl, rfl, SqT.of hk, rfl, rfl, _, rfl, iteNNo rfl ?_⟩
      refine ⟨_, rfl, p, _, rfl, .inr (SqT.of hk), rfl, _, rfl, iteNNo rfl ?_⟩
      refine ⟨_, rfl, p, _, _, _, rfl, rfl, SqT.of hk, rfl, pg, g, rfl, hg, _, rfl, iteNT ?_⟩
      refine ⟨_, rfl, p, _, _, _, rfl, rfl, SqT.of hk, rfl, pc, c, rfl, hc, _, rfl, iteNT ?_⟩
      refine ⟨_, rfl, p, _, _, _, rfl, rfl, SqT.of hk, rfl, _, rfl, p, _, _, _, rfl, rfl, SqT.of hk, rfl, pg, pc, _, _, rfl, rfl, hg, hc, ?_, fun u hu' => ?_⟩
      · rw [List.length_map, List.length_map]
        simp only [Blk.old] at bo
        simp only [Blk.new] at bn
        exact small (by omega)
      have s3 := same_new hu' (.lst (g.map V.str ++ c.map V.str))
      refine ⟨(by show 0 ≤ sizeLine; decide), fun d hd => ?_⟩
      have s4 := same_new hd (.lst [])
      refine ⟨u, d, _, _, rfl, rfl, SqL.of (s4 _ _ upd_same), SqL.of upd_same, by rw [List.all_append, flat_str, flat_str]; rfl, rfl, _, rfl, ?_⟩
      have ee : eqL (g.map V.str ++ c.map V.str) [] = false := by
        rw [eqL_nil]
        simp only [Blk.empty] at be
        cases g with
        | cons _ _ => rfl
        | nil =>
          cases c with
          | nil => cases be
          | cons _ _ => rfl
      show (if (eqL (g.map V.str ++ c.map V.str) []) = true then _ else _)
      rw [ee]
      refine iteF ?_
      refine ⟨_, rfl, p, _, _, _, rfl, rfl, SqT.of (s4 _ _ (s3 _ _ hk)), rfl, ?_⟩
      exact nx _ (s3.trans s4)
  · rintro σ H2 ⟨t, v, rfl, s2, _, _⟩
    exact k H2 s2
end
end Rm

set_option Elab.async false
set_option linter.all false
set_option maxRecDepth 100000
set_option maxHeartbeats 4000000
namespace Rm
open PySem L2 My
section
variable {P : Program} {w : World} {K : PySem.W.Frag} {mg : Str → Option Value} {base : Heap}
/-! ### _law_is_change -/
def spIsChangeX : Sp := fun vs H Q _ => ∃ (a : Addr) (bs : List (Blk Str)), vs = [.ref a] ∧ ChgAt H a bs ∧ Fine bs ∧ (sOf bs).length ≤ 1000 ∧ (sNf bs).length ≤ 1000 ∧ ∀ H' : Hp, Same H H' → Q (.bl true) H'
theorem ok_is_changeX {f fw ft : Addr} {fd fdw fdt : FuncData} (F : Fun K "_law_is_change" "_law_is_change" s_is_change f fd) (FW : Fun K "_law_whole" "_law_whole" s_whole fw fdw) (bW : Binds K fdw ["_law_found"] []) (mW : mg "_law_whole" = some (.ref fw))
    (FT : Fun K "_law_texts" "_law_texts" s_texts ft fdt) (bT : Binds K fdt ["_law_found"] []) (mT : mg "_law_texts" = some (.ref ft)) (B : Bn mg) : FnOk P w K mg base CX0 2 f fd ["_law_found"] spIsChangeX := by
  have GW : FnOk P w K mg base CX0 1 fw fdw ["_law_found"] spWhole := ok_whole FW B
  have GT : FnOk P w K mg base CX0 1 ft fdt ["_law_found"] spTexts := ok_texts FT B
  refine F.ok sc_is_change (fun vs H Q E h => ?_) (fun cdv A outer s H vs Q E hr h => ?_)
  · obtain ⟨a, bs, rfl, _⟩ := h
    rfl
  obtain ⟨a, bs, rfl, ⟨ps, ha, hbs⟩, fi, lo, ln, k⟩ := h
  have hu := hr.units0
  refine ⟨_, pss_cons (ps_if (pt_not (pt_val (pe_callB call_isi rfl B.isi PyProof.Rows.boot_isinstance (pa_cons (pv 0) (pa_cons (pe_bltn (v := .ty "list") rfl B.list PyProof.Rows.boot_list rfl) pa_nil))))) (pss_one (ps_ret pe_bl)) pss_nil)
    (pss_cons (ps_set (i := 1) sc_is_change.nd rfl (Or.inl rfl) pe_str)
    (pss_cons (ps_for PassesOwn.never rfl (pi_list (pv 0)) (pg_name (i := 2) sc_is_change.nd rfl (Or.inl rfl))
      (pss_cons (ps_if (PW.pt (pw_or (pt_not (pt_val (pe_callB call_isi rfl B.isi PyProof.Rows.boot_isinstance (pa_cons (pv 2) (pa_cons (pe_bltn (v := .ty "tuple") rfl B.tuple PyProof.Rows.boot_tuple rfl) pa_nil)))))
          (pw_or (pt_cmpR op_lt (pe_callB call_len_seq rfl B.len PySem.boot_len (pa_cons (pv 2) pa_nil)) pe_int (nomark _))
          (pw_or1 (pt_not (pt_val (pe_callB call_isi rfl B.isi PyProof.Rows.boot_isinstance (pa_cons (pe_ix ix_tup (pv 2) pe_int (fun _ _ => rfl)) (pa_cons (pe_bltn (v := .ty "str") rfl B.str PyProof.Rows.boot_str rfl) pa_nil))))))))) (pss_one (ps_ret pe_bl)) pss_nil)
      (pss_cons (ps_if (pt_cmpR op_eq (pe_ix ix_tup (pv 2) pe_int (fun _ _ => rfl)) (pv 1) (nomark _)) (pss_one (ps_ret pe_bl)) pss_nil)
      (pss_cons (ps_if (pt_cmpR op_eq (pe_ix ix_tup (pv 2) pe_int (fun _ _ => rfl)) pe_str (nomark _))
          (pss_one (ps_if (PW.pt (pw_or (pt_cmpR op_ne (pe_callB call_len_seq rfl B.len PySem.boot_len (pa_cons (pv 2) pa_nil)) pe_int (nomark _))
            (pw_or (pt_not (pt_val (pe_call GW hr rfl mW FW.kp bW .nil pass0 (pa_cons (pe_ix ix_tup (pv 2) pe_int (fun _ _ => rfl)) pa_nil))))
            (pw_or1 (pt_cmpR op_lt (pe_ix ix_tup (pv 2) pe_int (fun _ _ => rfl)) pe_int (nomark _)))))) (pss_one (ps_ret pe_bl)) pss_nil))
          (pss_one (ps_if (PW.pt (pw_or (pt_cmpR op_ne (pe_ix ix_tup (pv 2) pe_int (fun _ _ => rfl)) pe_str (nomark _)) (pw_or1 (pt_cmpR op_ne (pe_callB call_len_seq rfl B.len PySem.boot_len (pa_cons (pv 2) pa_nil)) pe_int (nomark _))))) (pss_one (ps_ret pe_bl))
            (pss_one (ps_if (PW.pt (pw_or (pt_not (pt_val (pe_call GT hr rfl mT FT.kp bT .nil pass0 (pa_cons (pe_ix ix_tup (pv 2) pe_int (fun _ _ => rfl)) pa_nil))))
              (pw_or (pt_not (pt_val (pe_call GT hr rfl mT FT.kp bT .nil pass0 (pa_cons (pe_ix ix_tup (pv 2) pe_int (fun _ _ => rfl)) pa_nil))))
              (pw_or1 (pt_cmpR (op_eqL hu) (pe_op op_cat (pe_ix ix_tup (pv 2) pe_int (fun _ _ => rfl)) (pe_ix ix_tup (pv 2) pe_int (fun _ _ => rfl))) (pe_lst pa_nil) (nomark _)))))) (pss_one (ps_ret pe_bl)) pss_nil)))))
      (pss_one (ps_set (i := 1) sc_is_change.nd rfl (Or.inl rfl) (pe_ix ix_tup (pv 2) pe_int (fun _ _ => rfl))))))))
    (pss_one (ps_ret pe_bl)))), ?_⟩
  refine ⟨_, rfl, _, _, _, _, rfl, .lst ha, kit_same "list", _, rfl, iteNT ?_⟩
  refine ⟨_, rfl, a, rfl, ⟨_, SqL.of ha⟩, for_list (K := K) (a := a) (xs := ps.map V.ref)
    (fun i σ H2 => ∃ (t : Str) (v : Option V), σ = [some (.ref a), some (.str t), v] ∧ Same H H2 ∧ (i = 0 → t = "") ∧ ∀ (j : Nat) (b : Blk Str), i = j + 1 → bs[j]? = some b → t = kindS b)
    ⟨_, _, rfl, Same.refl _, fun _ => rfl, fun j b z => by omega⟩ (fun i σ H2 _ ⟨_, _, _, s2, _⟩ => SqL.of (s2 _ _ ha)) ?_ ?_⟩
  · rintro i y σ H2 hi ⟨t, v, rfl, s2, t0, t1⟩
    obtain ⟨p, hp, rfl⟩ := map_get hi
    obtain ⟨b, hbi, hbp⟩ := paired_get hbs hp
    have hb2 := hbp.same s2
    have bm : b ∈ bs := List.mem_of_getElem? hbi
    have be := fi.full b bm
    have bo := sOf_mem bm
    have bn := sNf_mem bm
    -- the kind is another one than the last
    have hne : ¬ (V.str (kindS b) = V.str t) := by
      cases i with
      | zero => rw [t0 rfl]; exact kind_ne0 b
      | succ i =>
        have hi' : i < bs.length := by have := (List.getElem?_eq_some_iff.mp hbi).1; omega
        have e : bs[i]? = some bs[i] := List.getElem?_eq_getElem hi'
        rw [t1 i _ rfl e]
        exact kind_ne (fi.alt i _ b e hbi)
    have nx : ∀ H3, Same H2 H3 → ∃ (t' : Str) (v : Option V), [some (.ref a), some (.str (kindS b)), some (V.ref p)] = [some (.ref a), some (.str t'), v] ∧ Same H H3 ∧ (i + 1 = 0 → t' = "") ∧ ∀ (j : Nat) (c : Blk Str), i + 1 = j + 1 → bs[j]? = some c → t' = kindS c := fun H3 s3 =>
      ⟨_, _, rfl, s2.trans s3, fun z => by omega, fun j c z h => by
        have : i = j := by omega
        subst this
        rw [hbi] at h; cases h; rfl⟩
    cases b with
    | keep ks =>
      have hk : H2 p = some (.tup [.str "keep", .int (ks.length : Int)]) := hb2
      refine ⟨_, rfl, _, _, _, _, rfl, .tup hk, kit_same "tuple", _, rfl, iteNT ?_⟩
      refine ⟨_, rfl, p, _, rfl, .inr (SqT.of hk), _, _, rfl, rfl, _, rfl, iteNo (by show ¬ ((2 : Nat) : Int) < 2; decide) ?_⟩
      refine ⟨_, rfl, p, _, _, _, rfl, rfl, SqT.of hk, rfl, _, _, _, _, rfl, .str _, kit_same "str", _, rfl, iteNT ?_⟩
      refine ⟨_, rfl, p, _, _, _, rfl, rfl, SqT.of hk, rfl, _, rfl, rfl, _, rfl, iteNo hne ?_⟩
      refine ⟨_, rfl, p, _, _, _, rfl, rfl, SqT.of hk, rfl, rfl, _, rfl, iteYes rfl ?_⟩
      refine ⟨_, rfl, p, _, rfl, .inr (SqT.of hk), rfl, _, rfl, iteNNo rfl ?_⟩
      refine ⟨_, rfl, p, _, _, _, rfl, rfl, SqT.of hk, rfl, _, rfl, _, rfl, iteNT ?_⟩
      have l1 : 1 ≤ ks.length := by
        cases ks with
        | nil => cases be
        | cons _ _ => simp
      refine ⟨_, rfl, p, _, _, _, rfl, rfl, SqT.of hk, rfl, _, _, rfl, rfl, _, rfl, iteNo (by omega) ?_⟩
      refine ⟨_, rfl, p, _, _, _, rfl, rfl, SqT.of hk, rfl, ?_⟩
      exact nx H2 (Same.refl _)
    | swap g c =>
      obtain ⟨pg, pc, hk, hg, hc⟩ := hb2
      refine ⟨_, rfl, _, _, _, _, rfl, .tup hk, kit_same "tuple", _, rfl, iteNT ?_⟩
      refine ⟨_, rfl, p, _, rfl, .inr (SqT.of hk), _, _, rfl, rfl, _, rfl, iteNo (by show ¬ ((3 : Nat) : Int) < 2; decide) ?_⟩
      refine ⟨_, rfl, p, _, _, _, rfl, rfl, SqT.of hk, rfl, _, _, _, _, rfl, .str _, kit_same "str", _, rfl, iteNT ?_⟩
      refine ⟨_, rfl, p, _, _, _, rfl, rfl, SqT.of hk, rfl, _, rfl, rfl, _, rfl, iteNo hne ?_⟩
      refine ⟨_, rfl, p, _, _, _, rfl, rfl, SqT.of hk, rfl, rfl, _, rfl, iteNo sk_ne ?_⟩
      refine ⟨_, rfl, p, _, _, _, rfl, rfl, SqT.of hk, rfl, rfl, _, rfl, iteNNo rfl ?_⟩
      refine ⟨_, rfl, p, _, rfl, .inr (SqT.of hk), rfl, _, rfl, iteNNo rfl ?_⟩
      refine ⟨_, rfl, p, _, _, _, rfl, rfl, SqT.of hk, rfl, pg, g, rfl, hg, _, rfl, iteNT ?_⟩
      refine ⟨_, rfl, p, _, _, _, rfl, rfl, SqT.of hk, rfl, pc, c, rfl, hc, _, rfl, iteNT ?_⟩
      refine ⟨_, rfl, p, _, _, _, rfl, rfl, SqT.of hk, rfl, _, rfl, p, _, _, _, rfl, rfl, SqT.of hk, rfl, pg, pc, _, _, rfl, rfl, hg, hc, ?_, fun u hu' => ?_⟩
      · rw [List.length_map, List.length_map]
        simp only [swO] at bo
        simp only [swN] at bn
        exact small (by omega)
      have s3 := same_new hu' (.lst (g.map V.str ++ c.map V.str))
      refine ⟨(by show 0 ≤ sizeLine; decide), fun d hd => ?_⟩
      have s4 := same_new hd (.lst [])
      refine ⟨u, d, _, _, rfl, rfl, SqL.of (s4 _ _ upd_same), SqL.of upd_same, by rw [List.all_append, flat_str, flat_str]; rfl, rfl, _, rfl, ?_⟩
      have ee : eqL (g.map V.str ++ c.map V.str) [] = false := by
        rw [eqL_nil]
        simp only [Blk.empty] at be
        cases g with
        | cons _ _ => rfl
        | nil =>
          cases c with
          | nil => cases be
          | cons _ _ => rfl
      show (if (eqL (g.map V.str ++ c.map V.str) []) = true then _ else _)
      rw [ee]
      refine iteF ?_
      refine ⟨_, rfl, p, _, _, _, rfl, rfl, SqT.of (s4 _ _ (s3 _ _ hk)), rfl, ?_⟩
      exact nx _ (s3.trans s4)
  · rintro σ H2 ⟨t, v, rfl, s2, _, _⟩
    exact k H2 s2
end
end Rm

set_option Elab.async false
set_option linter.all false
set_option maxRecDepth 100000
set_option maxHeartbeats 4000000
namespace L2
open PySem PySem.Spec PyProof.Rows
theorem mul_len (z : Str) (n : Int) (hz : z.length ≤ 16) (h0 : 0 ≤ n) : (Txt.mul z n).length ≤ 16 * n.toNat := by
  unfold Txt.mul
  split
  · show (0 : Nat) ≤ _; omega
  · rename_i h2
    split
    · have : 1 ≤ n.toNat := by omega
      have := Nat.mul_le_mul (Nat.le_refl 16) this
      omega
    · show ((List.replicate n.toNat z.cps).foldl (· ++ ·) #[]).size ≤ _
      rw [len_reps]
      have e : z.cps.size ≤ 16 := hz
      have := Nat.mul_le_mul (Nat.le_refl n.toNat) e
      simp only [Array.size_empty]
      rw [Nat.mul_comm 16]
      omega
theorem op_mulX {X : Cx} : OpR X (binaryOp .Mult) (fun x y H Q => ∃ (z : Str) (n : Int), x = .str z ∧ y = .int n ∧ z.length ≤ 16 ∧ 0 ≤ n ∧ n ≤ 1048576 ∧ Q (.str (Txt.mul z n)) H) := by
  intro pins s σ H x y v u Q I rx ry h
  obtain ⟨z, n, rfl, rfl, hz, h0, h1, q⟩ := h
  obtain ⟨t, rfl⟩ := rx
  obtain ⟨t', rfl⟩ := ry
  exact SB.mul (mulOk_of 16 1048576 hz (by omega) (by omega) (by decide) (by decide)) fun t' k => ⟨.str _, H, I.tok k, ⟨_, rfl⟩, q⟩
end L2
namespace Rm
open PySem L2 My
theorem str_assoc (a b c : Str) : a ++ b ++ c = a ++ (b ++ c) := by
  show (⟨a.cps ++ b.cps ++ c.cps⟩ : Str) = ⟨a.cps ++ (b.cps ++ c.cps)⟩
  rw [Array.append_assoc]
theorem str_nil (a : Str) : a ++ Str.empty = a := by
  show (⟨a.cps ++ #[]⟩ : Str) = a
  rw [Array.append_empty]
def sgA : Str := "!\"#$&'()*+,-./0123456789:;<=>?@ABCDEFGHIJKLMNOPQRSTUVWXYZ[\\]^_`"
def sgB : Str := "abcdefghijklmnopqrstuvwxyz{|}~ "
theorem sgx_len : (sgA ++ sgB).length = 94 := by decide +kernel
theorem sgx_small : sgA.length + sgB.length ≤ sizeLine := by decide +kernel
def signAt (n : Nat) : Nat := (atI (sgA ++ sgB).cps.toList ((n : Int) % 94)).getD 0
theorem sign_at {l : Int} (h : 0 ≤ l) : atI (sgA ++ sgB).cps.toList (l % 94) = some (signAt l.toNat) := by
  have hl : (sgA ++ sgB).cps.toList.length = 94 := sgx_len
  have r0 : 0 ≤ l % 94 := Int.emod_nonneg _ (by decide)
  have r1 : l % 94 < 94 := Int.emod_lt_of_pos _ (by decide)
  have hi : (l % 94).toNat < (sgA ++ sgB).cps.toList.length := by omega
  have e := atI_get (List.getElem?_eq_getElem hi) (show l % 94 = (((l % 94).toNat : Nat) : Int) by omega)
  unfold signAt
  rw [show ((l.toNat : Nat) : Int) = l by omega, e]
  rfl
def tailS : Nat → Nat → Str
  | 0, _ => Str.empty
  | f + 1, n => if n = 0 then Str.empty else (⟨#[signAt n]⟩ : Str) ++ tailS f (n / 94)
def absI (c : Int) : Int := if c < 0 then -c else c
def anyText (c : Int) : Str := Txt.mul "~" (absI c / 7 % 3 * 60) ++ tailS 200 (absI c % 10 ^ 60).toNat
theorem tail_len : ∀ d n, (tailS d n).length ≤ d
  | 0, _ => Nat.le_refl _
  | d + 1, n => by
    unfold tailS
    split
    · exact Nat.zero_le _
    · rw [Str.length_append]
      have := tail_len d (n / 94)
      show 1 + _ ≤ _
      omega
theorem any_len (c : Int) : (anyText c).length ≤ 3000 := by
  unfold anyText
  have h3 : 0 ≤ absI c / 7 % 3 ∧ absI c / 7 % 3 < 3 := ⟨Int.emod_nonneg _ (by decide), Int.emod_lt_of_pos _ (by decide)⟩
  have h1 := mul_len "~" (absI c / 7 % 3 * 60) (by decide +kernel) (by omega)
  have h2 := tail_len 200 (absI c % 10 ^ 60).toNat
  rw [Str.length_append]
  omega
section
variable {P : Program} {w : World} {K : PySem.W.Frag} {mg : Str → Option Value} {base : Heap}
/-! ### _law_any_text, as a function -/
def spAnyX : Sp := fun vs H Q _ => ∃ c : Int, vs = [.int c] ∧ Q (.str (anyText c)) H
theorem sc_any_text : FnScope ["_law_cell", "_law_signs", "_law_left", "_law_text"] ["_law_cell"] (defScope s_any_text) := ⟨rfl, rfl, rfl, by decide +kernel, rfl, by decide +kernel, by decide +kernel⟩
theorem ok_any_text {f : Addr} {fd : FuncData} (F : Fun K "_law_any_text" "_law_any_text" s_any_text f fd) (B : Bn mg) : FnOk P w K mg base CX0 1 f fd ["_law_cell"] spAnyX := by
  refine F.ok sc_any_text (fun vs H Q E h => ?_) (fun cdv A outer s H vs Q E hr h => ?_)
  · obtain ⟨c, rfl, _⟩ := h
    rfl
  obtain ⟨c, rfl, k⟩ := h
  refine ⟨_, pss_cons (ps_set (i := 1) sc_any_text.nd rfl (Or.inl rfl) pe_str)
    (pss_cons (ps_set (i := 1) sc_any_text.nd rfl (Or.inl rfl) (pe_op op_add_str (pv 1) pe_str))
    (pss_cons (ps_set (i := 2) sc_any_text.nd rfl (Or.inl rfl) (pe_op op_mod (pe_callB call_abs rfl B.abs PyProof.Rows.boot_abs (pa_cons (pv 0) pa_nil)) (pe_op op_pow pe_int pe_int)))
    (pss_cons (ps_set (i := 3) sc_any_text.nd rfl (Or.inl rfl) (pe_op op_mulX pe_str (pe_op op_mul (pe_op op_mod (pe_op op_fdiv (pe_callB call_abs rfl B.abs PyProof.Rows.boot_abs (pa_cons (pv 0) pa_nil)) pe_int) pe_int) pe_int)))
    (pss_cons (ps_while PassesOwn.never (pt_cmpR op_gt (pv 2) pe_int (nomark _))
      (pss_cons (ps_set (i := 3) sc_any_text.nd rfl (Or.inl rfl) (pe_op op_add_str (pv 3) (pe_ix ix_str (pv 1) (pe_op op_mod (pv 2) (pe_callB call_len_str rfl B.len PySem.boot_len (pa_cons (pv 1) pa_nil))) (fun _ _ => rfl))))
      (pss_one (ps_set (i := 2) sc_any_text.nd rfl (Or.inl rfl) (pe_op op_fdiv (pv 2) (pe_callB call_len_str rfl B.len PySem.boot_len (pa_cons (pv 1) pa_nil)))))))
    (pss_one (ps_ret (pv 3))))))), ?_⟩
  refine ⟨_, rfl, sgA, sgB, rfl, rfl, sgx_small, ?_⟩
  refine ⟨_, rfl, _, rfl, _, _, rfl, rfl, ⟨by decide, by decide, by decide⟩, _, _, rfl, rfl, (by show (0 : Int) < 10 ^ 60; decide), ?_⟩
  have hl0 : 0 ≤ absI c % ((10 : Int) ^ (60 : Int).toNat) := Int.emod_nonneg _ (by decide)
  have hl1 : absI c % ((10 : Int) ^ (60 : Int).toNat) < 2 ^ 200 := Int.lt_trans (Int.emod_lt_of_pos _ (by decide)) (by decide)
  refine ⟨_, rfl, _, rfl, _, _, rfl, rfl, ⟨by decide, by decide⟩, _, _, rfl, rfl, (by show (0 : Int) < 3; decide), _, _, rfl, rfl, .inr ⟨by decide, by decide⟩, ?_⟩
  have h3 : 0 ≤ absI c / 7 % 3 ∧ absI c / 7 % 3 < 3 := ⟨Int.emod_nonneg _ (by decide), Int.emod_lt_of_pos _ (by decide)⟩
  have hm := mul_len "~" (absI c / 7 % 3 * 60) (by decide +kernel) (by omega)
  refine ⟨"~", absI c / 7 % 3 * 60, rfl, rfl, (by decide +kernel), by omega, by omega, ?_⟩
  refine ⟨fun m σ H2 => ∃ (l : Int) (t : Str) (d : Nat), m = l.toNat ∧ σ = [some (.int c), some (.str (sgA ++ sgB)), some (.int l), some (.str t)] ∧ H2 = H ∧ 0 ≤ l ∧ l < 2 ^ d ∧ t.length + d ≤ 3200 ∧ t ++ tailS d l.toNat = anyText c,
    ⟨_, _, _, 200, rfl, rfl, rfl, hl0, hl1, by omega, rfl⟩, ?_⟩
  rintro m σ H2 ⟨l, t, d, rfl, rfl, rfl, l0, l1, lt, et⟩
  refine ⟨_, rfl, _, _, rfl, rfl, _, rfl, ?_⟩
  refine ite2d (fun g => ?_) (fun g => ?_)
  · have g' : 0 < l := g
    have hd : 1 ≤ d := by
      cases d with
      | zero => exfalso; have : l < 1 := by simpa using l1
                omega
      | succ d => omega
    refine ⟨fun σ' H' => ∃ (l' : Int) (t : Str) (d : Nat), l' < l ∧ σ' = [some (.int c), some (.str (sgA ++ sgB)), some (.int l'), some (.str t)] ∧ H' = H2 ∧ 0 ≤ l' ∧ l' < 2 ^ d ∧ t.length + d ≤ 3200 ∧ t ++ tailS d l'.toNat = anyText c,
      fun σ' H' ⟨l', t, d, z, e, h1, h2, h3⟩ => ⟨l'.toNat, by omega, l', t, d, rfl, e, h1, h2, h3⟩, ?_⟩
    have em : ((sgA ++ sgB).length : Int) = 94 := by rw [sgx_len]; rfl
    have ml : (sgA ++ sgB).length ≤ sizeLine := by rw [sgx_len]; decide
    have hch : atI (sgA ++ sgB).cps.toList (l % ((sgA ++ sgB).length : Int)) = some (signAt l.toNat) := by rw [em]; exact sign_at l0
    refine ⟨_, rfl, _, rfl, _, rfl, _, rfl, _, rfl, ml, _, _, rfl, rfl, (by show 0 < ((sgA ++ sgB).length : Int); rw [em]; decide), _, _, _, rfl, rfl, ml, hch, _, _, rfl, rfl, ?_, ?_⟩
    · show t.length + 1 ≤ sizeLine
      exact small (by omega)
    refine ⟨_, rfl, _, rfl, _, rfl, ml, _, _, rfl, rfl, ⟨by rw [em]; decide, by rw [em]; decide⟩, ?_⟩
    refine ⟨_, _, d - 1, ?_, rfl, rfl, ?_, ?_, ?_, ?_⟩
    · rw [em]; omega
    · rw [em]; omega
    · rw [em]
      have e : (2 : Int) ^ d = 2 * 2 ^ (d - 1) := by
        have : d = (d - 1) + 1 := by omega
        conv => lhs; rw [this, Int.pow_succ]
        omega
      rw [e] at l1
      generalize (2 : Int) ^ (d - 1) = z at l1
      omega
    · rw [Str.length_append]
      show t.length + 1 + (d - 1) ≤ 3200
      omega
    · rw [em, str_assoc, ← et]
      congr 1
      obtain ⟨d', rfl⟩ : ∃ d', d = d' + 1 := ⟨d - 1, by omega⟩
      rw [Nat.add_sub_cancel]
      conv => rhs; unfold tailS
      rw [if_neg (by omega), show (l / 94).toNat = l.toNat / 94 by omega]
  · have g' : ¬ 0 < l := g
    have hl : l.toNat = 0 := by omega
    rw [hl] at et
    have e0 : tailS d 0 = Str.empty := by cases d <;> rfl
    rw [e0, str_nil] at et
    subst et
    exact ⟨_, rfl, k⟩
end
end Rm

set_option Elab.async false
set_option linter.all false
set_option maxRecDepth 100000
set_option maxHeartbeats 4000000
namespace Rm
open PySem L2 My
section
variable {P : Program} {w : World} {K : PySem.W.Frag} {mg : Str → Option Value} {base : Heap}
/-! ### _law_same_lines -/
def spSame : Sp := fun vs H Q _ => ∃ (a b : Addr) (x : List Str), vs = [.ref a, .ref b] ∧ H a = some (txt x) ∧ H b = some (txt x) ∧ x.length ≤ 1000 ∧ Q (.bl true) H
theorem sc_same_lines : FnScope ["_law_found", "_law_due", "_law_k"] ["_law_found", "_law_due"] (defScope s_same_lines) := ⟨rfl, rfl, rfl, by decide +kernel, rfl, by decide +kernel, by decide +kernel⟩
theorem ok_same_lines {f : Addr} {fd : FuncData} (F : Fun K "_law_same_lines" "_law_same_lines" s_same_lines f fd) (B : Bn mg) : FnOk P w K mg base CX0 1 f fd ["_law_found", "_law_due"] spSame := by
  refine F.ok sc_same_lines (fun vs H Q E h => ?_) (fun cdv A outer s H vs Q E hr h => ?_)
  · obtain ⟨a, b, x, rfl, _⟩ := h
    rfl
  obtain ⟨a, b, x, rfl, ha, hb, lx, q⟩ := h
  have hlx : (x.map V.str).length = x.length := List.length_map _
  refine ⟨_, pss_cons (ps_if (PW.pt (pw_or (pt_not (pt_val (pe_callB call_isi rfl B.isi PyProof.Rows.boot_isinstance (pa_cons (pv 0) (pa_cons (pe_bltn (v := .ty "list") rfl B.list PyProof.Rows.boot_list rfl) pa_nil)))))
      (pw_or1 (pt_cmpR op_ne (pe_callB call_len_seq rfl B.len PySem.boot_len (pa_cons (pv 0) pa_nil)) (pe_callB call_len_seq rfl B.len PySem.boot_len (pa_cons (pv 1) pa_nil)) (nomark _))))) (pss_one (ps_ret pe_bl)) pss_nil)
    (pss_cons (ps_for PassesOwn.never rfl (pi_range1 rfl B.range (pa_cons (pe_callB call_len_seq rfl B.len PySem.boot_len (pa_cons (pv 1) pa_nil)) pa_nil)) (pg_name (i := 2) sc_same_lines.nd rfl (Or.inl rfl))
      (pss_one (ps_if (PW.pt (pw_or (pt_not (pt_val (pe_callB call_isi rfl B.isi PyProof.Rows.boot_isinstance (pa_cons (pe_ix ix_list (pv 0) (pv 2) (fun _ _ => rfl)) (pa_cons (pe_bltn (v := .ty "str") rfl B.str PyProof.Rows.boot_str rfl) pa_nil)))))
        (pw_or1 (pt_cmpR op_ne (pe_ix ix_list (pv 0) (pv 2) (fun _ _ => rfl)) (pe_ix ix_list (pv 1) (pv 2) (fun _ _ => rfl)) (nomark _))))) (pss_one (ps_ret pe_bl)) pss_nil)))
    (pss_one (ps_ret pe_bl))), ?_⟩
  refine ⟨_, rfl, _, _, _, _, rfl, .lst ha, kit_same "list", _, rfl, iteNT ?_⟩
  refine ⟨_, rfl, a, _, rfl, .inl (SqL.of ha), _, rfl, b, _, rfl, .inl (SqL.of hb), rfl, _, rfl, iteNNo rfl ?_⟩
  refine ⟨_, rfl, b, _, rfl, .inl (SqL.of hb), _, rfl, by rw [hlx]; omega, by rw [hlx]; omega, for_range (fun i σ H2 => ∃ v : Option V, σ = [some (.ref a), some (.ref b), v] ∧ H2 = H) ⟨_, rfl, rfl⟩ ?_ ?_⟩
  · rintro i σ H2 hi ⟨v, rfl, rfl⟩
    have hi' : i < x.length := by rw [hlx] at hi; omega
    have xi : x[i]? = some x[i] := List.getElem?_eq_getElem hi'
    have ei : (0 : Int) + (i : Int) = (i : Int) := by omega
    refine ⟨_, rfl, _, rfl, a, _, _, _, rfl, rfl, SqL.of ha, atI_get (get_map xi) ei, _, _, _, _, rfl, .str _, kit_same "str", _, rfl, iteNT ?_⟩
    refine ⟨_, rfl, _, rfl, a, _, _, _, rfl, rfl, SqL.of ha, atI_get (get_map xi) ei, _, rfl, _, rfl, b, _, _, _, rfl, rfl, SqL.of hb, atI_get (get_map xi) ei, rfl, _, rfl, iteNNo rfl ?_⟩
    exact ⟨_, rfl, rfl⟩
  · rintro σ H2 ⟨v, rfl, rfl⟩
    exact q
end
end Rm

set_option Elab.async false
set_option linter.all false
set_option maxRecDepth 100000
set_option maxHeartbeats 4000000
namespace Rm
open PySem L2 My
section
variable {P : Program} {w : World} {K : PySem.W.Frag} {mg : Str → Option Value} {base : Heap}
/-! ### _law_nth -/
def spNth (K : PySem.W.Frag) : Sp := fun vs H Q _ => ∃ (a : Addr) (ns : List Int) (k : Nat), vs = [.ref a, .int (k : Int)] ∧ SqL K H a (ns.map V.int) ∧ ∀ i : Int, Q (.int i) H
theorem sc_nth : FnScope ["_law_script", "_law_k"] ["_law_script", "_law_k"] (defScope s_nth) := ⟨rfl, rfl, rfl, by decide +kernel, rfl, by decide +kernel, by decide +kernel⟩
theorem ok_nth {f : Addr} {fd : FuncData} (F : Fun K "_law_nth" "_law_nth" s_nth f fd) (B : Bn mg) : FnOk P w K mg base CX0 1 f fd ["_law_script", "_law_k"] (spNth K) := by
  refine F.ok sc_nth (fun vs H Q E h => ?_) (fun cdv A outer s H vs Q E hr h => ?_)
  · obtain ⟨a, ns, k, rfl, _⟩ := h
    rfl
  obtain ⟨a, ns, k, rfl, hS, q⟩ := h
  refine ⟨_, pss_cons (ps_if (pt_cmpR op_lt (pv 1) (pe_callB call_len_seq rfl B.len PySem.boot_len (pa_cons (pv 0) pa_nil)) (nomark _)) (pss_one (ps_ret (pe_ix ix_list (pv 0) (pv 1) (fun _ _ => rfl)))) pss_nil)
    (pss_one (ps_ret pe_int)), ?_⟩
  refine ⟨_, rfl, _, rfl, a, _, rfl, .inl hS, _, _, rfl, rfl, _, rfl, ite2d (fun g => ?_) (fun _ => q 0)⟩
  have g' : (k : Int) < ((ns.map V.int).length : Int) := g
  rw [List.length_map] at g'
  have hk : k < ns.length := by omega
  exact ⟨_, rfl, _, rfl, a, _, _, _, rfl, rfl, hS, atI_get (get_map (List.getElem?_eq_getElem hk)) rfl, q _⟩
end
end Rm

set_option Elab.async false
set_option linter.all false
set_option maxRecDepth 100000
set_option maxHeartbeats 4000000
namespace Rm
open PySem L2 My
/-! ### notes -/
def nS (n : Nat) : Str := Str.ofString (toString (n : Int))
inductive Nt where
  | eq (ks : List Str)
  | cut (z : Str)
  | put (z : Str)
def Nt.sign : Nt → Str
  | .eq _ => "="
  | .cut _ => "-"
  | .put _ => "+"
def Nt.rest : Nt → Str
  | .eq ks => nS ks.length
  | .cut z => z
  | .put z => z
def Nt.text (x : Nt) : Str := x.sign ++ x.rest
def Nt.part : Nt → Blk Str
  | .eq ks => .keep ks
  | .cut z => .swap [z] []
  | .put z => .swap [] [z]
def Nt.fine : Nt → Prop
  | .eq ks => 0 < ks.length ∧ ks.length < 300
  | .cut z => z.length ≤ 5000
  | .put z => z.length ≤ 5000
def Nt.isEq : Nt → Bool
  | .eq _ => true
  | _ => false
def Nt.isCut : Nt → Bool
  | .cut _ => true
  | _ => false
def Nt.isPut : Nt → Bool
  | .put _ => true
  | _ => false
def okN (x y : Nt) : Prop := (x.isEq && y.isEq) = false ∧ (x.isPut && y.isCut) = false
def ntsB : Blk Str → List Nt
  | .keep ks => [.eq ks]
  | .swap g c => g.map .cut ++ c.map .put
def nts (bs : List (Blk Str)) : List Nt := bs.flatMap ntsB
theorem sign_len (x : Nt) : x.sign.length = 1 := by
  cases x with
  | eq ks => show ("=" : Str).length = 1; decide +kernel
  | cut z => show ("-" : Str).length = 1; decide +kernel
  | put z => show ("+" : Str).length = 1; decide +kernel
theorem starts_nt (x : Nt) {d : Str} (hd : d.length ≤ 1) : Txt.startswith x.text d = Txt.startswith x.sign d := PySem.W.KAf.starts_left (by rw [sign_len]; exact hd)
theorem tail_nt (x : Nt) : Txt.slice x.text (some 1) none = x.rest := slice_tail (sign_len x)
theorem st_eq (x : Nt) : Txt.startswith x.text "=" = x.isEq := by
  rw [starts_nt x (by decide +kernel)]
  cases x with
  | eq ks => show Txt.startswith "=" "=" = true; decide +kernel
  | cut z => show Txt.startswith "-" "=" = false; decide +kernel
  | put z => show Txt.startswith "+" "=" = false; decide +kernel
theorem st_cut (x : Nt) : Txt.startswith x.text "-" = x.isCut := by
  rw [starts_nt x (by decide +kernel)]
  cases x with
  | eq ks => show Txt.startswith "=" "-" = false; decide +kernel
  | cut z => show Txt.startswith "-" "-" = true; decide +kernel
  | put z => show Txt.startswith "+" "-" = false; decide +kernel
theorem st_put (x : Nt) : Txt.startswith x.text "+" = x.isPut := by
  rw [starts_nt x (by decide +kernel)]
  cases x with
  | eq ks => show Txt.startswith "=" "+" = false; decide +kernel
  | cut z => show Txt.startswith "-" "+" = false; decide +kernel
  | put z => show Txt.startswith "+" "+" = true; decide +kernel
/-! ### numbers -/
def figs : Str := "0123456789"
def inFig (c : Nat) : Bool := !(Builtin.Str.occurrences figs ⟨#[c]⟩ 0 figs.length 1).isEmpty
def okNum (n : Nat) : Bool := decide ((nS n).length ≤ 10) && !(decide ((nS n) = (""  : Str))) && !(decide ((nS n).cps.toList[0]? = some 48)) && !(decide ((nS n).cps.toList[0]? = none)) && (nS n).cps.toList.all inFig
theorem nums_ok : ∀ n, n < 300 → 0 < n → okNum n = true := by decide +kernel
structure NumOk (n : Nat) : Prop where
  len : (nS n).length ≤ 10
  ne : ¬ (V.str (nS n) = V.str "")
  fst : ∃ c, atI (nS n).cps.toList 0 = some c ∧ c ≠ 48
  all : ∀ (i c : Nat), (nS n).cps[i]? = some c → inFig c = true
theorem num_ok {n : Nat} (h0 : 0 < n) (h1 : n < 300) : NumOk n := by
  have h := nums_ok n h1 h0
  unfold okNum at h
  simp only [Bool.and_eq_true, decide_eq_true_eq, Bool.not_eq_true', decide_eq_false_iff_not] at h
  obtain ⟨⟨⟨⟨a, b⟩, c⟩, d⟩, e⟩ := h
  refine ⟨a, fun z => b (V.str.inj z), ?_, fun i c hc => ?_⟩
  · cases e0 : (nS n).cps.toList[0]? with
    | none => exact absurd e0 d
    | some x => exact ⟨x, atI_nat (j := 0) e0, fun z => c (by rw [e0, z])⟩
  · refine List.all_eq_true.mp e c ?_
    rw [← Array.getElem?_toList] at hc
    exact List.mem_of_getElem? hc
theorem iteOn {b : Bool} {A B : Prop} (h : b = true) (a : A) : if b = true then A else B := by rw [h]; exact iteT a
theorem iteOff {b : Bool} {A B : Prop} (h : b = false) (a : B) : if b = true then A else B := by rw [h]; exact iteF a
section
variable {P : Program} {w : World} {K : PySem.W.Frag} {mg : Str → Option Value} {base : Heap}
/-! ### is_number -/
def spIsNum : Sp := fun vs H Q _ => ∃ n : Nat, vs = [.str (nS n)] ∧ 0 < n ∧ n < 300 ∧ ∀ H' : Hp, Same H H' → Q (.bl true) H'
theorem sc_is_number : FnScope ["figures"] ["figures"] (defScope s_is_number) := ⟨rfl, rfl, rfl, by decide +kernel, rfl, by decide +kernel, by decide +kernel⟩
theorem ok_is_number {f : Addr} {fd : FuncData} {tF : Tok} (F : Fun K "is_number" "is_number" s_is_number f fd) (mF : mg "FIGURES" = some (.str figs tF)) (zA : mg "all" = none) : FnOk P w K mg base CX0 1 f fd ["figures"] spIsNum := by
  refine F.ok sc_is_number (fun vs H Q E h => ?_) (fun cdv A outer s H vs Q E hr h => ?_)
  · obtain ⟨n, rfl, _⟩ := h
    rfl
  obtain ⟨n, rfl, n0, n1, k⟩ := h
  refine ⟨_, pss_cons (ps_if (PW.pt (pw_or (pt_cmpR op_eq (pv 0) pe_str (nomark _)) (pw_or1 (pt_cmpR op_eq (pe_ix ix_str (pv 0) pe_int (fun _ _ => rfl)) pe_str (nomark _))))) (pss_one (ps_ret pe_bl)) pss_nil)
    (pss_one (ps_ret (pe_callB (call_all rfl) rfl zA PyProof.Rows.boot_all (pa_cons (pe_lc rfl (lc_plain (x := "figure") (by decide +kernel) (by decide +kernel) rfl (by decide +kernel) rfl) (pi_str (pv 0))
      (fun _ _ _ _ _ => pf_nil) (fun _ _ _ _ _ => pe_cmpR op_in_str (pv 0) (pe_glob (v := .str figs) rfl mF ⟨tF, rfl⟩) rfl)) pa_nil)))), ?_⟩
  have N := num_ok n0 n1
  obtain ⟨c, hc, c48⟩ := N.fst
  refine ⟨_, rfl, rfl, _, rfl, iteNo N.ne ⟨_, rfl, _, _, _, rfl, rfl, small (Nat.le_trans N.len (by decide)), hc, rfl, _, rfl, iteNo ?_ ?_⟩⟩
  · intro z
    have z' := V.str.inj z
    have : (⟨#[c]⟩ : Str) = ⟨#[48]⟩ := z'.trans (by decide +kernel)
    injection this with e
    have e' := congrArg Array.toList e
    injection e' with e2
    exact c48 e2
  refine ⟨_, rfl, _, rfl, fun D hD => ?_⟩
  have s0 := same_new hD (.lst [])
  have sz : (nS n).cps.size ≤ 10 := N.len
  refine lc_str (z := nS n) (fun i H2 => H2 D = some (.lst ((List.replicate i true).map V.bl)) ∧ Same H H2) ⟨upd_same, s0⟩ ?_ ?_
  · rintro i d H2 hd ⟨h1, s2⟩
    have hi : i < (nS n).cps.size := (Array.getElem?_eq_some_iff.mp hd).1
    refine noif ?_
    refine ⟨_, rfl, _, _, rfl, rfl, _, h1, ?_, ?_, same_put hD s2⟩
    · rw [List.length_map, List.length_replicate]
      exact small' (by omega)
    · rw [upd_same]
      have := N.all i d hd
      unfold inFig at this
      rw [this, List.replicate_succ', List.map_append]
      rfl
  rintro H2 ⟨h1, s2⟩
  refine ⟨D, _, rfl, SqL.of h1, ?_⟩
  have e : ((List.replicate (nS n).cps.size true).all id) = true := by simp
  rw [e]
  exact k H2 s2
/-! ### part_of -/
def spPart : Sp := fun vs H Q _ => ∃ x : Nt, vs = [.str x.text] ∧ x.fine ∧ ∀ (r : Addr) (H' : Hp), Same H H' → (∀ l xs, H l = some (.lst xs) → BlkAt (rm H' l) r x.part) → Q (.ref r) H'
theorem sc_part_of : FnScope ["note"] ["note"] (defScope s_part_of) := ⟨rfl, rfl, rfl, by decide +kernel, rfl, by decide +kernel, by decide +kernel⟩
theorem text_len {x : Nt} (h : x.fine) : x.text.length ≤ 6000 := by
  unfold Nt.text
  rw [PySem.Str.length_append, sign_len]
  cases x with
  | eq ks => have := (num_ok h.1 h.2).len; show 1 + (nS ks.length).length ≤ _; omega
  | cut z => have : z.length ≤ 5000 := h; show 1 + z.length ≤ _; omega
  | put z => have : z.length ≤ 5000 := h; show 1 + z.length ≤ _; omega
theorem ok_part_of {f fn : Addr} {fd fdn : FuncData} {tF : Tok} (F : Fun K "part_of" "part_of" s_part_of f fd) (FN : Fun K "is_number" "is_number" s_is_number fn fdn) (bN : Binds K fdn ["figures"] []) (mN : mg "is_number" = some (.ref fn))
    (mF : mg "FIGURES" = some (.str figs tF)) (zA : mg "all" = none) (B : Bn mg) : FnOk P w K mg base CX0 2 f fd ["note"] spPart := by
  have GN : FnOk P w K mg base CX0 1 fn fdn ["figures"] spIsNum := ok_is_number FN mF zA
  refine F.ok sc_part_of (fun vs H Q E h => ?_) (fun cdv A outer s H vs Q E hr h => ?_)
  · obtain ⟨x, rfl, _⟩ := h
    rfl
  obtain ⟨x, rfl, hx, k⟩ := h
  refine ⟨_, pss_cons (ps_if (pt_val (pe_bm PySem.F.plainAttrs_str PySem.F.slot_str_startswith PySem.F.type_str_startswith mt_starts (pv 0) (pa_cons pe_str pa_nil)))
      (pss_one (ps_ret (pe_tup (pa_cons pe_str (pa_cons (pe_lst (pa_cons (pe_slice sl_str (pv 0) (po_some pe_int) po_none) pa_nil)) (pa_cons (pe_lst pa_nil) pa_nil)))))) pss_nil)
    (pss_cons (ps_if (pt_val (pe_bm PySem.F.plainAttrs_str PySem.F.slot_str_startswith PySem.F.type_str_startswith mt_starts (pv 0) (pa_cons pe_str pa_nil)))
      (pss_one (ps_ret (pe_tup (pa_cons pe_str (pa_cons (pe_lst pa_nil) (pa_cons (pe_lst (pa_cons (pe_slice sl_str (pv 0) (po_some pe_int) po_none) pa_nil)) pa_nil)))))) pss_nil)
    (pss_cons (ps_if (PW.pt (pw_and (pt_val (pe_bm PySem.F.plainAttrs_str PySem.F.slot_str_startswith PySem.F.type_str_startswith mt_starts (pv 0) (pa_cons pe_str pa_nil)))
        (pw_and1 (pt_val (pe_call GN hr rfl mN FN.kp bN .nil pass0 (pa_cons (pe_slice sl_str (pv 0) (po_some pe_int) po_none) pa_nil))))))
      (pss_one (ps_ret (pe_tup (pa_cons pe_str (pa_cons (pe_callTy call_int_text rfl B.int PyProof.Rows.boot_int (pa_cons (pe_slice sl_str (pv 0) (po_some pe_int) po_none) pa_nil)) pa_nil))))) pss_nil)
    pss_never)), ?_⟩
  have xl := text_len hx
  have e1 := st_cut x
  have e2 := st_put x
  have e3 := st_eq x
  have tl := tail_nt x
  generalize hX : x.text = X at xl e1 e2 e3 tl
  cases x with
  | cut z =>
    refine ⟨_, rfl, rfl, _, _, rfl, rfl, _, rfl, iteOn e1 ?_⟩
    refine ⟨_, rfl, _, rfl, _, rfl, small (by omega), ?_⟩
    rw [tl]
    refine ⟨(by show 1 ≤ sizeLine; decide), fun p1 h1 => ?_⟩
    have t1 := same_new h1 (.lst [.str z])
    refine ⟨(by show 0 ≤ sizeLine; decide), fun p2 h2 => ?_⟩
    have t2 := same_new h2 (.lst [])
    refine ⟨(by show 3 ≤ sizeLine; decide), fun r hr' => ?_⟩
    have t3 := same_new hr' (.tup [.str "swap", .ref p1, .ref p2])
    refine k r _ (t1.trans (t2.trans t3)) fun l xs hl => ⟨p1, p2, ?_, ?_, ?_⟩
    · rw [rm_ne (ne_of_none (t2 _ _ (t1 _ _ hl)) hr').symm, upd_same]
    · rw [rm_ne (ne_of_none hl h1).symm]; exact t3 _ _ (t2 _ _ upd_same)
    · rw [rm_ne (ne_of_none (t1 _ _ hl) h2).symm]; exact t3 _ _ upd_same
  | put z =>
    refine ⟨_, rfl, rfl, _, _, rfl, rfl, _, rfl, iteOff e1 ?_⟩
    refine ⟨_, rfl, rfl, _, _, rfl, rfl, _, rfl, iteOn e2 ?_⟩
    refine ⟨(by show 0 ≤ sizeLine; decide), fun p1 h1 => ?_⟩
    have t1 := same_new h1 (.lst [])
    refine ⟨_, rfl, _, rfl, _, rfl, small (by omega), ?_⟩
    rw [tl]
    refine ⟨(by show 1 ≤ sizeLine; decide), fun p2 h2 => ?_⟩
    have t2 := same_new h2 (.lst [.str z])
    refine ⟨(by show 3 ≤ sizeLine; decide), fun r hr' => ?_⟩
    have t3 := same_new hr' (.tup [.str "swap", .ref p1, .ref p2])
    refine k r _ (t1.trans (t2.trans t3)) fun l xs hl => ⟨p1, p2, ?_, ?_, ?_⟩
    · rw [rm_ne (ne_of_none (t2 _ _ (t1 _ _ hl)) hr').symm, upd_same]
    · rw [rm_ne (ne_of_none hl h1).symm]; exact t3 _ _ (t2 _ _ upd_same)
    · rw [rm_ne (ne_of_none (t1 _ _ hl) h2).symm]; exact t3 _ _ upd_same
  | eq ks =>
    refine ⟨_, rfl, rfl, _, _, rfl, rfl, _, rfl, iteOff e1 ?_⟩
    refine ⟨_, rfl, rfl, _, _, rfl, rfl, _, rfl, iteOff e2 ?_⟩
    refine ⟨_, rfl, rfl, _, _, rfl, rfl, _, rfl, iteOn e3 ?_⟩
    refine ⟨_, rfl, _, rfl, _, rfl, small (by omega), ?_⟩
    rw [tl]
    refine ⟨ks.length, rfl, hx.1, hx.2, fun H1 s1 => ⟨_, rfl, iteT ?_⟩⟩
    refine ⟨_, rfl, _, rfl, _, rfl, small (by omega), ?_⟩
    rw [tl]
    have nb : ((ks.length : Nat) : Int) < 10 ^ 10 := by have := hx.2; omega
    refine ⟨_, (ks.length : Int), rfl, PySem.W.KIN.num_reads (by omega) nb, Nat.le_trans (num_ok hx.1 hx.2).len (by decide), ?_⟩
    refine ⟨(by show 2 ≤ sizeLine; decide), fun r hr' => ?_⟩
    have t3 := same_new hr' (.tup [.str "keep", .int (ks.length : Int)])
    refine k r _ (s1.trans t3) fun l xs hl => ?_
    show rm _ l r = _
    rw [rm_ne (ne_of_none (s1 _ _ hl) hr').symm, upd_same]
/-! ### refuse_order -/
def spRefuse : Sp := fun vs H Q _ => ∃ x y : Nt, vs = [.str x.text, .str y.text] ∧ okN x y ∧ Q .non H
theorem sc_refuse_order : FnScope ["ahead", "behind"] ["ahead", "behind"] (defScope s_refuse_order) := ⟨rfl, rfl, rfl, by decide +kernel, rfl, by decide +kernel, by decide +kernel⟩
theorem ok_refuse_order {f : Addr} {fd : FuncData} (F : Fun K "refuse_order" "refuse_order" s_refuse_order f fd) : FnOk P w K mg base CX0 1 f fd ["ahead", "behind"] spRefuse := by
  refine F.ok sc_refuse_order (fun vs H Q E h => ?_) (fun cdv A outer s H vs Q E hr h => ?_)
  · obtain ⟨x, y, rfl, _⟩ := h
    rfl
  obtain ⟨x, y, rfl, ⟨o1, o2⟩, q⟩ := h
  refine ⟨_, pss_cut (ps_if (PW.pt (pw_and (pt_val (pe_bm PySem.F.plainAttrs_str PySem.F.slot_str_startswith PySem.F.type_str_startswith mt_starts (pv 0) (pa_cons pe_str pa_nil)))
        (pw_and1 (pt_val (pe_bm PySem.F.plainAttrs_str PySem.F.slot_str_startswith PySem.F.type_str_startswith mt_starts (pv 1) (pa_cons pe_str pa_nil)))))) pss_never pss_nil)
    (pss_one (ps_if (PW.pt (pw_and (pt_val (pe_bm PySem.F.plainAttrs_str PySem.F.slot_str_startswith PySem.F.type_str_startswith mt_starts (pv 0) (pa_cons pe_str pa_nil)))
        (pw_and1 (pt_val (pe_bm PySem.F.plainAttrs_str PySem.F.slot_str_startswith PySem.F.type_str_startswith mt_starts (pv 1) (pa_cons pe_str pa_nil)))))) pss_never pss_nil)), ?_⟩
  have a1 := st_eq x
  have a2 := st_eq y
  have b1 := st_put x
  have b2 := st_cut y
  generalize x.text = X at a1 b1 ⊢
  generalize y.text = Y at a2 b2 ⊢
  refine ⟨fun σ' H' => σ' = [some (.str X), some (.str Y)] ∧ H' = H, ?_, ?_⟩
  · refine ⟨_, rfl, rfl, _, _, rfl, rfl, _, rfl, ?_⟩
    cases hx : x.isEq with
    | false => rw [hx] at a1; exact iteOff a1 (iteF ⟨rfl, rfl⟩)
    | true =>
      rw [hx] at a1 o1
      refine iteOn a1 ⟨_, rfl, rfl, _, _, rfl, rfl, _, rfl, iteOff (a2.trans ?_) ⟨rfl, rfl⟩⟩
      exact o1
  rintro σ' H' ⟨rfl, rfl⟩
  refine ⟨_, rfl, rfl, _, _, rfl, rfl, _, rfl, ?_⟩
  cases hx : x.isPut with
  | false => rw [hx] at b1; exact iteOff b1 (iteF q)
  | true =>
    rw [hx] at b1 o2
    refine iteOn b1 ⟨_, rfl, rfl, _, _, rfl, rfl, _, rfl, iteOff (b2.trans ?_) q⟩
    exact o2
/-! ### read -/
def spRead : Sp := fun vs H Q _ => ∃ (a : Addr) (xs : List Nt), vs = [.ref a] ∧ H a = some (txt (xs.map Nt.text)) ∧ xs.length ≤ 1000 ∧ (∀ x ∈ xs, x.fine) ∧ (∀ (i : Nat) (x y : Nt), xs[i]? = some x → xs[i + 1]? = some y → okN x y) ∧
  (olds (xs.map Nt.part)).length ≤ 1000 ∧ (news (xs.map Nt.part)).length ≤ 1000 ∧ ∀ (r : Addr) (H' : Hp), Same H H' → ChgAt H' r (tidy (xs.map Nt.part)) → Q (.ref r) H'
theorem sc_read : FnScope ["notes", "k"] ["notes"] (defScope s_read) := ⟨rfl, rfl, rfl, by decide +kernel, rfl, by decide +kernel, by decide +kernel⟩
theorem ok_read {f fR fP fT : Addr} {fd dR dP dT : FuncData} (F : Fun K "read" "read" s_read f fd)
    (GR : FnOk P w K mg base CX0 2 fR dR ["ahead", "behind"] spRefuse) (kR : PySem.W.keepIn K (.ref fR) = true) (bR : Binds K dR ["ahead", "behind"] []) (mR : mg "refuse_order" = some (.ref fR))
    (GP : FnOk P w K mg base CX0 2 fP dP ["note"] spPart) (kP : PySem.W.keepIn K (.ref fP) = true) (bP : Binds K dP ["note"] []) (mP : mg "part_of" = some (.ref fP))
    (GT : FnOk P w K mg base CX0 2 fT dT ["parts"] (spTidied K)) (kT : PySem.W.keepIn K (.ref fT) = true) (bT : Binds K dT ["parts"] []) (mT : mg "tidied" = some (.ref fT))
    (B : Bn mg) : FnOk P w K mg base CX0 3 f fd ["notes"] spRead := by
  refine F.ok sc_read (fun vs H Q E h => ?_) (fun cdv A outer s H vs Q E hr h => ?_)
  · obtain ⟨a, xs, rfl, _⟩ := h
    rfl
  obtain ⟨a, xs, rfl, ha, lx, hf, hok, lo, ln, k⟩ := h
  refine ⟨_, pss_cons (ps_for PassesOwn.never rfl (pi_range2 rfl B.range (pa_cons pe_int (pa_cons (pe_callB call_len_seq rfl B.len PySem.boot_len (pa_cons (pv 0) pa_nil)) pa_nil))) (pg_name (i := 1) sc_read.nd rfl (Or.inl rfl))
      (pss_one (ps_expr (pe_call GR hr rfl mR kR bR .nil pass0 (pa_cons (pe_ix ix_list (pv 0) (pe_op op_sub (pv 1) pe_int) (fun _ _ => rfl)) (pa_cons (pe_ix ix_list (pv 0) (pv 1) (fun _ _ => rfl)) pa_nil))))))
    (pss_one (ps_ret (pe_call GT hr rfl mT kT bT .nil pass0 (pa_cons (pe_lc rfl (lc_plain (x := "note") (by decide +kernel) (by decide +kernel) rfl (by decide +kernel) rfl) (pi_list (pv 0))
      (fun _ _ _ _ _ => pf_nil) (fun _ _ _ _ _ => pe_call GP hr rfl mP kP bP .nil pass0 (pa_cons (pv 0) pa_nil))) pa_nil)))), ?_⟩
  have hlx : ((xs.map Nt.text).map V.str).length = xs.length := by rw [List.length_map, List.length_map]
  refine ⟨_, rfl, a, _, rfl, .inl (SqL.of ha), _, _, rfl, ⟨by decide, by decide, by rw [hlx]; omega, by rw [hlx]; omega⟩, ?_⟩
  refine for_range (fun i σ H2 => ∃ v : Option V, σ = [some (.ref a), v] ∧ H2 = H) ⟨_, rfl, rfl⟩ ?_ ?_
  · rintro i σ H2 hi ⟨v, rfl, rfl⟩
    rw [hlx] at hi
    have h1 : i + 1 < xs.length := by omega
    have g0 : xs[i]? = some xs[i] := List.getElem?_eq_getElem (by omega)
    have g1 : xs[i + 1]? = some xs[i + 1] := List.getElem?_eq_getElem h1
    refine ⟨_, rfl, _, rfl, _, _, rfl, rfl, a, _, _, _, rfl, rfl, SqL.of ha, atI_get (get_map (get_map g0)) (by omega), ?_⟩
    refine ⟨_, rfl, _, rfl, a, _, _, _, rfl, rfl, SqL.of ha, atI_get (get_map (get_map g1)) (by omega), ?_⟩
    exact ⟨xs[i], xs[i + 1], rfl, hok i _ _ g0 g1, _, rfl, rfl⟩
  rintro σ H2 ⟨v, rfl, rfl⟩
  refine ⟨_, rfl, a, rfl, ⟨_, SqL.of ha⟩, fun D hD => ?_⟩
  have s0 := same_new hD (.lst [])
  refine lc_list (K := K) (a := a) (xs := (xs.map Nt.text).map V.str) (fun i H3 => ∃ qs : List Addr, H3 D = some (.lst (qs.map V.ref)) ∧ Same H2 H3 ∧ BlksAt (rm H3 D) qs ((xs.map Nt.part).take i))
    ⟨[], upd_same, s0, .nil⟩ (fun i H3 _ ⟨_, _, s2, _⟩ => SqL.of (s2 _ _ ha)) ?_ ?_
  · rintro i y H3 hi ⟨qs, h1, s2, hq⟩
    obtain ⟨t, ht, rfl⟩ := map_get hi
    obtain ⟨x, hxi, rfl⟩ := map_get ht
    have hil : i < xs.length := (List.getElem?_eq_some_iff.mp hxi).1
    have ql : qs.length = ((xs.map Nt.part).take i).length := hq.length
    have lq : (qs.map V.ref).length < sizeLine := by
      rw [List.length_map, ql, List.length_take, List.length_map]
      exact small' (by omega)
    have te : (xs.map Nt.part).take (i + 1) = (xs.map Nt.part).take i ++ [x.part] := take_add_one' (get_map hxi)
    refine noif ?_
    refine ⟨_, rfl, x, rfl, hf x (List.mem_of_getElem? hxi), fun r H4 s4 hr4 => ?_⟩
    refine ⟨_, s4 _ _ h1, lq, qs ++ [r], ?_, same_put hD (s2.trans s4), ?_⟩
    · rw [upd_same, List.map_append]
      rfl
    · rw [rm_upd, te]
      exact paired_snoc (BlksAt.same (same_rm s4) hq) (hr4 D _ h1)
  rintro H3 ⟨qs, h1, s2, hq⟩
  have et : (xs.map Nt.part).take ((xs.map Nt.text).map V.str).length = xs.map Nt.part := by
    rw [hlx]
    exact List.take_of_length_le (by rw [List.length_map]; exact Nat.le_refl _)
  rw [et] at hq
  refine ⟨D, xs.map Nt.part, rfl, ⟨qs, h1, BlksAt.same rm_sub hq⟩, by rw [List.length_map]; exact lx, lo, ln, fun r H4 s4 hr4 => ?_⟩
  exact k r H4 (s2.trans s4) hr4
/-! ### shown -/
def spShown : Sp := fun vs H Q _ => ∃ (a : Addr) (bs : List (Blk Str)), vs = [.ref a] ∧ ChgAt H a bs ∧ bs.length ≤ 1000 ∧ (nts bs).length ≤ 5000 ∧ (∀ x ∈ nts bs, x.fine) ∧
  ∀ (r : Addr) (H' : Hp), Same H H' → H' r = some (txt ((nts bs).map Nt.text)) → Q (.ref r) H'
theorem sc_shown : FnScope ["change", "notes", "block"] ["change"] (defScope s_shown) := ⟨rfl, rfl, rfl, by decide +kernel, rfl, by decide +kernel, by decide +kernel⟩
theorem nts_take {bs : List (Blk Str)} {i : Nat} {b : Blk Str} (h : bs[i]? = some b) : nts (bs.take (i + 1)) = nts (bs.take i) ++ ntsB b := by
  rw [take_add_one' h]
  unfold nts
  rw [List.flatMap_append]
  simp
theorem nts_le (bs : List (Blk Str)) (i : Nat) : (nts (bs.take i)).length ≤ (nts bs).length := by
  have h : nts bs = nts (bs.take i) ++ nts (bs.drop i) := by
    have e : bs = bs.take i ++ bs.drop i := (List.take_append_drop i bs).symm
    calc nts bs = nts (bs.take i ++ bs.drop i) := by rw [← e]
      _ = _ := by unfold nts; rw [List.flatMap_append]
  rw [h, List.length_append]
  omega
theorem mem_nts {bs : List (Blk Str)} {b : Blk Str} {x : Nt} (hb : b ∈ bs) (hx : x ∈ ntsB b) : x ∈ nts bs := List.mem_flatMap.mpr ⟨b, hb, hx⟩
theorem n_small {n : Nat} (h : n < 300) : ((n : Int)).natAbs.log2 < 1920 := by
  have e : ((n : Int)).natAbs = n := Int.natAbs_natCast n
  rw [e]
  have : n.log2 ≤ n := by
    cases n with
    | zero => decide
    | succ n => exact Nat.le_of_lt (Nat.lt_of_lt_of_le ((Nat.log2_lt (by omega)).mpr Nat.lt_two_pow_self) (Nat.le_refl _))
  omega
theorem ok_shown {f : Addr} {fd : FuncData} (F : Fun K "shown" "shown" s_shown f fd) (B : Bn mg) : FnOk P w K mg base CX0 1 f fd ["change"] spShown := by
  refine F.ok sc_shown (fun vs H Q E h => ?_) (fun cdv A outer s H vs Q E hr h => ?_)
  · obtain ⟨a, bs, rfl, _⟩ := h
    rfl
  obtain ⟨a, bs, rfl, ⟨ps, ha, hbs⟩, lb, lnt, hf, k⟩ := h
  refine ⟨_, pss_cons (ps_set (i := 1) sc_shown.nd rfl (Or.inl rfl) (pe_lst pa_nil))
    (pss_cons (ps_for PassesOwn.never rfl (pi_list (pv 0)) (pg_name (i := 2) sc_shown.nd rfl (Or.inl rfl))
      (pss_one (ps_if (pt_cmpR op_eq (pe_ix ix_tup (pv 2) pe_int (fun _ _ => rfl)) pe_str (nomark _))
        (pss_one (ps_expr (pe_bm PySem.F.plainAttrs_list PySem.F.slot_list_append PySem.F.type_list_append mt_append (pv 1) (pa_cons (pe_op op_add_str pe_str (pe_callTy call_str_int rfl B.str PyProof.Rows.boot_str (pa_cons (pe_ix ix_tup (pv 2) pe_int (fun _ _ => rfl)) pa_nil))) pa_nil))))
        (pss_cons (ps_expr (pe_bm PySem.F.plainAttrs_list PySem.F.slot_list_extend PySem.F.type_list_extend mt_extend (pv 1) (pa_cons (pe_lc rfl (lc_plain (x := "line") (by decide +kernel) (by decide +kernel) rfl (by decide +kernel) rfl) (pi_list (pe_ix ix_tup (pv 2) pe_int (fun _ _ => rfl)))
            (fun _ _ _ _ _ => pf_nil) (fun _ _ _ _ _ => pe_op op_add_str pe_str (pv 0))) pa_nil)))
        (pss_one (ps_expr (pe_bm PySem.F.plainAttrs_list PySem.F.slot_list_extend PySem.F.type_list_extend mt_extend (pv 1) (pa_cons (pe_lc rfl (lc_plain (x := "line") (by decide +kernel) (by decide +kernel) rfl (by decide +kernel) rfl) (pi_list (pe_ix ix_tup (pv 2) pe_int (fun _ _ => rfl)))
            (fun _ _ _ _ _ => pf_nil) (fun _ _ _ _ _ => pe_op op_add_str pe_str (pv 0))) pa_nil))))))))
    (pss_one (ps_ret (pv 1)))), ?_⟩
  refine ⟨(by show 0 ≤ sizeLine; decide), fun l hl0 => ?_⟩
  have s0 := same_new hl0 (.lst [])
  have pl : ps.length = bs.length := hbs.length
  refine ⟨_, rfl, a, rfl, ⟨_, SqL.of (s0 _ _ ha)⟩, for_list (K := K) (a := a) (xs := ps.map V.ref)
    (fun i σ H2 => ∃ v : Option V, σ = [some (.ref a), some (.ref l), v] ∧ Same H H2 ∧ H2 l = some (txt ((nts (bs.take i)).map Nt.text)))
    ⟨none, rfl, s0, upd_same⟩ (fun i σ H2 _ ⟨_, _, s2, _⟩ => SqL.of (s2 _ _ ha)) ?_ ?_⟩
  · rintro i y σ H2 hi ⟨v, rfl, s2, h2⟩
    obtain ⟨p, hp, rfl⟩ := map_get hi
    obtain ⟨b, hbi, hbp⟩ := paired_get hbs hp
    have bm : b ∈ bs := List.mem_of_getElem? hbi
    have e1 := nts_take hbi
    have l0 := nts_le bs i
    have l1 := nts_le bs (i + 1)
    have hb2 := hbp.same s2
    cases b with
    | keep ks =>
      have hk : H2 p = some (.tup [.str "keep", .int (ks.length : Int)]) := hb2
      have hfk : (Nt.eq ks).fine := hf _ (mem_nts bm (List.mem_singleton.mpr rfl))
      have N := num_ok hfk.1 hfk.2
      refine ⟨_, rfl, p, _, _, _, rfl, rfl, SqT.of hk, rfl, rfl, _, rfl, iteYes rfl ?_⟩
      refine ⟨_, rfl, .inl ⟨rfl, _, SqL.of h2⟩, ?_⟩
      refine ⟨_, rfl, p, _, _, _, rfl, rfl, SqT.of hk, rfl, _, rfl, n_small hfk.2, ?_⟩
      refine ⟨"=", nS ks.length, rfl, rfl, ?_, ?_⟩
      · have : ("=" : Str).length = 1 := by decide +kernel
        have := N.len
        exact small (by omega)
      refine ⟨l, _, _, rfl, rfl, h2, by rw [List.length_map, List.length_map]; exact small' (by omega), _, rfl, same_put hl0 s2, ?_⟩
      rw [upd_same, e1, List.map_append]
      show some (HO.lst _) = some (HO.lst _)
      rw [List.map_append]
      rfl
    | swap g c =>
      obtain ⟨pg, pc, h3, h4, h5⟩ := hb2
      have lgc : (ntsB (.swap g c)).length = g.length + c.length := by show (g.map Nt.cut ++ c.map Nt.put).length = _; rw [List.length_append, List.length_map, List.length_map]
      rw [e1, List.length_append, lgc] at l1
      have fg : ∀ z ∈ g, z.length ≤ 5000 := fun z hz => hf (.cut z) (mem_nts bm (List.mem_append_left _ (List.mem_map.mpr ⟨z, hz, rfl⟩)))
      have fc : ∀ z ∈ c, z.length ≤ 5000 := fun z hz => hf (.put z) (mem_nts bm (List.mem_append_right _ (List.mem_map.mpr ⟨z, hz, rfl⟩)))
      refine ⟨_, rfl, p, _, _, _, rfl, rfl, SqT.of h3, rfl, rfl, _, rfl, iteNo sk_ne ?_⟩
      -- the cuts
      refine ⟨_, rfl, .inl ⟨rfl, _, SqL.of h2⟩, ?_⟩
      refine ⟨_, rfl, p, _, _, _, rfl, rfl, SqT.of h3, rfl, pg, rfl, ⟨_, SqL.of h4⟩, fun D hD => ?_⟩
      have t0 := same_new hD (.lst [])
      refine lc_list (K := K) (a := pg) (xs := g.map V.str) (fun j H3 => H3 D = some (txt (((g.take j).map Nt.cut).map Nt.text)) ∧ Same H2 H3) ⟨upd_same, t0⟩ (fun j H3 _ ⟨_, s3⟩ => SqL.of (s3 _ _ h4)) ?_ ?_
      · rintro j y H3 hj ⟨q1, q2⟩
        obtain ⟨z, hz, rfl⟩ := map_get hj
        have hjl : j < g.length := (List.getElem?_eq_some_iff.mp hz).1
        have zl := fg z (List.mem_of_getElem? hz)
        refine noif ?_
        refine ⟨_, rfl, "-", z, rfl, rfl, ?_, _, q1, by rw [List.length_map, List.length_map, List.length_map, List.length_take]; exact small' (by omega), ?_, same_put hD q2⟩
        · have : ("-" : Str).length = 1 := by decide +kernel
          exact small (by omega)
        rw [upd_same, take_add_one' hz, List.map_append, List.map_append]
        show some (HO.lst _) = some (HO.lst _)
        rw [List.map_append]
        rfl
      rintro H3 ⟨q1, q2⟩
      rw [List.length_map, List.take_length] at q1
      refine ⟨l, D, _, _, rfl, rfl, q2 _ _ h2, q1, by simp only [List.length_map]; exact small (by omega), ?_⟩
      have lD : l ≠ D := ne_of_none h2 hD
      have h2' : upd H3 l (.lst (((nts (bs.take i)).map Nt.text).map V.str ++ ((g.map Nt.cut).map Nt.text).map V.str)) l = some (txt ((nts (bs.take i) ++ g.map Nt.cut).map Nt.text)) := by
        rw [upd_same, List.map_append]
        show some (HO.lst _) = some (HO.lst _)
        rw [List.map_append]
      have k2 : ∀ {q : Addr} {o : HO}, H2 q = some o → (∀ ys, o ≠ .lst ys) ∨ q ≠ l → upd H3 l (.lst (((nts (bs.take i)).map Nt.text).map V.str ++ ((g.map Nt.cut).map Nt.text).map V.str)) q = some o := fun {q o} hq hh => by
        rw [upd_ne]
        · exact q2 _ _ hq
        · rcases hh with hh | hh
          · intro e; subst e; rw [h2] at hq; exact hh _ (Option.some.inj hq).symm
          · exact hh
      have s3 : Same H (upd H3 l (.lst (((nts (bs.take i)).map Nt.text).map V.str ++ ((g.map Nt.cut).map Nt.text).map V.str))) := same_put hl0 (s2.trans q2)
      have h3' := k2 h3 (.inl fun ys z => by cases z)
      have hpc : H pc = some (txt c) := by
        have hb0 : BlkAt H p (.swap g c) := hbp
        obtain ⟨pg', pc', g1, g2, g3⟩ := hb0
        have e := s2 _ _ g1
        rw [h3] at e
        injection e with e
        injection e with e
        injection e with e0 e
        injection e with e2 e3
        injection e3 with e4 e5
        injection e4 with e4
        rw [e4]
        exact g3
      have h5' := s3 _ _ hpc
      generalize hH4 : upd H3 l (.lst (((nts (bs.take i)).map Nt.text).map V.str ++ ((g.map Nt.cut).map Nt.text).map V.str)) = H4 at h2' h3' h5' s3
      -- the puts
      refine ⟨_, rfl, .inl ⟨rfl, _, SqL.of h2'⟩, ?_⟩
      refine ⟨_, rfl, p, _, _, _, rfl, rfl, SqT.of h3', rfl, pc, rfl, ⟨_, SqL.of h5'⟩, fun D2 hD2 => ?_⟩
      have t2 := same_new hD2 (.lst [])
      refine lc_list (K := K) (a := pc) (xs := c.map V.str) (fun j H5 => H5 D2 = some (txt (((c.take j).map Nt.put).map Nt.text)) ∧ Same H4 H5) ⟨upd_same, t2⟩ (fun j H5 _ ⟨_, s5⟩ => SqL.of (s5 _ _ h5')) ?_ ?_
      · rintro j y H5 hj ⟨q3, q4⟩
        obtain ⟨z, hz, rfl⟩ := map_get hj
        have hjl : j < c.length := (List.getElem?_eq_some_iff.mp hz).1
        have zl := fc z (List.mem_of_getElem? hz)
        refine noif ?_
        refine ⟨_, rfl, "+", z, rfl, rfl, ?_, _, q3, by rw [List.length_map, List.length_map, List.length_map, List.length_take]; exact small' (by omega), ?_, same_put hD2 q4⟩
        · have : ("+" : Str).length = 1 := by decide +kernel
          exact small (by omega)
        rw [upd_same, take_add_one' hz, List.map_append, List.map_append]
        show some (HO.lst _) = some (HO.lst _)
        rw [List.map_append]
        rfl
      rintro H5 ⟨q3, q4⟩
      rw [List.length_map, List.take_length] at q3
      refine ⟨l, D2, _, _, rfl, rfl, q4 _ _ h2', q3, by simp only [List.length_map, List.length_append]; exact small (by omega), _, rfl, same_put hl0 (s3.trans q4), ?_⟩
      rw [upd_same, e1]
      show some (HO.lst _) = some (HO.lst _)
      show _ = some (HO.lst (((nts (bs.take i) ++ (g.map Nt.cut ++ c.map Nt.put)).map Nt.text).map V.str))
      rw [← List.append_assoc, List.map_append (l₁ := nts (bs.take i) ++ g.map Nt.cut), List.map_append (l₁ := (nts (bs.take i) ++ g.map Nt.cut).map Nt.text)]
  · rintro σ H2 ⟨v, rfl, s2, h2⟩
    have e : bs.take (ps.map V.ref).length = bs := by rw [List.length_map, pl]; exact List.take_length
    rw [e] at h2
    exact ⟨_, rfl, k l H2 s2 h2⟩
end
end Rm

set_option Elab.async false
set_option linter.all false
set_option maxRecDepth 100000
set_option maxHeartbeats 4000000
namespace Rm
open PySem L2 My
/-! ### notes read are the change -/
theorem tidy_new {acc : List (Blk Str)} {b : Blk Str} (hb : b.empty = false) (hl : ∀ l, acc.getLast? = some l → l.isKeep ≠ b.isKeep) : tidyStep acc b = acc ++ [b] := by
  unfold tidyStep
  rw [if_neg (by rw [hb]; exact Bool.false_ne_true)]
  cases e : acc.getLast? with
  | none => rfl
  | some l => dsimp only; rw [if_neg (hl l e)]
theorem tidy_more {acc : List (Blk Str)} {l b : Blk Str} (hb : b.empty = false) (hk : l.isKeep = b.isKeep) : tidyStep (acc ++ [l]) b = acc ++ [l.unite b] := by
  have e : (acc ++ [l]).getLast? = some l := by simp
  unfold tidyStep
  rw [if_neg (by rw [hb]; exact Bool.false_ne_true), e]
  dsimp only
  rw [if_pos hk, set_last]
theorem cuts_fold : ∀ (zs : List Str) (acc : List (Blk Str)) (g c : List Str), ((zs.map Nt.cut).map Nt.part).foldl tidyStep (acc ++ [.swap g c]) = acc ++ [.swap (g ++ zs) c]
  | [], acc, g, c => by rw [List.append_nil]; rfl
  | z :: zs, acc, g, c => by
    have e : tidyStep (acc ++ [.swap g c]) (.swap [z] []) = acc ++ [.swap (g ++ [z]) (c ++ [])] := tidy_more rfl rfl
    show ((zs.map Nt.cut).map Nt.part).foldl tidyStep (tidyStep (acc ++ [.swap g c]) (.swap [z] [])) = _
    rw [e, List.append_nil, cuts_fold zs acc (g ++ [z]) c, List.append_assoc]
    rfl
theorem puts_fold : ∀ (zs : List Str) (acc : List (Blk Str)) (g c : List Str), ((zs.map Nt.put).map Nt.part).foldl tidyStep (acc ++ [.swap g c]) = acc ++ [.swap g (c ++ zs)]
  | [], acc, g, c => by rw [List.append_nil]; rfl
  | z :: zs, acc, g, c => by
    have e : tidyStep (acc ++ [.swap g c]) (.swap [] [z]) = acc ++ [.swap (g ++ []) (c ++ [z])] := tidy_more rfl rfl
    show ((zs.map Nt.put).map Nt.part).foldl tidyStep (tidyStep (acc ++ [.swap g c]) (.swap [] [z])) = _
    rw [e, List.append_nil, puts_fold zs acc g (c ++ [z]), List.append_assoc]
    rfl
theorem part_block {acc : List (Blk Str)} {b : Blk Str} (hb : b.empty = false) (hl : ∀ l, acc.getLast? = some l → l.isKeep ≠ b.isKeep) : ((ntsB b).map Nt.part).foldl tidyStep acc = acc ++ [b] := by
  cases b with
  | keep ks => exact tidy_new hb hl
  | swap g c =>
    cases g with
    | nil =>
      cases c with
      | nil => cases hb
      | cons z c =>
        show ((c.map Nt.put).map Nt.part).foldl tidyStep (tidyStep acc (.swap [] [z])) = _
        rw [tidy_new (b := .swap [] [z]) rfl hl, puts_fold c acc [] [z]]
        rfl
    | cons z g =>
      have e : (ntsB (.swap (z :: g) c)).map Nt.part = (.swap [z] [] : Blk Str) :: ((g.map Nt.cut).map Nt.part ++ (c.map Nt.put).map Nt.part) := by
        show ((z :: g).map Nt.cut ++ c.map Nt.put).map Nt.part = _
        rw [List.map_append]
        rfl
      rw [e, List.foldl_cons, tidy_new (b := .swap [z] []) rfl hl, List.foldl_append, cuts_fold g acc [z] [], puts_fold c acc ([z] ++ g) []]
      rfl
theorem nts_cons (b : Blk Str) (r : List (Blk Str)) : nts (b :: r) = ntsB b ++ nts r := rfl
theorem parts_fold : ∀ (bs acc : List (Blk Str)), Fine (acc ++ bs) → ((nts bs).map Nt.part).foldl tidyStep acc = acc ++ bs
  | [], acc, _ => by rw [List.append_nil]; rfl
  | b :: r, acc, f => by
    have hb : b.empty = false := f.full b (List.mem_append_right _ (List.mem_cons_self ..))
    have hl : ∀ l, acc.getLast? = some l → l.isKeep ≠ b.isKeep := fun l e => by
      obtain ⟨a, rfl⟩ := List.getLast?_eq_some_iff.mp e
      refine f.alt a.length l b ?_ ?_
      · rw [List.append_assoc, List.getElem?_append_right (Nat.le_refl _), Nat.sub_self]; rfl
      · rw [List.append_assoc, List.getElem?_append_right (by omega), Nat.add_sub_cancel_left]; rfl
    rw [nts_cons, List.map_append, List.foldl_append, part_block hb hl, parts_fold r (acc ++ [b]) (by rw [List.append_assoc]; exact f), List.append_assoc]
    rfl
theorem tidy_parts {bs : List (Blk Str)} (f : Fine bs) : tidy ((nts bs).map Nt.part) = bs := by
  have := parts_fold bs [] f
  exact this
/-! ### their order -/
def Chn : List Nt → Prop
  | [] => True
  | [_] => True
  | x :: y :: r => okN x y ∧ Chn (y :: r)
theorem chn_get : ∀ (l : List Nt), Chn l → ∀ (i : Nat) (x y : Nt), l[i]? = some x → l[i + 1]? = some y → okN x y
  | [], _, i, x, y, h, _ => by simp at h
  | [a], _, i, x, y, _, h => by simp at h
  | a :: b :: r, hc, 0, x, y, h1, h2 => by
    simp at h1 h2
    rw [← h1, ← h2]
    exact hc.1
  | a :: b :: r, hc, i + 1, x, y, h1, h2 => chn_get (b :: r) hc.2 i x y (by simpa using h1) (by simpa using h2)
theorem chn_app : ∀ (l1 l2 : List Nt), Chn l1 → Chn l2 → (∀ x ∈ l1, ∀ y, l2.head? = some y → okN x y) → Chn (l1 ++ l2)
  | [], l2, _, h2, _ => h2
  | [x], [], _, _, _ => True.intro
  | [x], y :: r, _, h2, h => ⟨h x (List.mem_singleton.mpr rfl) y rfl, h2⟩
  | x :: y :: r, l2, h1, h2, h => ⟨h1.1, chn_app (y :: r) l2 h1.2 h2 fun z hz => h z (List.mem_cons_of_mem _ hz)⟩
theorem chn_cuts : ∀ g : List Str, Chn (g.map Nt.cut)
  | [] => True.intro
  | [_] => True.intro
  | _ :: b :: r => ⟨⟨rfl, rfl⟩, chn_cuts (b :: r)⟩
theorem chn_puts : ∀ g : List Str, Chn (g.map Nt.put)
  | [] => True.intro
  | [_] => True.intro
  | _ :: b :: r => ⟨⟨rfl, rfl⟩, chn_puts (b :: r)⟩
theorem chn_block (b : Blk Str) : Chn (ntsB b) := by
  cases b with
  | keep ks => exact True.intro
  | swap g c =>
    refine chn_app _ _ (chn_cuts g) (chn_puts c) fun x hx y hy => ?_
    obtain ⟨z, _, rfl⟩ := List.mem_map.mp hx
    cases c with
    | nil => cases hy
    | cons w r => cases hy; exact ⟨rfl, rfl⟩
theorem kind_nt {b : Blk Str} {x : Nt} (h : x ∈ ntsB b) : x.isEq = b.isKeep := by
  cases b with
  | keep ks => rw [List.mem_singleton.mp h]; rfl
  | swap g c =>
    rcases List.mem_append.mp h with h | h
    · obtain ⟨z, _, rfl⟩ := List.mem_map.mp h; rfl
    · obtain ⟨z, _, rfl⟩ := List.mem_map.mp h; rfl
theorem ok_alt {x y : Nt} (h : x.isEq ≠ y.isEq) : okN x y := by
  cases x <;> cases y <;> first | exact absurd rfl h | exact ⟨rfl, rfl⟩
theorem fine_tail {b : Blk Str} {r : List (Blk Str)} (f : Fine (b :: r)) : Fine r := ⟨fun x hx => f.full x (List.mem_cons_of_mem _ hx), fun i x y h1 h2 => f.alt (i + 1) x y (by simpa using h1) (by simpa using h2)⟩
theorem nts_full {b : Blk Str} (h : b.empty = false) : ntsB b ≠ [] := by
  cases b with
  | keep ks => intro z; cases z
  | swap g c =>
    intro z
    have z' : g.map Nt.cut ++ c.map Nt.put = [] := z
    rw [List.append_eq_nil_iff, List.map_eq_nil_iff, List.map_eq_nil_iff] at z'
    rw [z'.1, z'.2] at h
    cases h
theorem chn_nts : ∀ bs : List (Blk Str), Fine bs → Chn (nts bs)
  | [], _ => True.intro
  | b :: r, f => by
    rw [nts_cons]
    refine chn_app _ _ (chn_block b) (chn_nts r (fine_tail f)) fun x hx y hy => ?_
    cases r with
    | nil => cases hy
    | cons c r =>
      rw [nts_cons] at hy
      have hc : c.empty = false := f.full c (List.mem_cons_of_mem _ (List.mem_cons_self ..))
      have hm : y ∈ ntsB c := by
        cases e : ntsB c with
        | nil => exact absurd e (nts_full hc)
        | cons z t =>
          rw [e] at hy
          cases hy
          exact List.mem_cons_self ..
      have := f.alt 0 b c rfl rfl
      exact ok_alt (by rw [kind_nt hx, kind_nt hm]; exact this)
theorem ok_nts {bs : List (Blk Str)} (f : Fine bs) : ∀ (i : Nat) (x y : Nt), (nts bs)[i]? = some x → (nts bs)[i + 1]? = some y → okN x y := chn_get _ (chn_nts bs f)
theorem nts_len : ∀ bs : List (Blk Str), (∀ b ∈ bs, b.empty = false) → (nts bs).length ≤ (olds bs).length + (news bs).length
  | [], _ => Nat.zero_le _
  | b :: r, f => by
    have ih := nts_len r fun x hx => f x (List.mem_cons_of_mem _ hx)
    have hb := f b (List.mem_cons_self ..)
    have e1 : olds (b :: r) = b.old ++ olds r := rfl
    have e2 : news (b :: r) = b.new ++ news r := rfl
    rw [nts_cons, e1, e2, List.length_append, List.length_append, List.length_append]
    have : (ntsB b).length ≤ b.old.length + b.new.length := by
      cases b with
      | keep ks =>
        cases ks with
        | nil => cases hb
        | cons z t => show 1 ≤ (t.length + 1) + (t.length + 1); omega
      | swap g c => show (g.map Nt.cut ++ c.map Nt.put).length ≤ g.length + c.length; rw [List.length_append, List.length_map, List.length_map]; exact Nat.le_refl _
    omega
/-- all notes of a change of few and short lines are fine -/
theorem fine_nts {bs : List (Blk Str)} (f : Fine bs) (lo : (olds bs).length < 300) (h1 : ∀ z ∈ olds bs, z.length ≤ 5000) (h2 : ∀ z ∈ news bs, z.length ≤ 5000) : ∀ x ∈ nts bs, x.fine := by
  intro x hx
  obtain ⟨b, hb, hxb⟩ := List.mem_flatMap.mp hx
  have ho : ∀ z ∈ b.old, z ∈ olds bs := fun z hz => List.mem_flatMap.mpr ⟨b, hb, hz⟩
  have hn : ∀ z ∈ b.new, z ∈ news bs := fun z hz => List.mem_flatMap.mpr ⟨b, hb, hz⟩
  have full := f.full b hb
  cases b with
  | keep ks =>
    rw [List.mem_singleton.mp hxb]
    refine ⟨?_, ?_⟩
    · cases ks with
      | nil => cases full
      | cons z t => show 0 < t.length + 1; omega
    · have : ∀ (l : List (Blk Str)), Blk.keep ks ∈ l → ks.length ≤ (olds l).length := by
        intro l hl
        induction l with
        | nil => cases hl
        | cons c r ih =>
          have e : olds (c :: r) = c.old ++ olds r := rfl
          rw [e, List.length_append]
          rcases List.mem_cons.mp hl with h | h
          · rw [← h]; show ks.length ≤ ks.length + _; omega
          · have := ih h; omega
      exact Nat.lt_of_le_of_lt (this bs hb) lo
  | swap g c =>
    rcases List.mem_append.mp hxb with h | h
    · obtain ⟨z, hz, rfl⟩ := List.mem_map.mp h
      exact h1 z (ho z hz)
    · obtain ⟨z, hz, rfl⟩ := List.mem_map.mp h
      exact h2 z (hn z hz)
end Rm

set_option Elab.async false
set_option linter.all false
set_option maxRecDepth 100000
set_option maxHeartbeats 4000000
namespace Rm
open PySem L2 My
/-! ### texts by their first sign -/
def one (c : Nat) : Str := ⟨#[c]⟩
theorem e_eq : ("=" : Str) = one 61 := by decide +kernel
theorem e_cut : ("-" : Str) = one 45 := by decide +kernel
theorem e_put : ("+" : Str) = one 43 := by decide +kernel
theorem e_nil : ("" : Str) = ⟨#[]⟩ := by decide +kernel
theorem app_toList (a y : Str) : (a ++ y).cps.toList = a.cps.toList ++ y.cps.toList := PySem.W.KAf.app_list a y
theorem one_list (c : Nat) (y : Str) : (one c ++ y).cps.toList = c :: y.cps.toList := app_toList (one c) y
theorem str_of {x y : Str} (h : x.cps.toList = y.cps.toList) : x = y := by
  obtain ⟨⟨a⟩⟩ := x
  obtain ⟨⟨b⟩⟩ := y
  have : a = b := h
  rw [this]
theorem str_split (x : Str) : x = "" ∨ ∃ c y, x = one c ++ y := by
  cases e : x.cps.toList with
  | nil => exact .inl (str_of (by rw [e, e_nil]))
  | cons c r => exact .inr ⟨c, ⟨r.toArray⟩, str_of (by rw [e, one_list])⟩
theorem one_ne (c : Nat) (y : Str) : one c ++ y ≠ "" := fun z => by
  have := congrArg (fun s : Str => s.cps.toList) z
  simp only [one_list] at this
  rw [e_nil] at this
  cases this
theorem one_inj {c d : Nat} (h : one c = one d) : c = d := by
  have := congrArg (fun s : Str => s.cps.toList) h
  injection this with h1 _
theorem sw_one (c k : Nat) : Txt.startswith (one c) (one k) = decide (c = k) := by
  unfold Txt.startswith
  rw [PySem.StrLaws.subAt_eq]
  show (decide (0 + 1 ≤ 1) && ([c] == [k])) = decide (c = k)
  by_cases h : c = k
  · subst h; simp
  · simp [h]
theorem sw_cons (c k : Nat) (y : Str) : Txt.startswith (one c ++ y) (one k) = decide (c = k) := (PySem.W.KAf.starts_left (a := one c) (d := one k) (Nat.le_refl 1)).trans (sw_one c k)
theorem sw_nil (k : Nat) : Txt.startswith "" (one k) = false := by
  unfold Txt.startswith
  rw [e_nil]
  rfl
/-! ### numbers of any length -/
theorem inFig_iff (c : Nat) : inFig c = true ↔ 48 ≤ c ∧ c ≤ 57 := by
  unfold inFig
  have h := PySem.StrLaws.found_one figs c
  rw [h]
  have e : figs.cps.toList = [48, 49, 50, 51, 52, 53, 54, 55, 56, 57] := by decide +kernel
  rw [e, decide_eq_true_eq]
  simp only [List.mem_cons, List.not_mem_nil, or_false]
  omega
def isNumL : List Nat → Bool
  | [] => false
  | c :: r => decide (c ≠ 48) && (c :: r).all inFig
def isNumB (f : Str) : Bool := isNumL f.cps.toList
def valN (f : Str) : Nat := PySem.NumText.digitsVal f.cps.toList
theorem dig_char : ∀ k : Nat, k < 10 → (Nat.digitChar k).toNat = k + 48 := by decide
theorem rev_cases {α : Type} (P : List α → Prop) (h0 : P []) (h1 : ∀ r x, P r → P (r ++ [x])) : ∀ l, P l := by
  intro l
  have : ∀ n (l : List α), l.length = n → P l := by
    intro n
    induction n with
    | zero => intro l hl; rw [List.length_eq_zero_iff.mp hl]; exact h0
    | succ n ih =>
      intro l hl
      have hne : l ≠ [] := fun z => by rw [z] at hl; cases hl
      rw [(List.dropLast_concat_getLast hne).symm]
      refine h1 _ _ (ih _ ?_)
      rw [List.length_dropLast]
      omega
  exact this _ l rfl
theorem dig_back (c : Nat) (hc : c ≠ 48) : ∀ r : List Nat, (∀ x ∈ c :: r, 48 ≤ x ∧ x ≤ 57) → 0 < PySem.NumText.digitsVal (c :: r) ∧ (Nat.toDigits 10 (PySem.NumText.digitsVal (c :: r))).map Char.toNat = c :: r := by
  refine rev_cases _ ?_ ?_
  · intro h
    have hc2 := h c (List.mem_cons_self ..)
    have e : PySem.NumText.digitsVal [c] = c - 48 := by show 0 * 10 + (c - 48) = _; omega
    have l1 : c - 48 < 10 := by omega
    refine ⟨by rw [e]; omega, ?_⟩
    rw [e, Nat.toDigits_of_lt_base l1]
    show [(Nat.digitChar (c - 48)).toNat] = [c]
    rw [dig_char _ l1]
    congr 1
    omega
  · intro r d ih h
    obtain ⟨i1, i2⟩ := ih fun x hx => h x (by
      rcases List.mem_cons.mp hx with z | z
      · rw [z]; exact List.mem_cons_self ..
      · exact List.mem_cons_of_mem _ (List.mem_append_left _ z))
    have hd := h d (List.mem_cons_of_mem _ (List.mem_append_right _ (List.mem_singleton.mpr rfl)))
    have e : PySem.NumText.digitsVal (c :: (r ++ [d])) = PySem.NumText.digitsVal (c :: r) * 10 + (d - 48) := PySem.NumText.digitsVal_snoc (c :: r) d
    have l1 : d - 48 < 10 := by omega
    generalize PySem.NumText.digitsVal (c :: r) = n at i1 i2 e
    rw [e]
    refine ⟨by omega, ?_⟩
    have t : Nat.toDigits 10 n ++ Nat.toDigits 10 (d - 48) = Nat.toDigits 10 (10 * n + (d - 48)) := Nat.toDigits_append_toDigits (by decide) i1 l1
    rw [show n * 10 + (d - 48) = 10 * n + (d - 48) from by omega, ← t, List.map_append, i2, Nat.toDigits_of_lt_base l1]
    show (c :: r) ++ [(Nat.digitChar (d - 48)).toNat] = _
    rw [dig_char _ l1, show d - 48 + 48 = d from by omega]
    rfl
theorem dig_lt : ∀ l : List Nat, (∀ x ∈ l, 48 ≤ x ∧ x ≤ 57) → PySem.NumText.digitsVal l < 10 ^ l.length := by
  refine rev_cases _ ?_ ?_
  · intro _; exact Nat.one_pos
  · intro r d ih h
    have i1 := ih fun x hx => h x (List.mem_append_left _ hx)
    have hd := h d (List.mem_append_right _ (List.mem_singleton.mpr rfl))
    rw [PySem.NumText.digitsVal_snoc, List.length_append, List.length_singleton, Nat.pow_succ]
    omega
structure NumF (f : Str) : Prop where
  pos : 0 < valN f
  back : nS (valN f) = f
  reads : f.length ≤ 400 → PySem.intText? f = some ((valN f : Nat) : Int)
  log : f.length ≤ 400 → ((valN f : Nat) : Int).natAbs.log2 < 1920
theorem pow400 : 10 ^ 400 ≤ 2 ^ 1920 := by decide +kernel
theorem num_f {f : Str} (h : isNumB f = true) : NumF f := by
  unfold isNumB at h
  cases e : f.cps.toList with
  | nil => rw [e] at h; cases h
  | cons c r =>
    rw [e] at h
    have h' : (decide (c ≠ 48) && (c :: r).all inFig) = true := h
    rw [Bool.and_eq_true, decide_eq_true_eq] at h'
    have ad : ∀ x ∈ c :: r, 48 ≤ x ∧ x ≤ 57 := fun x hx => (inFig_iff x).mp (List.all_eq_true.mp h'.2 x hx)
    obtain ⟨d1, d2⟩ := dig_back c h'.1 r ad
    have ev : valN f = PySem.NumText.digitsVal (c :: r) := by unfold valN; rw [e]
    refine ⟨by rw [ev]; exact d1, ?_, fun hl => ?_, fun hl => ?_⟩
    · refine str_of ?_
      unfold nS
      rw [PySem.W.KIN.signs_num, ev, d2, e]
    · have := PySem.intText_digits (x := f) (by rw [e]; exact ad) (by rw [e]; exact fun z => nomatch z) (Nat.le_trans hl (by decide))
      exact this
    · rw [Int.natAbs_natCast, Nat.log2_lt (by rw [ev]; omega)]
      have l1 := dig_lt (c :: r) ad
      rw [← ev] at l1
      have l2 : (c :: r).length ≤ 400 := by rw [← e, Array.length_toList]; exact hl
      have l3 : 10 ^ (c :: r).length ≤ 10 ^ 400 := Nat.pow_le_pow_right (by decide) l2
      exact Nat.lt_of_lt_of_le l1 (Nat.le_trans l3 pow400)
/-! ### what a note is -/
def cls (x : Str) : Option Nt := match x.cps.toList with
  | [] => none
  | c :: r => if c = 45 then some (.cut ⟨r.toArray⟩) else if c = 43 then some (.put ⟨r.toArray⟩) else if (decide (c = 61) && isNumL r) = true then some (.eq (List.replicate (valN ⟨r.toArray⟩) "")) else none
theorem cls_nil : cls "" = none := by
  unfold cls
  rw [e_nil]
theorem eta (y : Str) : (⟨y.cps.toList.toArray⟩ : Str) = y := str_of rfl
theorem cls_cons (c : Nat) (y : Str) : cls (one c ++ y) = if c = 45 then some (.cut y) else if c = 43 then some (.put y) else if (decide (c = 61) && isNumB y) = true then some (.eq (List.replicate (valN y) "")) else none := by
  unfold cls
  rw [one_list]
  dsimp only
  rw [eta]
  rfl
def Nt.pos : Nt → Prop
  | .eq ks => 0 < ks.length ∧ (nS ks.length).length ≤ 400 ∧ ((ks.length : Nat) : Int).natAbs.log2 < 1920
  | .cut z => z.length ≤ 400
  | .put z => z.length ≤ 400
theorem cls_text {x : Str} {nt : Nt} (h : cls x = some nt) (hl : x.length ≤ 400) : nt.text = x ∧ nt.pos := by
  rcases str_split x with rfl | ⟨c, y, rfl⟩
  · rw [cls_nil] at h; cases h
  · rw [cls_cons] at h
    have hy : y.length ≤ 400 := by
      rw [PySem.Str.length_append] at hl
      omega
    by_cases h1 : c = 45
    · rw [if_pos h1] at h
      cases h
      subst h1
      exact ⟨by show ("-" : Str) ++ y = _; rw [e_cut], hy⟩
    · rw [if_neg h1] at h
      by_cases h2 : c = 43
      · rw [if_pos h2] at h
        cases h
        subst h2
        exact ⟨by show ("+" : Str) ++ y = _; rw [e_put], hy⟩
      · rw [if_neg h2] at h
        by_cases h3 : (decide (c = 61) && isNumB y) = true
        · rw [if_pos h3] at h
          cases h
          rw [Bool.and_eq_true, decide_eq_true_eq] at h3
          obtain ⟨rfl, h4⟩ := h3
          have N := num_f h4
          refine ⟨?_, ?_⟩
          · show ("=" : Str) ++ nS (List.replicate (valN y) ("" : Str)).length = _
            rw [List.length_replicate, N.back, e_eq]
          · show 0 < (List.replicate (valN y) ("" : Str)).length ∧ _ ∧ _
            rw [List.length_replicate]
            exact ⟨N.pos, by rw [N.back]; exact hy, N.log hy⟩
        · rw [if_neg h3] at h; cases h
/-! ### which rows of notes are good -/
def badPair (x y : Str) : Bool := (Txt.startswith x "=" && Txt.startswith y "=") || (Txt.startswith x "+" && Txt.startswith y "-")
def badP : List Str → Bool
  | x :: y :: r => badPair x y || badP (y :: r)
  | _ => false
def clsAll : List Str → Option (List Nt)
  | [] => some []
  | x :: r => match cls x, clsAll r with
    | some a, some b => some (a :: b)
    | _, _ => none
theorem badP_at : ∀ (xs : List Str) (i : Nat) (x y : Str), xs[i]? = some x → xs[i + 1]? = some y → badPair x y = true → badP xs = true
  | [], i, x, y, h, _, _ => by simp at h
  | [a], i, x, y, _, h, _ => by simp at h
  | a :: b :: r, 0, x, y, h1, h2, hb => by
    simp at h1 h2
    subst h1 h2
    show (badPair a b || badP (b :: r)) = true
    rw [hb]; rfl
  | a :: b :: r, i + 1, x, y, h1, h2, hb => by
    have := badP_at (b :: r) i x y (by simpa using h1) (by simpa using h2) hb
    show (badPair a b || badP (b :: r)) = true
    rw [this, Bool.or_true]
theorem badP_none : ∀ (xs : List Str), (∀ (i : Nat) (x y : Str), xs[i]? = some x → xs[i + 1]? = some y → badPair x y = false) → badP xs = false
  | [], _ => rfl
  | [_], _ => rfl
  | a :: b :: r, h => by
    show (badPair a b || badP (b :: r)) = false
    rw [h 0 a b rfl rfl, badP_none (b :: r) fun i x y h1 h2 => h (i + 1) x y (by simpa using h1) (by simpa using h2)]
    rfl
theorem badP_off : ∀ (xs : List Str), badP xs = false → ∀ (i : Nat) (x y : Str), xs[i]? = some x → xs[i + 1]? = some y → badPair x y = false := fun xs h i x y h1 h2 => by
  cases hb : badPair x y with
  | false => rfl
  | true => rw [badP_at xs i x y h1 h2 hb] at h; cases h
theorem clsAll_at : ∀ {xs : List Str} {ns : List Nt}, clsAll xs = some ns → ns.length = xs.length ∧ ∀ (i : Nat) (x : Str), xs[i]? = some x → ∃ n, ns[i]? = some n ∧ cls x = some n
  | [], ns, h => by
    cases h
    exact ⟨rfl, fun i x h => by simp at h⟩
  | x :: r, ns, h => by
    have h' : (match cls x, clsAll r with | some a, some b => some (a :: b) | _, _ => none) = some ns := h
    cases h1 : cls x with
    | none => rw [h1] at h'; cases h'
    | some a =>
      cases h2 : clsAll r with
      | none => rw [h1, h2] at h'; cases h'
      | some b =>
        rw [h1, h2] at h'
        cases h'
        obtain ⟨l, g⟩ := clsAll_at h2
        refine ⟨by simp [l], fun i y hy => ?_⟩
        cases i with
        | zero => simp at hy; subst hy; exact ⟨a, rfl, h1⟩
        | succ i => obtain ⟨n, n1, n2⟩ := g i y (by simpa using hy); exact ⟨n, by simpa using n1, n2⟩
theorem clsAll_snoc : ∀ {xs : List Str} {ns : List Nt} {x : Str} {n : Nt}, clsAll xs = some ns → cls x = some n → clsAll (xs ++ [x]) = some (ns ++ [n])
  | [], ns, x, n, h, hn => by
    cases h
    show (match cls x, clsAll [] with | some a, some b => some (a :: b) | _, _ => none) = _
    rw [hn]
    rfl
  | y :: r, ns, x, n, h, hn => by
    have h' : (match cls y, clsAll r with | some a, some b => some (a :: b) | _, _ => none) = some ns := h
    cases h1 : cls y with
    | none => rw [h1] at h'; cases h'
    | some a =>
      cases h2 : clsAll r with
      | none => rw [h1, h2] at h'; cases h'
      | some b =>
        rw [h1, h2] at h'
        cases h'
        have ih := clsAll_snoc h2 hn
        show (match cls y, clsAll (r ++ [x]) with | some a, some b => some (a :: b) | _, _ => none) = _
        rw [h1, ih]
        rfl
theorem clsAll_none : ∀ {xs : List Str}, clsAll xs = none → ∃ x ∈ xs, cls x = none
  | [], h => by cases h
  | x :: r, h => by
    have h' : (match cls x, clsAll r with | some a, some b => some (a :: b) | _, _ => none) = none := h
    cases h1 : cls x with
    | none => exact ⟨x, List.mem_cons_self .., h1⟩
    | some a =>
      cases h2 : clsAll r with
      | none => obtain ⟨y, y1, y2⟩ := clsAll_none h2; exact ⟨y, List.mem_cons_of_mem _ y1, y2⟩
      | some b => rw [h1, h2] at h'; cases h'
theorem clsAll_has {xs : List Str} {x : Str} (hx : x ∈ xs) (h : cls x = none) : clsAll xs = none := by
  cases e : clsAll xs with
  | none => rfl
  | some ns =>
    obtain ⟨i, hi⟩ := List.getElem?_of_mem hx
    obtain ⟨n, _, n2⟩ := (clsAll_at e).2 i x hi
    rw [h] at n2; cases n2
theorem clsAll_text {xs : List Str} {ns : List Nt} (h : clsAll xs = some ns) (hl : ∀ x ∈ xs, x.length ≤ 400) : ns.map Nt.text = xs ∧ ∀ n ∈ ns, n.pos := by
  obtain ⟨l, g⟩ := clsAll_at h
  refine ⟨?_, fun n hn => ?_⟩
  · refine List.ext_getElem? fun i => ?_
    rw [List.getElem?_map]
    cases e : xs[i]? with
    | none =>
      have : ns[i]? = none := by
        rw [List.getElem?_eq_none_iff] at e ⊢
        omega
      rw [this]; rfl
    | some x =>
      obtain ⟨n, n1, n2⟩ := g i x e
      rw [n1]
      show some n.text = some x
      rw [(cls_text n2 (hl x (List.mem_of_getElem? e))).1]
  · obtain ⟨i, hi⟩ := List.getElem?_of_mem hn
    have hlt : i < xs.length := by have := (List.getElem?_eq_some_iff.mp hi).1; omega
    obtain ⟨m, m1, m2⟩ := g i xs[i] (List.getElem?_eq_getElem hlt)
    rw [hi] at m1
    cases m1
    exact (cls_text m2 (hl _ (List.getElem_mem hlt))).2
/-- good notes stand in order -/
theorem cls_chain {xs : List Str} {ns : List Nt} (h : clsAll xs = some ns) (hl : ∀ x ∈ xs, x.length ≤ 400) (hb : badP xs = false) : ∀ (i : Nat) (a b : Nt), ns[i]? = some a → ns[i + 1]? = some b → okN a b := by
  obtain ⟨e, _⟩ := clsAll_text h hl
  intro i a b h1 h2
  have g1 : xs[i]? = some a.text := by rw [← e]; exact get_map h1
  have g2 : xs[i + 1]? = some b.text := by rw [← e]; exact get_map h2
  have := badP_off xs hb i _ _ g1 g2
  unfold badPair at this
  rw [st_eq, st_eq, st_put, st_cut, Bool.or_eq_false_iff] at this
  exact this
end Rm

set_option Elab.async false
set_option linter.all false
set_option maxRecDepth 100000
set_option maxHeartbeats 4000000
namespace Rm
open PySem L2 My
section
variable {P : Program} {w : World} {K : PySem.W.Frag} {mg : Str → Option Value} {base : Heap}
/-! ### is_number, of any text -/
def spIsNumX : Sp := fun vs H Q _ => ∃ f : Str, vs = [.str f] ∧ f.length ≤ 400 ∧ ∀ H' : Hp, Same H H' → Q (.bl (isNumB f)) H'
theorem all_take {l : List Nat} {p : Nat → Bool} : (l.map p).all id = l.all p := by
  induction l with
  | nil => rfl
  | cons a r ih => show (p a && (r.map p).all id) = (p a && r.all p); rw [ih]
theorem ok_is_numberX {f : Addr} {fd : FuncData} {tF : Tok} (F : Fun K "is_number" "is_number" s_is_number f fd) (mF : mg "FIGURES" = some (.str figs tF)) (zA : mg "all" = none) : FnOk P w K mg base CX0 1 f fd ["figures"] spIsNumX := by
  refine F.ok sc_is_number (fun vs H Q E h => ?_) (fun cdv A outer s H vs Q E hr h => ?_)
  · obtain ⟨x, rfl, _⟩ := h
    rfl
  obtain ⟨x, rfl, lx, k⟩ := h
  refine ⟨_, pss_cons (ps_if (PW.pt (pw_or (pt_cmpR op_eq (pv 0) pe_str (nomark _)) (pw_or1 (pt_cmpR op_eq (pe_ix ix_str (pv 0) pe_int (fun _ _ => rfl)) pe_str (nomark _))))) (pss_one (ps_ret pe_bl)) pss_nil)
    (pss_one (ps_ret (pe_callB (call_all rfl) rfl zA PyProof.Rows.boot_all (pa_cons (pe_lc rfl (lc_plain (x := "figure") (by decide +kernel) (by decide +kernel) rfl (by decide +kernel) rfl) (pi_str (pv 0))
      (fun _ _ _ _ _ => pf_nil) (fun _ _ _ _ _ => pe_cmpR op_in_str (pv 0) (pe_glob (v := .str figs) rfl mF ⟨tF, rfl⟩) rfl)) pa_nil)))), ?_⟩
  rcases str_split x with rfl | ⟨c, y, rfl⟩
  · refine ⟨_, rfl, rfl, _, rfl, iteYes rfl (iteT ?_)⟩
    have e : isNumB "" = false := by decide +kernel
    have := k H (Same.refl _)
    rw [e] at this
    exact this
  have at0 : atI (one c ++ y).cps.toList 0 = some c := by rw [one_list]; exact atI_get (j := 0) rfl rfl
  have en : isNumB (one c ++ y) = (decide (c ≠ 48) && (c :: y.cps.toList).all inFig) := by unfold isNumB; rw [one_list]; rfl
  refine ⟨_, rfl, rfl, _, rfl, iteNo (fun z => one_ne c y (V.str.inj z)) ⟨_, rfl, _, _, _, rfl, rfl, small (by omega), at0, rfl, _, rfl, ite2d (fun z => ?_) (fun z => ?_)⟩⟩
  · have e48 : ("0" : Str) = one 48 := by decide +kernel
    have hc : c = 48 := one_inj ((V.str.inj z).trans e48)
    have := k H (Same.refl _)
    rw [en, decide_eq_false (by simpa using hc), Bool.false_and] at this
    exact this
  have hc : c ≠ 48 := fun h => z (by
    show V.str (one c) = V.str "0"
    rw [h]
    congr 1)
  refine ⟨_, rfl, _, rfl, fun D hD => ?_⟩
  have s0 := same_new hD (.lst [])
  have sz : (one c ++ y).cps.size ≤ 400 := lx
  have el : (one c ++ y).cps.toList = c :: y.cps.toList := one_list c y
  generalize hx : one c ++ y = x at *
  refine lc_str (z := x) (fun i H2 => H2 D = some (.lst (((x.cps.toList.take i).map inFig).map V.bl)) ∧ Same H H2) ⟨upd_same, s0⟩ ?_ ?_
  · rintro i d H2 hd ⟨h1, s2⟩
    have hi : i < x.cps.size := (Array.getElem?_eq_some_iff.mp hd).1
    have hd' : x.cps.toList[i]? = some d := by rw [Array.getElem?_toList]; exact hd
    refine noif ?_
    refine ⟨_, rfl, _, _, rfl, rfl, _, h1, ?_, ?_, same_put hD s2⟩
    · rw [List.length_map, List.length_map, List.length_take]
      exact small' (by omega)
    · rw [upd_same, take_add_one' hd', List.map_append, List.map_append]
      rfl
  rintro H2 ⟨h1, s2⟩
  rw [show x.cps.size = x.cps.toList.length from Array.length_toList.symm, List.take_length] at h1
  refine ⟨D, _, rfl, SqL.of h1, ?_⟩
  rw [all_take]
  have := k H2 s2
  rw [en, decide_eq_true (by simpa using hc), Bool.true_and, ← el] at this
  exact this
/-! ### refuse_order, of any two texts -/
def spRefuseX (C : Addr) : Sp := fun vs H Q E => ∃ x y : Str, vs = [.str x, .str y] ∧ (badPair x y = false → Q .non H) ∧ (badPair x y = true → E (.ref C) none H)
theorem ok_refuse_orderX {f C : Addr} {fd : FuncData} (F : Fun K "refuse_order" "refuse_order" s_refuse_order f fd) (q : PySem.W.excIn K C bmV "ValueError.__new__" = true) (mN : mg "NoChange" = some (.ref C)) :
    FnOk P w K mg base (CXR P w) 1 f fd ["ahead", "behind"] (spRefuseX C) := by
  refine Fun.okR F sc_refuse_order (fun vs H Q E h => ?_) (fun cdv A outer s H vs Q E hr h => ?_)
  · obtain ⟨x, y, rfl, _⟩ := h
    rfl
  obtain ⟨x, y, rfl, k1, k2⟩ := h
  have hA : A.handled = none := hr.hd
  refine ⟨_, pss_cut (ps_if (PW.pt (pw_and (pt_val (pe_bm PySem.F.plainAttrs_str PySem.F.slot_str_startswith PySem.F.type_str_startswith mt_starts (pv 0) (pa_cons pe_str pa_nil)))
        (pw_and1 (pt_val (pe_bm PySem.F.plainAttrs_str PySem.F.slot_str_startswith PySem.F.type_str_startswith mt_starts (pv 1) (pa_cons pe_str pa_nil)))))) (pss_one (ps_raise q hA rfl mN pe_str)) pss_nil)
    (pss_one (ps_if (PW.pt (pw_and (pt_val (pe_bm PySem.F.plainAttrs_str PySem.F.slot_str_startswith PySem.F.type_str_startswith mt_starts (pv 0) (pa_cons pe_str pa_nil)))
        (pw_and1 (pt_val (pe_bm PySem.F.plainAttrs_str PySem.F.slot_str_startswith PySem.F.type_str_startswith mt_starts (pv 1) (pa_cons pe_str pa_nil)))))) (pss_one (ps_raise q hA rfl mN pe_str)) pss_nil)), ?_⟩
  unfold badPair at k1 k2
  refine ⟨fun σ' H' => σ' = [some (.str x), some (.str y)] ∧ H' = H ∧ (Txt.startswith x "=" && Txt.startswith y "=") = false, ?_, ?_⟩
  · refine ⟨_, rfl, rfl, _, _, rfl, rfl, _, rfl, ?_⟩
    cases hx : Txt.startswith x "=" with
    | false => exact iteF (iteF ⟨rfl, rfl, rfl⟩)
    | true =>
      refine iteT ⟨_, rfl, rfl, _, _, rfl, rfl, _, rfl, ?_⟩
      cases hy : Txt.startswith y "=" with
      | false => exact iteF ⟨rfl, rfl, rfl⟩
      | true => exact iteT ⟨by show 1 ≤ sizeLine; decide, k2 (by rw [hx, hy]; rfl)⟩
  rintro σ' H' ⟨rfl, rfl, e⟩
  rw [e, Bool.false_or] at k1 k2
  refine ⟨_, rfl, rfl, _, _, rfl, rfl, _, rfl, ?_⟩
  cases hx : Txt.startswith x "+" with
  | false => exact iteF (iteF (k1 (by rw [hx]; rfl)))
  | true =>
    refine iteT ⟨_, rfl, rfl, _, _, rfl, rfl, _, rfl, ?_⟩
    cases hy : Txt.startswith y "-" with
    | false => exact iteF (k1 (by rw [hx, hy]; rfl))
    | true => exact iteT ⟨by show 1 ≤ sizeLine; decide, k2 (by rw [hx, hy]; rfl)⟩
/-! ### part_of, of any text -/
def spPartX (C : Addr) : Sp := fun vs H Q E => ∃ x : Str, vs = [.str x] ∧ Asc x ∧ (∀ nt, cls x = some nt → ∀ (r : Addr) (H' : Hp), Same H H' → (∀ l xs, H l = some (.lst xs) → BlkAt (rm H' l) r nt.part) → Q (.ref r) H') ∧
  (cls x = none → ∀ H' : Hp, Same H H' → E (.ref C) none H')
theorem slice_nil : Txt.slice "" (some 1) none = "" := by decide +kernel
theorem ok_part_ofX {f fn C : Addr} {fd fdn : FuncData} {tF : Tok} (F : Fun K "part_of" "part_of" s_part_of f fd) (FN : Fun K "is_number" "is_number" s_is_number fn fdn) (bN : Binds K fdn ["figures"] []) (mN : mg "is_number" = some (.ref fn))
    (mF : mg "FIGURES" = some (.str figs tF)) (zA : mg "all" = none) (q : PySem.W.excIn K C bmV "ValueError.__new__" = true) (mX : mg "NoChange" = some (.ref C)) (B : Bn mg) : FnOk P w K mg base (CXR P w) 2 f fd ["note"] (spPartX C) := by
  have GN : FnOk P w K mg base CX0 1 fn fdn ["figures"] spIsNumX := ok_is_numberX FN mF zA
  refine Fun.okR F sc_part_of (fun vs H Q E h => ?_) (fun cdv A outer s H vs Q E hr h => ?_)
  · obtain ⟨x, rfl, _⟩ := h
    rfl
  obtain ⟨x, rfl, hx, k1, k2⟩ := h
  have hA : A.handled = none := hr.hd
  refine ⟨_, pss_cons (ps_if (pt_val (pe_bm PySem.F.plainAttrs_str PySem.F.slot_str_startswith PySem.F.type_str_startswith mt_starts (pv 0) (pa_cons pe_str pa_nil)))
      (pss_one (ps_ret (pe_tup (pa_cons pe_str (pa_cons (pe_lst (pa_cons (pe_slice sl_str (pv 0) (po_some pe_int) po_none) pa_nil)) (pa_cons (pe_lst pa_nil) pa_nil)))))) pss_nil)
    (pss_cons (ps_if (pt_val (pe_bm PySem.F.plainAttrs_str PySem.F.slot_str_startswith PySem.F.type_str_startswith mt_starts (pv 0) (pa_cons pe_str pa_nil)))
      (pss_one (ps_ret (pe_tup (pa_cons pe_str (pa_cons (pe_lst pa_nil) (pa_cons (pe_lst (pa_cons (pe_slice sl_str (pv 0) (po_some pe_int) po_none) pa_nil)) pa_nil)))))) pss_nil)
    (pss_cons (ps_if (PW.pt (pw_and (pt_val (pe_bm PySem.F.plainAttrs_str PySem.F.slot_str_startswith PySem.F.type_str_startswith mt_starts (pv 0) (pa_cons pe_str pa_nil)))
        (pw_and1 (pt_val (pe_call GN hr rfl mN FN.kp bN .nil pass0 (pa_cons (pe_slice sl_str (pv 0) (po_some pe_int) po_none) pa_nil))))))
      (pss_one (ps_ret (pe_tup (pa_cons pe_str (pa_cons (pe_callTy call_int_text rfl B.int PyProof.Rows.boot_int (pa_cons (pe_slice sl_str (pv 0) (po_some pe_int) po_none) pa_nil)) pa_nil))))) pss_nil)
    (pss_one (ps_raise q hA rfl mX (pe_frepr (pv 0) (by decide +kernel)))))), ?_⟩
  have xl := hx.1
  rcases str_split x with rfl | ⟨c, y, rfl⟩
  · -- nothing is written
    have s1 : Txt.startswith "" "-" = false := by rw [e_cut]; exact sw_nil 45
    have s2 : Txt.startswith "" "+" = false := by rw [e_put]; exact sw_nil 43
    have s3 : Txt.startswith "" "=" = false := by rw [e_eq]; exact sw_nil 61
    refine ⟨_, rfl, rfl, _, _, rfl, rfl, _, rfl, iteOff s1 ?_⟩
    refine ⟨_, rfl, rfl, _, _, rfl, rfl, _, rfl, iteOff s2 ?_⟩
    refine ⟨_, rfl, rfl, _, _, rfl, rfl, _, rfl, iteOff s3 (iteF ?_)⟩
    exact ⟨_, rfl, _, rfl, hx, fun z => ⟨by show 1 ≤ sizeLine; decide, k2 cls_nil H (Same.refl _)⟩⟩
  have s1 : Txt.startswith (one c ++ y) "-" = decide (c = 45) := by rw [e_cut]; exact sw_cons c 45 y
  have s2 : Txt.startswith (one c ++ y) "+" = decide (c = 43) := by rw [e_put]; exact sw_cons c 43 y
  have s3 : Txt.startswith (one c ++ y) "=" = decide (c = 61) := by rw [e_eq]; exact sw_cons c 61 y
  have tl : Txt.slice (one c ++ y) (some 1) none = y := slice_tail (d := one c) rfl
  have ec := cls_cons c y
  have ly : y.length ≤ 400 := by
    rw [PySem.Str.length_append] at xl
    omega
  generalize hX : one c ++ y = X at *
  by_cases h1 : c = 45
  · rw [if_pos h1] at ec
    rw [decide_eq_true h1] at s1
    refine ⟨_, rfl, rfl, _, _, rfl, rfl, _, rfl, iteOn s1 ?_⟩
    refine ⟨_, rfl, _, rfl, _, rfl, small (by omega), ?_⟩
    rw [tl]
    refine ⟨(by show 1 ≤ sizeLine; decide), fun p1 h1 => ?_⟩
    have t1 := same_new h1 (.lst [.str y])
    refine ⟨(by show 0 ≤ sizeLine; decide), fun p2 h2 => ?_⟩
    have t2 := same_new h2 (.lst [])
    refine ⟨(by show 3 ≤ sizeLine; decide), fun r hr' => ?_⟩
    have t3 := same_new hr' (.tup [.str "swap", .ref p1, .ref p2])
    refine k1 _ ec r _ (t1.trans (t2.trans t3)) fun l xs hl => ⟨p1, p2, ?_, ?_, ?_⟩
    · rw [rm_ne (ne_of_none (t2 _ _ (t1 _ _ hl)) hr').symm, upd_same]
    · rw [rm_ne (ne_of_none hl h1).symm]; exact t3 _ _ (t2 _ _ upd_same)
    · rw [rm_ne (ne_of_none (t1 _ _ hl) h2).symm]; exact t3 _ _ upd_same
  · rw [if_neg h1] at ec
    rw [decide_eq_false h1] at s1
    refine ⟨_, rfl, rfl, _, _, rfl, rfl, _, rfl, iteOff s1 ?_⟩
    by_cases h2 : c = 43
    · rw [if_pos h2] at ec
      rw [decide_eq_true h2] at s2
      refine ⟨_, rfl, rfl, _, _, rfl, rfl, _, rfl, iteOn s2 ?_⟩
      refine ⟨(by show 0 ≤ sizeLine; decide), fun p1 h1 => ?_⟩
      have t1 := same_new h1 (.lst [])
      refine ⟨_, rfl, _, rfl, _, rfl, small (by omega), ?_⟩
      rw [tl]
      refine ⟨(by show 1 ≤ sizeLine; decide), fun p2 h2 => ?_⟩
      have t2 := same_new h2 (.lst [.str y])
      refine ⟨(by show 3 ≤ sizeLine; decide), fun r hr' => ?_⟩
      have t3 := same_new hr' (.tup [.str "swap", .ref p1, .ref p2])
      refine k1 _ ec r _ (t1.trans (t2.trans t3)) fun l xs hl => ⟨p1, p2, ?_, ?_, ?_⟩
      · rw [rm_ne (ne_of_none (t2 _ _ (t1 _ _ hl)) hr').symm, upd_same]
      · rw [rm_ne (ne_of_none hl h1).symm]; exact t3 _ _ (t2 _ _ upd_same)
      · rw [rm_ne (ne_of_none (t1 _ _ hl) h2).symm]; exact t3 _ _ upd_same
    · rw [if_neg h2] at ec
      rw [decide_eq_false h2] at s2
      refine ⟨_, rfl, rfl, _, _, rfl, rfl, _, rfl, iteOff s2 ?_⟩
      refine ⟨_, rfl, rfl, _, _, rfl, rfl, _, rfl, ?_⟩
      by_cases h3 : c = 61
      · rw [decide_eq_true h3] at s3
        rw [decide_eq_true h3, Bool.true_and] at ec
        refine iteOn s3 ⟨_, rfl, _, rfl, _, rfl, small (by omega), ?_⟩
        rw [tl]
        refine ⟨y, rfl, ly, fun H1 t1 => ⟨_, rfl, ?_⟩⟩
        cases hn : isNumB y with
        | false =>
          rw [hn, if_neg Bool.false_ne_true] at ec
          refine iteF ?_
          exact ⟨_, rfl, _, rfl, hx, fun z => ⟨by show 1 ≤ sizeLine; decide, k2 ec H1 t1⟩⟩
        | true =>
          rw [hn, if_pos rfl] at ec
          refine iteT ⟨_, rfl, _, rfl, _, rfl, small (by omega), ?_⟩
          rw [tl]
          have N := num_f hn
          refine ⟨y, ((valN y : Nat) : Int), rfl, N.reads ly, Nat.le_trans ly (by decide), ?_⟩
          refine ⟨(by show 2 ≤ sizeLine; decide), fun r hr' => ?_⟩
          have t3 := same_new hr' (.tup [.str "keep", .int ((valN y : Nat) : Int)])
          refine k1 _ ec r _ (t1.trans t3) fun l xs hl => ?_
          show rm _ l r = some (.tup [.str "keep", .int (((List.replicate (valN y) ("" : Str)).length : Nat) : Int)])
          rw [rm_ne (ne_of_none (t1 _ _ hl) hr').symm, upd_same, List.length_replicate]
      · rw [decide_eq_false h3] at s3
        rw [decide_eq_false h3, Bool.false_and, if_neg Bool.false_ne_true] at ec
        refine iteOff s3 (iteF ?_)
        exact ⟨_, rfl, _, rfl, hx, fun z => ⟨by show 1 ≤ sizeLine; decide, k2 ec H (Same.refl _)⟩⟩
/-! ### read, of any texts -/
def spReadX (C : Addr) : Sp := fun vs H Q E => ∃ (a : Addr) (xs : List Str), vs = [.ref a] ∧ H a = some (txt xs) ∧ xs.length ≤ 1000 ∧ (∀ x ∈ xs, Asc x) ∧
  (∀ ns, badP xs = false → clsAll xs = some ns → ∀ (r : Addr) (H' : Hp), Same H H' → ChgAt H' r (tidy (ns.map Nt.part)) → Q (.ref r) H') ∧ ((badP xs = true ∨ clsAll xs = none) → ∀ H' : Hp, Same H H' → E (.ref C) none H')
theorem part_sw (ns : List Nt) : (sOf (ns.map Nt.part)).length ≤ ns.length ∧ (sNf (ns.map Nt.part)).length ≤ ns.length := by
  induction ns with
  | nil => exact ⟨Nat.le_refl _, Nat.le_refl _⟩
  | cons n r ih =>
    have e1 : sOf ((n :: r).map Nt.part) = swO n.part ++ sOf (r.map Nt.part) := rfl
    have e2 : sNf ((n :: r).map Nt.part) = swN n.part ++ sNf (r.map Nt.part) := rfl
    rw [e1, e2, List.length_append, List.length_append, List.length_cons]
    have h1 : (swO n.part).length ≤ 1 := by cases n <;> simp [Nt.part, swO]
    have h2 : (swN n.part).length ≤ 1 := by cases n <;> simp [Nt.part, swN]
    omega
theorem ok_readX {f fR fP fT C : Addr} {fd dR dP dT : FuncData} (F : Fun K "read" "read" s_read f fd)
    (GR : FnOk P w K mg base (CXR P w) 2 fR dR ["ahead", "behind"] (spRefuseX C)) (kR : PySem.W.keepIn K (.ref fR) = true) (bR : Binds K dR ["ahead", "behind"] []) (mR : mg "refuse_order" = some (.ref fR))
    (GP : FnOk P w K mg base (CXR P w) 2 fP dP ["note"] (spPartX C)) (kP : PySem.W.keepIn K (.ref fP) = true) (bP : Binds K dP ["note"] []) (mP : mg "part_of" = some (.ref fP))
    (GT : FnOk P w K mg base CX0 2 fT dT ["parts"] (spTidiedX K)) (kT : PySem.W.keepIn K (.ref fT) = true) (bT : Binds K dT ["parts"] []) (mT : mg "tidied" = some (.ref fT))
    (B : Bn mg) : FnOk P w K mg base (CXR P w) 3 f fd ["notes"] (spReadX C) := by
  refine Fun.okR F sc_read (fun vs H Q E h => ?_) (fun cdv A outer s H vs Q E hr h => ?_)
  · obtain ⟨a, xs, rfl, _⟩ := h
    rfl
  obtain ⟨a, xs, rfl, ha, lx, hasc, k1, k2⟩ := h
  refine ⟨_, pss_cons (ps_for PassesOwn.leaving rfl (pi_range2 rfl B.range (pa_cons pe_int (pa_cons (pe_callB call_len_seq rfl B.len PySem.boot_len (pa_cons (pv 0) pa_nil)) pa_nil))) (pg_name (i := 1) sc_read.nd rfl (Or.inl rfl))
      (pss_one (ps_expr (pe_call GR hr rfl mR kR bR .nil pass_on (pa_cons (pe_ix ix_list (pv 0) (pe_op op_sub (pv 1) pe_int) (fun _ _ => rfl)) (pa_cons (pe_ix ix_list (pv 0) (pv 1) (fun _ _ => rfl)) pa_nil))))))
    (pss_one (ps_ret (pe_call GT hr rfl mT kT bT .nil pass0 (pa_cons (pe_lcX (E := E) ⟨rfl, rfl, rfl⟩ (fun _ _ h => h) rfl (lc_plain (x := "note") (by decide +kernel) (by decide +kernel) rfl (by decide +kernel) rfl) (pi_list (pv 0))
      (fun _ _ _ _ _ => pf_nil) (fun _ _ _ _ _ => pe_call GP hr rfl mP kP bP .nil pass_blk (pa_cons (pv 0) pa_nil))) pa_nil)))), ?_⟩
  have hlx : (xs.map V.str).length = xs.length := List.length_map _
  refine ⟨_, rfl, a, _, rfl, .inl (SqL.of ha), _, _, rfl, ⟨by decide, by decide, by rw [hlx]; omega, by rw [hlx]; omega⟩, ?_⟩
  refine for_range (fun i σ H2 => ∃ v : Option V, σ = [some (.ref a), v] ∧ H2 = H ∧ ∀ (j : Nat) (x y : Str), j < i → xs[j]? = some x → xs[j + 1]? = some y → badPair x y = false) ⟨_, rfl, rfl, fun j x y z => absurd z (Nat.not_lt_zero _)⟩ ?_ ?_
  · rintro i σ H2 hi ⟨v, rfl, rfl, hok⟩
    rw [hlx] at hi
    have h1 : i + 1 < xs.length := by omega
    have g0 : xs[i]? = some xs[i] := List.getElem?_eq_getElem (by omega)
    have g1 : xs[i + 1]? = some xs[i + 1] := List.getElem?_eq_getElem h1
    refine ⟨_, rfl, _, rfl, _, _, rfl, rfl, a, _, _, _, rfl, rfl, SqL.of ha, atI_get (get_map g0) (by omega), ?_⟩
    refine ⟨_, rfl, _, rfl, a, _, _, _, rfl, rfl, SqL.of ha, atI_get (get_map g1) (by omega), ?_⟩
    refine ⟨xs[i], xs[i + 1], rfl, fun hb => ⟨_, rfl, rfl, fun j x y hj hx hy => ?_⟩, fun hb => k2 (.inl (badP_at xs i _ _ g0 g1 hb)) H2 (Same.refl _)⟩
    by_cases e : j = i
    · subst e
      rw [g0] at hx
      rw [g1] at hy
      cases hx
      cases hy
      exact hb
    · exact hok j x y (by omega) hx hy
  rintro σ H2 ⟨v, rfl, rfl, hok⟩
  have hbad : badP xs = false := badP_none xs fun i x y h1 h2 => hok i x y (by
    have := (List.getElem?_eq_some_iff.mp h2).1
    rw [hlx]
    omega) h1 h2
  refine ⟨_, rfl, a, rfl, ⟨_, SqL.of ha⟩, fun D hD => ?_⟩
  have s0 := same_new hD (.lst [])
  refine lc_list (K := K) (a := a) (xs := xs.map V.str) (fun i H3 => ∃ (qs : List Addr) (ns : List Nt), H3 D = some (.lst (qs.map V.ref)) ∧ Same H2 H3 ∧ BlksAt (rm H3 D) qs (ns.map Nt.part) ∧ clsAll (xs.take i) = some ns)
    ⟨[], [], upd_same, s0, .nil, rfl⟩ (fun i H3 _ ⟨_, _, _, s2, _⟩ => SqL.of (s2 _ _ ha)) ?_ ?_
  · rintro i y H3 hi ⟨qs, ns, h1, s2, hq, hc⟩
    obtain ⟨x, hxi, rfl⟩ := map_get hi
    have hil : i < xs.length := (List.getElem?_eq_some_iff.mp hxi).1
    have ql : qs.length = (ns.map Nt.part).length := hq.length
    have nl := (clsAll_at hc).1
    rw [List.length_take] at nl
    have lq : (qs.map V.ref).length < sizeLine := by
      rw [List.length_map, ql, List.length_map]
      exact small' (by omega)
    have xm := List.mem_of_getElem? hxi
    refine noif ?_
    refine ⟨_, rfl, x, rfl, hasc x xm, fun nt hnt r H4 s4 hr4 => ?_, fun hn H4 s4 => k2 (.inr (clsAll_has xm hn)) H4 (s2.trans s4)⟩
    refine ⟨_, s4 _ _ h1, lq, qs ++ [r], ns ++ [nt], ?_, same_put hD (s2.trans s4), ?_, ?_⟩
    · rw [upd_same, List.map_append]
      rfl
    · rw [rm_upd, List.map_append]
      exact paired_snoc (BlksAt.same (same_rm s4) hq) (hr4 D _ h1)
    · rw [take_add_one' hxi]
      exact clsAll_snoc hc hnt
  rintro H3 ⟨qs, ns, h1, s2, hq, hc⟩
  rw [hlx, List.take_length] at hc
  have nl := (clsAll_at hc).1
  obtain ⟨p1, p2⟩ := part_sw ns
  refine ⟨D, ns.map Nt.part, rfl, ⟨qs, h1, BlksAt.same rm_sub hq⟩, by rw [List.length_map]; omega, by omega, by omega, fun r H4 s4 hr4 => ?_⟩
  exact k1 ns hbad hc r H4 (s2.trans s4) hr4
end
end Rm

set_option Elab.async false
set_option linter.all false
set_option maxRecDepth 100000
set_option maxHeartbeats 4000000
namespace Rm
open PySem L2 My
section
variable {P : Program} {w : World} {K : PySem.W.Frag} {mg : Str → Option Value} {base : Heap}
/-! ### shown, of notes of any length -/
def spShownX : Sp := fun vs H Q _ => ∃ (a : Addr) (bs : List (Blk Str)), vs = [.ref a] ∧ ChgAt H a bs ∧ bs.length ≤ 1000 ∧ (nts bs).length ≤ 5000 ∧ (∀ x ∈ nts bs, x.pos) ∧
  ∀ (r : Addr) (H' : Hp), Same H H' → H' r = some (txt ((nts bs).map Nt.text)) → Q (.ref r) H'
theorem ok_shownX {f : Addr} {fd : FuncData} (F : Fun K "shown" "shown" s_shown f fd) (B : Bn mg) : FnOk P w K mg base CX0 1 f fd ["change"] spShownX := by
  refine F.ok sc_shown (fun vs H Q E h => ?_) (fun cdv A outer s H vs Q E hr h => ?_)
  · obtain ⟨a, bs, rfl, _⟩ := h
    rfl
  obtain ⟨a, bs, rfl, ⟨ps, ha, hbs⟩, lb, lnt, hf, k⟩ := h
  refine ⟨_, pss_cons (ps_set (i := 1) sc_shown.nd rfl (Or.inl rfl) (pe_lst pa_nil))
    (pss_cons (ps_for PassesOwn.never rfl (pi_list (pv 0)) (pg_name (i := 2) sc_shown.nd rfl (Or.inl rfl))
      (pss_one (ps_if (pt_cmpR op_eq (pe_ix ix_tup (pv 2) pe_int (fun _ _ => rfl)) pe_str (nomark _))
        (pss_one (ps_expr (pe_bm PySem.F.plainAttrs_list PySem.F.slot_list_append PySem.F.type_list_append mt_append (pv 1) (pa_cons (pe_op op_add_str pe_str (pe_callTy call_str_int rfl B.str PyProof.Rows.boot_str (pa_cons (pe_ix ix_tup (pv 2) pe_int (fun _ _ => rfl)) pa_nil))) pa_nil))))
        (pss_cons (ps_expr (pe_bm PySem.F.plainAttrs_list PySem.F.slot_list_extend PySem.F.type_list_extend mt_extend (pv 1) (pa_cons (pe_lc rfl (lc_plain (x := "line") (by decide +kernel) (by decide +kernel) rfl (by decide +kernel) rfl) (pi_list (pe_ix ix_tup (pv 2) pe_int (fun _ _ => rfl)))
            (fun _ _ _ _ _ => pf_nil) (fun _ _ _ _ _ => pe_op op_add_str pe_str (pv 0))) pa_nil)))
        (pss_one (ps_expr (pe_bm PySem.F.plainAttrs_list PySem.F.slot_list_extend PySem.F.type_list_extend mt_extend (pv 1) (pa_cons (pe_lc rfl (lc_plain (x := "line") (by decide +kernel) (by decide +kernel) rfl (by decide +kernel) rfl) (pi_list (pe_ix ix_tup (pv 2) pe_int (fun _ _ => rfl)))
            (fun _ _ _ _ _ => pf_nil) (fun _ _ _ _ _ => pe_op op_add_str pe_str (pv 0))) pa_nil))))))))
    (pss_one (ps_ret (pv 1)))), ?_⟩
  refine ⟨(by show 0 ≤ sizeLine; decide), fun l hl0 => ?_⟩
  have s0 := same_new hl0 (.lst [])
  have pl : ps.length = bs.length := hbs.length
  refine ⟨_, rfl, a, rfl, ⟨_, SqL.of (s0 _ _ ha)⟩, for_list (K := K) (a := a) (xs := ps.map V.ref)
    (fun i σ H2 => ∃ v : Option V, σ = [some (.ref a), some (.ref l), v] ∧ Same H H2 ∧ H2 l = some (txt ((nts (bs.take i)).map Nt.text)))
    ⟨none, rfl, s0, upd_same⟩ (fun i σ H2 _ ⟨_, _, s2, _⟩ => SqL.of (s2 _ _ ha)) ?_ ?_⟩
  · rintro i y σ H2 hi ⟨v, rfl, s2, h2⟩
    obtain ⟨p, hp, rfl⟩ := map_get hi
    obtain ⟨b, hbi, hbp⟩ := paired_get hbs hp
    have bm : b ∈ bs := List.mem_of_getElem? hbi
    have e1 := nts_take hbi
    have l0 := nts_le bs i
    have l1 := nts_le bs (i + 1)
    have hb2 := hbp.same s2
    cases b with
    | keep ks =>
      have hk : H2 p = some (.tup [.str "keep", .int (ks.length : Int)]) := hb2
      have hfk : (Nt.eq ks).pos := hf _ (mem_nts bm (List.mem_singleton.mpr rfl))
      have Nl := hfk.2.1
      refine ⟨_, rfl, p, _, _, _, rfl, rfl, SqT.of hk, rfl, rfl, _, rfl, iteYes rfl ?_⟩
      refine ⟨_, rfl, .inl ⟨rfl, _, SqL.of h2⟩, ?_⟩
      refine ⟨_, rfl, p, _, _, _, rfl, rfl, SqT.of hk, rfl, _, rfl, hfk.2.2, ?_⟩
      refine ⟨"=", nS ks.length, rfl, rfl, ?_, ?_⟩
      · have : ("=" : Str).length = 1 := by decide +kernel
        have := Nl
        exact small (by omega)
      refine ⟨l, _, _, rfl, rfl, h2, by rw [List.length_map, List.length_map]; exact small' (by omega), _, rfl, same_put hl0 s2, ?_⟩
      rw [upd_same, e1, List.map_append]
      show some (HO.lst _) = some (HO.lst _)
      rw [List.map_append]
      rfl
    | swap g c =>
      obtain ⟨pg, pc, h3, h4, h5⟩ := hb2
      have lgc : (ntsB (.swap g c)).length = g.length + c.length := by show (g.map Nt.cut ++ c.map Nt.put).length = _; rw [List.length_append, List.length_map, List.length_map]
      rw [e1, List.length_append, lgc] at l1
      have fg : ∀ z ∈ g, z.length ≤ 400 := fun z hz => hf (.cut z) (mem_nts bm (List.mem_append_left _ (List.mem_map.mpr ⟨z, hz, rfl⟩)))
      have fc : ∀ z ∈ c, z.length ≤ 400 := fun z hz => hf (.put z) (mem_nts bm (List.mem_append_right _ (List.mem_map.mpr ⟨z, hz, rfl⟩)))
      refine ⟨_, rfl, p, _, _, _, rfl, rfl, SqT.of h3, rfl, rfl, _, rfl, iteNo sk_ne ?_⟩
      -- the cuts
      refine ⟨_, rfl, .inl ⟨rfl, _, SqL.of h2⟩, ?_⟩
      refine ⟨_, rfl, p, _, _, _, rfl, rfl, SqT.of h3, rfl, pg, rfl, ⟨_, SqL.of h4⟩, fun D hD => ?_⟩
      have t0 := same_new hD (.lst [])
      refine lc_list (K := K) (a := pg) (xs := g.map V.str) (fun j H3 => H3 D = some (txt (((g.take j).map Nt.cut).map Nt.text)) ∧ Same H2 H3) ⟨upd_same, t0⟩ (fun j H3 _ ⟨_, s3⟩ => SqL.of (s3 _ _ h4)) ?_ ?_
      · rintro j y H3 hj ⟨q1, q2⟩
        obtain ⟨z, hz, rfl⟩ := map_get hj
        have hjl : j < g.length := (List.getElem?_eq_some_iff.mp hz).1
        have zl := fg z (List.mem_of_getElem? hz)
        refine noif ?_
        refine ⟨_, rfl, "-", z, rfl, rfl, ?_, _, q1, by rw [List.length_map, List.length_map, List.length_map, List.length_take]; exact small' (by omega), ?_, same_put hD q2⟩
        · have : ("-" : Str).length = 1 := by decide +kernel
          exact small (by omega)
        rw [upd_same, take_add_one' hz, List.map_append, List.map_append]
        show some (HO.lst _) = some (HO.lst _)
        rw [List.map_append]
        rfl
      rintro H3 ⟨q1, q2⟩
      rw [List.length_map, List.take_length] at q1
      refine ⟨l, D, _, _, rfl, rfl, q2 _ _ h2, q1, by simp only [List.length_map]; exact small (by omega), ?_⟩
      have lD : l ≠ D := ne_of_none h2 hD
      have h2' : upd H3 l (.lst (((nts (bs.take i)).map Nt.text).map V.str ++ ((g.map Nt.cut).map Nt.text).map V.str)) l = some (txt ((nts (bs.take i) ++ g.map Nt.cut).map Nt.text)) := by
        rw [upd_same, List.map_append]
        show some (HO.lst _) = some (HO.lst _)
        rw [List.map_append]
      have k2 : ∀ {q : Addr} {o : HO}, H2 q = some o → (∀ ys, o ≠ .lst ys) ∨ q ≠ l → upd H3 l (.lst (((nts (bs.take i)).map Nt.text).map V.str ++ ((g.map Nt.cut).map Nt.text).map V.str)) q = some o := fun {q o} hq hh => by
        rw [upd_ne]
        · exact q2 _ _ hq
        · rcases hh with hh | hh
          · intro e; subst e; rw [h2] at hq; exact hh _ (Option.some.inj hq).symm
          · exact hh
      have s3 : Same H (upd H3 l (.lst (((nts (bs.take i)).map Nt.text).map V.str ++ ((g.map Nt.cut).map Nt.text).map V.str))) := same_put hl0 (s2.trans q2)
      have h3' := k2 h3 (.inl fun ys z => by cases z)
      have hpc : H pc = some (txt c) := by
        have hb0 : BlkAt H p (.swap g c) := hbp
        obtain ⟨pg', pc', g1, g2, g3⟩ := hb0
        have e := s2 _ _ g1
        rw [h3] at e
        injection e with e
        injection e with e
        injection e with e0 e
        injection e with e2 e3
        injection e3 with e4 e5
        injection e4 with e4
        rw [e4]
        exact g3
      have h5' := s3 _ _ hpc
      generalize hH4 : upd H3 l (.lst (((nts (bs.take i)).map Nt.text).map V.str ++ ((g.map Nt.cut).map Nt.text).map V.str)) = H4 at h2' h3' h5' s3
      -- the puts
      refine ⟨_, rfl, .inl ⟨rfl, _, SqL.of h2'⟩, ?_⟩
      refine ⟨_, rfl, p, _, _, _, rfl, rfl, SqT.of h3', rfl, pc, rfl, ⟨_, SqL.of h5'⟩, fun D2 hD2 => ?_⟩
      have t2 := same_new hD2 (.lst [])
      refine lc_list (K := K) (a := pc) (xs := c.map V.str) (fun j H5 => H5 D2 = some (txt (((c.take j).map Nt.put).map Nt.text)) ∧ Same H4 H5) ⟨upd_same, t2⟩ (fun j H5 _ ⟨_, s5⟩ => SqL.of (s5 _ _ h5')) ?_ ?_
      · rintro j y H5 hj ⟨q3, q4⟩
        obtain ⟨z, hz, rfl⟩ := map_get hj
        have hjl : j < c.length := (List.getElem?_eq_some_iff.mp hz).1
        have zl := fc z (List.mem_of_getElem? hz)
        refine noif ?_
        refine ⟨_, rfl, "+", z, rfl, rfl, ?_, _, q3, by rw [List.length_map, List.length_map, List.length_map, List.length_take]; exact small' (by omega), ?_, same_put hD2 q4⟩
        · have : ("+" : Str).length = 1 := by decide +kernel
          exact small (by omega)
        rw [upd_same, take_add_one' hz, List.map_append, List.map_append]
        show some (HO.lst _) = some (HO.lst _)
        rw [List.map_append]
        rfl
      rintro H5 ⟨q3, q4⟩
      rw [List.length_map, List.take_length] at q3
      refine ⟨l, D2, _, _, rfl, rfl, q4 _ _ h2', q3, by simp only [List.length_map, List.length_append]; exact small (by omega), _, rfl, same_put hl0 (s3.trans q4), ?_⟩
      rw [upd_same, e1]
      show some (HO.lst _) = some (HO.lst _)
      show _ = some (HO.lst (((nts (bs.take i) ++ (g.map Nt.cut ++ c.map Nt.put)).map Nt.text).map V.str))
      rw [← List.append_assoc, List.map_append (l₁ := nts (bs.take i) ++ g.map Nt.cut), List.map_append (l₁ := (nts (bs.take i) ++ g.map Nt.cut).map Nt.text)]
  · rintro σ H2 ⟨v, rfl, s2, h2⟩
    have e : bs.take (ps.map V.ref).length = bs := by rw [List.length_map, pl]; exact List.take_length
    rw [e] at h2
    exact ⟨_, rfl, k l H2 s2 h2⟩
end
end Rm

set_option Elab.async false
set_option linter.all false
set_option maxRecDepth 100000
set_option maxHeartbeats 4000000
namespace Rm
open PySem L2 My
/-! ### what a note begins with -/
def bg (x : Str) : Str := match x.cps.toList with
  | [] => ""
  | c :: r => if c = 61 then (if isNumL r = true then "=" else "") else one c
theorem bg_nil : bg "" = "" := by
  unfold bg
  rw [show ("" : Str).cps.toList = [] from by decide +kernel]
theorem bg_cons (c : Nat) (y : Str) : bg (one c ++ y) = if c = 61 then (if isNumB y = true then ("=" : Str) else ("" : Str)) else one c := by
  unfold bg
  rw [one_list]
  rfl
def bgL (x : Str) : List Nat := (bg x).cps.toList
def sgL (xs : List Str) : List Nat := xs.flatMap bgL
theorem nil_list : ("" : Str).cps.toList = [] := by decide +kernel
theorem eq_list : ("=" : Str).cps.toList = [61] := by decide +kernel
theorem bgL_le (x : Str) : (bgL x).length ≤ 1 := by
  unfold bgL
  rcases str_split x with rfl | ⟨c, y, rfl⟩
  · rw [bg_nil, nil_list]; exact Nat.zero_le _
  · rw [bg_cons]
    split
    · split
      · rw [eq_list]; exact Nat.le_refl _
      · rw [nil_list]; exact Nat.zero_le _
    · exact Nat.le_refl _
theorem sgL_le : ∀ xs : List Str, (sgL xs).length ≤ xs.length
  | [] => Nat.le_refl _
  | x :: r => by
    have h1 := bgL_le x
    have h2 := sgL_le r
    show (bgL x ++ sgL r).length ≤ r.length + 1
    rw [List.length_append]; omega
def sgns : Str := "=-+"
def inSgn (c : Nat) : Bool := !(Builtin.Str.occurrences sgns ⟨#[c]⟩ 0 sgns.length 1).isEmpty
theorem inSgn_iff (c : Nat) : inSgn c = true ↔ c = 61 ∨ c = 45 ∨ c = 43 := by
  unfold inSgn
  rw [PySem.StrLaws.found_one sgns c]
  have e : sgns.cps.toList = [61, 45, 43] := by decide +kernel
  rw [e, decide_eq_true_eq]
  simp only [List.mem_cons, List.not_mem_nil, or_false]
theorem bgL_none {x : Str} (h : cls x = none) (hl : (bgL x).length = 1) : ∃ c, bgL x = [c] ∧ inSgn c = false := by
  unfold bgL at *
  rcases str_split x with rfl | ⟨c, y, rfl⟩
  · rw [bg_nil, nil_list] at hl; cases hl
  · rw [bg_cons] at hl ⊢
    rw [cls_cons] at h
    by_cases h1 : c = 61
    · rw [if_pos h1] at hl
      rw [if_neg (by omega), if_neg (by omega), decide_eq_true h1, Bool.true_and] at h
      cases hn : isNumB y with
      | false => rw [hn, if_neg Bool.false_ne_true, nil_list] at hl; cases hl
      | true => rw [hn, if_pos rfl] at h; cases h
    · rw [if_neg h1]
      refine ⟨c, rfl, ?_⟩
      cases hs : inSgn c with
      | false => rfl
      | true =>
        rcases (inSgn_iff c).mp hs with z | z | z
        · exact absurd z h1
        · rw [if_pos z] at h; cases h
        · rw [if_neg (by omega), if_pos z] at h; cases h
theorem sg_none : ∀ {xs : List Str}, clsAll xs = none → (sgL xs).length = xs.length → ∃ c ∈ sgL xs, inSgn c = false
  | [], h, _ => by cases h
  | x :: r, h, hl => by
    have l1 := bgL_le x
    have l2 := sgL_le r
    have e : sgL (x :: r) = bgL x ++ sgL r := rfl
    rw [e, List.length_append, List.length_cons] at hl
    cases h1 : cls x with
    | none =>
      obtain ⟨c, c1, c2⟩ := bgL_none h1 (by omega)
      exact ⟨c, by rw [e, c1]; exact List.mem_cons_self .., c2⟩
    | some a =>
      cases h2 : clsAll r with
      | none =>
        obtain ⟨c, c1, c2⟩ := sg_none h2 (by omega)
        exact ⟨c, by rw [e]; exact List.mem_append_right _ c1, c2⟩
      | some b =>
        have h' : (match cls x, clsAll r with | some a, some b => some (a :: b) | _, _ => none) = none := h
        rw [h1, h2] at h'; cases h'
def hdC (x : Str) : Nat := x.cps.toList.headD 0
theorem bgL_some {x : Str} {n : Nt} (h : cls x = some n) : bgL x = [hdC x] ∧ inSgn (hdC x) = true ∧ ∃ c y, x = one c ++ y ∧ hdC x = c := by
  rcases str_split x with rfl | ⟨c, y, rfl⟩
  · rw [cls_nil] at h; cases h
  · have e : hdC (one c ++ y) = c := by unfold hdC; rw [one_list]; rfl
    rw [e]
    rw [cls_cons] at h
    refine ⟨?_, ?_, c, y, rfl, rfl⟩
    · unfold bgL
      rw [bg_cons]
      by_cases h1 : c = 61
      · rw [if_pos h1]
        rw [if_neg (by omega), if_neg (by omega), decide_eq_true h1, Bool.true_and] at h
        cases hn : isNumB y with
        | false => rw [hn, if_neg Bool.false_ne_true] at h; cases h
        | true => rw [if_pos rfl, eq_list, h1]
      · rw [if_neg h1]; rfl
    · refine (inSgn_iff c).mpr ?_
      by_cases h1 : c = 45
      · exact .inr (.inl h1)
      · rw [if_neg h1] at h
        by_cases h2 : c = 43
        · exact .inr (.inr h2)
        · rw [if_neg h2] at h
          by_cases h3 : c = 61
          · exact .inl h3
          · rw [decide_eq_false h3, Bool.false_and, if_neg Bool.false_ne_true] at h; cases h
theorem sg_some : ∀ {xs : List Str} {ns : List Nt}, clsAll xs = some ns → sgL xs = xs.map hdC ∧ ∀ c ∈ sgL xs, inSgn c = true
  | [], ns, h => ⟨rfl, fun c hc => nomatch hc⟩
  | x :: r, ns, h => by
    have h' : (match cls x, clsAll r with | some a, some b => some (a :: b) | _, _ => none) = some ns := h
    cases h1 : cls x with
    | none => rw [h1] at h'; cases h'
    | some a =>
      cases h2 : clsAll r with
      | none => rw [h1, h2] at h'; cases h'
      | some b =>
        obtain ⟨i1, i2⟩ := sg_some h2
        obtain ⟨b1, b2, _⟩ := bgL_some h1
        have e : sgL (x :: r) = bgL x ++ sgL r := rfl
        rw [e, b1, i1]
        refine ⟨rfl, fun c hc => ?_⟩
        rcases List.mem_cons.mp hc with z | z
        · rw [z]; exact b2
        · exact i2 c (by rw [i1]; exact z)
/-- a behind which straight b -/
def adj2 (a b : Nat) : List Nat → Bool
  | x :: y :: r => (decide (x = a) && decide (y = b)) || adj2 a b (y :: r)
  | _ => false
theorem bad_adj : ∀ {xs : List Str} {ns : List Nt}, clsAll xs = some ns → badP xs = (adj2 61 61 (xs.map hdC) || adj2 43 45 (xs.map hdC))
  | [], ns, _ => rfl
  | [x], ns, _ => rfl
  | x :: y :: r, ns, h => by
    have h' : (match cls x, clsAll (y :: r) with | some a, some b => some (a :: b) | _, _ => none) = some ns := h
    cases h1 : cls x with
    | none => rw [h1] at h'; cases h'
    | some a =>
      cases h2 : clsAll (y :: r) with
      | none => rw [h1, h2] at h'; cases h'
      | some b =>
        have ih := bad_adj h2
        obtain ⟨m, _, m2⟩ := (clsAll_at h2).2 0 y rfl
        obtain ⟨_, _, c, u, rfl, ec⟩ := bgL_some h1
        obtain ⟨_, _, d, v, rfl, ed⟩ := bgL_some m2
        show (badPair (one c ++ u) (one d ++ v) || badP ((one d ++ v) :: r)) = (((decide (hdC (one c ++ u) = 61) && decide (hdC (one d ++ v) = 61)) || adj2 61 61 (((one d ++ v) :: r).map hdC)) || ((decide (hdC (one c ++ u) = 43) && decide (hdC (one d ++ v) = 45)) || adj2 43 45 (((one d ++ v) :: r).map hdC)))
        rw [ih, ec, ed]
        unfold badPair
        rw [e_eq, e_put, e_cut, sw_cons, sw_cons, sw_cons, sw_cons]
        generalize adj2 61 61 (((one d ++ v) :: r).map hdC) = p1
        generalize adj2 43 45 (((one d ++ v) :: r).map hdC) = p2
        generalize (decide (c = 61) && decide (d = 61)) = p3
        generalize (decide (c = 43) && decide (d = 45)) = p4
        cases p1 <;> cases p2 <;> cases p3 <;> cases p4 <;> rfl
theorem adj2_iff (a b : Nat) : ∀ l : List Nat, adj2 a b l = true ↔ ∃ i, (l.drop i).take 2 = [a, b]
  | [] => by
    refine ⟨fun h => (by cases h), fun ⟨i, h⟩ => ?_⟩
    simp at h
  | [x] => by
    refine ⟨fun h => (by cases h), fun ⟨i, h⟩ => ?_⟩
    cases i with
    | zero => simp at h
    | succ i => simp at h
  | x :: y :: r => by
    have ih := adj2_iff a b (y :: r)
    show ((decide (x = a) && decide (y = b)) || adj2 a b (y :: r)) = true ↔ _
    rw [Bool.or_eq_true, Bool.and_eq_true, decide_eq_true_eq, decide_eq_true_eq, ih]
    constructor
    · rintro (⟨rfl, rfl⟩ | ⟨i, h⟩)
      · exact ⟨0, rfl⟩
      · exact ⟨i + 1, by simpa using h⟩
    · rintro ⟨i, h⟩
      cases i with
      | zero =>
        simp at h
        exact .inl h
      | succ i => exact .inr ⟨i, by simpa using h⟩
theorem found2 (s : Str) (a b : Nat) : (!(Builtin.Str.occurrences s ⟨#[a, b]⟩ 0 s.length 1).isEmpty) = adj2 a b s.cps.toList := by
  rw [Bool.eq_iff_iff, PySem.StrLaws.found_iff, adj2_iff]
  have e2 : (⟨#[a, b]⟩ : Str).cps.toList = [a, b] := rfl
  have el : s.cps.toList.length = s.length := Array.length_toList
  constructor
  · rintro ⟨i, h1, h2⟩
    rw [PySem.StrLaws.subAt_eq] at h2
    have h3 : ((s.cps.toList.drop i).take 2 == [a, b]) = true := h2
    exact ⟨i, by simpa using h3⟩
  · rintro ⟨i, h⟩
    have hl := congrArg List.length h
    rw [List.length_take, List.length_drop, el] at hl
    have h2 : ([a, b] : List Nat).length = 2 := rfl
    refine ⟨i, ?_, ?_⟩
    · show i + 2 ≤ s.length
      omega
    · rw [PySem.StrLaws.subAt_eq]
      show ((s.cps.toList.drop i).take 2 == [a, b]) = true
      rw [h]
      simp
theorem join_list : ∀ l : List Str, (Txt.join "" l).cps.toList = l.flatMap fun s => s.cps.toList := by
  intro l
  show (Builtin.Str.glued "" l).cps.toList = _
  rw [PySem.StrLaws.glued_eq_join]
  induction l with
  | nil => rfl
  | cons x r ih =>
    cases r with
    | nil => show x.cps.toList = x.cps.toList ++ []; rw [List.append_nil]
    | cons y r =>
      show (x ++ "" ++ Str.join "" (y :: r)).cps.toList = x.cps.toList ++ _
      rw [app_toList, app_toList, nil_list, List.append_nil, ih]
      rfl
def goodB (xs : List Str) : Bool := !badP xs && (clsAll xs).isSome
section
variable {P : Program} {w : World} {K : PySem.W.Frag} {mg : Str → Option Value} {base : Heap}
/-! ### _law_begun -/
def spBegun : Sp := fun vs H Q _ => ∃ x : Str, vs = [.str x] ∧ x.length ≤ 400 ∧ Q (.str (bg x)) H
theorem sc_begun : FnScope ["_law_note", "_law_figures", "_law_sign"] ["_law_note"] (defScope s_begun) := ⟨rfl, rfl, rfl, by decide +kernel, rfl, by decide +kernel, by decide +kernel⟩
theorem ok_begun {f : Addr} {fd : FuncData} (F : Fun K "_law_begun" "_law_begun" s_begun f fd) : FnOk P w K mg base CX0 1 f fd ["_law_note"] spBegun := by
  refine F.ok sc_begun (fun vs H Q E h => ?_) (fun cdv A outer s H vs Q E hr h => ?_)
  · obtain ⟨x, rfl, _⟩ := h
    rfl
  obtain ⟨x, rfl, lx, k⟩ := h
  refine ⟨_, pss_cons (ps_if (pt_cmpR op_eq (pv 0) pe_str (nomark _)) (pss_one (ps_ret pe_str)) pss_nil)
    (pss_cons (ps_if (pt_cmpR op_ne (pe_ix ix_str (pv 0) pe_int (fun _ _ => rfl)) pe_str (nomark _)) (pss_one (ps_ret (pe_ix ix_str (pv 0) pe_int (fun _ _ => rfl)))) pss_nil)
    (pss_cons (ps_set (i := 1) sc_begun.nd rfl (Or.inl rfl) (pe_slice sl_str (pv 0) (po_some pe_int) po_none))
    (pss_cons (ps_for PassesOwn.never rfl (pi_str (pv 1)) (pg_name (i := 2) sc_begun.nd rfl (Or.inl rfl))
      (pss_one (ps_if (pt_cmpR op_notin_str (pv 2) pe_str rfl) (pss_one (ps_ret pe_str)) pss_nil)))
    (pss_cons (ps_if (PW.pt (pw_or (pt_cmpR op_eq (pv 1) pe_str (nomark _)) (pw_or1 (pt_cmpR op_eq (pe_ix ix_str (pv 1) pe_int (fun _ _ => rfl)) pe_str (nomark _))))) (pss_one (ps_ret pe_str)) pss_nil)
    (pss_one (ps_ret pe_str)))))), ?_⟩
  rcases str_split x with rfl | ⟨c, y, rfl⟩
  · refine ⟨_, rfl, rfl, _, rfl, iteYes rfl ?_⟩
    rw [bg_nil] at k
    exact k
  have at0 : atI (one c ++ y).cps.toList 0 = some c := by rw [one_list]; exact atI_get (j := 0) rfl rfl
  have tl : Txt.slice (one c ++ y) (some 1) none = y := slice_tail (d := one c) rfl
  have ly : y.length ≤ 400 := by
    rw [PySem.Str.length_append] at lx
    omega
  rw [bg_cons] at k
  refine ⟨_, rfl, rfl, _, rfl, iteNo (fun z => one_ne c y (V.str.inj z)) ?_⟩
  refine ⟨_, rfl, _, _, _, rfl, rfl, small (by omega), at0, rfl, _, rfl, ?_⟩
  by_cases hc : c = 61
  · rw [if_pos hc] at k
    refine iteNNo (by show V.str (one c) = V.str "="; rw [hc, e_eq]) ?_
    refine ⟨_, rfl, _, rfl, _, rfl, small (by omega), ?_⟩
    rw [tl]
    refine ⟨_, rfl, _, rfl, for_str (z := y) (fun i σ H2 => ∃ v : Option V, σ = [some (.str (one c ++ y)), some (.str y), v] ∧ H2 = H ∧ (y.cps.toList.take i).all inFig = true) ⟨_, rfl, rfl, rfl⟩ ?_ ?_⟩
    · rintro i d σ H2 hd ⟨v, rfl, rfl, ha⟩
      have hd' : y.cps.toList[i]? = some d := by rw [Array.getElem?_toList]; exact hd
      refine ⟨_, rfl, _, _, rfl, rfl, _, rfl, ?_⟩
      show (if (!(inFig d)) = true then _ else _)
      cases hf : inFig d with
      | true =>
        refine iteNT ⟨_, rfl, rfl, ?_⟩
        rw [take_add_one' hd', List.all_append, ha]
        show (true && (inFig d && true)) = true
        rw [hf]; rfl
      | false =>
        refine iteNF ?_
        have hn : isNumB y = false := by
          unfold isNumB
          cases e : y.cps.toList with
          | nil => rfl
          | cons c' r' =>
            show (decide (c' ≠ 48) && (c' :: r').all inFig) = false
            have : (c' :: r').all inFig = false := by
              cases q : (c' :: r').all inFig with
              | false => rfl
              | true =>
                have := List.all_eq_true.mp q d (by rw [← e]; exact List.mem_of_getElem? hd')
                rw [hf] at this; cases this
            rw [this, Bool.and_false]
        rw [hn, if_neg Bool.false_ne_true] at k
        exact k
    · rintro σ H2 ⟨v, rfl, rfl, ha⟩
      rw [show y.cps.size = y.cps.toList.length from Array.length_toList.symm, List.take_length] at ha
      rcases str_split y with rfl | ⟨d, z, rfl⟩
      · refine ⟨_, rfl, rfl, _, rfl, iteYes rfl (iteT ?_)⟩
        rw [show isNumB "" = false from by decide +kernel, if_neg Bool.false_ne_true] at k
        exact k
      · have at1 : atI (one d ++ z).cps.toList 0 = some d := by rw [one_list]; exact atI_get (j := 0) rfl rfl
        have en : isNumB (one d ++ z) = decide (d ≠ 48) := by
          unfold isNumB
          rw [one_list] at ha ⊢
          show (decide (d ≠ 48) && (d :: z.cps.toList).all inFig) = _
          rw [ha, Bool.and_true]
        refine ⟨_, rfl, rfl, _, rfl, iteNo (fun q => one_ne d z (V.str.inj q)) ⟨_, rfl, _, _, _, rfl, rfl, small (by omega), at1, rfl, _, rfl, ite2d (fun q => ?_) (fun q => ?_)⟩⟩
        · have e48 : ("0" : Str) = one 48 := by decide +kernel
          have hd : d = 48 := one_inj ((V.str.inj q).trans e48)
          rw [en, decide_eq_false (by simpa using hd), if_neg Bool.false_ne_true] at k
          exact k
        · have hd : d ≠ 48 := fun h => q (by
            show V.str (one d) = V.str "0"
            rw [h]
            congr 1)
          rw [en, decide_eq_true (by simpa using hd), if_pos rfl] at k
          exact k
  · rw [if_neg hc] at k
    refine iteNYes (fun z => hc (one_inj ((V.str.inj z).trans e_eq))) ?_
    exact ⟨_, rfl, _, _, _, rfl, rfl, small (by omega), at0, k⟩
/-! ### _law_good -/
def spGood : Sp := fun vs H Q _ => ∃ (a : Addr) (xs : List Str), vs = [.ref a] ∧ H a = some (txt xs) ∧ xs.length ≤ 1000 ∧ (∀ x ∈ xs, x.length ≤ 400) ∧ ∀ H' : Hp, Same H H' → Q (.bl (goodB xs)) H'
theorem sc_good : FnScope ["_law_notes", "_law_signs", "_law_sign"] ["_law_notes"] (defScope s_good) := ⟨rfl, rfl, rfl, by decide +kernel, rfl, by decide +kernel, by decide +kernel⟩
theorem bg_len (x : Str) : (bg x).length ≤ 1 := by
  have := bgL_le x
  unfold bgL at this
  rw [Array.length_toList] at this
  exact this
theorem join_ok (l : List Str) (h : ∀ x ∈ l, x.length ≤ 1) (hl : l.length ≤ 1000) : JoinOk "" l = true := by
  have e0 : ("" : Str).length = 0 := by decide +kernel
  have : ∀ (l : List Str) (n : Nat), (∀ x ∈ l, x.length ≤ 1) → l.foldl (fun a b => a + b.length + ("" : Str).length) n ≤ n + l.length := by
    intro l
    induction l with
    | nil => intro n _; exact Nat.le_refl _
    | cons x r ih =>
      intro n hx
      have h1 := hx x (List.mem_cons_self ..)
      have h2 := ih (n + x.length + ("" : Str).length) fun y hy => hx y (List.mem_cons_of_mem _ hy)
      show r.foldl _ (n + x.length + ("" : Str).length) ≤ n + (r.length + 1)
      omega
  have h1 := this l 0 h
  unfold JoinOk
  rw [List.foldl_toArray]
  unfold Builtin.Str.tooLong
  rw [Bool.not_eq_true', decide_eq_false_iff_not]
  have : (1000 : Nat) ≤ sizeLine := by decide
  omega
theorem ok_good {f fB : Addr} {fd dB : FuncData} (F : Fun K "_law_good" "_law_good" s_good f fd)
    (GB : FnOk P w K mg base CX0 1 fB dB ["_law_note"] spBegun) (kB : PySem.W.keepIn K (.ref fB) = true) (bB : Binds K dB ["_law_note"] []) (mB : mg "_law_begun" = some (.ref fB)) (B : Bn mg) : FnOk P w K mg base CX0 2 f fd ["_law_notes"] spGood := by
  refine F.ok sc_good (fun vs H Q E h => ?_) (fun cdv A outer s H vs Q E hr h => ?_)
  · obtain ⟨a, xs, rfl, _⟩ := h
    rfl
  obtain ⟨a, xs, rfl, ha, lx, hlen, k⟩ := h
  refine ⟨_, pss_cons (ps_set (i := 1) sc_good.nd rfl (Or.inl rfl) (pe_bm PySem.F.plainAttrs_str PySem.F.slot_str_join PySem.F.type_str_join mt_join pe_str (pa_cons (pe_lc rfl (lc_plain (x := "_law_note") (by decide +kernel) (by decide +kernel) rfl (by decide +kernel) rfl) (pi_list (pv 0))
      (fun _ _ _ _ _ => pf_nil) (fun _ _ _ _ _ => pe_call GB hr rfl mB kB bB .nil pass0 (pa_cons (pv 0) pa_nil))) pa_nil)))
    (pss_cons (ps_if (pt_cmpR op_ne (pe_callB call_len_str rfl B.len PySem.boot_len (pa_cons (pv 1) pa_nil)) (pe_callB call_len_seq rfl B.len PySem.boot_len (pa_cons (pv 0) pa_nil)) (nomark _)) (pss_one (ps_ret pe_bl)) pss_nil)
    (pss_cons (ps_for PassesOwn.never rfl (pi_str (pv 1)) (pg_name (i := 2) sc_good.nd rfl (Or.inl rfl))
      (pss_one (ps_if (pt_cmpR op_notin_str (pv 2) pe_str rfl) (pss_one (ps_ret pe_bl)) pss_nil)))
    (pss_one (ps_ret (pe_and (pe_cmpR op_notin_str pe_str (pv 1) rfl) (pe_one (pe_cmpR op_notin_str pe_str (pv 1) rfl))))))), ?_⟩
  have hlx : (xs.map V.str).length = xs.length := List.length_map _
  refine ⟨rfl, ?_⟩
  refine ⟨_, rfl, a, rfl, ⟨_, SqL.of ha⟩, fun D hD => ?_⟩
  have s0 := same_new hD (.lst [])
  refine lc_list (K := K) (a := a) (xs := xs.map V.str) (fun i H2 => H2 D = some (txt ((xs.take i).map bg)) ∧ Same H H2) ⟨upd_same, s0⟩ (fun i H2 _ ⟨_, s2⟩ => SqL.of (s2 _ _ ha)) ?_ ?_
  · rintro i y H2 hi ⟨h1, s2⟩
    obtain ⟨x, hxi, rfl⟩ := map_get hi
    have hil : i < xs.length := (List.getElem?_eq_some_iff.mp hxi).1
    refine noif ?_
    refine ⟨_, rfl, x, rfl, hlen x (List.mem_of_getElem? hxi), _, h1, by rw [List.length_map, List.length_map, List.length_take]; exact small' (by omega), ?_, same_put hD s2⟩
    rw [upd_same, take_add_one' hxi, List.map_append]
    show some (HO.lst _) = some (HO.lst _)
    rw [List.map_append]
    rfl
  rintro H2 ⟨h1, s2⟩
  rw [hlx, List.take_length] at h1
  refine ⟨"", D, xs.map bg, rfl, rfl, SqL.of h1, join_ok _ (fun x hx => by
    obtain ⟨y, _, rfl⟩ := List.mem_map.mp hx
    exact bg_len y) (by rw [List.length_map]; exact lx), ?_⟩
  have eS : (Txt.join "" (xs.map bg)).cps.toList = sgL xs := by
    rw [join_list]
    unfold sgL
    rw [List.flatMap_map]
    rfl
  generalize Txt.join "" (xs.map bg) = S at eS
  have lS : S.length = (sgL xs).length := by rw [← eS, Array.length_toList]; rfl
  have lS2 := sgL_le xs
  refine ⟨_, rfl, S, rfl, small (by omega), _, rfl, a, _, rfl, .inl (SqL.of (s2 _ _ ha)), rfl, _, rfl, ?_⟩
  have kk := k H2 s2
  by_cases hl : (sgL xs).length = xs.length
  · refine iteNNo (by rw [lS, hl, hlx]) ?_
    refine ⟨_, rfl, _, rfl, for_str (z := S) (fun i σ H3 => ∃ v : Option V, σ = [some (.ref a), some (.str S), v] ∧ H3 = H2 ∧ ∀ c ∈ S.cps.toList.take i, inSgn c = true) ⟨_, rfl, rfl, fun c hc => nomatch hc⟩ ?_ ?_⟩
    · rintro i d σ H3 hd ⟨v, rfl, rfl, hs⟩
      have hd' : S.cps.toList[i]? = some d := by rw [Array.getElem?_toList]; exact hd
      refine ⟨_, rfl, _, _, rfl, rfl, _, rfl, ?_⟩
      show (if (!(inSgn d)) = true then _ else _)
      cases hf : inSgn d with
      | true =>
        refine iteNT ⟨_, rfl, rfl, fun c hc => ?_⟩
        rw [take_add_one' hd'] at hc
        rcases List.mem_append.mp hc with z | z
        · exact hs c z
        · rw [List.mem_singleton.mp z]; exact hf
      | false =>
        refine iteNF ?_
        have : goodB xs = false := by
          unfold goodB
          cases e : clsAll xs with
          | none => exact Bool.and_false _
          | some ns =>
            have := (sg_some e).2 d (by rw [← eS]; exact List.mem_of_getElem? hd')
            rw [hf] at this; cases this
        rw [this] at kk
        exact kk
    · rintro σ H3 ⟨v, rfl, rfl, hs⟩
      rw [show S.cps.size = S.cps.toList.length from Array.length_toList.symm, List.take_length] at hs
      cases e : clsAll xs with
      | none =>
        obtain ⟨c, c1, c2⟩ := sg_none e hl
        have := hs c (by rw [eS]; exact c1)
        rw [c2] at this; cases this
      | some ns =>
        have e1 := (sg_some e).1
        have hb := bad_adj e
        rw [← e1, ← eS] at hb
        have q1 : ("==" : Str) = ⟨#[61, 61]⟩ := by decide +kernel
        have q2 : ("+-" : Str) = ⟨#[43, 45]⟩ := by decide +kernel
        have f1 := found2 S 61 61
        have f2 := found2 S 43 45
        rw [← q1] at f1
        rw [← q2] at f2
        unfold goodB at kk
        rw [e, hb] at kk
        refine ⟨_, rfl, _, _, rfl, rfl, _, rfl, ?_⟩
        rw [f1]
        cases p1 : adj2 61 61 S.cps.toList with
        | true =>
          rw [p1] at kk
          refine iteF ?_
          exact kk
        | false =>
          rw [p1] at kk
          refine iteT ⟨_, rfl, _, _, rfl, rfl, ?_⟩
          rw [f2]
          cases p2 : adj2 43 45 S.cps.toList with
          | true => rw [p2] at kk; exact kk
          | false => rw [p2] at kk; exact kk
  · refine iteNYes (fun z => hl (by
      have := V.int.inj z
      rw [hlx] at this
      omega)) ?_
    have : goodB xs = false := by
      unfold goodB
      cases e : clsAll xs with
      | none => exact Bool.and_false _
      | some ns =>
        exfalso
        have := congrArg List.length (sg_some e).1
        rw [List.length_map] at this
        exact hl this
    rw [this] at kk
    exact kk
end
end Rm

set_option Elab.async false
set_option linter.all false
set_option maxRecDepth 100000
set_option maxHeartbeats 4000000
namespace Rm
open PySem L2 My
/-- a change whose last block is a swap with lists of its own -/
structure Act (H0 H : Hp) (l : Addr) (qa : List Addr) (q pg pc : Addr) (ta : List (Blk Str)) (g c : List Str) : Prop where
  same : Same H0 H
  hl : H l = some (.lst ((qa ++ [q]).map V.ref))
  rest : BlksAt (wo H [l, pg, pc]) qa ta
  hq : H q = some (.tup [.str "swap", .ref pg, .ref pc])
  hg : H pg = some (txt g)
  hc : H pc = some (txt c)
  ng : H0 pg = none
  nc : H0 pc = none
  gl : pg ≠ l
  cl : pc ≠ l
  gc : pg ≠ pc
theorem Act.all {H0 H : Hp} {l : Addr} {qa : List Addr} {q pg pc : Addr} {ta : List (Blk Str)} {g c : List Str} (T : Act H0 H l qa q pg pc ta g c) : BlksAt (rm H l) (qa ++ [q]) (ta ++ [.swap g c]) := by
  have s : Same (wo H [l, pg, pc]) (rm H l) := fun b o h => by
    by_cases e : b = l
    · subst e; rw [wo_in (by simp)] at h; cases h
    · rw [rm_ne e]; exact wo_sub _ _ h
  refine paired_snoc (BlksAt.same s T.rest) ⟨pg, pc, ?_, ?_, ?_⟩
  · rw [rm_ne (ne_of T.hq T.hl (by intro z; cases z))]; exact T.hq
  · rw [rm_ne T.gl]; exact T.hg
  · rw [rm_ne T.cl]; exact T.hc
theorem Act.cut {H0 H : Hp} {l : Addr} {qa : List Addr} {q pg pc : Addr} {ta : List (Blk Str)} {g c : List Str} (T : Act H0 H l qa q pg pc ta g c) (z : Str) : Act H0 (upd H pg (.lst (g.map V.str ++ [.str z]))) l qa q pg pc ta (g ++ [z]) c := by
  refine ⟨same_put T.ng T.same, ?_, ?_, ?_, ?_, ?_, T.ng, T.nc, T.gl, T.cl, T.gc⟩
  · rw [upd_ne T.gl.symm]; exact T.hl
  · rw [wo_upd (by simp)]; exact T.rest
  · rw [upd_ne (ne_of T.hq T.hg (by intro z; cases z))]; exact T.hq
  · rw [upd_same]; show some (HO.lst _) = some (HO.lst _); rw [List.map_append]; rfl
  · rw [upd_ne T.gc.symm]; exact T.hc
theorem Act.put {H0 H : Hp} {l : Addr} {qa : List Addr} {q pg pc : Addr} {ta : List (Blk Str)} {g c : List Str} (T : Act H0 H l qa q pg pc ta g c) (z : Str) : Act H0 (upd H pc (.lst (c.map V.str ++ [.str z]))) l qa q pg pc ta g (c ++ [z]) := by
  refine ⟨same_put T.nc T.same, ?_, ?_, ?_, ?_, ?_, T.ng, T.nc, T.gl, T.cl, T.gc⟩
  · rw [upd_ne T.cl.symm]; exact T.hl
  · rw [wo_upd (by simp)]; exact T.rest
  · rw [upd_ne (ne_of T.hq T.hc (by intro z; cases z))]; exact T.hq
  · rw [upd_ne T.gc]; exact T.hg
  · rw [upd_same]; show some (HO.lst _) = some (HO.lst _); rw [List.map_append]; rfl
/-- the change so far: no swap at its end, or one that may still grow -/
def Tol (H0 H : Hp) (l : Addr) (T : List (Blk Str)) : Prop :=
  (∃ qs : List Addr, Same H0 H ∧ H l = some (.lst (qs.map V.ref)) ∧ BlksAt (rm H l) qs T ∧ ∀ b, T.getLast? = some b → b.isKeep = true) ∨
  ∃ (qa : List Addr) (q pg pc : Addr) (ta : List (Blk Str)) (g c : List Str), Act H0 H l qa q pg pc ta g c ∧ T = ta ++ [.swap g c]
theorem Tol.base {H0 H : Hp} {l : Addr} {T : List (Blk Str)} (h : Tol H0 H l T) : ∃ qs : List Addr, Same H0 H ∧ H l = some (.lst (qs.map V.ref)) ∧ BlksAt (rm H l) qs T := by
  rcases h with ⟨qs, a, b, c, _⟩ | ⟨qa, q, pg, pc, ta, g, c, A, rfl⟩
  · exact ⟨qs, a, b, c⟩
  · exact ⟨qa ++ [q], A.same, A.hl, A.all⟩
section
variable {P : Program} {w : World} {K : PySem.W.Frag} {mg : Str → Option Value} {base : Heap}
/-! ### _law_told_by -/
def spToldBy : Sp := fun vs H Q _ => ∃ (a : Addr) (xs : List Str) (ns : List Nt), vs = [.ref a] ∧ H a = some (txt xs) ∧ xs.length ≤ 1000 ∧ (∀ x ∈ xs, x.length ≤ 400) ∧ badP xs = false ∧ clsAll xs = some ns ∧
  ∀ (r : Addr) (H' : Hp), Same H H' → ChgAt H' r (tidy (ns.map Nt.part)) → Q (.ref r) H'
theorem sc_told_by : FnScope ["_law_notes", "_law_change", "_law_note"] ["_law_notes"] (defScope s_told_by) := ⟨rfl, rfl, rfl, by decide +kernel, rfl, by decide +kernel, by decide +kernel⟩
theorem occ_cut : Builtin.Str.occurrences "-+" (one 45) 0 ("-+" : Str).length 1 = [0] := by decide +kernel
theorem occ_put : Builtin.Str.occurrences "-+" (one 43) 0 ("-+" : Str).length 1 = [1] := by decide +kernel
theorem tidy_map_take {ns : List Nt} {i : Nat} {n : Nt} (h : ns[i]? = some n) : tidy ((ns.take (i + 1)).map Nt.part) = tidyStep (tidy ((ns.take i).map Nt.part)) n.part := by
  rw [take_add_one' h, List.map_append]
  exact tidy_snoc _ _
theorem ok_told_by {f : Addr} {fd : FuncData} (F : Fun K "_law_told_by" "_law_told_by" s_told_by f fd) (B : Bn mg) : FnOk P w K mg base CX0 1 f fd ["_law_notes"] spToldBy := by
  refine F.ok sc_told_by (fun vs H Q E h => ?_) (fun cdv A outer s H vs Q E hr h => ?_)
  · obtain ⟨a, xs, ns, rfl, _⟩ := h
    rfl
  obtain ⟨a, xs, ns, rfl, ha, lx, hlen, hbad, hcl, k⟩ := h
  have hu := hr.units0
  refine ⟨_, pss_cons (ps_set (i := 1) sc_told_by.nd rfl (Or.inl rfl) (pe_lst pa_nil))
    (pss_cons (ps_for PassesOwn.never rfl (pi_list (pv 0)) (pg_name (i := 2) sc_told_by.nd rfl (Or.inl rfl))
      (pss_one (ps_if (pt_cmpR op_eq (pe_ix ix_str (pv 2) pe_int (fun _ _ => rfl)) pe_str (nomark _))
        (pss_one (ps_expr (pe_bm PySem.F.plainAttrs_list PySem.F.slot_list_append PySem.F.type_list_append mt_append (pv 1) (pa_cons (pe_tup (pa_cons pe_str (pa_cons (pe_callTy call_int_text rfl B.int PyProof.Rows.boot_int (pa_cons (pe_slice sl_str (pv 2) (po_some pe_int) po_none) pa_nil)) pa_nil))) pa_nil))))
        (pss_cut (ps_if (PW.pt (pw_or (pt_cmpR (op_eqE hu) (pv 1) (pe_lst pa_nil) (nomark _)) (pw_or1 (pt_cmpR op_ne (pe_ix ix_tup (pe_ix ix_list (pv 1) (pe_un un_neg pe_int) (fun _ _ => rfl)) pe_int (fun _ _ => rfl)) pe_str (nomark _)))))
          (pss_one (ps_expr (pe_bm PySem.F.plainAttrs_list PySem.F.slot_list_append PySem.F.type_list_append mt_append (pv 1) (pa_cons (pe_tup (pa_cons pe_str (pa_cons (pe_lst pa_nil) (pa_cons (pe_lst pa_nil) pa_nil)))) pa_nil)))) pss_nil)
        (pss_one (ps_expr (pe_bm PySem.F.plainAttrs_list PySem.F.slot_list_append PySem.F.type_list_append mt_append
          (pe_ix ix_tup (pe_ix ix_list (pv 1) (pe_un un_neg pe_int) (fun _ _ => rfl)) (pe_op op_add (pe_bm PySem.F.plainAttrs_str PySem.F.slot_str_index PySem.F.type_str_index mt_index pe_str (pa_cons (pe_ix ix_str (pv 2) pe_int (fun _ _ => rfl)) pa_nil)) pe_int) (fun _ _ => rfl))
          (pa_cons (pe_slice sl_str (pv 2) (po_some pe_int) po_none) pa_nil))))))))
    (pss_one (ps_ret (pv 1)))), ?_⟩
  have hlx : (xs.map V.str).length = xs.length := List.length_map _
  obtain ⟨nl, nat⟩ := clsAll_at hcl
  have chain := cls_chain hcl hlen hbad
  refine ⟨(by show 0 ≤ sizeLine; decide), fun l hl0 => ?_⟩
  have s0 := same_new hl0 (.lst [])
  refine ⟨_, rfl, a, rfl, ⟨_, SqL.of (s0 _ _ ha)⟩, for_list (K := K) (a := a) (xs := xs.map V.str)
    (fun i σ H2 => ∃ v : Option V, σ = [some (.ref a), some (.ref l), v] ∧ Tol H H2 l (tidy ((ns.take i).map Nt.part)) ∧ ∀ b, (tidy ((ns.take i).map Nt.part)).getLast? = some b → ∃ (j : Nat) (n : Nt), i = j + 1 ∧ ns[j]? = some n ∧ n.isEq = b.isKeep)
    ⟨none, rfl, .inl ⟨[], s0, upd_same, .nil, fun b h => by cases h⟩, fun b h => by cases h⟩ (fun i σ H2 _ ⟨_, _, T, _⟩ => by
      obtain ⟨_, s2, _⟩ := T.base
      exact SqL.of (s2 _ _ ha)) ?_ ?_⟩
  · rintro i y σ H2 hi ⟨v, rfl, T, hk⟩
    obtain ⟨x, hxi, rfl⟩ := map_get hi
    have hil : i < xs.length := (List.getElem?_eq_some_iff.mp hxi).1
    obtain ⟨nt, hnt, hcx⟩ := nat i x hxi
    have xl := hlen x (List.mem_of_getElem? hxi)
    have et := tidy_map_take hnt
    have tl : (tidy ((ns.take i).map Nt.part)).length ≤ i := by
      have := tidy_len_le ((ns.take i).map Nt.part) []
      rw [List.length_map, List.length_take] at this
      simp only [List.length_nil] at this
      unfold tidy
      omega
    have so : (sOf (tidy ((ns.take i).map Nt.part))).length ≤ i ∧ (sNf (tidy ((ns.take i).map Nt.part))).length ≤ i := by
      have h1 := part_sw (ns.take i)
      rw [List.length_take] at h1
      rw [tidy_sO, tidy_sN]
      omega
    rw [et]
    generalize tidy ((ns.take i).map Nt.part) = T0 at T hk et tl so
    -- the last block is of the kind of the note ahead
    have hlast : nt.isEq = true → ∀ b, T0.getLast? = some b → b.isKeep = false := fun he b hb => by
      obtain ⟨j, n, rfl, hn, hkn⟩ := hk b hb
      have := (chain j n nt hn hnt).1
      rw [he, Bool.and_true] at this
      rw [← hkn]; exact this
    rcases str_split x with rfl | ⟨c, y, rfl⟩
    · rw [cls_nil] at hcx; cases hcx
    have at0 : atI (one c ++ y).cps.toList 0 = some c := by rw [one_list]; exact atI_get (j := 0) rfl rfl
    have tls : Txt.slice (one c ++ y) (some 1) none = y := slice_tail (d := one c) rfl
    have ly : y.length ≤ 400 := by
      rw [PySem.Str.length_append] at xl
      omega
    rw [cls_cons] at hcx
    generalize hX : one c ++ y = X at at0 tls xl
    have done : ∀ (b : Blk Str), b.isKeep = nt.isEq → ∀ b', (T0 ++ [b]).getLast? = some b' → ∃ (j : Nat) (n : Nt), i + 1 = j + 1 ∧ ns[j]? = some n ∧ n.isEq = b'.isKeep := fun b hb b' h => by
      have e : (T0 ++ [b]).getLast? = some b := by simp
      rw [e] at h
      cases h
      exact ⟨i, nt, rfl, hnt, hb.symm⟩
    have done2 : ∀ (t : List (Blk Str)) (b : Blk Str), b.isKeep = nt.isEq → ∀ b', (t ++ [b]).getLast? = some b' → ∃ (j : Nat) (n : Nt), i + 1 = j + 1 ∧ ns[j]? = some n ∧ n.isEq = b'.isKeep := fun t b hb b' h => by
      have e : (t ++ [b]).getLast? = some b := by simp
      rw [e] at h
      cases h
      exact ⟨i, nt, rfl, hnt, hb.symm⟩
    obtain ⟨qs0, sm0, hl2, hbl⟩ := T.base
    have qll : qs0.length = T0.length := hbl.length
    have lq : (qs0.map V.ref).length < sizeLine := by rw [List.length_map]; exact small' (by omega)
    refine ⟨_, rfl, _, _, _, rfl, rfl, small (by omega), at0, rfl, _, rfl, ?_⟩
    by_cases h3 : c = 61
    · -- a keep
      rw [if_neg (by omega), if_neg (by omega), decide_eq_true h3, Bool.true_and] at hcx
      cases hn : isNumB y with
      | false => rw [hn, if_neg Bool.false_ne_true] at hcx; cases hcx
      | true =>
        rw [hn, if_pos rfl] at hcx
        cases hcx
        have N := num_f hn
        refine iteYes (by show V.str (one c) = V.str "="; rw [h3, e_eq]) ?_
        refine ⟨_, rfl, .inl ⟨rfl, _, SqL.of hl2⟩, ?_⟩
        refine ⟨_, rfl, _, rfl, _, rfl, small (by omega), ?_⟩
        rw [tls]
        refine ⟨y, ((valN y : Nat) : Int), rfl, N.reads ly, Nat.le_trans ly (by decide), ?_⟩
        refine ⟨(by show 2 ≤ sizeLine; decide), fun p hp => ?_⟩
        have t1 := same_new hp (.tup [.str "keep", .int ((valN y : Nat) : Int)])
        refine ⟨l, _, _, rfl, rfl, t1 _ _ hl2, lq, ?_⟩
        have hpb : BlkAt (rm (upd H2 p (.tup [.str "keep", .int ((valN y : Nat) : Int)])) l) p (.keep (List.replicate (valN y) "")) := by
          show rm _ l p = some (.tup [.str "keep", .int (((List.replicate (valN y) ("" : Str)).length : Nat) : Int)])
          rw [rm_ne (ne_of_none hl2 hp).symm, upd_same, List.length_replicate]
        have ne : (Blk.keep (List.replicate (valN y) ("" : Str))).empty = false := by
          have := N.pos
          show (List.replicate (valN y) ("" : Str)).isEmpty = false
          cases e : valN y with
          | zero => omega
          | succ m => rfl
        have eT : tidyStep T0 (Nt.eq (List.replicate (valN y) "")).part = T0 ++ [.keep (List.replicate (valN y) "")] := tidy_new ne fun b hb => by
          rw [hlast rfl b hb]; exact Bool.false_ne_true
        rw [eT]
        refine ⟨_, rfl, .inl ⟨qs0 ++ [p], same_put hl0 (sm0.trans t1), ?_, ?_, fun b hb => ?_⟩, done _ rfl⟩
        · rw [upd_same, List.map_append]; rfl
        · rw [rm_upd]; exact paired_snoc (BlksAt.same (same_rm t1) hbl) hpb
        · have e : (T0 ++ [Blk.keep (List.replicate (valN y) ("" : Str))]).getLast? = some (Blk.keep (List.replicate (valN y) ("" : Str))) := by simp
          rw [e] at hb
          cases hb
          rfl
    · -- a swap
      have nE : nt.isEq = false := by
        by_cases h1 : c = 45
        · rw [if_pos h1] at hcx; cases hcx; rfl
        · rw [if_neg h1] at hcx
          by_cases h2 : c = 43
          · rw [if_pos h2] at hcx; cases hcx; rfl
          · rw [if_neg h2, decide_eq_false h3, Bool.false_and, if_neg Bool.false_ne_true] at hcx; cases hcx
      refine iteNo (fun z => h3 (one_inj ((V.str.inj z).trans e_eq))) ?_
      refine ⟨fun σ' H' => σ' = [some (.ref a), some (.ref l), some (.str X)] ∧ ∃ (qa : List Addr) (q pg pc : Addr) (ta : List (Blk Str)) (g d : List Str), Act H H' l qa q pg pc ta g d ∧ g.length + d.length ≤ 2 * i ∧ (∀ z, tidyStep T0 (.swap [z] []) = ta ++ [.swap (g ++ [z]) d]) ∧ ∀ z, tidyStep T0 (.swap [] [z]) = ta ++ [.swap g (d ++ [z])], ?_, ?_⟩
      · -- a swap is laid where none ends the change
        have lay : ∀ (De : Ends) (H3 : Hp) (qs : List Addr), Same H H3 → H3 l = some (.lst (qs.map V.ref)) → qs.length ≤ 2000 → BlksAt (rm H3 l) qs T0 → (∀ b, T0.getLast? = some b → b.isKeep = true) →
            (∀ σ' H', (σ' = [some (.ref a), some (.ref l), some (.str X)] ∧ ∃ (qa : List Addr) (q pg pc : Addr) (ta : List (Blk Str)) (g d : List Str), Act H H' l qa q pg pc ta g d ∧ g.length + d.length ≤ 2 * i ∧ (∀ z, tidyStep T0 (.swap [z] []) = ta ++ [.swap (g ++ [z]) d]) ∧ ∀ z, tidyStep T0 (.swap [] [z]) = ta ++ [.swap g (d ++ [z])]) → De.nx σ' H') →
            tDrop (tBM K "list" rAppend (tVar 1) (tCons (tTup (tCons (tC (.str "swap")) (tCons (tLst tNil) (tCons (tLst tNil) tNil)))) tNil)) De [some (.ref a), some (.ref l), some (.str X)] H3 := by
          intro De H3 qs sm hl3 lqs hb3 hlk kk
          refine ⟨_, rfl, .inl ⟨rfl, _, SqL.of hl3⟩, ?_⟩
          refine ⟨(by show 0 ≤ sizeLine; decide), fun p1 g1 => ?_⟩
          have t1 := same_new g1 (.lst [])
          refine ⟨(by show 0 ≤ sizeLine; decide), fun p2 g2 => ?_⟩
          have t2 := same_new g2 (.lst [])
          refine ⟨(by show 3 ≤ sizeLine; decide), fun r g3 => ?_⟩
          have t3 := same_new g3 (.tup [.str "swap", .ref p1, .ref p2])
          have t12 := t1.trans t2
          have t123 := t12.trans t3
          have hl4 := t123 _ _ hl3
          refine ⟨l, _, _, rfl, rfl, hl4, by rw [List.length_map]; exact small' (by omega), kk _ _ ⟨rfl, qs, r, p1, p2, T0, [], [], ?_, Nat.zero_le _, fun z => ?_, fun z => ?_⟩⟩
          · have n1 : p1 ≠ l := (ne_of_none hl3 g1).symm
            have n2 : p2 ≠ l := (ne_of_none (t1 _ _ hl3) g2).symm
            have n3 : r ≠ l := (ne_of_none (t12 _ _ hl3) g3).symm
            have n12 : p1 ≠ p2 := ne_of_none upd_same g2
            refine ⟨same_put hl0 (sm.trans t123), ?_, ?_, ?_, ?_, ?_, sm.free g1, (sm.trans t1).free g2, n1, n2, n12⟩
            · rw [upd_same, List.map_append]; rfl
            · rw [wo_upd (by simp)]
              refine BlksAt.same (fun b o hb => ?_) hb3
              have hb' := rm_sub _ _ hb
              have nb : b ≠ l := fun z => by rw [z, rm_self] at hb; cases hb
              rw [wo_out (by
                intro z
                simp only [List.mem_cons, List.not_mem_nil, or_false] at z
                rcases z with z | z | z
                · exact nb z
                · exact ne_of_none hb' g1 z
                · exact ne_of_none (t1 _ _ hb') g2 z)]
              exact t123 _ _ hb'
            · rw [upd_ne n3, upd_same]
            · rw [upd_ne n1]; exact t3 _ _ (t2 _ _ upd_same)
            · rw [upd_ne n2]; exact t3 _ _ upd_same
          · exact tidy_new rfl fun b hb => by rw [hlk b hb]; intro q; cases q
          · exact tidy_new rfl fun b hb => by rw [hlk b hb]; intro q; cases q
        refine ⟨_, rfl, (by show 0 ≤ sizeLine; decide), fun e he => ?_⟩
        have te := same_new he (.lst [])
        refine ⟨l, e, _, rfl, rfl, SqL.of (te _ _ hl2), SqL.of upd_same, _, rfl, ?_⟩
        rcases T with ⟨qs, smA, hlA, hbA, hkA⟩ | ⟨qa, q, pg, pc, ta, g, d, A, eT⟩
        · have eq0 : qs = qs0 := by
            rw [hlA] at hl2
            have : qs.map V.ref = qs0.map V.ref := by injection hl2 with z; injection z
            exact List.map_inj_right (fun _ _ z => V.ref.inj z) |>.mp this
          subst eq0
          have go : ∀ De : Ends, _ → _ := fun De kk => lay De _ qs (smA.trans te) (te _ _ hlA) (by omega) (BlksAt.same (same_rm te) hbA) hkA kk
          cases hq : qs with
          | nil =>
            subst hq
            exact iteT (iteT (go _ fun _ _ h => h))
          | cons q0 qr =>
            refine iteF ?_
            have hne : qs ≠ [] := by rw [hq]; exact fun z => nomatch z
            obtain ⟨qa, q, eq1⟩ : ∃ qa q, qs = qa ++ [q] := ⟨qs.dropLast, qs.getLast hne, (List.dropLast_concat_getLast hne).symm⟩
            rcases tidy_split T0 with z | ⟨ta, tb, ez, el⟩
            · rw [z, hq] at qll; simp at qll
            have hb2 := hbA
            rw [eq1, ez] at hb2
            obtain ⟨_, hlast2⟩ := paired_init hb2
            have kT := hkA tb el
            cases tb with
            | swap _ _ => cases kT
            | keep ks =>
              have hqk : upd H2 e (.lst []) q = some (.tup [.str "keep", .int (ks.length : Int)]) := te _ _ (rm_sub _ _ hlast2)
              have atl : atI (qs.map V.ref) (-1) = some (.ref q) := by rw [eq1, List.map_append]; exact atI_last _ _
              refine ⟨_, rfl, _, rfl, l, _, _, _, rfl, rfl, SqL.of (te _ _ hlA), atl, q, _, _, _, rfl, rfl, SqT.of hqk, rfl, rfl, _, rfl, iteNYes ks_ne ?_⟩
              exact go _ fun _ _ h => h
        · have hl2' : upd H2 e (.lst []) l = some (.lst ((qa ++ [q]).map V.ref)) := te _ _ A.hl
          have atl : atI ((qa ++ [q]).map V.ref) (-1) = some (.ref q) := by rw [List.map_append]; exact atI_last _ _
          have en : (qs0.map V.ref) = (qa ++ [q]).map V.ref := by
            have := A.hl
            rw [hl2] at this
            injection this with z
            injection z
          rw [en]
          have ne1 : ((qa ++ [q]).map V.ref).isEmpty = false := by simp
          rw [show (if false = true then !((qa ++ [q]).map V.ref).isEmpty else ((qa ++ [q]).map V.ref).isEmpty) = false from ne1]
          refine iteF ?_
          refine ⟨_, rfl, _, rfl, l, _, _, _, rfl, rfl, SqL.of hl2', atl, q, _, _, _, rfl, rfl, SqT.of (te _ _ A.hq), rfl, rfl, _, rfl, iteNNo rfl ?_⟩
          have hs := so
          rw [eT] at hs
          have o1 := sOf_mem (bs := ta ++ [.swap g d]) (b := .swap g d) (by simp)
          have n1 := sNf_mem (bs := ta ++ [.swap g d]) (b := .swap g d) (by simp)
          simp only [swO] at o1
          simp only [swN] at n1
          refine ⟨rfl, qa, q, pg, pc, ta, g, d, ⟨A.same.trans te, hl2', BlksAt.same (wo_same te) A.rest, te _ _ A.hq, te _ _ A.hg, te _ _ A.hc, A.ng, A.nc, A.gl, A.cl, A.gc⟩, by omega, fun z => ?_, fun z => ?_⟩
          · have : tidyStep (ta ++ [.swap g d]) (.swap [z] []) = ta ++ [.swap (g ++ [z]) (d ++ [])] := tidy_more rfl rfl
            rw [List.append_nil] at this
            rw [eT]; exact this
          · have : tidyStep (ta ++ [.swap g d]) (.swap [] [z]) = ta ++ [.swap (g ++ []) (d ++ [z])] := tidy_more rfl rfl
            rw [List.append_nil] at this
            rw [eT]; exact this
      rintro σ' H3 ⟨rfl, qa, q, pg, pc, ta, g, d, A, lgd, e1, e2⟩
      have atl : atI ((qa ++ [q]).map V.ref) (-1) = some (.ref q) := by rw [List.map_append]; exact atI_last _ _
      by_cases h1 : c = 45
      · rw [if_pos h1] at hcx
        cases hcx
        refine ⟨_, rfl, _, rfl, l, _, _, _, rfl, rfl, SqL.of A.hl, atl, rfl, ?_⟩
        refine ⟨_, rfl, _, _, _, rfl, rfl, small (by omega), at0, "-+", _, 0, [], rfl, rfl, by rw [h1]; exact occ_cut, _, _, rfl, rfl, q, _, _, _, rfl, rfl, SqT.of A.hq, rfl, .inl ⟨rfl, _, SqL.of A.hg⟩, ?_⟩
        refine ⟨_, rfl, _, rfl, _, rfl, small (by omega), ?_⟩
        rw [tls]
        refine ⟨pg, _, _, rfl, rfl, A.hg, by rw [List.length_map]; exact small' (by omega), ?_⟩
        have eT : tidyStep T0 (Nt.cut y).part = ta ++ [.swap (g ++ [y]) d] := e1 y
        rw [eT]
        exact ⟨_, rfl, .inr ⟨qa, q, pg, pc, ta, g ++ [y], d, A.cut y, rfl⟩, done2 ta _ rfl⟩
      · rw [if_neg h1] at hcx
        by_cases h2 : c = 43
        · rw [if_pos h2] at hcx
          cases hcx
          refine ⟨_, rfl, _, rfl, l, _, _, _, rfl, rfl, SqL.of A.hl, atl, rfl, ?_⟩
          refine ⟨_, rfl, _, _, _, rfl, rfl, small (by omega), at0, "-+", _, 1, [], rfl, rfl, by rw [h2]; exact occ_put, _, _, rfl, rfl, q, _, _, _, rfl, rfl, SqT.of A.hq, rfl, .inl ⟨rfl, _, SqL.of A.hc⟩, ?_⟩
          refine ⟨_, rfl, _, rfl, _, rfl, small (by omega), ?_⟩
          rw [tls]
          refine ⟨pc, _, _, rfl, rfl, A.hc, by rw [List.length_map]; exact small' (by omega), ?_⟩
          have eT : tidyStep T0 (Nt.put y).part = ta ++ [.swap g (d ++ [y])] := e2 y
          rw [eT]
          exact ⟨_, rfl, .inr ⟨qa, q, pg, pc, ta, g, d ++ [y], A.put y, rfl⟩, done2 ta _ rfl⟩
        · rw [if_neg h2, decide_eq_false h3, Bool.false_and, if_neg Bool.false_ne_true] at hcx
          cases hcx
  · rintro σ H2 ⟨v, rfl, T, _⟩
    have e : ns.take (xs.map V.str).length = ns := by rw [hlx, ← nl]; exact List.take_length
    rw [e] at T
    obtain ⟨qs, s2, h2, hb⟩ := T.base
    exact ⟨_, rfl, k l H2 s2 ⟨qs, h2, BlksAt.same rm_sub hb⟩⟩
end
end Rm

set_option Elab.async false
set_option linter.all false
set_option maxRecDepth 100000
set_option maxHeartbeats 4000000
namespace Rm
open PySem L2 My
/-- the text's exceptions -/
structure Xg (K : PySem.W.Frag) (mg : Str → Option Value) (C M N : Addr) : Prop where
  z : ExcC K C
  qM : PySem.W.excIn K M bmV "ValueError.__new__" = true
  sub : PySem.W.mroIn K C (.ref M) = some true
  mC : mg "NoChange" = some (.ref C)
  mM : mg "MendError" = some (.ref M)
  mN : mg "NoFit" = some (.ref N)
  mV : mg "ValueError" = none
  i2 : PySem.W.kitOne K (.ref C) (.ref N) = some false
  i3 : PySem.W.kitOne K (.ref C) (.type "ValueError") = some true
theorem kit_self {K : PySem.W.Frag} (t : Value) : PySem.W.kitOne K t t = some true := by unfold PySem.W.kitOne; rw [if_pos (beq_self_eq_true _)]
theorem cls_of_exc {K : PySem.W.Frag} {N : Addr} {bm : List Value} {id : String} (q : PySem.W.excIn K N bm id = true) : (PySem.W.clsIn K N).isSome = true ∧ PySem.W.typeIn K (.ref N) = some (.type "type") := by
  unfold PySem.W.excIn at q
  split at q
  · rename_i dd cd sl ho
    constructor
    · unfold PySem.W.clsIn
      rw [ho]
      rfl
    · show Option.map (fun x => x.cls) (List.lookup N K) = _
      rw [ho]
      rfl
  · cases q
theorem xg_mk {K : PySem.W.Frag} {mg : Str → Option Value} {C M N : Addr} (mC : mg "NoChange" = some (.ref C)) (mM : mg "MendError" = some (.ref M)) (mN : mg "NoFit" = some (.ref N)) (mV : mg "ValueError" = none)
    (qC : PySem.W.excIn K C bmV "ValueError.__new__" = true) (qM : PySem.W.excIn K M bmV "ValueError.__new__" = true) (qN : PySem.W.excIn K N bmV "ValueError.__new__" = true)
    (ga : PySem.W.findIn K (.ref C) "__getattribute__" = some (some (.builtin "BaseException.__getattribute__"))) (gt : PySem.W.findIn K (.ref C) "__getattr__" = some none) (cl : PySem.W.findIn K (.ref C) "__class__" = some (some (.builtin "object.__class__")))
    (hn : PySem.W.specialIn K (.builtin "object.__class__") "__get__" = some (some (.builtin "getset_descriptor.__get__"))) (tk : PySem.W.takesIn K (.builtin "object.__class__") = some true)
    (mo : PySem.W.mroIn K C (.type "object") = some true) (mb : PySem.W.mroIn K C (.type "BaseException") = some true) (sM : PySem.W.mroIn K C (.ref M) = some true) (sN : PySem.W.mroIn K C (.ref N) = some false) (sV : PySem.W.mroIn K C (.type "ValueError") = some true) (sC : PySem.W.mroIn K C (.ref C) = some true) : Xg K mg C M N := by
  have hne : C ≠ N := fun z => by
    subst z
    rw [sC] at sN
    cases sN
  obtain ⟨c1, c2⟩ := cls_of_exc qN
  refine ⟨⟨qC, ga, gt, cl, hn, tk, mo, mb⟩, qM, sM, mC, mM, mN, mV, ?_, ?_⟩
  · unfold PySem.W.kitOne
    rw [if_neg (fun z => hne (Value.ref.inj (beq_iff_eq.mp z)))]
    unfold PySem.W.kitCls
    dsimp only
    rw [c1, c2, if_pos (by decide)]
    exact sN
  · unfold PySem.W.kitOne
    rw [if_neg (fun z => by cases beq_iff_eq.mp z)]
    unfold PySem.W.kitCls
    dsimp only
    rw [if_pos (by decide +kernel)]
    exact sV
theorem boot_VE : bootBuiltins "ValueError" = some (.type "ValueError") := by decide +kernel
section
variable {P : Program} {w : World} {K : PySem.W.Frag} {mg : Str → Option Value} {base : Heap}
/-! ### _law_base_tells -/
def spTells : Sp := fun vs H Q _ => ∃ (a : Addr) (xs : List Str), vs = [.ref a] ∧ H a = some (txt xs) ∧ xs.length ≤ 1000 ∧ (∀ x ∈ xs, Asc x) ∧ ∀ H' : Hp, Same H H' → Q (.bl (!goodB xs)) H'
theorem sc_tells : FnScope ["_law_notes", "e", "_law_many"] ["_law_notes"] (defScope s_base_tells) := ⟨rfl, rfl, rfl, by decide +kernel, rfl, by decide +kernel, by decide +kernel⟩
theorem good_yes {xs : List Str} {ns : List Nt} (h1 : badP xs = false) (h2 : clsAll xs = some ns) : goodB xs = true := by
  unfold goodB
  rw [h1, h2]
  rfl
theorem good_no {xs : List Str} (h : badP xs = true ∨ clsAll xs = none) : goodB xs = false := by
  unfold goodB
  rcases h with h | h
  · rw [h]; rfl
  · rw [h]; exact Bool.and_false _
theorem good_cases (xs : List Str) : (goodB xs = true ∧ badP xs = false ∧ ∃ ns, clsAll xs = some ns) ∨ (goodB xs = false ∧ (badP xs = true ∨ clsAll xs = none)) := by
  cases h1 : badP xs with
  | true => exact .inr ⟨good_no (.inl h1), .inl rfl⟩
  | false =>
    cases h2 : clsAll xs with
    | none => exact .inr ⟨good_no (.inr h2), .inr rfl⟩
    | some ns => exact .inl ⟨good_yes h1 h2, rfl, ns, rfl⟩
theorem ok_tells {f fA C M N : Addr} {fd dA : FuncData} (F : Fun K "_law_base_tells" "_law_base_tells" s_base_tells f fd)
    (GA : FnOk P w K mg base (CXR P w) 3 fA dA ["notes"] (spReadX C)) (kA : PySem.W.keepIn K (.ref fA) = true) (bA : Binds K dA ["notes"] []) (mA : mg "read" = some (.ref fA))
    (Z : Xg K mg C M N) (B : Bn mg) : FnOk P w K mg base CX0 4 f fd ["_law_notes"] spTells := by
  refine F.ok sc_tells (fun vs H Q E h => ?_) (fun cdv A outer s H vs Q E hr h => ?_)
  · obtain ⟨a, xs, rfl, _⟩ := h
    rfl
  obtain ⟨a, xs, rfl, ha, lx, hasc, k⟩ := h
  refine ⟨_, pss_cons (ps_tryAs (C := C) (M := M) (i := 1) (th := _) ⟨rfl, rfl, rfl⟩ Z.z Z.qM Z.sub rfl Z.mM sc_tells.nd rfl rfl (Or.inl rfl) rfl
      (fun ok pins J => pss_one (ps_expr (pe_callX ok GA hr rfl mA kA bA .nil (pa_cons (pv 0) pa_nil))))
      (fun pins e ob hc => pss_cons (ps_set (i := 2) sc_tells.nd rfl (Or.inl rfl) (pe_op op_add
          (pe_callTy call_int1 rfl B.int PyProof.Rows.boot_int (pa_cons (pe_callB (call_isiE (X := (cxOf CX0 P w K mg base _ _ _ f cdv A outer s H E).nox) Z.z hc) rfl B.isi PyProof.Rows.boot_isinstance (pa_cons (pv 1) (pa_cons (pe_glob (v := .ref N) rfl Z.mN rfl) pa_nil))) pa_nil))
          (pe_callTy call_int1 rfl B.int PyProof.Rows.boot_int (pa_cons (pe_callB (call_isiE (X := (cxOf CX0 P w K mg base _ _ _ f cdv A outer s H E).nox) Z.z hc) rfl B.isi PyProof.Rows.boot_isinstance (pa_cons (pv 1) (pa_cons (pe_glob (v := .ref C) rfl Z.mC rfl) pa_nil))) pa_nil))))
        (pss_one (ps_ret (pe_and (pe_callB (call_isiE (X := (cxOf CX0 P w K mg base _ _ _ f cdv A outer s H E).nox) Z.z hc) rfl B.isi PyProof.Rows.boot_isinstance (pa_cons (pv 1) (pa_cons (pe_bltn (v := .ty "ValueError") rfl Z.mV boot_VE rfl) pa_nil)))
          (pe_one (pe_cmpR op_eq (pv 2) pe_int (nomark _))))))))
    (pss_one (ps_ret pe_bl)), ?_⟩
  refine ⟨fun cls σ' H' => cls = .ref C ∧ σ' = [some (.ref a), none, none] ∧ Same H H' ∧ goodB xs = false, ?_, ?_⟩
  · refine ⟨_, rfl, a, xs, rfl, ha, lx, hasc, fun ns h1 h2 r H' s1 _ => ?_, fun hb H' s1 => ⟨rfl, rfl, s1, good_no hb⟩⟩
    have z := k H' s1
    rw [good_yes h1 h2] at z
    exact z
  · rintro cls σ' H' ⟨rfl, rfl, s1, hf⟩
    refine ⟨rfl, fun e => ?_⟩
    have z := k H' s1
    rw [hf] at z
    refine ⟨_, rfl, _, _, false, rfl, fun u h => h, Z.i2, .inr ⟨false, rfl, _, rfl, _, _, true, rfl, fun u h => h, kit_self _, .inr ⟨true, rfl, ?_⟩⟩⟩
    refine ⟨_, _, rfl, rfl, ?_⟩
    refine ⟨_, rfl, _, _, true, rfl, fun u h => h, Z.i3, _, rfl, iteT ?_⟩
    exact ⟨_, rfl, rfl, z⟩
/-! ### _law_noughted -/
def spNoughted : Sp := fun vs H Q _ => ∃ (a : Addr) (xs : List Str) (wy cl : Int), vs = [.ref a, .int wy, .int cl] ∧ H a = some (txt xs) ∧ xs.length ≤ 1000 ∧ (∀ x ∈ xs, Asc x ∧ x.length ≤ 350) ∧
  ∀ (r : Addr) (ys : List Str) (H' : Hp), Same H H' → H r = none → H' r = some (txt ys) → ys.length = xs.length → (∀ y ∈ ys, Asc y) → Q (.ref r) H'
theorem sc_noughted : FnScope ["_law_notes", "_law_way", "_law_cell", "_law_made", "_law_kept", "_law_spot"] ["_law_notes", "_law_way", "_law_cell"] (defScope s_noughted) := ⟨rfl, rfl, rfl, by decide +kernel, rfl, by decide +kernel, by decide +kernel⟩
theorem asc_nought {x : Str} (h : Asc x ∧ x.length ≤ 350) : Asc (("=0" : Str) ++ Txt.slice x (some 1) none) ∧ (("=0" : Str).length + (Txt.slice x (some 1) none).length ≤ 400) := by
  have l2 : ("=0" : Str).length = 2 := by decide +kernel
  have c2 : ("=0" : Str).cps.toList = [61, 48] := by decide +kernel
  have key : ∃ y : Str, Txt.slice x (some 1) none = y ∧ y.length ≤ 350 ∧ ∀ c ∈ y.cps.toList, c < 128 := by
    rcases str_split x with rfl | ⟨c, y, rfl⟩
    · exact ⟨"", slice_nil, by decide +kernel, fun c hc => by rw [nil_list] at hc; cases hc⟩
    · refine ⟨y, slice_tail (d := one c) rfl, ?_, fun d hd => h.1.2 d (by rw [one_list]; exact List.mem_cons_of_mem _ hd)⟩
      have := h.2
      rw [PySem.Str.length_append] at this
      omega
  obtain ⟨y, e, y1, y2⟩ := key
  rw [e]
  refine ⟨⟨by rw [PySem.Str.length_append, l2]; omega, fun c hc => ?_⟩, by omega⟩
  rw [app_toList, c2] at hc
  rcases List.mem_append.mp hc with z | z
  · simp only [List.mem_cons, List.not_mem_nil, or_false] at z
    omega
  · exact y2 c z
theorem ok_noughted {f : Addr} {fd : FuncData} (F : Fun K "_law_noughted" "_law_noughted" s_noughted f fd) (B : Bn mg) : FnOk P w K mg base CX0 1 f fd ["_law_notes", "_law_way", "_law_cell"] spNoughted := by
  refine F.ok sc_noughted (fun vs H Q E h => ?_) (fun cdv A outer s H vs Q E hr h => ?_)
  · obtain ⟨a, xs, wy, cl, rfl, _⟩ := h
    rfl
  obtain ⟨a, xs, wy, cl, rfl, ha, lx, hasc, k⟩ := h
  have hu := hr.units0
  refine ⟨_, pss_cons (ps_set (i := 3) sc_noughted.nd rfl (Or.inl rfl) (pe_callTy call_list_of rfl B.list PyProof.Rows.boot_list (pa_cons (pv 0) pa_nil)))
    (pss_cons (ps_lc (i := 4) rfl sc_noughted.nd rfl (Or.inl rfl) (lc_one (x := "_law_k") (y := "_law_notes") (j := 0) rfl (by decide +kernel) (by decide +kernel) rfl (by decide +kernel) rfl rfl rfl rfl rfl (by decide +kernel))
      (pi_range1 rfl B.range (pa_cons (pe_callB call_len_seq rfl B.len PySem.boot_len (pa_cons (pv 0) pa_nil)) pa_nil))
      (fun _ _ _ _ _ => pf_one (pt_cmpR op_eq (pe_slice sl_str (pe_ix (ix_listK K rfl) (pv 1) (pv 0) (fun _ _ => rfl)) po_none (po_some pe_int)) pe_str (nomark _))) (fun _ _ _ _ _ => pv 0))
    (pss_cut (ps_if (PW.pt (pw_and (pt_cmpR op_eq (pe_op op_mod (pv 1) pe_int) pe_int (nomark _)) (pw_and1 (pt_cmpR (op_neE hu) (pv 4) (pe_lst pa_nil) (nomark _)))))
      (pss_cons (ps_set (i := 5) sc_noughted.nd rfl (Or.inl rfl) (pe_ix ix_list (pv 4) (pe_op op_mod (pv 2) (pe_callB call_len_seq rfl B.len PySem.boot_len (pa_cons (pv 4) pa_nil))) (fun _ _ => rfl)))
      (pss_one (ps_asg (pe_op op_add_str pe_str (pe_slice sl_str (pe_ix ix_list (pv 0) (pv 5) (fun _ _ => rfl)) (po_some pe_int) po_none)) (pg_sub (pv 3) (pv 5) set_list)))) pss_nil)
    (pss_one (ps_ret (pv 3))))), ?_⟩
  have hlx : (xs.map V.str).length = xs.length := List.length_map _
  refine ⟨_, rfl, a, _, rfl, .inl (SqL.of ha), fun r hr0 => ?_⟩
  have s1 := same_new hr0 (txt xs)
  have hr1 : upd H r (txt xs) r = some (txt xs) := upd_same
  have ha1 := s1 _ _ ha
  generalize hH1 : upd H r (txt xs) = H1 at s1 hr1 ha1
  refine ⟨_, rfl, a, _, rfl, .inl (SqL.of ha1), _, rfl, by rw [hlx]; omega, by rw [hlx]; omega, fun D hD => ?_⟩
  have t2 := same_new hD (.lst [])
  refine lc_range (fun i H2 => ∃ js : List Nat, H2 D = some (.lst (js.map fun (j : Nat) => V.int (j : Int))) ∧ js.length ≤ i ∧ (∀ j ∈ js, j < xs.length) ∧ Same H1 H2) ⟨[], upd_same, Nat.le_refl _, (fun j h => nomatch h), t2⟩ ?_ ?_
  · rintro i H2 hi ⟨js, h1, lj, hj, s2⟩
    rw [hlx] at hi
    have hi' : i < xs.length := by omega
    have mi : xs[i]? = some xs[i] := List.getElem?_eq_getElem hi'
    have ei : (0 : Int) + (i : Int) = (i : Int) := by omega
    have hax := hasc _ (List.getElem_mem hi')
    refine ⟨_, rfl, _, rfl, a, _, _, _, rfl, rfl, SqL.of (s2 _ _ ha1), atI_get (get_map mi) ei, _, rfl, _, rfl, small (by have := hax.2; omega), rfl, _, rfl, ?_⟩
    refine ite2d (fun _ => ?_) (fun _ => ⟨js, h1, by omega, hj, s2⟩)
    refine ⟨_, rfl, _, h1, by rw [List.length_map]; exact small' (by omega), js ++ [i], ?_, by rw [List.length_append, List.length_singleton]; omega, fun j hm => ?_, same_put hD s2⟩
    · rw [upd_same, List.map_append, ei]; rfl
    · rcases List.mem_append.mp hm with z | z
      · exact hj j z
      · rw [List.mem_singleton.mp z]; exact hi'
  rintro H2 ⟨js, h1, lj, hj, s2⟩
  have hlj : (js.map fun (j : Nat) => V.int (j : Int)).length = js.length := List.length_map _
  have hr2 := s2 _ _ hr1
  refine ⟨fun σ' H' => ∃ (v : Option V) (ys : List Str), σ' = [some (.ref a), some (.int wy), some (.int cl), some (.ref r), some (.ref D), v] ∧ Same H H' ∧ H' r = some (txt ys) ∧ ys.length = xs.length ∧ ∀ y ∈ ys, Asc y, ?_, ?_⟩
  · have no : ∀ H', Same H2 H' → ∃ (v : Option V) (ys : List Str), [some (.ref a), some (.int wy), some (.int cl), some (.ref r), some (.ref D), none] = [some (.ref a), some (.int wy), some (.int cl), some (.ref r), some (.ref D), v] ∧ Same H H' ∧ H' r = some (txt ys) ∧ ys.length = xs.length ∧ ∀ y ∈ ys, Asc y := fun H' s' =>
      ⟨none, xs, rfl, s1.trans (s2.trans s'), s' _ _ hr2, rfl, fun y hy => (hasc y hy).1⟩
    refine ⟨_, rfl, _, _, rfl, rfl, (by show (0 : Int) < 6; decide), rfl, _, rfl, ite2d (fun _ => ?_) (fun _ => iteF (no H2 (Same.refl _)))⟩
    refine ⟨_, rfl, (by show 0 ≤ sizeLine; decide), fun e he => ?_⟩
    have te := same_new he (.lst [])
    refine ⟨D, e, _, rfl, rfl, SqL.of (te _ _ h1), SqL.of upd_same, _, rfl, ?_⟩
    cases js with
    | nil => exact iteF (no _ te)
    | cons j0 js =>
      refine iteT ?_
      refine ⟨_, rfl, _, rfl, _, rfl, D, _, rfl, .inl (SqL.of (te _ _ h1)), _, _, rfl, rfl, (by rw [hlj]; simp only [List.length_cons]; omega), ?_⟩
      have q0 : 0 ≤ cl % ((((j0 :: js).map fun (j : Nat) => V.int (j : Int)).length : Nat) : Int) := Int.emod_nonneg _ (by rw [hlj]; simp only [List.length_cons]; omega)
      have q1 : cl % ((((j0 :: js).map fun (j : Nat) => V.int (j : Int)).length : Nat) : Int) < ((((j0 :: js).map fun (j : Nat) => V.int (j : Int)).length : Nat) : Int) := Int.emod_lt_of_pos _ (by rw [hlj]; simp only [List.length_cons]; omega)
      obtain ⟨m, hm⟩ := Int.eq_ofNat_of_zero_le q0
      rw [hm] at q1
      rw [hlj] at q1
      have hm' : m < (j0 :: js).length := by omega
      refine ⟨D, _, _, _, rfl, rfl, SqL.of (te _ _ h1), atI_get (get_map (List.getElem?_eq_getElem hm')) hm, ?_⟩
      have hs := hj _ (List.getElem_mem hm')
      generalize (j0 :: js)[m] = sp at hs
      have xi : xs[sp]? = some xs[sp] := List.getElem?_eq_getElem hs
      have hax := hasc _ (List.getElem_mem hs)
      generalize xs[sp] = x at xi hax
      obtain ⟨an, al⟩ := asc_nought hax
      refine ⟨_, rfl, _, rfl, a, _, _, _, rfl, rfl, SqL.of (te _ _ (s2 _ _ ha1)), atI_get (get_map xi) rfl, _, rfl, _, rfl, small (by have := hax.2; omega), "=0", _, rfl, rfl, small (by omega), ?_⟩
      refine ⟨_, rfl, _, rfl, r, _, _, sp, rfl, rfl, te _ _ hr2, ixN_nat (by rw [hlx]; exact hs) rfl, ?_⟩
      refine ⟨_, xs.set sp (("=0" : Str) ++ Txt.slice x (some 1) none), rfl, same_put hr0 (s1.trans (s2.trans te)), ?_, by rw [List.length_set], fun y hy => ?_⟩
      · rw [upd_same]; show some (HO.lst _) = some (HO.lst _); rw [List.map_set]
      · rcases List.mem_or_eq_of_mem_set hy with z | z
        · exact (hasc y z).1
        · rw [z]; exact an
  · rintro σ' H3 ⟨v, ys, rfl, s3, h3, l3, a3⟩
    exact ⟨_, rfl, k r ys H3 s3 hr0 h3 l3 a3⟩
end
end Rm

set_option Elab.async false
set_option linter.all false
set_option maxRecDepth 100000
set_option maxHeartbeats 4000000
namespace L2
open PySem PySem.Spec PyProof.Rows
def rInsert : V → List V → Hp → VK → Prop := fun x vs H Q => ∃ (l : Addr) (xs : List V) (i : Int) (k : Nat) (y : V), x = .ref l ∧ vs = [.int i, y] ∧ i = (k : Int) ∧ H l = some (.lst xs) ∧ k ≤ xs.length ∧ xs.length < sizeLine ∧ Q .non (upd H l (.lst (xs.take k ++ y :: xs.drop k)))
theorem mt_insert {X : Cx} : MtR X "list.insert" rInsert := by
  intro pins s σ H x vs v us Q I rx rv h
  obtain ⟨l, xs, i, k, y, rfl, rfl, ei, hH, hk, hz, q⟩ := h
  cases rx
  obtain ⟨u1, u2, rfl, ⟨t, rfl⟩, ru⟩ := vals2 rv
  obtain ⟨z, its, n, r, hl, e⟩ := I.lstM hH
  have hz2 := hz
  rw [sizeLine_eq] at hz2
  have hf : Builtin.List.listFitsIndex i = true := fitsIndex_both (by omega) (by omega)
  have hsz : its.toArray.size ≤ sizeLine := by rw [List.size_toArray, ← hl]; exact Nat.le_of_lt hz
  refine call_meets F.slot_list_insert ⟨_, e, rfl⟩ F.entry_list_insert (F.args_list_insert_3 _ _ _) (PySem.AutoSeq1.list_insert_list_int_val_1 l its.toArray n i t u2 (by simp [hf]) hsz) ⟨e, ?_⟩
  refine ⟨.non, _, I.lset (its' := its.take k ++ u2 :: its.drop k) hH e ?_ ((r.take k).append (.cons ru (r.drop k))) ?_, rfl, q⟩
  · have h1 : ¬ (i < 0) := by omega
    have h2 : min i.toNat its.toArray.size = k := by rw [ei, Int.toNat_natCast, List.size_toArray]; omega
    show ((its.toArray.extract 0 (if i < 0 then (i + (its.toArray.size : Int)).toNat else min i.toNat its.toArray.size)).push u2 ++ its.toArray.extract (if i < 0 then (i + (its.toArray.size : Int)).toNat else min i.toNat its.toArray.size)) = _
    rw [if_neg h1, h2]
    exact PySem.W.kl_ins_eq its k u2
  · rw [List.length_append, List.length_cons, List.length_take, List.length_drop]
    omega
end L2
namespace Rm
open PySem L2 My
/-! ### texts that are drawn -/
def AscN (x : Str) : Prop := Asc x ∧ x.length ≤ 350
theorem sgn_lt : ∀ c ∈ (sgA ++ sgB).cps.toList, c < 128 := by decide +kernel
theorem signAt_lt (n : Nat) : signAt n < 128 := by
  unfold signAt
  cases e : atI (sgA ++ sgB).cps.toList ((n : Int) % 94) with
  | none => decide
  | some c =>
    obtain ⟨j, _, h, _⟩ := L2.atI_get e
    exact sgn_lt c (List.mem_of_getElem? h)
theorem tail_lt : ∀ d n, ∀ c ∈ (tailS d n).cps.toList, c < 128
  | 0, n, c, h => by
    have : (tailS 0 n) = Str.empty := rfl
    rw [this] at h
    cases h
  | d + 1, n, c, h => by
    unfold tailS at h
    by_cases h0 : n = 0
    · rw [if_pos h0] at h; cases h
    · rw [if_neg h0] at h
      have h' : c ∈ (one (signAt n) ++ tailS d (n / 94)).cps.toList := h
      rw [one_list] at h'
      rcases List.mem_cons.mp h' with z | z
      · rw [z]; exact signAt_lt n
      · exact tail_lt d _ c z
theorem mul_asc : ∀ n : Nat, n < 3 → (Txt.mul "~" ((n : Int) * 60)).length ≤ 120 ∧ ∀ c ∈ (Txt.mul "~" ((n : Int) * 60)).cps.toList, c < 128 := by decide +kernel
theorem any_asc (c : Int) : (anyText c).length ≤ 320 ∧ ∀ d ∈ (anyText c).cps.toList, d < 128 := by
  unfold anyText
  have h0 : 0 ≤ absI c / 7 % 3 := Int.emod_nonneg _ (by decide)
  have h1 : absI c / 7 % 3 < 3 := Int.emod_lt_of_pos _ (by decide)
  obtain ⟨m, hm⟩ := Int.eq_ofNat_of_zero_le h0
  have hm3 : m < 3 := by omega
  rw [hm]
  obtain ⟨a1, a2⟩ := mul_asc m hm3
  refine ⟨?_, fun d hd => ?_⟩
  · rw [PySem.Str.length_append]
    have := tail_len 200 (absI c % 10 ^ 60).toNat
    have a1' : (Txt.mul "~" (((m : Nat) : Int) * 60)).length ≤ 120 := a1
    omega
  · rw [app_toList] at hd
    rcases List.mem_append.mp hd with z | z
    · exact a2 d z
    · exact tail_lt _ _ d z
theorem any_ascN (c : Int) : AscN (anyText c) := ⟨⟨by have := (any_asc c).1; omega, (any_asc c).2⟩, by have := (any_asc c).1; omega⟩
theorem one_any (k : Nat) (hk : k < 128) {y : Str} (h : y.length ≤ 320) (h2 : ∀ d ∈ y.cps.toList, d < 128) : AscN (one k ++ y) ∧ (one k).length + y.length ≤ 400 := by
  have l : (one k ++ y).length = 1 + y.length := by rw [PySem.Str.length_append]; rfl
  refine ⟨⟨⟨by omega, fun d hd => ?_⟩, by omega⟩, by show 1 + y.length ≤ 400; omega⟩
  rw [one_list] at hd
  rcases List.mem_cons.mp hd with z | z
  · rw [z]; exact hk
  · exact h2 d z
theorem num_asc {i : Int} (h0 : 0 ≤ i) (h1 : i < 10 ^ 60) : (Str.ofString (toString i)).length ≤ 60 ∧ ∀ d ∈ (Str.ofString (toString i)).cps.toList, d < 128 := by
  refine ⟨PyProof.Rows.toString_length_le h0 (by decide) h1, ?_⟩
  obtain ⟨m, rfl⟩ := Int.eq_ofNat_of_zero_le h0
  intro d hd
  rw [PySem.W.KIN.signs_num] at hd
  obtain ⟨ch, hch, e⟩ := List.mem_map.mp hd
  have r := PyProof.Rows.digit_range (Nat.isDigit_of_mem_toDigits (by decide) (by decide) hch)
  rw [← e]
  omega
theorem num_log {i : Int} (h0 : 0 ≤ i) (h1 : i < 10 ^ 60) : i.natAbs.log2 < 1920 := by
  obtain ⟨m, rfl⟩ := Int.eq_ofNat_of_zero_le h0
  rw [Int.natAbs_natCast]
  by_cases hm : m = 0
  · subst hm; decide
  · rw [Nat.log2_lt hm]
    have h2 : m < 10 ^ 60 := by omega
    exact Nat.lt_of_lt_of_le h2 (by decide +kernel)
def menuT : List Str := (["=2", "-a", "+b", "-", "+", "=10", "+=1", "=1000000000000000000000"] : List Str) ++ (["=0", "=", "=01", "a", "", "=-1", "= 1"] : List Str)
theorem menu_asc : ∀ x ∈ menuT, AscN x := by
  have h : ∀ x ∈ menuT, (x.length ≤ 350 ∧ ∀ c ∈ x.cps.toList, c < 128) := by decide +kernel
  intro x hx
  obtain ⟨a, b⟩ := h x hx
  exact ⟨⟨by omega, b⟩, a⟩
/-! ### the notes of what good notes write -/
theorem nts_app (a b : List (Blk Str)) : nts (a ++ b) = nts a ++ nts b := by unfold nts; rw [List.flatMap_append]
theorem nts_one (b : Blk Str) : nts [b] = ntsB b := by unfold nts; simp
theorem last_of {ns : List Nt} {i : Nat} {l : List Nt} {x : Nt} (hi : i ≤ ns.length) (h : ns.take i = l ++ [x]) : ∃ j, i = j + 1 ∧ ns[j]? = some x := by
  cases i with
  | zero =>
    rw [List.take_zero] at h
    exact absurd h.symm (by simp)
  | succ j =>
    have hj : ns[j]? = some ns[j] := List.getElem?_eq_getElem (by omega)
    rw [take_add_one' hj] at h
    have := (List.append_inj' h rfl).2
    injection this with e _
    exact ⟨j, rfl, by rw [hj, e]⟩
theorem nts_tidy {ns : List Nt} (hc : ∀ (i : Nat) (a b : Nt), ns[i]? = some a → ns[i + 1]? = some b → okN a b) (hp : ∀ n ∈ ns, n.pos) : ∀ i, i ≤ ns.length → nts (tidy ((ns.take i).map Nt.part)) = ns.take i
  | 0, _ => rfl
  | i + 1, hi => by
    have hn : ns[i]? = some ns[i] := List.getElem?_eq_getElem (by omega)
    have ih := nts_tidy hc hp i (by omega)
    have hpos := hp _ (List.getElem_mem (by omega : i < ns.length))
    rw [tidy_map_take hn, take_add_one' hn]
    generalize ns[i] = n at hn hpos
    have prev : ∀ {l : List Nt} {x : Nt}, nts (tidy ((ns.take i).map Nt.part)) = l ++ [x] → okN x n := fun {l x} h => by
      rw [ih] at h
      obtain ⟨j, e, hj⟩ := last_of (by omega) h
      exact hc j x n hj (by rw [← e]; exact hn)
    generalize tidy ((ns.take i).map Nt.part) = T at ih prev
    cases n with
    | eq ks =>
      have ne : (Blk.keep ks).empty = false := by
        cases ks with
        | nil => exact absurd hpos.1 (by decide)
        | cons a r => rfl
      have e : tidyStep T (Nt.eq ks).part = T ++ [.keep ks] := tidy_new ne fun b hb => by
        obtain ⟨ta, rfl⟩ := List.getLast?_eq_some_iff.mp hb
        cases b with
        | swap g c => intro q; cases q
        | keep js =>
          have := (prev (l := nts ta) (x := .eq js) (by rw [nts_app, nts_one]; rfl)).1
          cases this
      rw [e, nts_app, nts_one, ih]
      rfl
    | cut z =>
      rcases tidy_split T with rfl | ⟨ta, b, rfl, el⟩
      · have e : tidyStep [] (Nt.cut z).part = [] ++ [.swap [z] []] := tidy_new rfl fun b hb => by cases hb
        rw [e, nts_app, nts_one, ih]
        rfl
      · cases b with
        | keep js =>
          have e : tidyStep (ta ++ [.keep js]) (Nt.cut z).part = (ta ++ [.keep js]) ++ [.swap [z] []] := tidy_new rfl fun b hb => by
            rw [el] at hb
            cases hb
            intro q; cases q
          rw [e, nts_app, nts_one, ih]
          rfl
        | swap g c =>
          have hc0 : c = [] := by
            by_cases hne : c = []
            · exact hne
            · exfalso
              have ec := (List.dropLast_concat_getLast hne).symm
              have := (prev (l := nts ta ++ (g.map Nt.cut ++ c.dropLast.map Nt.put)) (x := .put (c.getLast hne)) (by
                rw [nts_app, nts_one]
                show nts ta ++ (g.map Nt.cut ++ c.map Nt.put) = _
                conv => lhs; rw [ec]
                rw [List.map_append, List.append_assoc, List.append_assoc]
                rfl)).2
              cases this
          subst hc0
          have e : tidyStep (ta ++ [.swap g []]) (Nt.cut z).part = ta ++ [.swap (g ++ [z]) []] := tidy_more rfl rfl
          rw [e, nts_app, nts_one, ← ih, nts_app, nts_one]
          show nts ta ++ ((g ++ [z]).map Nt.cut ++ []) = nts ta ++ (g.map Nt.cut ++ []) ++ [.cut z]
          rw [List.append_nil, List.append_nil, List.map_append, ← List.append_assoc]
          rfl
    | put z =>
      rcases tidy_split T with rfl | ⟨ta, b, rfl, el⟩
      · have e : tidyStep [] (Nt.put z).part = [] ++ [.swap [] [z]] := tidy_new rfl fun b hb => by cases hb
        rw [e, nts_app, nts_one, ih]
        rfl
      · cases b with
        | keep js =>
          have e : tidyStep (ta ++ [.keep js]) (Nt.put z).part = (ta ++ [.keep js]) ++ [.swap [] [z]] := tidy_new rfl fun b hb => by
            rw [el] at hb
            cases hb
            intro q; cases q
          rw [e, nts_app, nts_one, ih]
          rfl
        | swap g c =>
          have e : tidyStep (ta ++ [.swap g c]) (Nt.put z).part = ta ++ [.swap (g ++ []) (c ++ [z])] := tidy_more rfl rfl
          rw [e, List.append_nil, nts_app, nts_one, ← ih, nts_app, nts_one]
          show nts ta ++ (g.map Nt.cut ++ (c ++ [z]).map Nt.put) = nts ta ++ (g.map Nt.cut ++ c.map Nt.put) ++ [.put z]
          rw [List.map_append, List.append_assoc, List.append_assoc]
          rfl
end Rm

set_option Elab.async false
set_option linter.all false
set_option maxRecDepth 100000
set_option maxHeartbeats 4000000
namespace Rm
open PySem L2 My
def spLaw (K : PySem.W.Frag) : Sp := fun vs H Q _ => ∃ (a : Addr) (ns : List Int), vs = [.ref a] ∧ SqL K H a (ns.map V.int) ∧ ns.length ≤ 63 ∧ ∀ H', Q (.bl true) H'
theorem pickPM {i : Int} (h0 : 0 ≤ i) (h1 : i < 2) : ∃ c, atI ("+-" : Str).cps.toList i = some c ∧ c < 128 := by
  have : i = 0 ∨ i = 1 := by omega
  rcases this with rfl | rfl
  · exact ⟨43, by decide +kernel, by decide⟩
  · exact ⟨45, by decide +kernel, by decide⟩
theorem menu_len : menuT.length = 15 := by decide +kernel
theorem pickMenu {i : Int} (h0 : 0 ≤ i) (h1 : i < 15) : ∃ x, atI (menuT.map V.str) i = some (.str x) ∧ AscN x := by
  obtain ⟨k, rfl⟩ := Int.eq_ofNat_of_zero_le h0
  have hk : k < menuT.length := by rw [menu_len]; omega
  exact ⟨menuT[k], atI_nat (get_map (List.getElem?_eq_getElem hk)), menu_asc _ (List.getElem_mem hk)⟩
theorem slice_le1 (x : Str) (hx : x.length ≤ 400) : (Txt.slice x none (some 1)).length ≤ 400 := Nat.le_trans (PySem.Txt.slice_le x _ _) hx
section
variable {P : Program} {w : World} {K : PySem.W.Frag} {mg : Str → Option Value} {base : Heap}
theorem sc_law : FnScope ["_law_script", "_law_menu", "_law_wide", "_law_notes", "_law_last", "_law_cell", "_law_note", "_law_fits", "_law_spot", "_law_handed", "_law_found", "_law_refused"] ["_law_script"] (defScope s_law) := ⟨rfl, rfl, rfl, by decide +kernel, rfl, by decide +kernel, by decide +kernel⟩
theorem ok_law {f fH fA fO fR fS fT fG fI fW fN C : Addr} {fd dH dA dO dR dS dT dG dI dW dN : FuncData} (F : Fun K "law" "law" s_law f fd)
    (GH : FnOk P w K mg base CX0 4 fH dH ["_law_script", "_law_k"] (spNth K)) (kH : PySem.W.keepIn K (.ref fH) = true) (bH : Binds K dH ["_law_script", "_law_k"] []) (mH : mg "_law_nth" = some (.ref fH))
    (GA : FnOk P w K mg base CX0 4 fA dA ["_law_cell"] spAnyX) (kA : PySem.W.keepIn K (.ref fA) = true) (bA : Binds K dA ["_law_cell"] []) (mA : mg "_law_any_text" = some (.ref fA))
    (GO : FnOk P w K mg base CX0 4 fO dO ["_law_notes", "_law_way", "_law_cell"] spNoughted) (kO : PySem.W.keepIn K (.ref fO) = true) (bO : Binds K dO ["_law_notes", "_law_way", "_law_cell"] []) (mO : mg "_law_noughted" = some (.ref fO))
    (GR : FnOk P w K mg base (CXR P w) 4 fR dR ["notes"] (spReadX C)) (kR : PySem.W.keepIn K (.ref fR) = true) (bR : Binds K dR ["notes"] []) (mR : mg "read" = some (.ref fR))
    (GS : FnOk P w K mg base CX0 4 fS dS ["_law_found", "_law_due"] spSame) (kS : PySem.W.keepIn K (.ref fS) = true) (bS : Binds K dS ["_law_found", "_law_due"] []) (mS : mg "_law_same_lines" = some (.ref fS))
    (GT : FnOk P w K mg base CX0 4 fT dT ["_law_notes"] spTells) (kT : PySem.W.keepIn K (.ref fT) = true) (bT : Binds K dT ["_law_notes"] []) (mT : mg "_law_base_tells" = some (.ref fT))
    (GG : FnOk P w K mg base CX0 4 fG dG ["_law_notes"] spGood) (kG : PySem.W.keepIn K (.ref fG) = true) (bG : Binds K dG ["_law_notes"] []) (mG : mg "_law_good" = some (.ref fG))
    (GI : FnOk P w K mg base CX0 4 fI dI ["_law_found"] spIsChangeX) (kI : PySem.W.keepIn K (.ref fI) = true) (bI : Binds K dI ["_law_found"] []) (mI : mg "_law_is_change" = some (.ref fI))
    (GW : FnOk P w K mg base CX0 4 fW dW ["_law_notes"] spToldBy) (kW : PySem.W.keepIn K (.ref fW) = true) (bW : Binds K dW ["_law_notes"] []) (mW : mg "_law_told_by" = some (.ref fW))
    (GN : FnOk P w K mg base CX0 4 fN dN ["change"] spShownX) (kN : PySem.W.keepIn K (.ref fN) = true) (bN : Binds K dN ["change"] []) (mN : mg "shown" = some (.ref fN))
    (qC : PySem.W.excIn K C bmV "ValueError.__new__" = true) (mX : mg "NoChange" = some (.ref C)) (B : Bn mg) : FnOk P w K mg base CX0 5 f fd ["_law_script"] (spLaw K) := by
  refine F.ok sc_law (fun vs H Q E h => ?_) (fun cdv A outer s H vs Q E hr h => ?_)
  · obtain ⟨a, ns, rfl, _⟩ := h
    rfl
  obtain ⟨a, ns, rfl, hS, h63, k⟩ := h
  have hu := hr.units0
  refine ⟨_, pss_cons (ps_set (i := 1) sc_law.nd rfl (Or.inl rfl) (pe_lst (pa_cons pe_str (pa_cons pe_str (pa_cons pe_str (pa_cons pe_str (pa_cons pe_str (pa_cons pe_str (pa_cons pe_str (pa_cons pe_str pa_nil))))))))))
    (pss_cons (ps_set (i := 1) sc_law.nd rfl (Or.inl rfl) (pe_op op_cat (pv 1) (pe_lst (pa_cons pe_str (pa_cons pe_str (pa_cons pe_str (pa_cons pe_str (pa_cons pe_str (pa_cons pe_str (pa_cons pe_str pa_nil))))))))))
    (pss_cons (ps_set (i := 2) sc_law.nd rfl (Or.inl rfl) pe_int)
    (pss_cut (ps_if (pt_cmpR op_gt (pe_op op_mod (pe_call GH hr rfl mH kH bH .nil pass0 (pa_cons (pv 0) (pa_cons pe_int pa_nil))) pe_int) pe_int (nomark _)) (pss_one (ps_set (i := 2) sc_law.nd rfl (Or.inl rfl) pe_int)) pss_nil)
    (pss_cons (ps_set (i := 3) sc_law.nd rfl (Or.inl rfl) (pe_lst pa_nil))
    (pss_cons (ps_set (i := 4) sc_law.nd rfl (Or.inl rfl) pe_str)
    (pss_cons (ps_for PassesOwn.never rfl (pi_list (pe_slice sl_list (pv 0) (po_some pe_int) (po_some pe_int))) (pg_name (i := 5) sc_law.nd rfl (Or.inl rfl))
      (pss_cons (ps_set (i := 6) sc_law.nd rfl (Or.inl rfl) (pe_ix ix_list (pv 1) (pe_op op_mod (pv 5) (pv 2)) (fun _ _ => rfl)))
      (pss_cut (ps_if (pt_cmpR op_eq (pe_op op_mod (pv 5) pe_int) pe_int (nomark _)) (pss_one (ps_set (i := 6) sc_law.nd rfl (Or.inl rfl) (pe_op op_add_str (pe_ix ix_str pe_str (pe_op op_mod (pe_op op_fdiv (pv 5) pe_int) pe_int) (fun _ _ => rfl)) (pe_call GA hr rfl mA kA bA .nil pass0 (pa_cons (pv 5) pa_nil))))) pss_nil)
      (pss_cut (ps_if (pt_cmpR op_eq (pe_op op_mod (pv 5) pe_int) pe_int (nomark _)) (pss_one (ps_set (i := 6) sc_law.nd rfl (Or.inl rfl) (pe_op op_add_str pe_str (pe_callTy call_str_int rfl B.str PyProof.Rows.boot_str (pa_cons (pe_op op_add pe_int (pe_op op_mod (pe_callB call_abs rfl B.abs PyProof.Rows.boot_abs (pa_cons (pv 5) pa_nil)) (pe_op op_pow pe_int pe_int))) pa_nil))))) pss_nil)
      (pss_cut (ps_if (PW.pt (pw_and (pt_cmpR op_eq (pe_op op_mod (pv 5) pe_int) pe_int (nomark _)) (pw_and1 (pt_cmpR op_eq (pv 2) pe_int (nomark _))))) (pss_one (ps_set (i := 6) sc_law.nd rfl (Or.inl rfl) (pe_call GA hr rfl mA kA bA .nil pass0 (pa_cons (pv 5) pa_nil)))) pss_nil)
      (pss_cut (ps_set (i := 7) sc_law.nd rfl (Or.inl rfl) (pe_not (pe_or (pe_and (pe_cmpR op_eq (pv 4) pe_str (nomark _)) (pe_one (pe_cmpR op_eq (pe_slice sl_str (pv 6) po_none (po_some pe_int)) pe_str (nomark _))))
        (pe_one (pe_and (pe_cmpR op_eq (pv 4) pe_str (nomark _)) (pe_one (pe_cmpR op_eq (pe_slice sl_str (pv 6) po_none (po_some pe_int)) pe_str (nomark _))))))))
      (pss_one (ps_if (PW.pt (pw_or (pt_val (pv 7)) (pw_or1 (pt_cmpR op_eq (pe_op op_mod (pe_call GH hr rfl mH kH bH .nil pass0 (pa_cons (pv 0) (pa_cons pe_int pa_nil))) pe_int) pe_int (nomark _)))))
        (pss_cons (ps_expr (pe_bm PySem.F.plainAttrs_list PySem.F.slot_list_append PySem.F.type_list_append mt_append (pv 3) (pa_cons (pv 6) pa_nil)))
        (pss_one (ps_set (i := 4) sc_law.nd rfl (Or.inl rfl) (pe_slice sl_str (pv 6) po_none (po_some pe_int))))) pss_nil))))))))
    (pss_cut (ps_if (pt_cmpR op_eq (pe_op op_mod (pe_call GH hr rfl mH kH bH .nil pass0 (pa_cons (pv 0) (pa_cons pe_int pa_nil))) pe_int) pe_int (nomark _))
      (pss_cons (ps_set (i := 8) sc_law.nd rfl (Or.inl rfl) (pe_op op_mod (pe_call GH hr rfl mH kH bH .nil pass0 (pa_cons (pv 0) (pa_cons pe_int pa_nil))) (pe_op op_add (pe_callB call_len_seq rfl B.len PySem.boot_len (pa_cons (pv 3) pa_nil)) pe_int)))
      (pss_one (ps_expr (pe_bm PySem.F.plainAttrs_list PySem.F.slot_list_insert PySem.F.type_list_insert mt_insert (pv 3) (pa_cons (pv 8) (pa_cons (pe_ix ix_list (pv 1) (pe_op op_mod (pe_op op_fdiv (pe_call GH hr rfl mH kH bH .nil pass0 (pa_cons (pv 0) (pa_cons pe_int pa_nil))) pe_int) pe_int) (fun _ _ => rfl)) pa_nil)))))) pss_nil)
    (pss_cons (ps_set (i := 3) sc_law.nd rfl (Or.inl rfl) (pe_call GO hr rfl mO kO bO .nil pass0 (pa_cons (pv 3) (pa_cons (pe_call GH hr rfl mH kH bH .nil pass0 (pa_cons (pv 0) (pa_cons pe_int pa_nil))) (pa_cons (pe_call GH hr rfl mH kH bH .nil pass0 (pa_cons (pv 0) (pa_cons pe_int pa_nil))) pa_nil)))))
    (pss_cons (ps_set (i := 9) sc_law.nd rfl (Or.inl rfl) (pe_callTy call_list_of rfl B.list PyProof.Rows.boot_list (pa_cons (pv 3) pa_nil)))
    (pss_cons (ps_set (i := 10) sc_law.nd rfl (Or.inl rfl) pe_non)
    (pss_cons (ps_set (i := 11) sc_law.nd rfl (Or.inl rfl) pe_bl)
    (pss_cons (ps_try (C := C) ⟨rfl, rfl, rfl⟩ qC rfl mX
      (fun ok pins J => pss_one (ps_set (i := 10) sc_law.nd rfl (Or.inl rfl) (pe_callX ok GR hr rfl mR kR bR .nil (pa_cons (pv 9) pa_nil))))
      (fun e => pss_one (ps_set (i := 11) sc_law.nd rfl (Or.inl rfl) pe_bl)))
    (pss_cons (ps_if (PW.pt (pw_or (pt_not (pt_val (pe_call GS hr rfl mS kS bS .nil pass0 (pa_cons (pv 9) (pa_cons (pv 3) pa_nil))))) (pw_or1 (pt_cmpR op_ne (pe_call GT hr rfl mT kT bT .nil pass0 (pa_cons (pv 9) pa_nil)) (pv 11) (nomark _))))) (pss_one (ps_ret pe_bl)) pss_nil)
    (pss_cons (ps_if (pt_not (pt_val (pe_call GG hr rfl mG kG bG .nil pass0 (pa_cons (pv 3) pa_nil)))) (pss_one (ps_ret (pv 11))) pss_nil)
    (pss_cons (ps_if (PW.pt (pw_or (pt_val (pv 11)) (pw_or (pt_not (pt_val (pe_call GI hr rfl mI kI bI .nil pass0 (pa_cons (pv 10) pa_nil)))) (pw_or1 (pt_cmpR (op_neC hu hr.in1.units0 hr.in1.in1.units0) (pv 10) (pe_call GW hr rfl mW kW bW .nil pass0 (pa_cons (pv 3) pa_nil)) (nomark _)))))) (pss_one (ps_ret pe_bl)) pss_nil)
    (pss_one (ps_ret (pe_call GS hr rfl mS kS bS .nil pass0 (pa_cons (pe_call GN hr rfl mN kN bN .nil pass0 (pa_cons (pv 10) pa_nil)) (pa_cons (pv 3) pa_nil)))))))))))))))))))), ?_⟩
  have hln : (ns.map V.int).length = ns.length := List.length_map _
  -- the menu
  refine ⟨(by show 8 ≤ sizeLine; decide), fun m1 g1 => ?_⟩
  have t1 := same_new g1 (.lst [.str "=2", .str "-a", .str "+b", .str "-", .str "+", .str "=10", .str "+=1", .str "=1000000000000000000000"])
  refine ⟨_, rfl, (by show 7 ≤ sizeLine; decide), fun m2 g2 => ?_⟩
  have t2 := same_new g2 (.lst [.str "=0", .str "=", .str "=01", .str "a", .str "", .str "=-1", .str "= 1"])
  refine ⟨m1, m2, _, _, rfl, rfl, t2 _ _ upd_same, upd_same, (by show 15 ≤ sizeLine; decide), fun mn g3 => ?_⟩
  have t3 := same_new g3 (txt menuT)
  have hmn : upd (upd (upd H m1 (.lst [.str "=2", .str "-a", .str "+b", .str "-", .str "+", .str "=10", .str "+=1", .str "=1000000000000000000000"])) m2 (.lst [.str "=0", .str "=", .str "=01", .str "a", .str "", .str "=-1", .str "= 1"])) mn (txt menuT) mn = some (txt menuT) := upd_same
  have sH : Same H (upd (upd (upd H m1 (.lst [.str "=2", .str "-a", .str "+b", .str "-", .str "+", .str "=10", .str "+=1", .str "=1000000000000000000000"])) m2 (.lst [.str "=0", .str "=", .str "=01", .str "a", .str "", .str "=-1", .str "= 1"])) mn (txt menuT)) := t1.trans (t2.trans t3)
  show gName 1 (V.ref mn) _ (upd (upd (upd H m1 (.lst [.str "=2", .str "-a", .str "+b", .str "-", .str "+", .str "=10", .str "+=1", .str "=1000000000000000000000"])) m2 (.lst [.str "=0", .str "=", .str "=01", .str "a", .str "", .str "=-1", .str "= 1"])) mn (txt menuT)) _
  generalize hHm : upd (upd (upd H m1 (.lst [.str "=2", .str "-a", .str "+b", .str "-", .str "+", .str "=10", .str "+=1", .str "=1000000000000000000000"])) m2 (.lst [.str "=0", .str "=", .str "=01", .str "a", .str "", .str "=-1", .str "= 1"])) mn (txt menuT) = Hm at hmn sH
  have hSm : SqL K Hm a (ns.map V.int) := sH.seq hS
  -- how wide
  refine ⟨fun σ' H' => ∃ wd : Int, σ' = [some (.ref a), some (.ref mn), some (.int wd), none, none, none, none, none, none, none, none, none] ∧ H' = Hm ∧ 8 ≤ wd ∧ wd ≤ 15, ?_, ?_⟩
  · refine ⟨_, rfl, a, ns, 0, rfl, hSm, fun i0 => ⟨_, _, rfl, rfl, (by show (0 : Int) < 3; decide), _, _, rfl, rfl, _, rfl, ite2d (fun _ => ⟨8, rfl, rfl, by decide, by decide⟩) (fun _ => ⟨15, rfl, rfl, by decide, by decide⟩)⟩⟩
  rintro σ' H' ⟨wd, rfl, rfl, w8, w15⟩
  refine ⟨(by show 0 ≤ sizeLine; decide), fun nl g4 => ?_⟩
  have t4 := same_new g4 (.lst [])
  refine ⟨_, rfl, _, rfl, _, rfl, a, _, rfl, t4.seq hSm, fun u g5 => ?_⟩
  have t5 := same_new g5 (.lst (cutV (ns.map V.int) (some 2) (some 400)))
  rw [cut_map] at t5 ⊢
  generalize hc1 : cutG ns (some 2) (some 400) = c1 at t5
  have lc1 : c1.length ≤ 63 := by
    rw [← hc1]
    have := cut_len ns (some 2) (some 400)
    omega
  have unl : u ≠ nl := (ne_of_none upd_same g5).symm
  refine ⟨u, rfl, ⟨_, SqL.of upd_same⟩, for_list (K := K) (a := u) (xs := c1.map V.int)
    (fun i σ H2 => ∃ (la : Str) (v5 v6 v7 : Option V) (xs : List Str), σ = [some (.ref a), some (.ref mn), some (.int wd), some (.ref nl), some (.str la), v5, v6, v7, none, none, none, none] ∧ Same H' H2 ∧ H2 u = some (.lst (c1.map V.int)) ∧ H2 nl = some (txt xs) ∧ xs.length ≤ i ∧ ∀ x ∈ xs, AscN x)
    ⟨"", none, none, none, [], rfl, t4.trans t5, upd_same, t5 _ _ upd_same, Nat.le_refl _, (fun x h => nomatch h)⟩ (fun i σ H2 _ ⟨_, _, _, _, _, _, _, h, _⟩ => SqL.of h) ?_ ?_⟩
  · rintro i y σ H2 hi ⟨la, v5, v6, v7, xs, rfl, s2, hu2, hn2, lx, hasc⟩
    obtain ⟨c, hci, rfl⟩ := map_get hi
    have hil : i < c1.length := (List.getElem?_eq_some_iff.mp hci).1
    -- one of the menu
    have d0 : 0 ≤ c % wd := Int.emod_nonneg _ (by omega)
    have d1 : c % wd < wd := Int.emod_lt_of_pos _ (by omega)
    obtain ⟨x0, hx0, ax0⟩ := pickMenu (i := c % wd) d0 (by omega)
    refine ⟨_, rfl, _, rfl, _, rfl, _, _, rfl, rfl, (by show 0 < wd; omega), mn, _, _, _, rfl, rfl, SqL.of (s2 _ _ hmn), hx0, ?_⟩
    -- a text behind a sign
    refine ⟨fun σ' H3 => ∃ x : Str, σ' = [some (.ref a), some (.ref mn), some (.int wd), some (.ref nl), some (.str la), some (.int c), some (.str x), v7, none, none, none, none] ∧ H3 = H2 ∧ AscN x, ?_, ?_⟩
    · refine ⟨_, rfl, _, _, rfl, rfl, (by show (0 : Int) < 11; decide), rfl, _, rfl, ite2d (fun _ => ?_) (fun _ => ⟨x0, rfl, rfl, ax0⟩)⟩
      obtain ⟨pm, hpm, lpm⟩ := pickPM (i := c / 11 % 2) (Int.emod_nonneg _ (by decide)) (Int.emod_lt_of_pos _ (by decide))
      obtain ⟨o1, o2⟩ := one_any pm lpm (any_asc c).1 (any_asc c).2
      refine ⟨_, rfl, _, _, rfl, rfl, ⟨by decide, by decide⟩, _, _, rfl, rfl, (by show (0 : Int) < 2; decide), _, _, _, rfl, rfl, (by decide +kernel), hpm, _, rfl, c, rfl, one pm, anyText c, rfl, rfl, small (by omega), ?_⟩
      exact ⟨_, rfl, rfl, o1⟩
    rintro σ' H3 ⟨x1, rfl, e3, ax1⟩
    subst e3
    -- a number
    refine ⟨fun σ' H4 => ∃ x : Str, σ' = [some (.ref a), some (.ref mn), some (.int wd), some (.ref nl), some (.str la), some (.int c), some (.str x), v7, none, none, none, none] ∧ H4 = H3 ∧ AscN x, ?_, ?_⟩
    · refine ⟨_, rfl, _, _, rfl, rfl, (by show (0 : Int) < 11; decide), rfl, _, rfl, ite2d (fun _ => ?_) (fun _ => ⟨x1, rfl, rfl, ax1⟩)⟩
      refine ⟨_, rfl, c, rfl, _, _, rfl, rfl, ⟨by decide, by decide, by decide⟩, _, _, rfl, rfl, (by show (0 : Int) < 10 ^ 59; decide), _, _, rfl, rfl, _, rfl, ?_⟩
      have z0 : 0 ≤ (if c < 0 then -c else c) % ((10 : Int) ^ (59 : Int).toNat) := Int.emod_nonneg _ (by decide)
      have z1 : (if c < 0 then -c else c) % ((10 : Int) ^ (59 : Int).toNat) < 10 ^ 59 := Int.emod_lt_of_pos _ (by decide)
      generalize (if c < 0 then -c else c) % ((10 : Int) ^ (59 : Int).toNat) = z at z0 z1
      have z2 : 1 + z < 10 ^ 60 := Int.lt_of_le_of_lt (Int.add_le_add_left (Int.le_of_lt z1) 1) (by decide)
      obtain ⟨q1, q2⟩ := num_asc (i := 1 + z) (by omega) z2
      obtain ⟨o1, o2⟩ := one_any 61 (by decide) (y := Str.ofString (toString (1 + z))) (by omega) q2
      refine ⟨num_log (by omega) z2, "=", Str.ofString (toString (1 + z)), rfl, rfl, ?_, ?_⟩
      · rw [e_eq]; exact small (by omega)
      · exact ⟨_, rfl, rfl, by rw [e_eq]; exact o1⟩
    rintro σ' H4 ⟨x2, rfl, e4, ax2⟩
    subst e4
    -- any text
    refine ⟨fun σ' H5 => ∃ x : Str, σ' = [some (.ref a), some (.ref mn), some (.int wd), some (.ref nl), some (.str la), some (.int c), some (.str x), v7, none, none, none, none] ∧ H5 = H4 ∧ AscN x, ?_, ?_⟩
    · refine ⟨_, rfl, _, _, rfl, rfl, (by show (0 : Int) < 11; decide), rfl, _, rfl, ite2d (fun _ => ?_) (fun _ => iteF ⟨x2, rfl, rfl, ax2⟩)⟩
      refine ⟨_, rfl, rfl, _, rfl, ite2d (fun _ => ?_) (fun _ => ⟨x2, rfl, rfl, ax2⟩)⟩
      exact ⟨_, rfl, c, rfl, _, rfl, rfl, any_ascN c⟩
    rintro σ' H5 ⟨x, rfl, e5, ax⟩
    subst e5
    have lx4 : x.length ≤ sizeLine := small (by have := ax.2; omega)
    -- whether it may stand there
    have hSa : SqL K H5 a (ns.map V.int) := s2.seq hSm
    have ls1 : (Txt.slice x none (some 1)).length ≤ 400 := slice_le1 x (by have := ax.2; omega)
    have ys : Same H' (upd H5 nl (.lst (xs.map V.str ++ [.str x]))) ∧ upd H5 nl (.lst (xs.map V.str ++ [.str x])) u = some (.lst (c1.map V.int)) ∧ upd H5 nl (.lst (xs.map V.str ++ [.str x])) nl = some (txt (xs ++ [x])) ∧ (xs ++ [x]).length ≤ i + 1 ∧ ∀ y ∈ xs ++ [x], AscN y :=
      ⟨same_put g4 s2, by rw [upd_ne unl]; exact hu2, by rw [upd_same]; show some (HO.lst _) = some (HO.lst _); rw [List.map_append]; rfl, by rw [List.length_append, List.length_singleton]; omega, fun y hy => by
        rcases List.mem_append.mp hy with z | z
        · exact hasc y z
        · rw [List.mem_singleton.mp z]; exact ax⟩
    have lnl : (xs.map V.str).length < sizeLine := by rw [List.length_map]; exact small' (by omega)
    refine ⟨fun σ' H6 => ∃ b : Bool, σ' = [some (.ref a), some (.ref mn), some (.int wd), some (.ref nl), some (.str la), some (.int c), some (.str x), some (.bl b), none, none, none, none] ∧ H6 = H5, ?_, ?_⟩
    · refine ⟨_, rfl, rfl, _, rfl, ite2d (fun _ => ?_) (fun _ => ?_)⟩
      · refine ⟨_, rfl, _, rfl, _, rfl, lx4, rfl, ?_⟩
        refine ⟨_, rfl, ite2d (fun _ => ⟨_, rfl, _, rfl, rfl⟩) (fun _ => ?_)⟩
        refine ⟨_, rfl, rfl, _, rfl, ite2d (fun _ => ?_) (fun _ => ⟨_, rfl, _, rfl, rfl⟩)⟩
        exact ⟨_, rfl, _, rfl, _, rfl, lx4, rfl, _, rfl, _, rfl, rfl⟩
      · refine ⟨_, rfl, iteF ?_⟩
        refine ⟨_, rfl, rfl, _, rfl, ite2d (fun _ => ?_) (fun _ => ⟨_, rfl, _, rfl, rfl⟩)⟩
        exact ⟨_, rfl, _, rfl, _, rfl, lx4, rfl, _, rfl, _, rfl, rfl⟩
    rintro σ' H6 ⟨b, rfl, e6⟩
    subst e6
    refine ⟨_, rfl, _, rfl, ?_⟩
    cases b with
    | true =>
      refine iteT (iteT ?_)
      refine ⟨_, rfl, .inl ⟨rfl, _, SqL.of hn2⟩, _, rfl, nl, _, _, rfl, rfl, hn2, lnl, ?_⟩
      exact ⟨_, rfl, _, rfl, _, rfl, lx4, _, _, _, _, xs ++ [x], rfl, ys.1, ys.2.1, ys.2.2.1, ys.2.2.2.1, ys.2.2.2.2⟩
    | false =>
      refine iteF ?_
      refine ⟨_, rfl, a, ns, 0, rfl, hSa, fun i3 => ⟨_, _, rfl, rfl, (by show (0 : Int) < 3; decide), rfl, _, rfl, ite2d (fun _ => ?_) (fun _ => ⟨la, _, _, _, xs, rfl, s2, hu2, hn2, by omega, hasc⟩)⟩⟩
      refine ⟨_, rfl, .inl ⟨rfl, _, SqL.of hn2⟩, _, rfl, nl, _, _, rfl, rfl, hn2, lnl, ?_⟩
      exact ⟨_, rfl, _, rfl, _, rfl, lx4, _, _, _, _, xs ++ [x], rfl, ys.1, ys.2.1, ys.2.2.1, ys.2.2.2.1, ys.2.2.2.2⟩
  rintro σ H2 ⟨la, v5, v6, v7, xs, rfl, s2, hu2, hn2, lx, hasc⟩
  have lx63 : xs.length ≤ 63 := by
    rw [List.length_map] at lx
    omega
  have hS2 : SqL K H2 a (ns.map V.int) := s2.seq hSm
  have hlx : (xs.map V.str).length = xs.length := List.length_map _
  -- one more put in
  refine ⟨fun σ' H3 => ∃ (v8 : Option V) (zs : List Str), σ' = [some (.ref a), some (.ref mn), some (.int wd), some (.ref nl), some (.str la), v5, v6, v7, v8, none, none, none] ∧ Same H' H3 ∧ H3 nl = some (txt zs) ∧ zs.length ≤ 64 ∧ ∀ x ∈ zs, AscN x, ?_, ?_⟩
  · refine ⟨_, rfl, a, ns, 0, rfl, hS2, fun i0 => ⟨_, _, rfl, rfl, (by show (0 : Int) < 3; decide), rfl, _, rfl, ite2d (fun _ => ?_) (fun _ => ⟨_, xs, rfl, s2, hn2, by omega, hasc⟩)⟩⟩
    refine ⟨_, rfl, a, ns, 1, rfl, hS2, fun i1 => ?_⟩
    refine ⟨_, rfl, nl, _, rfl, .inl (SqL.of hn2), _, _, rfl, rfl, _, _, rfl, rfl, (by rw [hlx]; omega), ?_⟩
    have q0 : 0 ≤ i1 % ((((xs.map V.str).length : Nat) : Int) + 1) := Int.emod_nonneg _ (by omega)
    have q1 : i1 % ((((xs.map V.str).length : Nat) : Int) + 1) < (((xs.map V.str).length : Nat) : Int) + 1 := Int.emod_lt_of_pos _ (by omega)
    refine ⟨_, rfl, .inl ⟨rfl, _, SqL.of hn2⟩, _, rfl, _, rfl, _, rfl, a, ns, 1, rfl, hS2, fun i2 => ?_⟩
    obtain ⟨x, hx, ax⟩ := pickMenu (i := i2 / 7 % 15) (Int.emod_nonneg _ (by decide)) (Int.emod_lt_of_pos _ (by decide))
    refine ⟨_, _, rfl, rfl, ⟨by decide, by decide⟩, _, _, rfl, rfl, (by show (0 : Int) < 15; decide), mn, _, _, _, rfl, rfl, SqL.of (s2 _ _ hmn), hx, ?_⟩
    obtain ⟨k, hk⟩ := Int.eq_ofNat_of_zero_le q0
    have hk' : k ≤ (xs.map V.str).length := by omega
    refine ⟨nl, _, _, k, _, rfl, rfl, hk, hn2, hk', by rw [hlx]; exact small' (by omega), ?_⟩
    refine ⟨_, xs.take k ++ x :: xs.drop k, rfl, same_put g4 s2, ?_, ?_, fun y hy => ?_⟩
    · rw [upd_same]
      show some (HO.lst _) = some (HO.lst ((xs.take k ++ x :: xs.drop k).map V.str))
      rw [List.map_append, List.map_cons, List.map_take, List.map_drop]
    · rw [List.length_append, List.length_cons, List.length_take, List.length_drop]; omega
    · rcases List.mem_append.mp hy with z | z
      · exact hasc y (List.mem_of_mem_take z)
      · rcases List.mem_cons.mp z with z | z
        · rw [z]; exact ax
        · exact hasc y (List.mem_of_mem_drop z)
  clear hlx hS2 lx63 hn2 hu2 s2 hasc lx
  rintro σ' H3 ⟨v8, zs, rfl, s3, hn3, lz, hasc⟩
  have hS3 : SqL K H3 a (ns.map V.int) := s3.seq hSm
  -- a nought
  refine ⟨_, rfl, _, rfl, a, ns, 0, rfl, hS3, fun j0 => ⟨_, rfl, a, ns, 1, rfl, hS3, fun j1 => ?_⟩⟩
  refine ⟨nl, zs, j0, j1, rfl, hn3, by omega, fun x hx => hasc x hx, fun nn ys H4 s4 hf hn4 ly ha => ?_⟩
  refine ⟨_, rfl, nn, _, rfl, .inl (SqL.of hn4), fun hd g6 => ?_⟩
  have s5 := same_new g6 (txt ys)
  have hh5 : upd H4 hd (txt ys) hd = some (txt ys) := upd_same
  have hn5 := s5 _ _ hn4
  have al : ∀ x ∈ ys, x.length ≤ 400 := fun x hx => (ha x hx).1
  have ly2 : ys.length ≤ 64 := by omega
  show tTry C _ _ _ _ (upd H4 hd (txt ys))
  generalize upd H4 hd (txt ys) = H5 at s5 hh5 hn5
  rcases good_cases ys with ⟨hg, hb, ⟨n0, hc⟩⟩ | ⟨hg, hb⟩
  · -- good notes
    refine ⟨fun _ _ _ => False, ?_, fun _ _ _ z => z.elim⟩
    refine ⟨_, rfl, hd, ys, rfl, hh5, by omega, ha, fun nt h1 h2 fo H6 s6 hfo => ?_, fun z => by
      rcases z with z | z
      · rw [hb] at z; cases z
      · rw [hc] at z; cases z⟩
    obtain ⟨ln, _⟩ := clsAll_at h2
    obtain ⟨et, hpos⟩ := clsAll_text h2 al
    have chain := cls_chain h2 al h1
    have eN : nts (tidy (nt.map Nt.part)) = nt := by
      have := nts_tidy chain hpos nt.length (Nat.le_refl _)
      rw [List.take_length] at this
      exact this
    have lb : (tidy (nt.map Nt.part)).length ≤ nt.length := by
      have := tidy_len_le (nt.map Nt.part) []
      rw [List.length_map] at this
      simp only [List.length_nil] at this
      unfold tidy
      omega
    have so : (sOf (tidy (nt.map Nt.part))).length ≤ nt.length ∧ (sNf (tidy (nt.map Nt.part))).length ≤ nt.length := by
      rw [tidy_sO, tidy_sN]
      exact part_sw nt
    have fi : Fine (tidy (nt.map Nt.part)) := tidy_Fine _
    generalize hbs : tidy (nt.map Nt.part) = bs at hfo eN lb so fi
    refine ⟨_, rfl, _, rfl, hd, nn, ys, rfl, s6 _ _ hh5, s6 _ _ hn5, by omega, _, rfl, iteNT ?_⟩
    refine ⟨_, rfl, hd, ys, rfl, s6 _ _ hh5, by omega, ha, fun H7 s7 => ?_⟩
    rw [hg]
    refine ⟨_, rfl, rfl, _, rfl, iteNNo rfl ?_⟩
    have s67 := s6.trans s7
    refine ⟨_, rfl, nn, ys, rfl, s67 _ _ hn5, by omega, al, fun H8 s8 => ?_⟩
    rw [hg]
    have s68 := s67.trans s8
    refine ⟨_, rfl, iteNT ?_⟩
    refine ⟨_, rfl, _, rfl, iteF ?_⟩
    refine ⟨_, rfl, fo, bs, rfl, (hfo.same s7).same s8, fi, by omega, by omega, fun H9 s9 => ⟨_, rfl, iteNT ?_⟩⟩
    have s69 := s68.trans s9
    refine ⟨_, rfl, _, rfl, nn, ys, nt, rfl, s69 _ _ hn5, by omega, al, h1, h2, fun tb H10 s10 htb => ?_⟩
    have htb' : ChgAt H10 tb bs := by rw [← hbs]; exact htb
    have hfo' : ChgAt H10 fo bs := ((hfo.same s7).same s8).same s9 |>.same s10
    refine ⟨fo, tb, bs, rfl, rfl, hfo', htb', _, rfl, iteF ?_⟩
    have s610 := s69.trans s10
    refine ⟨_, rfl, fo, bs, rfl, hfo', by omega, by rw [eN]; omega, (by rw [eN]; exact hpos), fun r H11 s11 hr11 => ?_⟩
    rw [eN, et] at hr11
    exact ⟨_, rfl, r, nn, ys, rfl, hr11, (s610.trans s11) _ _ hn5, by omega, k _⟩
  · -- others
    refine ⟨fun cls σ' H' => cls = .ref C ∧ σ' = [some (.ref a), some (.ref mn), some (.int wd), some (.ref nn), some (.str la), v5, v6, v7, v8, some (.ref hd), some .non, some (.bl false)] ∧ Same H5 H', ?_, ?_⟩
    · refine ⟨_, rfl, hd, ys, rfl, hh5, by omega, ha, fun nt h1 h2 => ?_, fun _ H6 s6 => ⟨rfl, rfl, s6⟩⟩
      exfalso
      rcases hb with z | z
      · rw [z] at h1; cases h1
      · rw [z] at h2; cases h2
    rintro cls σ' H6 ⟨rfl, rfl, s6⟩
    refine ⟨rfl, ?_⟩
    refine ⟨_, rfl, _, rfl, hd, nn, ys, rfl, s6 _ _ hh5, s6 _ _ hn5, by omega, _, rfl, iteNT ?_⟩
    refine ⟨_, rfl, hd, ys, rfl, s6 _ _ hh5, by omega, ha, fun H7 s7 => ?_⟩
    rw [hg]
    refine ⟨_, rfl, rfl, _, rfl, iteNNo rfl ?_⟩
    refine ⟨_, rfl, nn, ys, rfl, (s6.trans s7) _ _ hn5, by omega, al, fun H8 s8 => ?_⟩
    rw [hg]
    exact ⟨_, rfl, iteNF ⟨_, rfl, k _⟩⟩
end
end Rm

set_option Elab.async false
set_option linter.all false
set_option maxRecDepth 100000
set_option maxHeartbeats 4000000
namespace Rm
open PySem L2 My
/-- a def stands at the top under its name -/
def DefAt (K : PySem.W.Frag) (x : Str) (st : Stmt) : Prop := ∃ (f : Addr) (fd : FuncData), PySem.W.nsIn K mainGlobals x = some (some (.ref f)) ∧ Fun K x x st f fd
theorem def_mk {K : PySem.W.Frag} {x : Str} {st : Stmt} {f : Addr} {oc : Value} {od an : Option Addr} {osl : Array (Option Value)} {kV doc pm cdv ct : Value} (a : PySem.W.nsIn K mainGlobals x = some (some (.ref f)))
    (l : K.lookup f = some ⟨oc, od, .func (PySem.W.fnOf x x (defArgs st) (defBody st) (defScope st) .none kV doc pm an cdv ct), osl⟩) (c : PySem.W.codeIn K cdv x = true) (k : PySem.W.keepIn K (.ref f) = true) : DefAt K x st := ⟨f, _, a, fun_mk l c k⟩
theorem all_mk {l : PySem.W.OpenLaw} {w : World} {K : PySem.W.Frag} {h : Heap} {mg : Str → Option Value} {fa fl : Addr} (X : K.In h) (G : h.Ns mainGlobals mg) (hfa : mg "law" = some (.ref fa))
    {ocl : Value} {odl anl : Option Addr} {sll : Array (Option Value)} {kVl dcl pml cdl ctl : Value}
    (al : PySem.W.nsIn K mainGlobals "law" = some (some (.ref fl))) (ll : K.lookup fl = some ⟨ocl, odl, .func (PySem.W.fnOf "law" "law" (defArgs s_law) (defBody s_law) (defScope s_law) .none kVl dcl pml anl cdl ctl), sll⟩) (cl : PySem.W.codeIn K cdl "law" = true) (kl : PySem.W.keepIn K (.ref fl) = true)
    (d1 : DefAt K "tidied" s_tidied) (d2 : DefAt K "is_empty" s_is_empty) (d3 : DefAt K "united" s_united) (d4 : DefAt K "shown" s_shown) (d5 : DefAt K "read" s_read) (d6 : DefAt K "refuse_order" s_refuse_order) (d7 : DefAt K "part_of" s_part_of) (d8 : DefAt K "is_number" s_is_number) (d9 : DefAt K "_law_whole" s_whole) (d10 : DefAt K "_law_texts" s_texts) (d11 : DefAt K "_law_is_change" s_is_change) (d12 : DefAt K "_law_nth" s_nth) (d13 : DefAt K "_law_same_lines" s_same_lines) (d14 : DefAt K "_law_begun" s_begun) (d15 : DefAt K "_law_good" s_good) (d16 : DefAt K "_law_any_text" s_any_text) (d17 : DefAt K "_law_base_tells" s_base_tells) (d18 : DefAt K "_law_told_by" s_told_by) (d19 : DefAt K "_law_noughted" s_noughted)
    (z1 : PySem.W.nsIn K mainGlobals "len" = some none) (z2 : PySem.W.nsIn K mainGlobals "range" = some none) (z3 : PySem.W.nsIn K mainGlobals "max" = some none) (z4 : PySem.W.nsIn K mainGlobals "isinstance" = some none) (z5 : PySem.W.nsIn K mainGlobals "int" = some none) (z6 : PySem.W.nsIn K mainGlobals "bool" = some none) (z7 : PySem.W.nsIn K mainGlobals "str" = some none) (z8 : PySem.W.nsIn K mainGlobals "list" = some none) (z9 : PySem.W.nsIn K mainGlobals "tuple" = some none) (z10 : PySem.W.nsIn K mainGlobals "abs" = some none) (z11 : PySem.W.nsIn K mainGlobals "all" = some none) (z12 : PySem.W.nsIn K mainGlobals "ValueError" = some none) {C M N : Addr} {tF : Tok} (nC : PySem.W.nsIn K mainGlobals "NoChange" = some (some (.ref C))) (nM : PySem.W.nsIn K mainGlobals "MendError" = some (some (.ref M))) (nN : PySem.W.nsIn K mainGlobals "NoFit" = some (some (.ref N))) (qC : PySem.W.excIn K C bmV "ValueError.__new__" = true) (qM : PySem.W.excIn K M bmV "ValueError.__new__" = true) (qN : PySem.W.excIn K N bmV "ValueError.__new__" = true) (xa : PySem.W.findIn K (.ref C) "__getattribute__" = some (some (.builtin "BaseException.__getattribute__"))) (xg : PySem.W.findIn K (.ref C) "__getattr__" = some none) (xc : PySem.W.findIn K (.ref C) "__class__" = some (some (.builtin "object.__class__"))) (xn : PySem.W.specialIn K (.builtin "object.__class__") "__get__" = some (some (.builtin "getset_descriptor.__get__"))) (xt : PySem.W.takesIn K (.builtin "object.__class__") = some true) (xo : PySem.W.mroIn K C (.type "object") = some true) (xb : PySem.W.mroIn K C (.type "BaseException") = some true) (xM : PySem.W.mroIn K C (.ref M) = some true) (xN : PySem.W.mroIn K C (.ref N) = some false) (xV : PySem.W.mroIn K C (.type "ValueError") = some true) (xC : PySem.W.mroIn K C (.ref C) = some true) (nF : PySem.W.nsIn K mainGlobals "FIGURES" = some (some (.str "0123456789" tF))) :
    ∃ fd : FuncData, (∀ (s : Shared) (v : Value), BindsTo s fd ⟨[v], []⟩ [("_law_script", v)]) ∧ ∀ base : Heap, K.In base → base.Ns mainGlobals mg → FnOk l.prog w K mg base CX0 5 fa fd ["_law_script"] (spLaw K) := by
  have e := hfa.symm.trans (PySem.W.mg_of X G al)
  cases e
  have F0 := fun_mk (st := s_law) ll cl kl
  have B : Bn mg := ⟨PySem.W.mg_none_of X G z1, PySem.W.mg_none_of X G z2, PySem.W.mg_none_of X G z3, PySem.W.mg_none_of X G z4, PySem.W.mg_none_of X G z5, PySem.W.mg_none_of X G z6, PySem.W.mg_none_of X G z7, PySem.W.mg_none_of X G z8, PySem.W.mg_none_of X G z9, PySem.W.mg_none_of X G z10⟩
  obtain ⟨f1, e1, a1, F1⟩ := d1
  have b1 := F1.binds (ps := ["parts"]) fun _ _ _ _ _ _ us hl => match us, hl with | [_], _ => rfl
  obtain ⟨f2, e2, a2, F2⟩ := d2
  have b2 := F2.binds (ps := ["part"]) fun _ _ _ _ _ _ us hl => match us, hl with | [_], _ => rfl
  obtain ⟨f3, e3, a3, F3⟩ := d3
  have b3 := F3.binds (ps := ["ahead", "behind"]) fun _ _ _ _ _ _ us hl => match us, hl with | [_, _], _ => rfl
  obtain ⟨f4, e4, a4, F4⟩ := d4
  have b4 := F4.binds (ps := ["change"]) fun _ _ _ _ _ _ us hl => match us, hl with | [_], _ => rfl
  obtain ⟨f5, e5, a5, F5⟩ := d5
  have b5 := F5.binds (ps := ["notes"]) fun _ _ _ _ _ _ us hl => match us, hl with | [_], _ => rfl
  obtain ⟨f6, e6, a6, F6⟩ := d6
  have b6 := F6.binds (ps := ["ahead", "behind"]) fun _ _ _ _ _ _ us hl => match us, hl with | [_, _], _ => rfl
  obtain ⟨f7, e7, a7, F7⟩ := d7
  have b7 := F7.binds (ps := ["note"]) fun _ _ _ _ _ _ us hl => match us, hl with | [_], _ => rfl
  obtain ⟨f8, e8, a8, F8⟩ := d8
  have b8 := F8.binds (ps := ["figures"]) fun _ _ _ _ _ _ us hl => match us, hl with | [_], _ => rfl
  obtain ⟨f9, e9, a9, F9⟩ := d9
  have b9 := F9.binds (ps := ["_law_found"]) fun _ _ _ _ _ _ us hl => match us, hl with | [_], _ => rfl
  obtain ⟨f10, e10, a10, F10⟩ := d10
  have b10 := F10.binds (ps := ["_law_found"]) fun _ _ _ _ _ _ us hl => match us, hl with | [_], _ => rfl
  obtain ⟨f11, e11, a11, F11⟩ := d11
  have b11 := F11.binds (ps := ["_law_found"]) fun _ _ _ _ _ _ us hl => match us, hl with | [_], _ => rfl
  obtain ⟨f12, e12, a12, F12⟩ := d12
  have b12 := F12.binds (ps := ["_law_script", "_law_k"]) fun _ _ _ _ _ _ us hl => match us, hl with | [_, _], _ => rfl
  obtain ⟨f13, e13, a13, F13⟩ := d13
  have b13 := F13.binds (ps := ["_law_found", "_law_due"]) fun _ _ _ _ _ _ us hl => match us, hl with | [_, _], _ => rfl
  obtain ⟨f14, e14, a14, F14⟩ := d14
  have b14 := F14.binds (ps := ["_law_note"]) fun _ _ _ _ _ _ us hl => match us, hl with | [_], _ => rfl
  obtain ⟨f15, e15, a15, F15⟩ := d15
  have b15 := F15.binds (ps := ["_law_notes"]) fun _ _ _ _ _ _ us hl => match us, hl with | [_], _ => rfl
  obtain ⟨f16, e16, a16, F16⟩ := d16
  have b16 := F16.binds (ps := ["_law_cell"]) fun _ _ _ _ _ _ us hl => match us, hl with | [_], _ => rfl
  obtain ⟨f17, e17, a17, F17⟩ := d17
  have b17 := F17.binds (ps := ["_law_notes"]) fun _ _ _ _ _ _ us hl => match us, hl with | [_], _ => rfl
  obtain ⟨f18, e18, a18, F18⟩ := d18
  have b18 := F18.binds (ps := ["_law_notes"]) fun _ _ _ _ _ _ us hl => match us, hl with | [_], _ => rfl
  obtain ⟨f19, e19, a19, F19⟩ := d19
  have b19 := F19.binds (ps := ["_law_notes", "_law_way", "_law_cell"]) fun _ _ _ _ _ _ us hl => match us, hl with | [_, _, _], _ => rfl
  refine ⟨PySem.W.fnOf "law" "law" (defArgs s_law) (defBody s_law) (defScope s_law) .none kVl dcl pml anl cdl ctl, fun s v => .of_eq rfl, fun base _ _ => ?_⟩
  have m := fun {x : Str} {g : Addr} (a : PySem.W.nsIn K mainGlobals x = some (some (.ref g))) => PySem.W.mg_of X G a
  have Z : Xg K mg C M N := xg_mk (m nC) (m nM) (m nN) (PySem.W.mg_none_of X G z12) qC qM qN xa xg xc xn xt xo xb xM xN xV xC
  have mFg := PySem.W.mg_of X G nF
  exact ok_law F0 ((ok_nth F12 B).mono (by decide)) F12.kp b12 (m a12) ((ok_any_text F16 B).mono (by decide)) F16.kp b16 (m a16) ((ok_noughted F19 B).mono (by decide)) F19.kp b19 (m a19) ((ok_readX F5 ((ok_refuse_orderX F6 qC (m nC)).mono (by decide)) F6.kp b6 (m a6) (ok_part_ofX F7 F8 b8 (m a8) mFg (PySem.W.mg_none_of X G z11) qC (m nC) B) F7.kp b7 (m a7) (ok_tidiedX F1 F2 b2 (m a2) F3 b3 (m a3)) F1.kp b1 (m a1) B).mono (by decide)) F5.kp b5 (m a5) ((ok_same_lines F13 B).mono (by decide)) F13.kp b13 (m a13) (ok_tells F17 (ok_readX F5 ((ok_refuse_orderX F6 qC (m nC)).mono (by decide)) F6.kp b6 (m a6) (ok_part_ofX F7 F8 b8 (m a8) mFg (PySem.W.mg_none_of X G z11) qC (m nC) B) F7.kp b7 (m a7) (ok_tidiedX F1 F2 b2 (m a2) F3 b3 (m a3)) F1.kp b1 (m a1) B) F5.kp b5 (m a5) Z B) F17.kp b17 (m a17) ((ok_good F15 (ok_begun F14) F14.kp b14 (m a14) B).mono (by decide)) F15.kp b15 (m a15) ((ok_is_changeX F11 F9 b9 (m a9) F10 b10 (m a10) B).mono (by decide)) F11.kp b11 (m a11) ((ok_told_by F18 B).mono (by decide)) F18.kp b18 (m a18) ((ok_shownX F4 B).mono (by decide)) F4.kp b4 (m a4) qC (m nC) B
theorem walk {l : PySem.W.OpenLaw} {q : Program} {loose : List Str} {XP : (Str → Option Value) → Heap → Prop} {YP : World → Heap → Prop} {d : DefRec} {K : Params → PySem.W.Frag} (hn : l.most = some 63) (hdf : d.params.defaults = [])
    (hY : ∀ (w : World) (h : Heap), YP w h → (K w.params).In h)
    (F : ∀ (w : World) (mg : Str → Option Value) (fa : Addr) (h : Heap), (K w.params).In h → h.Ns mainGlobals mg → mg d.name = some (.ref fa) →
      ∃ fd : FuncData, (∀ (s : Shared) (u : Value), BindsTo s fd ⟨[u], []⟩ [("_law_script", u)]) ∧ ∀ base : Heap, (K w.params).In base → base.Ns mainGlobals mg → FnOk l.prog w (K w.params) mg base CX0 5 fa fd ["_law_script"] (spLaw (K w.params))) :
    PySem.W.WalkO q loose XP YP l.row.toRowW d [] (fun f vs => PySem.call f vs) :=
  L2.walk_of (n := 63) (k := 5) (x := "_law_script") (CX := fun _ => CX0) (sp := fun w => spLaw (K w.params)) hn (by decide) hdf ⟨rfl, by decide, by decide⟩ hY F (fun _ _ a ns hl _ hS => ⟨a, ns, rfl, hS, hl, fun _ => rfl⟩) fun _ _ _ _ _ z => z
end Rm
open PySem PySem.W PyProof.Rows
set_option maxRecDepth 100000 in
set_option maxHeartbeats 0 in
theorem PySem.Challenge.cw_rowmend_k12_notes_that_write_nothing_holds : PySem.Challenge.rw_rowmend_k12_notes_that_write_nothing.Holds := by
  w_on; o_law; k_head; (case hw => w_witness2)
  k_fill
  refine Rm.walk (l := PySem.Challenge.rw_rowmend_k12_notes_that_write_nothing) rfl rfl (fun w h Y => PySem.W.kIn_of Y) ?F
  case F =>
    intro w mg fa h KX G hmg
    refine' Rm.all_mk KX G hmg ?al ?ll ?cl ?kl ?d1 ?d2 ?d3 ?d4 ?d5 ?d6 ?d7 ?d8 ?d9 ?d10 ?d11 ?d12 ?d13 ?d14 ?d15 ?d16 ?d17 ?d18 ?d19 ?z1 ?z2 ?z3 ?z4 ?z5 ?z6 ?z7 ?z8 ?z9 ?z10 ?z11 ?z12 ?nC ?nM ?nN ?qC ?qM ?qN ?xa ?xg ?xc ?xn ?xt ?xo ?xb ?xM ?xN ?xV ?xC ?nF
    (case al => k_is); (case ll => k_is); (case cl => k_is); (case kl => k_is)
    (case d1 => (refine' Rm.def_mk ?a ?l ?c ?k; (case a => k_is); (case l => k_is); (case c => k_is); (case k => k_is)))
    (case d2 => (refine' Rm.def_mk ?a ?l ?c ?k; (case a => k_is); (case l => k_is); (case c => k_is); (case k => k_is)))
    (case d3 => (refine' Rm.def_mk ?a ?l ?c ?k; (case a => k_is); (case l => k_is); (case c => k_is); (case k => k_is)))
    (case d4 => (refine' Rm.def_mk ?a ?l ?c ?k; (case a => k_is); (case l => k_is); (case c => k_is); (case k => k_is)))
    (case d5 => (refine' Rm.def_mk ?a ?l ?c ?k; (case a => k_is); (case l => k_is); (case c => k_is); (case k => k_is)))
    (case d6 => (refine' Rm.def_mk ?a ?l ?c ?k; (case a => k_is); (case l => k_is); (case c => k_is); (case k => k_is)))
    (case d7 => (refine' Rm.def_mk ?a ?l ?c ?k; (case a => k_is); (case l => k_is); (case c => k_is); (case k => k_is)))
    (case d8 => (refine' Rm.def_mk ?a ?l ?c ?k; (case a => k_is); (case l => k_is); (case c => k_is); (case k => k_is)))
    (case d9 => (refine' Rm.def_mk ?a ?l ?c ?k; (case a => k_is); (case l => k_is); (case c => k_is); (case k => k_is)))
    (case d10 => (refine' Rm.def_mk ?a ?l ?c ?k; (case a => k_is); (case l => k_is); (case c => k_is); (case k => k_is)))
    (case d11 => (refine' Rm.def_mk ?a ?l ?c ?k; (case a => k_is); (case l => k_is); (case c => k_is); (case k => k_is)))
    (case d12 => (refine' Rm.def_mk ?a ?l ?c ?k; (case a => k_is); (case l => k_is); (case c => k_is); (case k => k_is)))
    (case d13 => (refine' Rm.def_mk ?a ?l ?c ?k; (case a => k_is); (case l => k_is); (case c => k_is); (case k => k_is)))
    (case d14 => (refine' Rm.def_mk ?a ?l ?c ?k; (case a => k_is); (case l => k_is); (case c => k_is); (case k => k_is)))
    (case d15 => (refine' Rm.def_mk ?a ?l ?c ?k; (case a => k_is); (case l => k_is); (case c => k_is); (case k => k_is)))
    (case d16 => (refine' Rm.def_mk ?a ?l ?c ?k; (case a => k_is); (case l => k_is); (case c => k_is); (case k => k_is)))
    (case d17 => (refine' Rm.def_mk ?a ?l ?c ?k; (case a => k_is); (case l => k_is); (case c => k_is); (case k => k_is)))
    (case d18 => (refine' Rm.def_mk ?a ?l ?c ?k; (case a => k_is); (case l => k_is); (case c => k_is); (case k => k_is)))
    (case d19 => (refine' Rm.def_mk ?a ?l ?c ?k; (case a => k_is); (case l => k_is); (case c => k_is); (case k => k_is)))
    (case z1 => k_is); (case z2 => k_is); (case z3 => k_is); (case z4 => k_is); (case z5 => k_is); (case z6 => k_is); (case z7 => k_is); (case z8 => k_is); (case z9 => k_is); (case z10 => k_is); (case z11 => k_is); (case z12 => k_is)
    (case nC => k_is); (case nM => k_is); (case nN => k_is); (case qC => k_exc); (case qM => k_exc); (case qN => k_exc); (case xa => k_is); (case xg => k_is); (case xc => k_is); (case xn => k_is); (case xt => k_is); (case xo => k_is); (case xb => k_is); (case xM => k_is); (case xN => k_is); (case xV => k_is); (case xC => k_is); (case nF => k_is)
