import PyProof.Rows.All
import Wide.All
import OpenK.AllK
import Wide.FinOn
import Lean
import PyProof.EqAt
import PyProof.EqKinds
import PyProof.TupleCall
import PyProof.NeKinds
import PyProof.MaxThree
import PySem.Challenge.RW_grainstore_k06_refused
set_option Elab.async false
set_option linter.all false
set_option maxRecDepth 100000
/-! THE HAND LAYER, for ints, bools, texts, own classes, LISTS and tuples (index, slices, in, append, pop ..), calls, loops. Paste it whole ahead of your own text; what your proof does not reach may be deleted. -/
namespace L2
open PySem PySem.Spec PyProof.Rows

/-- a key: an int or a str -/
abbrev Key := Sum Int Str
def keyIs : Key → Value → Bool
  | .inl k, v => Value.isInt k v
  | .inr x, v => Value.isStrOf x v
def keyH (w : World) : Key → Int
  | .inl k => hashInt k
  | .inr x => hashStr w x
theorem keyIs_shape : ∀ {k : Key} {v : Value}, keyIs k v = true → (∃ i t, k = Sum.inl i ∧ v = Value.int i t) ∨ (∃ x t, k = Sum.inr x ∧ v = Value.str x t)
  | .inl i, v, h => by
    obtain ⟨t, e⟩ := Value.isInt_shape (k := i) (v := v) h
    exact .inl ⟨i, t, rfl, e⟩
  | .inr x, v, h => by
    obtain ⟨t, e⟩ := Value.isStrOf_shape (x := x) (v := v) h
    exact .inr ⟨x, t, rfl, e⟩
theorem keyIs_int (i : Int) (t : Tok) : keyIs (.inl i) (.int i t) = true := by simp [keyIs, Value.isInt]
theorem keyIs_str (x : Str) (t : Tok) : keyIs (.inr x) (.str x t) = true := by simp [keyIs, Value.isStrOf]
theorem key_ll (a b : Int) : decide ((Sum.inl a : Key) = Sum.inl b) = (a == b) := by
  by_cases e : a = b
  · subst e; simp
  · have h : ¬ (Sum.inl a : Key) = Sum.inl b := fun q => e (Sum.inl.inj q)
    rw [decide_eq_false h]
    exact (beq_eq_false_iff_ne.mpr e).symm
theorem key_rr (a b : Str) : decide ((Sum.inr a : Key) = Sum.inr b) = decide (a = b) := by
  by_cases e : a = b
  · subst e; simp
  · have h : ¬ (Sum.inr a : Key) = Sum.inr b := fun q => e (Sum.inr.inj q)
    rw [decide_eq_false h, decide_eq_false e]
theorem key_lr (a : Int) (b : Str) : decide ((Sum.inl a : Key) = Sum.inr b) = false := decide_eq_false (fun q => nomatch q)
theorem key_rl (a : Str) (b : Int) : decide ((Sum.inr a : Key) = Sum.inl b) = false := decide_eq_false (fun q => nomatch q)

def mixKind (prog : Program) (w : World) : PySem.KeyKind prog w Key where
  is := keyIs
  hash := keyH w
  inj := fun v a b ha hb => by
    rcases keyIs_shape ha with ⟨i, t, rfl, rfl⟩ | ⟨x, t, rfl, rfl⟩
    · rcases keyIs_shape hb with ⟨j, u, rfl, e⟩ | ⟨y, u, rfl, e⟩
      · injection e with e1 _; rw [e1]
      · exact nomatch e
    · rcases keyIs_shape hb with ⟨j, u, rfl, e⟩ | ⟨y, u, rfl, e⟩
      · exact nomatch e
      · injection e with e1 _; rw [e1]
  byValue := fun k v h => by
    rcases keyIs_shape h with ⟨i, t, rfl, rfl⟩ | ⟨x, t, rfl, rfl⟩ <;> rfl
  pyHash := fun hv h => by
    rcases keyIs_shape hv with ⟨i, t, rfl, rfl⟩ | ⟨x, t, rfl, rfl⟩
    · exact wpAny_pyHash_int h
    · exact wpAny_pyHash_str h
  eqBool := fun hu hv h => by
    rcases keyIs_shape hu with ⟨i, t, rfl, rfl⟩ | ⟨x, t, rfl, rfl⟩
    · rcases keyIs_shape hv with ⟨j, u, rfl, rfl⟩ | ⟨y, u, rfl, rfl⟩
      · rw [key_ll] at h; exact wpAny_eqBool_int h
      · rw [key_lr] at h; exact SeqAt.EqAt.int_str i t y u _ _ _ _ h
    · rcases keyIs_shape hv with ⟨j, u, rfl, rfl⟩ | ⟨y, u, rfl, rfl⟩
      · rw [key_rl] at h; exact SeqAt.EqAt.str_int x t j u _ _ _ _ h
      · rw [key_rr] at h; exact wpAny_eqBool_str h
  «strs» := fun k x t v h => by
    rcases keyIs_shape h with ⟨i, u, rfl, e⟩ | ⟨y, u, rfl, e⟩
    · exact nomatch e
    · injection e with e1 _
      subst e1
      cases v <;> rfl

theorem mixKind_is (prog : Program) (w : World) (k : Key) (v : Value) : (mixKind prog w).is k v = keyIs k v := rfl
theorem mixKind_int (prog : Program) (w : World) (i : Int) (t : Tok) : (mixKind prog w).is (.inl i) (.int i t) = true := keyIs_int i t
theorem mixKind_str (prog : Program) (w : World) (x : Str) (t : Tok) : (mixKind prog w).is (.inr x) (.str x t) = true := keyIs_str x t
end L2

namespace L2
open PySem PySem.Spec PyProof.Rows

/-- a value, without the heap -/
inductive V where
  | non | bl (b : Bool) | int (i : Int) | str (x : Str) | byt (b : Array UInt8) | flt (b : UInt64) | ref (a : Addr) | ty (n : String)
  deriving DecidableEq

def RelV : V → Value → Prop
  | .non, u => u = Value.none
  | .bl b, u => u = Value.bool b
  | .int i, u => ∃ t, u = Value.int i t
  | .str x, u => ∃ t, u = Value.str x t
  | .byt b, u => ∃ t, u = Value.bytes b t
  | .flt b, u => ∃ t, u = Value.float b t
  | .ref a, u => u = Value.ref a
  | .ty n, u => u = Value.type n

abbrev Vals : List V → List Value → Prop := Paired RelV
theorem Vals.length {xs : List V} {us : List Value} (r : Vals xs us) : xs.length = us.length := Paired.length r
theorem Vals.get : ∀ {xs : List V} {us : List Value} {i : Nat} {x : V}, Vals xs us → xs[i]? = some x → ∃ u, us[i]? = some u ∧ RelV x u
  | _, _, _, _, .nil, e => by simp at e
  | _, _, 0, _, .cons r _, e => by simp at e; subst e; exact ⟨_, rfl, r⟩
  | _, _, i + 1, x, .cons _ t, e => by
    obtain ⟨u, h1, h2⟩ := Vals.get (i := i) (x := x) t (by simpa using e)
    exact ⟨u, by simpa using h1, h2⟩
theorem Vals.set {x : V} {u : Value} (r : RelV x u) : ∀ {xs : List V} {us : List Value} (i : Nat), Vals xs us → Vals (xs.set i x) (us.set i u)
  | _, _, _, .nil => .nil
  | _, _, 0, .cons _ t => .cons r t
  | _, _, i + 1, .cons q t => .cons q (Vals.set r i t)
theorem Vals.append : ∀ {xs ys : List V} {us ws : List Value}, Vals xs us → Vals ys ws → Vals (xs ++ ys) (us ++ ws)
  | _, _, _, _, .nil, s => s
  | _, _, _, _, .cons r t, s => .cons r (Vals.append t s)
theorem Vals.take : ∀ {xs : List V} {us : List Value} (n : Nat), Vals xs us → Vals (xs.take n) (us.take n)
  | _, _, 0, _ => .nil
  | _, _, _ + 1, .nil => .nil
  | _, _, n + 1, .cons r t => .cons r (Vals.take n t)
theorem Vals.drop : ∀ {xs : List V} {us : List Value} (n : Nat), Vals xs us → Vals (xs.drop n) (us.drop n)
  | _, _, 0, r => r
  | _, _, _ + 1, .nil => .nil
  | _, _, n + 1, .cons _ t => Vals.drop n t
theorem Vals.none_of : ∀ {xs : List V} {us : List Value} {i : Nat}, Vals xs us → xs[i]? = none → us[i]? = none := fun {xs us i} r e => by
  have h1 := r.length
  have h2 : xs.length ≤ i := List.getElem?_eq_none_iff.mp e
  exact List.getElem?_eq_none_iff.mpr (by omega)

def RelO : Option V → Option Value → Prop
  | some v, some u => RelV v u
  | none, none => True
  | _, _ => False
def KV {κ : Type} : List (κ × V) → List (κ × Value) → Prop := Paired fun (p : κ × V) (q : κ × Value) => p.1 = q.1 ∧ RelV p.2 q.2

/-- a key of a dict (00_mix): an int or a text -/
def kV : Key → V
  | .inl i => .int i
  | .inr x => .str x

/-- what stands at a tracked address -/
inductive HO where
  /-- a list -/
  | lst (xs : List V)
  /-- a tuple (never changes) -/
  | tup (xs : List V)
  /-- a dict whose keys are ints and texts; one whose keys are tuples of ints and texts (the empty one is both) -/
  | dK (kvs : List (Key × V)) | dT (kvs : List (List Key × V))
  /-- a set of ints: its members, its size -/
  | set (S : Int → Bool) (n : Nat)
  /-- an instance of the class at C, its dict at dx, its attributes -/
  | ins (C dx : Addr) (fs : List (Str × V))
  /-- the dict of the instance at x -/
  | own (x : Addr)
  /-- the dict of an exception -/
  | xd (fs : List (Str × V))
  /-- a bound method, f of x -/
  | met (f x : Addr)
  /-- a range object lo, lo + 1, .. below hi -/
  | rng (lo hi : Int)
  /-- a thing that is known to the object (the script; a dict while a loop walks it): read, never written while it is so -/
  | frz (o : Obj) (u : HO)
  /-- a code object's table -/
  | tbl (ps : Array Value)
  /-- any other thing, by what is true of its one object (a def of one's own: SetO a S n := HO.ext fun h => ..) -/
  | ext (φ : Heap → Prop)

abbrev Hp := Addr → Option HO
def upd (H : Hp) (a : Addr) (o : HO) : Hp := fun b => if b = a then some o else H b
theorem upd_same {H : Hp} {a : Addr} {o : HO} : upd H a o a = some o := by unfold upd; rw [if_pos rfl]
theorem upd_ne {H : Hp} {a b : Addr} {o : HO} (h : b ≠ a) : upd H a o b = H b := by unfold upd; rw [if_neg h]
theorem upd_upd {H : Hp} {a : Addr} {o u : HO} : upd (upd H a o) a u = upd H a u := by
  funext b; unfold upd; split <;> rfl
/-- two objects of different content stand apart -/
theorem ne_of {H : Hp} {a b : Addr} {o u : HO} (h : H a = some o) (h' : H b = some u) (d : o ≠ u) : a ≠ b := by
  intro e; subst e; rw [h] at h'; exact d (Option.some.inj h')
theorem ne_of_none {H : Hp} {a b : Addr} {o : HO} (h : H a = some o) (h' : H b = none) : a ≠ b := by
  intro e; subst e; rw [h] at h'; cases h'

section
variable (P : Program) (w : World)
def ObjOk (H : Hp) (h : Heap) (a : Addr) : HO → Prop
  | .lst xs => xs.length ≤ sizeLine ∧ ∃ (its : List Value) (n : Nat), Vals xs its ∧ h.get? a = some { cls := .type "list", data := .seq its.toArray n }
  | .tup xs => xs.length ≤ sizeLine ∧ ∃ its : List Value, Vals xs its ∧ IsTup h a its.toArray
  | .dK kvs => kvs.length ≤ sizeLine ∧ (a == sysModules) = false ∧ ∃ vs, KV kvs vs ∧ h.DictOf (mixKind P w) a vs
  | .dT kvs => kvs.length ≤ sizeLine ∧ (a == sysModules) = false ∧ ∃ xs : List (List Key × Addr × Value),
      Paired (fun (p : List Key × V) (q : List Key × Addr × Value) => p.1 = q.1 ∧ H q.2.1 = some (.tup (p.1.map kV)) ∧ RelV p.2 q.2.2) kvs xs ∧
      ∃ o es ep, h.get? a = some o ∧ o.ExactDict ∧ o.data = .dict es ep ∧ es.toList = xs.map (entryOfKey (tupleKind (mixKind P w))) ∧ (xs.map (·.1)).Nodup
  | .set S n => h.SetOf (intKind P w) a S n
  | .ins C dx fs => H dx = some (.own a) ∧ fs.length ≤ 1000 ∧ dx ≠ a ∧ h.get? a = some (PySem.W.instObj C dx) ∧
      ∃ mA, h.Ns1 dx mA ∧ (∀ f, RelO (fs.lookup f) (mA f)) ∧ PySem.Within mA (fs.map (·.1))
  | .own _ => ∃ o, h.get? a = some o
  | .xd fs => ∃ mA, h.Ns1 a mA ∧ ∀ f, RelO (fs.lookup f) (mA f)
  | .rng lo hi => ∃ t u v, h.get? a = some { cls := .type "range", data := .fields #[.int lo t, .int hi u, .int 1 v] }
  | .frz o u => h.get? a = some o ∧ ObjOk H h a u
  | .tbl ps => h.get? a = some { cls := .none, data := .fields ps }
  | .met f x => h.get? a = some (PySem.W.methodObj (.ref f) (.ref x))
  | .ext φ => φ h ∧ (∃ o, h.get? a = some o) ∧ ∀ h1 h2 : Heap, φ h1 → (∀ o, h1.get? a = some o → h2.get? a = some o) → φ h2
/-- the abstract heap is held -/
def HOk (H : Hp) (h : Heap) : Prop := ∀ a o, H a = some o → ObjOk P w H h a o
end

section
variable {P : Program} {w : World} {H H' : Hp} {h h' : Heap} {a : Addr} {o : HO}
theorem ObjOk.lt (x : ObjOk P w H h a o) : a < h.objs.size := by
  cases o with
  | lst xs => obtain ⟨_, _, _, _, e⟩ := x; exact Heap.lt_size e
  | tup xs => obtain ⟨_, _, _, p⟩ := x; exact p.lt
  | dK kvs => obtain ⟨_, _, _, _, o, _, _, e, _⟩ := x; exact Heap.lt_size e
  | dT kvs => obtain ⟨_, _, _, _, o, _, _, e, _⟩ := x; exact Heap.lt_size e
  | set S n => obtain ⟨o, _, _, _, e, _⟩ := x; exact Heap.lt_size e
  | ins C dx fs => obtain ⟨_, _, _, e, _⟩ := x; exact Heap.lt_size e
  | own y => obtain ⟨_, e⟩ := x; exact Heap.lt_size e
  | xd fs => obtain ⟨_, ⟨_, _, _, e, _⟩, _⟩ := x; exact Heap.lt_size e
  | rng lo hi => obtain ⟨_, _, _, e⟩ := x; exact Heap.lt_size e
  | frz ob u => obtain ⟨e, _⟩ := x; exact Heap.lt_size e
  | tbl ps => exact Heap.lt_size (show h.get? a = some _ from x)
  | met f y => exact Heap.lt_size (show h.get? a = some _ from x)
  | ext φ => obtain ⟨_, ⟨_, e⟩, _⟩ := x; exact Heap.lt_size e
theorem Paired.mapP {α β : Type} {F G : α → β → Prop} : ∀ {l₁ : List α} {l₂ : List β}, Paired F l₁ l₂ → (∀ a b, F a b → G a b) → Paired G l₁ l₂
  | _, _, .nil, _ => .nil
  | _, _, .cons r t, f => .cons (f _ _ r) (Paired.mapP t f)
theorem Paired.imp' {α β : Type} {F G : α → β → Prop} (f : ∀ a b, F a b → G a b) {l₁ : List α} {l₂ : List β} (r : Paired F l₁ l₂) : Paired G l₁ l₂ := Paired.mapP r f
/-- what an object's description leans on: its own object, its own dict, the tuples -/
theorem ObjOk.stay (x : ObjOk P w H h a o) (k : ∀ b u, (b = a ∨ H b = some (.own a)) → h.get? b = some u → h'.get? b = some u)
    (ho : ∀ b, H b = some (.own a) → H' b = some (.own a)) (ht : ∀ b xs, H b = some (.tup xs) → H' b = some (.tup xs)) : ObjOk P w H' h' a o := by
  induction o with
  | lst xs => obtain ⟨z, its, n, r, e⟩ := x; exact ⟨z, its, n, r, k _ _ (.inl rfl) e⟩
  | tup xs => obtain ⟨z, its, r, ob, e, c⟩ := x; exact ⟨z, its, r, ob, k _ _ (.inl rfl) e, c⟩
  | dK kvs => obtain ⟨z, y, vs, r, ob, es, ep, e, c⟩ := x; exact ⟨z, y, vs, r, ob, es, ep, k _ _ (.inl rfl) e, c⟩
  | dT kvs =>
    obtain ⟨z, y, xs, r, ob, es, ep, e, c⟩ := x
    exact ⟨z, y, xs, Paired.mapP r fun p q z => ⟨z.1, ht _ _ z.2.1, z.2.2⟩, ob, es, ep, k _ _ (.inl rfl) e, c⟩
  | set S n => obtain ⟨ob, es, ep, t, e, c⟩ := x; exact ⟨ob, es, ep, t, k _ _ (.inl rfl) e, c⟩
  | ins C dx fs =>
    obtain ⟨d, z, ne, e, mA, ⟨od, es, ep, e2, c⟩, r⟩ := x
    exact ⟨ho _ d, z, ne, k _ _ (.inl rfl) e, mA, ⟨od, es, ep, k _ _ (.inr d) e2, c⟩, r⟩
  | own y => obtain ⟨ob, e⟩ := x; exact ⟨ob, k _ _ (.inl rfl) e⟩
  | xd fs => obtain ⟨mA, ⟨od, es, ep, e, c⟩, r⟩ := x; exact ⟨mA, ⟨od, es, ep, k _ _ (.inl rfl) e, c⟩, r⟩
  | rng lo hi => obtain ⟨t, u, v, e⟩ := x; exact ⟨t, u, v, k _ _ (.inl rfl) e⟩
  | frz ob u ih => obtain ⟨e, q⟩ := x; exact ⟨k _ _ (.inl rfl) e, ih q⟩
  | tbl ps =>
    have e : h.get? a = some { cls := .none, data := .fields ps } := x
    show h'.get? a = some { cls := .none, data := .fields ps }
    exact k a _ (.inl rfl) e
  | met f y =>
    have e : h.get? a = some (PySem.W.methodObj (.ref f) (.ref y)) := x
    show h'.get? a = some (PySem.W.methodObj (.ref f) (.ref y))
    exact k a _ (.inl rfl) e
  | ext φ => obtain ⟨p, ⟨o, e⟩, st⟩ := x; exact ⟨st _ _ p fun o q => k _ _ (.inl rfl) q, ⟨o, k _ _ (.inl rfl) e⟩, st⟩
theorem HOk.lt (x : HOk P w H h) (e : H a = some o) : a < h.objs.size := (x a o e).lt
theorem HOk.fresh (x : HOk P w H h) (e : h.objs.size ≤ a) : H a = none := by
  cases q : H a with
  | none => rfl
  | some u => exact absurd (Nat.lt_of_lt_of_le (x.lt q) e) (Nat.lt_irrefl _)
/-- every object of the heap is kept -/
theorem HOk.kept (x : HOk P w H h) (k : ∀ b u, h.get? b = some u → h'.get? b = some u) : HOk P w H h' := fun a o e =>
  (x a o e).stay (fun b u _ q => k b u q) (fun _ q => q) fun _ _ q => q
/-- a new object is laid and tracked -/
theorem HOk.laid (x : HOk P w H h) (k : ∀ b u, h.get? b = some u → h'.get? b = some u) (hp : h.objs.size ≤ a) (new : ObjOk P w (upd H a o) h' a o) : HOk P w (upd H a o) h' := fun b u e => by
  have hn := x.fresh hp
  by_cases hb : b = a
  · subst hb; rw [upd_same] at e; cases e; exact new
  · rw [upd_ne hb] at e
    exact (x b u e).stay (fun c v _ q => k c v q) (fun c q => by rw [upd_ne (ne_of_none q hn)]; exact q) fun c xs q => by rw [upd_ne (ne_of_none q hn)]; exact q
end

/-- what may be read as u: it is u, or a known u -/
def Rd (H : Hp) (a : Addr) (u : HO) : Prop := H a = some u ∨ ∃ o, H a = some (.frz o u)
theorem Rd.of {H : Hp} {a : Addr} {u : HO} (h : H a = some u) : Rd H a u := .inl h
theorem Rd.ok {P : Program} {w : World} {H : Hp} {h : Heap} {a : Addr} {u : HO} (r : Rd H a u) (x : HOk P w H h) : ObjOk P w H h a u := by
  rcases r with r | ⟨o, r⟩
  · exact x a u r
  · obtain ⟨_, q⟩ := x a _ r
    exact q
/-- what may be written -/
def Mut : Option HO → Prop
  | some (.lst _) => True
  | some (.dK _) => True
  | some (.dT _) => True
  | some (.set _ _) => True
  | some (.ins _ _ _) => True
  | some (.ext _) => True
  | _ => False
section
variable {P : Program} {w : World} {H : Hp} {h h' : Heap} {x e : Addr} {o' : HO}
/-- the object at e is changed: x itself, or the dict of the instance x -/
theorem HOk.write (ok : HOk P w H h) (mu : Mut (H x)) (he : e = x ∨ H e = some (.own x)) (k : ∀ b u, b ≠ e → h.get? b = some u → h'.get? b = some u) (heo : ∃ u, h'.get? e = some u)
    (new : ObjOk P w (upd H x o') h' x o') : HOk P w (upd H x o') h' := fun b u q => by
  have nown : ∀ c y, H c = some (.own y) → c ≠ x := fun c y r z => by subst z; rw [r] at mu; exact mu
  have ntup : ∀ c xs, H c = some (.tup xs) → c ≠ x := fun c xs r z => by subst z; rw [r] at mu; exact mu
  by_cases hb : b = x
  · subst hb; rw [upd_same] at q; cases q; exact new
  · rw [upd_ne hb] at q
    by_cases hbe : b = e
    · have q' : H b = some (.own x) := by
        rcases he with z | z
        · exact absurd (hbe.trans z) hb
        · rw [hbe]; exact z
      rw [q] at q'; cases q'
      obtain ⟨v, hv⟩ := heo
      exact ⟨v, by rw [hbe]; exact hv⟩
    · refine (ok b u q).stay (fun c v hc r => k c v ?_ r) (fun c r => by rw [upd_ne (nown c b r)]; exact r) fun c xs r => by rw [upd_ne (ntup c xs r)]; exact r
      rcases hc with rfl | hc
      · exact hbe
      · rintro rfl
        rcases he with z | z
        · exact nown c b hc z
        · rw [hc] at z; cases z; exact hb rfl
end

/-! ### kept unless tracked; of the frames at fs (the callers') the slots may change (an exception that passes writes there); of the records at ex (iterators) nothing is said -/
structure Un (fs ex : List Addr) (H H' : Hp) (h h' : Heap) : Prop where
  keep : ∀ b o, h.get? b = some o → H b = none → b ∉ fs → b ∉ ex → h'.get? b = some o
  slot : ∀ b o, h.get? b = some o → H b = none → b ∈ fs → b ∉ ex → ∃ sl, h'.get? b = some { o with slots := sl }
  free : ∀ b o, h.get? b = some o → H b = none → b ∉ ex → H' b = none
  there : ∀ b o, h.get? b = some o → b ∉ ex → ∃ o', h'.get? b = some o'
  tups : ∀ b xs, H b = some (.tup xs) → H' b = some (.tup xs)
  frzs : ∀ b o u, H b = some (.frz o u) → H' b = some (.frz o u)
  tbls : ∀ b ps, H b = some (.tbl ps) → ∃ more, H' b = some (.tbl (ps ++ more))
section
variable {fs fs' ex ex' : List Addr} {H H1 H2 : Hp} {h h1 h2 h' : Heap} {a x e : Addr} {o : HO}
theorem Un.any (u : Un fs ex H H1 h h1) {b : Addr} {ob : Obj} (q : h.get? b = some ob) (n : H b = none) (hx : b ∉ ex) : ∃ sl, h1.get? b = some { ob with slots := sl } := by
  by_cases hb : b ∈ fs
  · exact u.slot b ob q n hb hx
  · exact ⟨ob.slots, u.keep b ob q n hb hx⟩
theorem Un.trans (a : Un fs ex H H1 h h1) (b : Un fs ex H1 H2 h1 h2) : Un fs ex H H2 h h2 where
  keep := fun c ob q n hc hx => b.keep c ob (a.keep c ob q n hc hx) (a.free c ob q n hx) hc hx
  slot := fun c ob q n hc hx => by
    obtain ⟨sl, e1⟩ := a.slot c ob q n hc hx
    obtain ⟨sl', e2⟩ := b.slot c _ e1 (a.free c ob q n hx) hc hx
    exact ⟨sl', e2⟩
  free := fun c ob q n hx => by
    obtain ⟨o', e1⟩ := a.there c ob q hx
    exact b.free c o' e1 (a.free c ob q n hx) hx
  there := fun c ob q hx => by
    obtain ⟨o', e1⟩ := a.there c ob q hx
    exact b.there c o' e1 hx
  tups := fun c xs q => b.tups c xs (a.tups c xs q)
  frzs := fun c ob xs q => b.frzs c ob xs (a.frzs c ob xs q)
  tbls := fun c ps q => by
    obtain ⟨m1, e1⟩ := a.tbls c ps q
    obtain ⟨m2, e2⟩ := b.tbls c _ e1
    exact ⟨m1 ++ m2, by rw [e2, Array.append_assoc]⟩
theorem Un.kept (k : ∀ b u, h.get? b = some u → h'.get? b = some u) : Un fs ex H H h h' :=
  ⟨fun b ob q _ _ _ => k b ob q, fun b ob q _ _ _ => ⟨ob.slots, k b ob q⟩, fun _ _ _ n _ => n, fun b ob q _ => ⟨ob, k b ob q⟩, fun _ _ q => q, fun _ _ _ q => q, fun _ ps q => ⟨#[], by rw [q]; simp⟩⟩
theorem Un.refl : Un fs ex H H h h := Un.kept fun _ _ q => q
theorem Un.laid (k : ∀ b u, h.get? b = some u → h'.get? b = some u) (hp : h.objs.size ≤ a) (hn : H a = none) : Un fs ex H (upd H a o) h h' where
  keep := fun b u q _ _ _ => k b u q
  slot := fun b u q _ _ _ => ⟨u.slots, k b u q⟩
  free := fun b u q n _ => by rw [upd_ne (Nat.ne_of_lt (Nat.lt_of_lt_of_le (Heap.lt_size q) hp))]; exact n
  there := fun b u q _ => ⟨u, k b u q⟩
  tups := fun b xs q => by rw [upd_ne (ne_of_none q hn)]; exact q
  frzs := fun b u xs q => by rw [upd_ne (ne_of_none q hn)]; exact q
  tbls := fun b ps q => ⟨#[], by rw [upd_ne (ne_of_none q hn), q]; simp⟩
theorem Un.write (mu : Mut (H x)) (he : e = x ∨ H e = some (.own x)) (k : ∀ b u, b ≠ e → h.get? b = some u → h'.get? b = some u) (heo : ∃ u, h'.get? e = some u) : Un fs ex H (upd H x o) h h' := by
  have hx : ∀ b, H b = none → b ≠ x := fun b n z => by subst z; rw [n] at mu; exact mu
  have hb : ∀ b, H b = none → b ≠ e := fun b n z => by
    subst z
    rcases he with r | r
    · exact hx b n r
    · rw [n] at r; cases r
  have hm : ∀ b u, H b = some u → ¬ Mut (some u) → b ≠ x := fun b u q nm z => by subst z; rw [q] at mu; exact nm mu
  refine ⟨fun b u q n _ _ => k b u (hb b n) q, fun b u q n _ _ => ⟨u.slots, k b u (hb b n) q⟩, fun b u q n _ => by rw [upd_ne (hx b n)]; exact n, fun b u q _ => ?_,
    fun b xs q => by rw [upd_ne (hm b _ q fun z => z)]; exact q, fun b u xs q => by rw [upd_ne (hm b _ q fun z => z)]; exact q, fun b ps q => ⟨#[], by rw [upd_ne (hm b _ q fun z => z), q]; simp⟩⟩
  by_cases hbe : b = e
  · subst hbe; exact heo
  · exact ⟨u, k b u hbe q⟩
theorem Un.mono (u : Un fs ex H H1 h h1) (hs : ∀ b ∈ fs, b ∈ fs') (hx : ∀ b ∈ ex, b ∈ ex') : Un fs' ex' H H1 h h1 :=
  ⟨fun b ob q n hb he => u.keep b ob q n (fun z => hb (hs b z)) fun z => he (hx b z), fun _ _ q n _ he => u.any q n fun z => he (hx _ z), fun b ob q n he => u.free b ob q n fun z => he (hx b z), fun b ob q he => u.there b ob q fun z => he (hx b z), u.tups, u.frzs, u.tbls⟩
end

/-! ### the heap without what is tracked -/
def trk (h : Heap) (H : Hp) : List Addr := (List.range h.objs.size).filter fun a => (H a).isSome
def hidT (h : Heap) (H : Hp) : Heap := PySem.W.hideAll h (trk h H)
theorem hidT_size (h : Heap) (H : Hp) : (hidT h H).objs.size = h.objs.size := PySem.W.hideAll_size _ _
theorem hidT_get {h : Heap} {H : Hp} {b : Addr} {o : Obj} (e : h.get? b = some o) (n : H b = none) : (hidT h H).get? b = some o :=
  PySem.W.hideAll_get _ e fun hm => by
    have q : (H b).isSome = true := (List.mem_filter.mp hm).2
    rw [n] at q; simp at q
theorem of_hidT {h : Heap} {H : Hp} {b : Addr} {o : Obj} (e : (hidT h H).get? b = some o) : h.get? b = some o ∧ H b = none := by
  have e' : h.get? b = some o := PySem.W.of_hideAll (trk h H) e
  refine ⟨e', ?_⟩
  cases q : H b with
  | none => rfl
  | some x =>
    have hm : b ∈ trk h H := List.mem_filter.mpr ⟨List.mem_range.mpr (Heap.lt_size e'), by simp [q]⟩
    have z : (hidT h H).get? b = none := PySem.W.hideAll_none (trk h H) hm
    rw [z] at e; cases e

/-! ### OpenK's ledger, filled with every new object but one -/
def allNews (g h : Heap) (L : Addr) : List (Addr × Obj) := (List.range h.objs.size).filterMap fun a => if a = L ∨ (g.get? a).isSome = true then none else (h.get? a).map fun o => (a, o)
theorem mem_allNews {g h : Heap} {L a : Addr} {o : Obj} (h1 : a ≠ L) (h2 : g.get? a = none) (h3 : h.get? a = some o) : (a, o) ∈ allNews g h L :=
  List.mem_filterMap.mpr ⟨a, List.mem_range.mpr (Heap.lt_size h3), by simp [h1, h2, h3]⟩
theorem of_mem_allNews {g h : Heap} {L : Addr} {p : Addr × Obj} (hp : p ∈ allNews g h L) : p.1 ≠ L ∧ g.get? p.1 = none ∧ h.get? p.1 = some p.2 := by
  obtain ⟨b, _, e⟩ := List.mem_filterMap.mp hp
  split at e
  · cases e
  · rename_i hn
    cases q : h.get? b with
    | none => rw [q] at e; simp at e
    | some u =>
      rw [q] at e
      simp only [Option.map_some, Option.some.injEq] at e
      subst e
      refine ⟨fun z => hn (.inl z), ?_, q⟩
      show g.get? b = none
      cases r : g.get? b with
      | none => rfl
      | some v => exact (hn (.inr (by simp [r]))).elim
def rest (g h : Heap) (L d : Addr) : List (Addr × Obj) := (allNews g h L).filter fun p => decide (p.1 ≠ d)
theorem rest_ne {g h : Heap} {L d : Addr} : ∀ p ∈ rest g h L d, p.1 ≠ d := fun p hp => of_decide_eq_true (List.mem_filter.mp hp).2
theorem mem_rest {g h : Heap} {L d a : Addr} {o : Obj} (h1 : a ≠ L) (h2 : g.get? a = none) (h3 : h.get? a = some o) (h4 : a ≠ d) : (a, o) ∈ rest g h L d :=
  List.mem_filter.mpr ⟨mem_allNews h1 h2 h3, decide_eq_true h4⟩
theorem news_all {g h : Heap} {L : Addr} : News g L h (allNews g h L) := fun p hp => let ⟨a, b, c⟩ := of_mem_allNews hp; ⟨c, a, b⟩
theorem news_at {g h : Heap} {L d : Addr} {o : Obj} (h1 : d ≠ L) (h2 : g.get? d = none) (h3 : h.get? d = some o) : News g L h ((d, o) :: rest g h L d) := fun p hp => by
  rcases List.mem_cons.mp hp with rfl | hp
  · exact ⟨h3, h1, h2⟩
  · exact news_all p (List.mem_filter.mp hp).1
/-- behind a rule that changed d alone: all else but the frame is kept -/
theorem kept_of_news {g h h' : Heap} {L d : Addr} {m : Str → Option Value} (k : ∀ b o, g.get? b = some o → h.get? b = some o) (F : Fr g L h' m) (N : News g L h' (rest g h L d)) :
    ∀ b o, b ≠ L → b ≠ d → h.get? b = some o → h'.get? b = some o := fun b o h1 h2 e => by
  cases q : g.get? b with
  | some u =>
    have := k b u q
    rw [e] at this; cases this
    exact F.keep b _ q
  | none => exact (N (b, o) (mem_rest h1 q e h2)).1
end L2

namespace L2
open PySem PySem.Spec PyProof.Rows

/-- the module's facts, over the base: the heap at the law's entry without what is tracked there -/
structure Mod (K : PySem.W.Frag) (mg : Str → Option Value) (base : Heap) : Prop where
  kin : K.In base
  glob : base.Ns mainGlobals mg
  blt : ∃ mb, base.Ns builtinsNs mb ∧ ∀ x : Str, x ≠ "__name__" → mb x = bootBuiltins x
  nolimit : base.NoLimit

/-- the context: a def's body (or a comprehension's block) running. base: fixed through the whole law; s₀, H₀: the entry; outer: the frames whose slots others may change (a def's callers); stack: all frames that run;
   ex: iterators that were made ahead of the entry and are walked here (a comprehension's); fn: the names whose cells were made at the entry (a def: all; a comprehension's block: its own); calm: not within an except suite; pn: pins that every state bears; xe: what is wanted of an exception that leaves the code -/
structure Cx where
  prog : Program
  w : World
  K : PySem.W.Frag
  mg : Str → Option Value
  base : Heap
  A : Around
  N : List Str
  s₀ : Shared
  H₀ : Hp
  env : Env
  outer : List Env
  stack : List Env
  ex : List Addr
  fn : Str → Bool
  calm : Bool
  pn : List (Addr × Obj)
  xe : Value → Shared → Prop
/-- the callers' frames -/
def frs (l : List Env) : List Addr := l.filterMap (·.frame)
abbrev Cx.fs (X : Cx) : List Addr := frs X.outer

def Vis (sc : Scope) (x : Str) : Prop := sc.names.lookup x = some .local ∨ sc.names.lookup x = some .cell ∨ sc.names.lookup x = some .free
def Loc (sc : Scope) (x : Str) : Prop := sc.names.lookup x = some .local ∨ sc.names.lookup x = some .cell
def Look (env : Env) (h : Heap) (m : Str → Option Value) (x : Str) (u : Value) : Prop :=
  (env.kindOf x = some .local ∧ m x = some u) ∨ ((env.kindOf x = some .cell ∨ env.kindOf x = some .free) ∧ ∃ c, env.cells.lookup x = some c ∧ h.IsCell c (some u))

structure Cx.Ok (X : Cx) : Prop where
  mod : Mod X.K X.mg X.base
  kind : X.env.scope.kind = .function
  glob : X.env.globals = mainGlobals
  blt : X.env.builtins = builtinsNs
  above : X.s₀.heap.objs.size ≤ X.env.locals
  inj : ∀ x y c, X.env.cells.lookup x = some c → X.env.cells.lookup y = some c → x = y
  has : ∀ x, (X.env.kindOf x = some .cell ∨ X.env.kindOf x = some .free) → ∃ c, X.env.cells.lookup x = some c
  cab : ∀ x c, X.fn x = true → X.env.cells.lookup x = some c → X.s₀.heap.objs.size ≤ c
  hd : X.calm = true → X.A.handled = none
  frames : X.A.frames = some X.stack
  stk : X.stack = X.outer ∨ (X.stack = X.env :: X.outer ∧ X.env.frame = some X.env.locals)
  exf : ∀ b ∈ X.ex, b ≠ X.env.locals ∧ ∀ x c, X.env.cells.lookup x = some c → c ≠ b
  bs : ∀ b o, X.base.get? b = some o → X.s₀.heap.get? b = some o ∧ X.H₀ b = none
  bsz : X.base.objs.size ≤ X.s₀.heap.objs.size
  noex : ∀ b o, X.base.get? b = some o → b ∉ X.ex
  exfs : ∀ b ∈ X.ex, b ∉ X.fs
  funs : X.s₀.heap.FunFrames X.base X.outer
  frf : ∀ b ∈ X.fs, X.H₀ b = none

structure Inv (X : Cx) (pins : List (Addr × Obj)) (σ : List (Option V)) (H : Hp) (s : Shared) : Prop where
  ok : X.Ok
  os : s.os = X.s₀.os
  bare : AllBare s.gens
  base : Un X.fs X.ex X.H₀ H X.s₀.heap s.heap
  loc : ∃ m, s.heap.Ns X.env.locals m ∧ ∀ (i : Nat) (x : Str) (v : V), X.N[i]? = some x → σ[i]? = some (some v) → Vis X.env.scope x → ∃ u, RelV v u ∧ Look X.env s.heap m x u
  cell : ∀ x c, X.env.cells.lookup x = some c → ∃ v, s.heap.IsCell c v
  free : H X.env.locals = none
  freeC : ∀ x c, X.env.cells.lookup x = some c → H c = none
  pin : ∀ p ∈ X.pn ++ pins, s.heap.get? p.1 = some p.2 ∧ H p.1 = none ∧ p.1 ≠ X.env.locals ∧ p.1 ∉ X.fs ∧ ∀ v, p.2.data ≠ .cell v
  hok : HOk X.prog X.w H s.heap
  len : σ.length = X.N.length

section
variable {X : Cx} {pins : List (Addr × Obj)} {σ : List (Option V)} {H H' : Hp} {s : Shared} {h' : Heap}

theorem Cx.Ok.nofr (ok : X.Ok) {b : Addr} {o : Obj} (e : X.base.get? b = some o) : b ∉ X.fs := fun hb => by
  have := (ok.funs.mem hb).1
  rw [e] at this; cases this
theorem Inv.bs (I : Inv X pins σ H s) : ∀ b o, X.base.get? b = some o → s.heap.get? b = some o ∧ H b = none := fun b o e =>
  ⟨I.base.keep b o (I.ok.bs b o e).1 (I.ok.bs b o e).2 (I.ok.nofr e) (I.ok.noex b o e), I.base.free b o (I.ok.bs b o e).1 (I.ok.bs b o e).2 (I.ok.noex b o e)⟩
theorem Inv.bk (I : Inv X pins σ H s) : ∀ b o, X.base.get? b = some o → s.heap.get? b = some o := fun b o e => (I.bs b o e).1
theorem Inv.mod (I : Inv X pins σ H s) : Mod X.K X.mg X.base := I.ok.mod
theorem Inv.kIn (I : Inv X pins σ H s) : X.K.In s.heap := I.ok.mod.kin.keeps I.bk
theorem Inv.nolimit (I : Inv X pins σ H s) : s.heap.NoLimit := I.ok.mod.nolimit.keeps I.bk
/-- the frame over the base: for OpenK's rules (K.In X.base is I.mod.kin) -/
theorem Inv.fr (I : Inv X pins σ H s) : ∃ m, Fr X.base X.env.locals s.heap m :=
  let ⟨m, hn, _⟩ := I.loc
  ⟨m, hn, I.bk, Nat.le_trans I.ok.bsz I.ok.above⟩
theorem Inv.lt (I : Inv X pins σ H s) : X.env.locals < s.heap.objs.size := let ⟨_, hn, _⟩ := I.loc; hn.lt
theorem Inv.sz (I : Inv X pins σ H s) : X.s₀.heap.objs.size ≤ s.heap.objs.size := Nat.le_trans I.ok.above (Nat.le_of_lt I.lt)
theorem Inv.nofs (I : Inv X pins σ H s) {a : Addr} (h : s.heap.objs.size ≤ a) : a ∉ X.fs := fun hb => by
  obtain ⟨_, o, ho, _⟩ := I.ok.funs.mem hb
  exact absurd (Nat.lt_of_lt_of_le (Heap.lt_size ho) (Nat.le_trans I.sz h)) (Nat.lt_irrefl _)
theorem Inv.cne (I : Inv X pins σ H s) : ∀ x c, X.env.cells.lookup x = some c → c ≠ X.env.locals := fun x c e z => by
  obtain ⟨v, o, ho, hd⟩ := I.cell x c e
  obtain ⟨m, ⟨o', es, ep, ho', hd', _⟩, _⟩ := I.loc
  rw [z, ho'] at ho; cases ho; rw [hd'] at hd; cases hd
theorem Inv.funs (I : Inv X pins σ H s) : s.heap.FunFrames X.base X.outer := by
  have all : ∀ (l : List Env), (∀ b ∈ frs l, b ∈ X.fs) → X.s₀.heap.FunFrames X.base l → s.heap.FunFrames X.base l := by
    intro l
    induction l with
    | nil => intro _ _; trivial
    | cons env r ih =>
      intro hs hl
      obtain ⟨hk, ⟨L, o, hf, hn, ho, hd⟩, hr⟩ := hl
      have hL : L ∈ X.fs := hs L (by unfold frs; rw [List.filterMap_cons, hf]; exact List.mem_cons_self)
      obtain ⟨sl, e⟩ := I.base.slot L o ho (I.ok.frf L hL) hL fun z => I.ok.exfs L z hL
      exact ⟨hk, ⟨L, _, hf, hn, e, hd⟩, ih (fun b hb => hs b (by unfold frs; rw [List.filterMap_cons, hf]; exact List.mem_cons_of_mem _ hb)) hr⟩
  exact all X.outer (fun _ hb => hb) I.ok.funs

/-- the frames that run, for a call -/
theorem Inv.stack (I : Inv X pins σ H s) : s.heap.FunFrames X.base X.stack := by
  rcases I.ok.stk with e | ⟨e, hf⟩
  · rw [e]; exact I.funs
  · rw [e]
    obtain ⟨m, hn, _⟩ := I.loc
    refine .cons (by rw [I.ok.kind]; decide) hf hn ?_ I.funs
    exact Heap.get?_none_of_le (Nat.le_trans I.ok.bsz I.ok.above)
theorem Inv.stkSub (I : Inv X pins σ H s) : ∀ b ∈ frs X.stack, b ∈ X.env.locals :: X.fs := fun b hb => by
  rcases I.ok.stk with e | ⟨e, hf⟩
  · rw [e] at hb; exact List.mem_cons_of_mem _ hb
  · rw [e] at hb
    unfold frs at hb
    rw [List.filterMap_cons, hf] at hb
    exact hb
theorem Inv.stkFree (I : Inv X pins σ H s) : ∀ b ∈ frs X.stack, H b = none := fun b hb => by
  rcases List.mem_cons.mp (I.stkSub b hb) with e | hb
  · rw [e]; exact I.free
  · obtain ⟨_, o, ho, _⟩ := I.ok.funs.mem hb
    exact I.base.free b o ho (I.ok.frf b hb) fun z => I.ok.exfs b z hb

/-- THE STEP: the untracked objects but the frame and the records at ch are kept (the callers' frames up to slots), the frame's map is kept, the new abstract heap is held -/
theorem Inv.step {g' : Array GenState} {t' : Nat} {d' : Drawn} {ch : List Addr} (I : Inv X pins σ H s)
    (hch : ∀ b ∈ ch, (b ∈ X.ex ∨ X.s₀.heap.objs.size ≤ b) ∧ b ≠ X.env.locals ∧ (∀ x c, X.env.cells.lookup x = some c → c ≠ b) ∧ ∀ p ∈ X.pn ++ pins, p.1 ≠ b)
    (keep : ∀ b o, b ≠ X.env.locals → b ∉ X.fs → b ∉ ch → s.heap.get? b = some o → H b = none → h'.get? b = some o)
    (slot : ∀ b o, b ≠ X.env.locals → b ∈ X.fs → b ∉ ch → s.heap.get? b = some o → H b = none → ∃ sl, h'.get? b = some { o with slots := sl }) (free : ∀ b o, b ∉ ch → s.heap.get? b = some o → H b = none → H' b = none)
    (there : ∀ b o, b ∉ ch → s.heap.get? b = some o → ∃ o', h'.get? b = some o')
    (tups : ∀ b xs, H b = some (.tup xs) → H' b = some (.tup xs)) (frzs : ∀ b o u, H b = some (.frz o u) → H' b = some (.frz o u)) (tbls : ∀ b ps, H b = some (.tbl ps) → ∃ more, H' b = some (.tbl (ps ++ more)))
    (ns : ∀ m, s.heap.Ns X.env.locals m → h'.Ns X.env.locals m) (hok : HOk X.prog X.w H' h') (hg : AllBare g') :
    Inv X pins σ H' { s with heap := h', gens := g', drawn := d', toks := t' } := by
  have neL : ∀ b o, X.s₀.heap.get? b = some o → b ≠ X.env.locals := fun b o e => Nat.ne_of_lt (Nat.lt_of_lt_of_le (Heap.lt_size e) I.ok.above)
  have neC : ∀ b o, X.s₀.heap.get? b = some o → b ∉ X.ex → b ∉ ch := fun b o e hx hb => by
    rcases (hch b hb).1 with z | z
    · exact hx z
    · exact absurd (Nat.lt_of_lt_of_le (Heap.lt_size e) z) (Nat.lt_irrefl _)
  have cellK : ∀ x c, X.env.cells.lookup x = some c → ∀ v, s.heap.IsCell c v → h'.IsCell c v := fun x c e v ⟨o, ho, hd⟩ => by
    have nch : c ∉ ch := fun z => (hch c z).2.2.1 x c e rfl
    by_cases hc : c ∈ X.fs
    · obtain ⟨sl, q⟩ := slot c o (I.cne x c e) hc nch ho (I.freeC x c e)
      exact ⟨_, q, hd⟩
    · exact ⟨o, keep c o (I.cne x c e) hc nch ho (I.freeC x c e), hd⟩
  refine ⟨I.ok, I.os, hg, ⟨fun b o e n hb hx => ?_, fun b o e n hb hx => ?_, fun b o e n hx => ?_, fun b o e hx => ?_, fun b xs e => tups b xs (I.base.tups b xs e), fun b o xs e => frzs b o xs (I.base.frzs b o xs e), fun b ps e => ?_⟩, ?_, fun x c e => ?_, ?_, fun x c e => ?_, fun p hp => ?_, hok, I.len⟩
  · exact keep b o (neL b o e) hb (neC b o e hx) (I.base.keep b o e n hb hx) (I.base.free b o e n hx)
  · obtain ⟨sl, e1⟩ := I.base.slot b o e n hb hx
    obtain ⟨sl', e2⟩ := slot b _ (neL b o e) hb (neC b o e hx) e1 (I.base.free b o e n hx)
    exact ⟨sl', e2⟩
  · obtain ⟨o', e1⟩ := I.base.there b o e hx
    exact free b o' (neC b o e hx) e1 (I.base.free b o e n hx)
  · obtain ⟨o', e1⟩ := I.base.there b o e hx
    exact there b o' (neC b o e hx) e1
  · obtain ⟨m1, e1⟩ := I.base.tbls b ps e
    obtain ⟨m2, e2⟩ := tbls b _ e1
    exact ⟨m1 ++ m2, by rw [e2, Array.append_assoc]⟩
  · obtain ⟨m, hn, hl⟩ := I.loc
    refine ⟨m, ns m hn, fun i x v e1 e2 e3 => ?_⟩
    obtain ⟨u, r, l⟩ := hl i x v e1 e2 e3
    refine ⟨u, r, ?_⟩
    rcases l with l | ⟨k, c, e, z⟩
    · exact .inl l
    · exact .inr ⟨k, c, e, cellK x c e _ z⟩
  · obtain ⟨v, z⟩ := I.cell x c e
    exact ⟨v, cellK x c e v z⟩
  · obtain ⟨m, ⟨o, _, _, ho, _⟩, _⟩ := I.loc
    exact free _ o (fun z => (hch _ z).2.1 rfl) ho I.free
  · obtain ⟨v, o, ho, hd⟩ := I.cell x c e
    exact free c o (fun z => (hch c z).2.2.1 x c e rfl) ho (I.freeC x c e)
  · obtain ⟨e, n, ne, nf, d⟩ := I.pin p hp
    have nch : p.1 ∉ ch := fun z => (hch p.1 z).2.2.2 p hp rfl
    exact ⟨keep p.1 p.2 ne nf nch e n, free p.1 p.2 nch e n, ne, nf, d⟩
/-- .. where the frame's own object is kept too -/
theorem Inv.un {t' : Nat} (I : Inv X pins σ H s) (u : Un X.fs [] H H' s.heap h') (hok : HOk X.prog X.w H' h') : Inv X pins σ H' { s with heap := h', toks := t' } := by
  obtain ⟨m, ⟨o, es, ep, ho, r⟩, _⟩ := id I.loc
  obtain ⟨sl, hL⟩ := u.any ho I.free (by simp)
  exact I.step (g' := s.gens) (d' := s.drawn) (ch := []) (fun _ z => nomatch z) (fun b o _ hb _ e n => u.keep b o e n hb (by simp)) (fun b o _ hb _ e n => u.slot b o e n hb (by simp)) (fun b o _ e n => u.free b o e n (by simp)) (fun b o _ e => u.there b o e (by simp)) u.tups u.frzs u.tbls (fun m' hm => by
    obtain ⟨o', es', ep', ho', r'⟩ := hm
    rw [ho] at ho'; cases ho'
    exact ⟨_, es', ep', hL, r'⟩) hok I.bare
/-- behind a call (or a comprehension's block): the slots of this frame may have changed too, the records at ch may have turned -/
theorem Inv.call {g' : Array GenState} {t' : Nat} {d' : Drawn} {ch : List Addr} (I : Inv X pins σ H s) (u : Un (frs X.stack) ch H H' s.heap h') (hok : HOk X.prog X.w H' h') (hg : AllBare g')
    (hch : ∀ b ∈ ch, (b ∈ X.ex ∨ X.s₀.heap.objs.size ≤ b) ∧ b ≠ X.env.locals ∧ (∀ x c, X.env.cells.lookup x = some c → c ≠ b) ∧ ∀ p ∈ X.pn ++ pins, p.1 ≠ b) :
    Inv X pins σ H' { s with heap := h', gens := g', drawn := d', toks := t' } := by
  obtain ⟨m, ⟨o, es, ep, ho, r⟩, _⟩ := id I.loc
  obtain ⟨sl, hL⟩ := u.any ho I.free fun z => (hch _ z).2.1 rfl
  exact I.step (ch := ch) hch (fun b o hL hb hc e n => u.keep b o e n (fun z => (List.mem_cons.mp (I.stkSub b z)).elim hL hb) hc) (fun b o _ _ hc e n => u.any e n hc) (fun b o hc e n => u.free b o e n hc) (fun b o hc e => u.there b o e hc) u.tups u.frzs u.tbls (fun m' hm => by
    obtain ⟨o', es', ep', ho', r'⟩ := hm
    rw [ho] at ho'; cases ho'
    exact ⟨_, es', ep', hL, r'⟩) hok hg
/-- an untracked record of ours (an iterator) has turned -/
theorem Inv.turned {t' : Nat} {it : Addr} (I : Inv X pins σ H s) (k : ∀ b o, b ≠ it → s.heap.get? b = some o → h'.get? b = some o) (hn : H it = none) (hL : it ≠ X.env.locals)
    (h1 : it ∈ X.ex ∨ X.s₀.heap.objs.size ≤ it) (h2 : ∀ x c, X.env.cells.lookup x = some c → c ≠ it) (h3 : ∀ p ∈ X.pn ++ pins, p.1 ≠ it) : Inv X pins σ H { s with heap := h', toks := t' } := by
  have nit : ∀ b u, H b = some u → b ≠ it := fun b u e z => by rw [z, hn] at e; cases e
  refine I.step (g' := s.gens) (d' := s.drawn) (ch := [it]) (fun b hb => ?_) (fun b o _ _ hc e _ => k b o (fun z => hc (by simp [z])) e) (fun b o _ _ hc e _ => ⟨o.slots, k b o (fun z => hc (by simp [z])) e⟩) (fun _ _ _ _ n => n)
    (fun b o hc e => ⟨o, k b o (fun z => hc (by simp [z])) e⟩) (fun _ _ e => e) (fun _ _ _ e => e) (fun b ps e => ⟨#[], by rw [e]; simp⟩) (fun m hm => ?_) (fun b u e => ?_) I.bare
  · have e : b = it := by simpa using hb
    subst e
    exact ⟨h1, hL, h2, h3⟩
  · obtain ⟨o, es, ep, ho, r⟩ := hm
    exact ⟨o, es, ep, k _ o (Ne.symm hL) ho, r⟩
  · refine (I.hok b u e).stay (fun c v hc q => k c v ?_ q) (fun _ q => q) fun _ _ q => q
    rcases hc with z | z
    · rw [z]; exact nit b u e
    · exact nit c _ z
theorem Inv.tok (I : Inv X pins σ H s) (t : Nat) : Inv X pins σ H { s with toks := t } := I.un (h' := s.heap) (t' := t) Un.refl I.hok
/-- all objects kept -/
theorem Inv.kept {t' : Nat} (I : Inv X pins σ H s) (k : ∀ b u, s.heap.get? b = some u → h'.get? b = some u) : Inv X pins σ H { s with heap := h', toks := t' } := I.un (Un.kept k) (I.hok.kept k)
/-- a new object laid and tracked -/
theorem Inv.laid {a : Addr} {o : HO} {t' : Nat} (I : Inv X pins σ H s) (k : ∀ b u, s.heap.get? b = some u → h'.get? b = some u) (hp : s.heap.objs.size ≤ a) (new : ObjOk X.prog X.w (upd H a o) h' a o) :
    Inv X pins σ (upd H a o) { s with heap := h', toks := t' } := I.un (Un.laid k hp (I.hok.fresh hp)) (I.hok.laid k hp new)
/-- an object written -/
theorem Inv.write {x e : Addr} {o : HO} {t' : Nat} (I : Inv X pins σ H s) (mu : Mut (H x)) (he : e = x ∨ H e = some (.own x)) (k : ∀ b u, b ≠ e → s.heap.get? b = some u → h'.get? b = some u) (heo : ∃ u, h'.get? e = some u)
    (new : ObjOk X.prog X.w (upd H x o) h' x o) : Inv X pins σ (upd H x o) { s with heap := h', toks := t' } := I.un (Un.write mu he k heo) (I.hok.write mu he k heo new)
/-- forgetting slots, pins -/
theorem Inv.weak {σ' : List (Option V)} (I : Inv X pins σ H s) (hl : σ'.length = σ.length) (w : ∀ (i : Nat) v, σ'[i]? = some (some v) → σ[i]? = some (some v)) : Inv X pins σ' H s :=
  ⟨I.ok, I.os, I.bare, I.base, let ⟨m, hn, hl'⟩ := I.loc; ⟨m, hn, fun i x v e1 e2 e3 => hl' i x v e1 (w i v e2) e3⟩, I.cell, I.free, I.freeC, I.pin, I.hok, hl.trans I.len⟩
theorem Inv.pins_of {pins' : List (Addr × Obj)} (I : Inv X pins σ H s) (h : ∀ p ∈ pins', s.heap.get? p.1 = some p.2 ∧ H p.1 = none ∧ p.1 ≠ X.env.locals ∧ p.1 ∉ X.fs ∧ ∀ v, p.2.data ≠ .cell v) : Inv X pins' σ H s :=
  ⟨I.ok, I.os, I.bare, I.base, I.loc, I.cell, I.free, I.freeC, fun p hp => (List.mem_append.mp hp).elim (fun z => I.pin p (List.mem_append_left _ z)) (h p), I.hok, I.len⟩

theorem nodup_ix {N : List Str} (hN : N.Nodup) {i j : Nat} {x : Str} (a : N[i]? = some x) (b : N[j]? = some x) : i = j := by
  obtain ⟨h1, e1⟩ := List.getElem?_eq_some_iff.mp a
  obtain ⟨h2, e2⟩ := List.getElem?_eq_some_iff.mp b
  exact (List.getElem_inj hN).mp (e1.trans e2.symm)

/-- a name is stored; what changed -/
theorem store_ok2 {M : Model} {A : Around} {E : Value → Shared → Prop} {i : Nat} {x : Str} {v : V} {u : Value} {Q : Unit → Shared → Prop} (I : Inv X pins σ H s) (hN : X.N.Nodup) (hi : X.N[i]? = some x) (hx : Loc X.env.scope x) (r : RelV v u)
    (h : ∀ s', Inv X pins (σ.set i (some v)) H s' → (∃ a, Heap.SameBut a s.heap s'.heap ∧ (a = X.env.locals ∨ X.env.cells.lookup x = some a)) → Q () s') (hf : X.fn x = true ∨ X.env.scope.names.lookup x = some .local := by first | exact .inl rfl | exact .inr rfl | assumption) : wpAny M A (storeName X.env x u) Q E s := by
  obtain ⟨m, hn, hl⟩ := id I.loc
  have hcls : (X.env.scope.kind == .class || (X.env.scope.kind == .module && X.env.locals != X.env.globals)) = false := by rw [I.ok.kind]; rfl
  have hiσ : i < σ.length := by rw [I.len]; exact (List.getElem?_eq_some_iff.mp hi).1
  have cne := I.cne
  have tracked : ∀ {a : Addr} {h' : Heap}, (∃ o, s.heap.get? a = some o ∧ H a = none) → Heap.SameBut a s.heap h' → HOk X.prog X.w H h' := fun {a h'} ha hs b ob e => by
    obtain ⟨_, _, hfree⟩ := ha
    refine (I.hok b ob e).stay (fun c w' hc q => (hs.2 c ?_).trans q) (fun _ q => q) fun _ _ q => q
    rintro rfl
    rcases hc with rfl | hc
    · rw [hfree] at e; cases e
    · rw [hfree] at hc; cases hc
  rcases hx with hk | hk
  · refine wpAny_storeName_local hk hn (fun h' hn' hs => ?_) hcls
    obtain ⟨oL, _, _, hoL, _⟩ := id hn
    refine h _ ⟨I.ok, I.os, I.bare, ⟨fun b o e n hb hx => ?_, fun b o e n hb hx => ?_, I.base.free, fun b o e hx => ?_, I.base.tups, I.base.frzs, I.base.tbls⟩, ⟨_, hn', fun j y v' e1 e2 e3 => ?_⟩, fun y c e => ?_, I.free, I.freeC, fun p hp => ?_, tracked ⟨oL, hoL, I.free⟩ hs, by simpa using I.len⟩ ⟨_, hs, .inl rfl⟩
    · exact (hs.2 b (Nat.ne_of_lt (Nat.lt_of_lt_of_le (Heap.lt_size e) I.ok.above))).trans (I.base.keep b o e n hb hx)
    · obtain ⟨sl, e1⟩ := I.base.slot b o e n hb hx
      exact ⟨sl, (hs.2 b (Nat.ne_of_lt (Nat.lt_of_lt_of_le (Heap.lt_size e) I.ok.above))).trans e1⟩
    · obtain ⟨o', e1⟩ := I.base.there b o e hx
      exact ⟨o', (hs.2 b (Nat.ne_of_lt (Nat.lt_of_lt_of_le (Heap.lt_size e) I.ok.above))).trans e1⟩
    · by_cases hj : j = i
      · subst hj
        rw [hi] at e1; cases e1
        rw [List.getElem?_set_self hiσ] at e2
        cases e2
        exact ⟨u, r, .inl ⟨hk, by simp⟩⟩
      · rw [List.getElem?_set_ne (Ne.symm hj)] at e2
        obtain ⟨u', r', q⟩ := hl j y v' e1 e2 e3
        refine ⟨u', r', ?_⟩
        rcases q with ⟨k, e⟩ | ⟨k, c, e, z⟩
        · refine .inl ⟨k, ?_⟩
          have : y ≠ x := fun e => hj (nodup_ix hN e1 (e ▸ hi))
          simp [this, e]
        · exact .inr ⟨k, c, e, z.sameBut hs (cne y c e)⟩
    · obtain ⟨w', z⟩ := I.cell y c e
      exact ⟨w', z.sameBut hs (cne y c e)⟩
    · obtain ⟨e, n, ne, nf, d⟩ := I.pin p hp
      exact ⟨(hs.2 p.1 ne).trans e, n, ne, nf, d⟩
  · have hfn : X.fn x = true := by
      rcases hf with z | z
      · exact z
      · rw [z] at hk; cases hk
    obtain ⟨c, hc⟩ := I.ok.has x (.inl hk)
    obtain ⟨w', z⟩ := I.cell x c hc
    refine wpAny_storeName_cell I.ok.kind hk hc z (fun h' hc' hs => ?_)
    obtain ⟨oc, hoc, hocd⟩ := id z
    refine h { s with heap := h' } ⟨I.ok, I.os, I.bare, ⟨fun b o e n hb hx => ?_, fun b o e n hb hx => ?_, I.base.free, fun b o e hx => ?_, I.base.tups, I.base.frzs, I.base.tbls⟩, ⟨m, hn.sameBut hs (Ne.symm (cne x c hc)), fun j y v' e1 e2 e3 => ?_⟩, fun y c' e => ?_, I.free, I.freeC, fun p hp => ?_, tracked ⟨oc, hoc, I.freeC x c hc⟩ hs, by simpa using I.len⟩ ⟨c, hs, .inr hc⟩
    · exact (hs.2 b (Nat.ne_of_lt (Nat.lt_of_lt_of_le (Heap.lt_size e) (I.ok.cab x c hfn hc)))).trans (I.base.keep b o e n hb hx)
    · obtain ⟨sl, e1⟩ := I.base.slot b o e n hb hx
      exact ⟨sl, (hs.2 b (Nat.ne_of_lt (Nat.lt_of_lt_of_le (Heap.lt_size e) (I.ok.cab x c hfn hc)))).trans e1⟩
    · obtain ⟨o', e1⟩ := I.base.there b o e hx
      exact ⟨o', (hs.2 b (Nat.ne_of_lt (Nat.lt_of_lt_of_le (Heap.lt_size e) (I.ok.cab x c hfn hc)))).trans e1⟩
    · by_cases hj : j = i
      · subst hj
        rw [hi] at e1; cases e1
        rw [List.getElem?_set_self hiσ] at e2
        cases e2
        exact ⟨u, r, .inr ⟨.inl hk, c, hc, hc'⟩⟩
      · rw [List.getElem?_set_ne (Ne.symm hj)] at e2
        obtain ⟨u', r', q⟩ := hl j y v' e1 e2 e3
        refine ⟨u', r', ?_⟩
        rcases q with q | ⟨k, c', e, z'⟩
        · exact .inl q
        · refine .inr ⟨k, c', e, z'.sameBut hs ?_⟩
          rintro rfl
          exact hj (nodup_ix hN e1 (I.ok.inj _ _ _ e hc ▸ hi))
    · by_cases hcc : c' = c
      · subst hcc; exact ⟨_, hc'⟩
      · obtain ⟨w2, z2⟩ := I.cell y c' e
        exact ⟨w2, z2.sameBut hs hcc⟩
    · obtain ⟨e, n, ne, nf, d⟩ := I.pin p hp
      refine ⟨(hs.2 p.1 ?_).trans e, n, ne, nf, d⟩
      intro q
      rw [q, hoc] at e
      have q' : oc = p.2 := Option.some.inj e
      exact d w' (by rw [← q']; exact hocd)
theorem store_ok {M : Model} {A : Around} {E : Value → Shared → Prop} {i : Nat} {x : Str} {v : V} {u : Value} {Q : Unit → Shared → Prop} (I : Inv X pins σ H s) (hN : X.N.Nodup) (hi : X.N[i]? = some x) (hx : Loc X.env.scope x) (r : RelV v u)
    (h : ∀ s', Inv X pins (σ.set i (some v)) H s' → Q () s') (hf : X.fn x = true ∨ X.env.scope.names.lookup x = some .local := by first | exact .inl rfl | exact .inr rfl | assumption) : wpAny M A (storeName X.env x u) Q E s :=
  store_ok2 I hN hi hx r (fun s' I' _ => h s' I') hf
/-- behind a call or a block, the state as it is -/
theorem Inv.call' {s' : Shared} {ch : List Addr} (I : Inv X pins σ H s) (ho : s'.os = s.os) (u : Un (frs X.stack) ch H H' s.heap s'.heap) (hok : HOk X.prog X.w H' s'.heap) (hg : AllBare s'.gens)
    (hch : ∀ b ∈ ch, (b ∈ X.ex ∨ X.s₀.heap.objs.size ≤ b) ∧ b ≠ X.env.locals ∧ (∀ x c, X.env.cells.lookup x = some c → c ≠ b) ∧ ∀ p ∈ X.pn ++ pins, p.1 ≠ b) : Inv X pins σ H' s' := by
  obtain ⟨h', g', d', t', o'⟩ := s'
  have e : o' = s.os := ho
  subst e
  exact I.call (g' := g') (t' := t') (d' := d') u hok hg hch
end

/-! ### the judgements -/
/-- an exception: its class, its own dict's address (where it has one), the abstract heap behind it -/
abbrev XK := Value → Option Addr → Hp → Prop
abbrev St := List (Option V)
abbrev VK := V → Hp → Prop
/-- an expression's reading; a test's; an argument list's -/
abbrev TE := St → Hp → VK → Prop
abbrev TT := St → Hp → (Bool → Hp → Prop) → Prop
abbrev TA := St → Hp → (List V → Hp → Prop) → Prop
/-- what is wanted behind a statement -/
structure Ends where
  nx : St → Hp → Prop
  rt : VK
  bk : St → Hp → Prop := fun _ _ => False
  ct : St → Hp → Prop := fun _ _ => False
abbrev TS := Ends → St → Hp → Prop

def EP (X : Cx) (pins : List (Addr × Obj)) (σ : St) (Q : VK) (u : Value) (s' : Shared) : Prop := ∃ v H', Inv X pins σ H' s' ∧ RelV v u ∧ Q v H'
def TP (X : Cx) (pins : List (Addr × Obj)) (σ : St) (Q : Bool → Hp → Prop) (b : Bool) (s' : Shared) : Prop := ∃ H', Inv X pins σ H' s' ∧ Q b H'
def AP (X : Cx) (pins : List (Addr × Obj)) (σ : St) (Q : List V → Hp → Prop) (us : List Value) (s' : Shared) : Prop := ∃ vs H', Inv X pins σ H' s' ∧ Vals vs us ∧ Q vs H'
def SP (X : Cx) (pins : List (Addr × Obj)) (D : Ends) (f : Flow) (s' : Shared) : Prop :=
  match f with
  | .next => ∃ σ' H', Inv X pins σ' H' s' ∧ D.nx σ' H'
  | .brk => ∃ σ' H', Inv X pins σ' H' s' ∧ D.bk σ' H'
  | .cont => ∃ σ' H', Inv X pins σ' H' s' ∧ D.ct σ' H'
  | .ret u => ∃ v σ' H', Inv X pins σ' H' s' ∧ RelV v u ∧ D.rt v H'

def PE (X : Cx) (e : Expr) (t : TE) : Prop :=
  ∀ (pins : List (Addr × Obj)) (s : Shared) (σ : St) (H : Hp) (Q : VK), Inv X pins σ H s → t σ H Q → wpAny (model X.prog X.w) X.A (eval e X.env) (EP X pins σ Q) X.xe s
def PT (X : Cx) (e : Expr) (t : TT) : Prop :=
  ∀ (pins : List (Addr × Obj)) (s : Shared) (σ : St) (H : Hp) (Q : Bool → Hp → Prop), Inv X pins σ H s → t σ H Q → wpAny (model X.prog X.w) X.A (isTrue e X.env (eval e X.env)) (TP X pins σ Q) X.xe s
/-- a test whatever its 'whole' is (and, or) -/
def PW (X : Cx) (e : Expr) (t : TT) : Prop :=
  ∀ (whole : Sem Value) (pins : List (Addr × Obj)) (s : Shared) (σ : St) (H : Hp) (Q : Bool → Hp → Prop), Inv X pins σ H s → t σ H Q → wpAny (model X.prog X.w) X.A (isTrue e X.env whole) (TP X pins σ Q) X.xe s
theorem PW.pt {X : Cx} {e : Expr} {t : TT} (h : PW X e t) : PT X e t := h _
/-- an argument list (no star), from the left -/
def PA (X : Cx) (es : List Expr) (t : TA) : Prop :=
  ∀ (pos : Pos) (pins : List (Addr × Obj)) (s : Shared) (σ : St) (H : Hp) (Q : List V → Hp → Prop), Inv X pins σ H s → t σ H Q → wpAny (model X.prog X.w) X.A (spliced (backTo pos (starEach es X.env))) (AP X pins σ Q) X.xe s
def PS (X : Cx) (st : Stmt) (t : TS) : Prop :=
  ∀ (pins : List (Addr × Obj)) (s : Shared) (σ : St) (H : Hp) (D : Ends), Inv X pins σ H s → t D σ H → wpAny (model X.prog X.w) X.A (exec st X.env) (SP X pins D) X.xe s
def PSs (X : Cx) (st : List Stmt) (t : TS) : Prop :=
  ∀ (pins : List (Addr × Obj)) (s : Shared) (σ : St) (H : Hp) (D : Ends), Inv X pins σ H s → t D σ H → wpAny (model X.prog X.w) X.A (execs st X.env) (SP X pins D) X.xe s
/-- weaken the end -/
theorem thn {α : Type} {t : Sem α} {Q Q' : α → Shared → Prop} {M : Model} {A : Around} {E : Value → Shared → Prop} {s : Shared} (h : wpAny M A t Q E s) (hQ : ∀ a s, Q a s → Q' a s) : wpAny M A t Q' E s := wpAny_mono h hQ fun _ _ x => x
end L2

namespace L2
open PySem PySem.Spec PyProof.Rows
section
variable {X : Cx}

/-- two expressions in a row -/
theorem bin {a b : Expr} {ta tb : TE} (ha : PE X a ta) (hb : PE X b tb) {pins : List (Addr × Obj)} {s : Shared} {σ : St} {H : Hp} {R : V → V → Hp → Prop} (I : Inv X pins σ H s) (h : ta σ H fun x H1 => tb σ H1 fun y H2 => R x y H2)
    {α : Type} {Q : α → Shared → Prop} {f : Value → Value → Sem α}
    (hf : ∀ v u s2 x y H2, Inv X pins σ H2 s2 → RelV x v → RelV y u → R x y H2 → wpAny (model X.prog X.w) X.A (f v u) Q X.xe s2) :
    wpAny (model X.prog X.w) X.A (eval a X.env) (fun v s₁ => wpAny (model X.prog X.w) X.A (eval b X.env) (fun u s₂ => wpAny (model X.prog X.w) X.A (f v u) Q X.xe s₂) X.xe s₁) X.xe s := by
  refine thn (ha pins s σ H _ I h) fun v s1 ⟨x, H1, I1, r1, q1⟩ => ?_
  refine thn (hb pins s1 σ H1 _ I1 q1) fun u s2 ⟨y, H2, I2, r2, q2⟩ => ?_
  exact hf v u s2 x y H2 I2 r1 r2 q2

/-! ### names and constants -/
def tVar (i : Nat) : TE := fun σ H Q => ∃ v, σ[i]? = some (some v) ∧ Q v H
def tC (v : V) : TE := fun _ H Q => Q v H
theorem pe_var {i : Nat} {x : Str} {pos : Pos} (hN : X.N[i]? = some x) (hv : Vis X.env.scope x) (hd : (x == ("__debug__" : Str)) = false := by decide) (hcd : (x == ("__classdict__" : Str)) = false := by decide) : PE X (.Name x pos) (tVar i) := by
  intro pins s σ H Q I h
  obtain ⟨v, e, h⟩ := h
  obtain ⟨m, hn, hl⟩ := I.loc
  obtain ⟨u, r, l⟩ := hl i x v hN e hv
  have fin : EP X pins σ Q u s := ⟨v, H, I, r, h⟩
  rcases l with ⟨hk, hm⟩ | ⟨hk, c, hc, hcell⟩
  · exact wpAny_Name (wpAny_loadName_local I.ok.kind hk hn hm fin) hd
  · rcases hk with hk | hk
    · exact wpAny_Name (wpAny_loadName_cell I.ok.kind hk hc hcell fin) hd
    · exact wpAny_Name (wpAny_loadName_free I.ok.kind hk hc hcell fin hcd) hd
theorem pe_int {i j pos} : PE X (.Constant (.int i) j pos) (tC (.int i)) := fun _ _ _ H _ I h => wpAny_Constant_int ⟨.int i, H, I.tok _, ⟨_, rfl⟩, h⟩
theorem pe_bl {b j pos} : PE X (.Constant (.bool b) j pos) (tC (.bl b)) := fun _ _ _ H _ I h => Constant_bool ⟨.bl b, H, I, rfl, h⟩
theorem pe_non {j pos} : PE X (.Constant .none j pos) (tC .non) := fun _ _ _ H _ I h => Constant_none ⟨.non, H, I, rfl, h⟩
theorem pe_str {x j pos} : PE X (.Constant (.str x) j pos) (tC (.str x)) := fun _ _ _ H _ I h => Calls.Constant_str ⟨.str x, H, I.tok _, ⟨_, rfl⟩, h⟩

/-- a global name of the def -/
def Gl (X : Cx) (x : Str) : Prop := X.env.kindOf x = some .globalImplicit
theorem ld_glob {E : Value → Shared → Prop} {pins : List (Addr × Obj)} {s : Shared} {σ : St} {H : Hp} {x : Str} {u : Value} {pos : Pos} {Q : Value → Shared → Prop} (I : Inv X pins σ H s) (hg : Gl X x) (hm : X.mg x = some u) (h : Q u s)
    (hd : (x == ("__debug__" : Str)) = false := by decide) : wpAny (model X.prog X.w) X.A (eval (.Name x pos) X.env) Q E s :=
  Calls.Name_function_global I.ok.kind hg (Calls.loadGlobal_global (by rw [I.ok.glob]; exact I.mod.glob.keeps I.bk) hm h) hd
theorem ld_blt {E : Value → Shared → Prop} {pins : List (Addr × Obj)} {s : Shared} {σ : St} {H : Hp} {x : Str} {u : Value} {pos : Pos} {Q : Value → Shared → Prop} (I : Inv X pins σ H s) (hg : Gl X x) (hm : X.mg x = none) (hv : bootBuiltins x = some u) (h : Q u s)
    (hn : x ≠ "__name__" := by decide) (hd : (x == ("__debug__" : Str)) = false := by decide) : wpAny (model X.prog X.w) X.A (eval (.Name x pos) X.env) Q E s := by
  obtain ⟨mb, h1, h2⟩ := I.mod.blt
  exact Calls.Name_function_global I.ok.kind hg (Calls.loadGlobal_builtin (by rw [I.ok.glob]; exact I.mod.glob.keeps I.bk) hm (by rw [I.ok.blt]; exact h1.keeps I.bk) ((h2 x hn).trans hv) h) hd
/-- a module's constant, a class, a function, as a value -/
theorem pe_glob {x : Str} {v : V} {u : Value} {pos : Pos} (hg : Gl X x) (hm : X.mg x = some u) (r : RelV v u) (hd : (x == ("__debug__" : Str)) = false := by decide) : PE X (.Name x pos) (tC v) :=
  fun _ _ _ H _ I h => ld_glob I hg hm ⟨v, H, I, r, h⟩ hd
theorem pe_bltn {x : Str} {v : V} {u : Value} {pos : Pos} (hg : Gl X x) (hm : X.mg x = none) (hv : bootBuiltins x = some u) (r : RelV v u) (hn : x ≠ "__name__" := by decide) (hd : (x == ("__debug__" : Str)) = false := by decide) : PE X (.Name x pos) (tC v) :=
  fun _ _ _ H _ I h => ld_blt I hg hm hv ⟨v, H, I, r, h⟩ hn hd

/-! ### arithmetic -/
/-- two ints -/
def t2I (ta tb : TE) (k : Int → Int → Hp → Prop) : St → Hp → Prop := fun σ H => ta σ H fun x H1 => tb σ H1 fun y H2 => ∃ i j, x = .int i ∧ y = .int j ∧ k i j H2
def tAdd (ta tb : TE) : TE := fun σ H Q => t2I ta tb (fun i j H2 => Q (.int (i + j)) H2) σ H
def tSub (ta tb : TE) : TE := fun σ H Q => t2I ta tb (fun i j H2 => Q (.int (i - j)) H2) σ H
/-- the left factor below 2^64 -/
def tMul (ta tb : TE) : TE := fun σ H Q => t2I ta tb (fun i j H2 => (-(2 ^ 64) < i ∧ i < 2 ^ 64) ∧ Q (.int (i * j)) H2) σ H
variable {a b : Expr} {ta tb : TE} {pos : Pos}
theorem pe_add (ha : PE X a ta) (hb : PE X b tb) : PE X (.BinOp a .Add b pos) (tAdd ta tb) := by
  intro pins s σ H Q I h
  refine wpAny_BinOp (bin ha hb I h fun v u s2 x y H2 I2 rx ry q => ?_)
  obtain ⟨i, j, rfl, rfl, q⟩ := q
  obtain ⟨t, rfl⟩ := rx
  obtain ⟨t', rfl⟩ := ry
  exact add_int ⟨.int _, H2, I2.tok _, ⟨_, rfl⟩, q⟩
theorem pe_sub (ha : PE X a ta) (hb : PE X b tb) : PE X (.BinOp a .Sub b pos) (tSub ta tb) := by
  intro pins s σ H Q I h
  refine wpAny_BinOp (bin ha hb I h fun v u s2 x y H2 I2 rx ry q => ?_)
  obtain ⟨i, j, rfl, rfl, q⟩ := q
  obtain ⟨t, rfl⟩ := rx
  obtain ⟨t', rfl⟩ := ry
  exact sub_int ⟨.int _, H2, I2.tok _, ⟨_, rfl⟩, q⟩
theorem pe_mul (ha : PE X a ta) (hb : PE X b tb) : PE X (.BinOp a .Mult b pos) (tMul ta tb) := by
  intro pins s σ H Q I h
  refine wpAny_BinOp (bin ha hb I h fun v u s2 x y H2 I2 rx ry q => ?_)
  obtain ⟨i, j, rfl, rfl, ⟨q1, q2⟩, q⟩ := q
  obtain ⟨t, rfl⟩ := rx
  obtain ⟨t', rfl⟩ := ry
  exact mul_int ⟨.int _, H2, I2.tok _, ⟨_, rfl⟩, q⟩ (.of_left (intBits_le_64 q1 q2))

/-! ### comparisons -/
def PC (X : Cx) (op : CmpOp) (a b : Expr) (t : TE) : Prop :=
  ∀ (pins : List (Addr × Obj)) (s : Shared) (σ : St) (H : Hp) (Q : VK), Inv X pins σ H s → t σ H Q →
    wpAny (model X.prog X.w) X.A (eval a X.env) (fun v s₁ => wpAny (model X.prog X.w) X.A (eval b X.env) (fun u s₂ => wpAny (model X.prog X.w) X.A (compareOp op v u) (EP X pins σ Q) X.xe s₂) X.xe s₁) X.xe s
theorem nobehind (b : Expr) {op : CmpOp} (h : op ≠ .In) (h2 : op ≠ .NotIn) : behindInMarks op b = false := by
  have e1 : (op == CmpOp.In) = false := by cases op <;> first | rfl | exact absurd rfl h
  have e2 : (op == CmpOp.NotIn) = false := by cases op <;> first | rfl | exact absurd rfl h2
  cases b <;> simp [behindInMarks, e1, e2]
def tCmp (p : Int → Int → Bool) (ta tb : TE) : TE := fun σ H Q => t2I ta tb (fun i j H2 => Q (.bl (p i j)) H2) σ H
abbrev tLt : TE → TE → TE := tCmp fun i j => decide (i < j)
abbrev tLe : TE → TE → TE := tCmp fun i j => decide (i ≤ j)
abbrev tGt : TE → TE → TE := tCmp fun i j => decide (j < i)
abbrev tGe : TE → TE → TE := tCmp fun i j => decide (j ≤ i)
abbrev tEqI : TE → TE → TE := tCmp fun i j => decide (i = j)
abbrev tNeI : TE → TE → TE := tCmp fun i j => !decide (i = j)
/-- a comparison of two ints, by its rule -/
theorem pc_int {op : CmpOp} {p : Int → Int → Bool} (ha : PE X a ta) (hb : PE X b tb)
    (rule : ∀ (i j : Int) (t u : Tok) (Q : Value → Shared → Prop) (s : Shared), Q (.bool (p i j)) s → wpAny (model X.prog X.w) X.A (compareOp op (.int i t) (.int j u)) Q X.xe s) : PC X op a b (tCmp p ta tb) := by
  intro pins s σ H Q I h
  refine bin ha hb I h fun v u s2 x y H2 I2 rx ry q => ?_
  obtain ⟨i, j, rfl, rfl, q⟩ := q
  obtain ⟨t, rfl⟩ := rx
  obtain ⟨t', rfl⟩ := ry
  exact rule i j t t' _ s2 ⟨.bl _, H2, I2, rfl, q⟩
theorem pc_lt (ha : PE X a ta) (hb : PE X b tb) : PC X .Lt a b (tLt ta tb) := pc_int ha hb fun _ _ _ _ _ _ h => lt_int h
theorem pc_le (ha : PE X a ta) (hb : PE X b tb) : PC X .LtE a b (tLe ta tb) := pc_int ha hb fun _ _ _ _ _ _ h => le_int h
theorem pc_gt (ha : PE X a ta) (hb : PE X b tb) : PC X .Gt a b (tGt ta tb) := pc_int ha hb fun _ _ _ _ _ _ h => gt_int h
theorem pc_ge (ha : PE X a ta) (hb : PE X b tb) : PC X .GtE a b (tGe ta tb) := pc_int ha hb fun _ _ _ _ _ _ h => ge_int h
theorem pc_eqI (ha : PE X a ta) (hb : PE X b tb) : PC X .Eq a b (tEqI ta tb) := pc_int ha hb fun _ _ _ _ _ _ h => eq_int (by rw [Bool.beq_eq_decide_eq]; exact h)
theorem pc_neI (ha : PE X a ta) (hb : PE X b tb) : PC X .NotEq a b (tNeI ta tb) := pc_int ha hb fun _ _ _ _ _ _ h => ne_int (by rw [bne, Bool.beq_eq_decide_eq]; exact h)
/-- is None -/
def tIsN (ta : TE) : TE := fun σ H Q => ta σ H fun x H1 => Q (.bl (decide (x = .non))) H1
def tNotN (ta : TE) : TE := fun σ H Q => ta σ H fun x H1 => Q (.bl (!decide (x = .non))) H1
theorem RelV.none_iff {x : V} {v : Value} (r : RelV x v) : (v == Value.none) = decide (x = .non) := by
  cases x with
  | non => cases r; rfl
  | bl _ => cases r; rfl
  | int _ => obtain ⟨t, rfl⟩ := r; rfl
  | str _ => obtain ⟨t, rfl⟩ := r; rfl
  | byt _ => obtain ⟨t, rfl⟩ := r; rfl
  | flt _ => obtain ⟨t, rfl⟩ := r; rfl
  | ref _ => cases r; rfl
  | ty _ => cases r; rfl
theorem pc_isN {j pos'} (ha : PE X a ta) : PC X .Is a (.Constant .none j pos') (tIsN ta) := by
  intro pins s σ H Q I h
  refine thn (ha pins s σ H _ I h) fun v s1 ⟨x, H1, I1, r1, q1⟩ => ?_
  exact Constant_none (is_none_gen ⟨.bl _, H1, I1, by rw [r1.none_iff]; rfl, q1⟩)
theorem pc_notN {j pos'} (ha : PE X a ta) : PC X .IsNot a (.Constant .none j pos') (tNotN ta) := by
  intro pins s σ H Q I h
  refine thn (ha pins s σ H _ I h) fun v s1 ⟨x, H1, I1, r1, q1⟩ => ?_
  exact Constant_none (isnot_none_gen ⟨.bl _, H1, I1, by rw [r1.none_iff]; rfl, q1⟩)
/-- a comparison as a value, as a test -/
def tB (t : TE) : TT := fun σ H Q => t σ H fun x H1 => ∃ c, x = .bl c ∧ Q c H1
theorem pe_cmp {op : CmpOp} {t : TE} (h : PC X op a b t) (h1 : behindInMarks op b = false := by first | exact nobehind _ (by decide) (by decide) | rfl) : PE X (.Compare a [op] [b] pos) t := fun pins s σ H Q I hw => wpAny_Compare1 (h pins s σ H Q I hw) h1
theorem pt_cmp {op : CmpOp} {t : TE} (h : PC X op a b t) (h1 : behindInMarks op b = false := by first | exact nobehind _ (by decide) (by decide) | rfl) : PT X (.Compare a [op] [b] pos) (tB t) := by
  intro pins s σ H Q I hw
  refine wpAny_isTrue_Compare1 (thn (h pins s σ H _ I hw) fun v s1 h1 => thn h1 fun u s2 h2 => thn h2 fun c s3 ⟨x, H1, I1, r1, q1⟩ => ?_) h1
  obtain ⟨d, rfl, q⟩ := q1
  cases r1
  exact wpAny_truthy_bool ⟨H1, I1, q⟩
/-- an expression whose value is a bool, as a test -/
theorem pt_val {e : Expr} {t : TE} (h : PE X e t) (he : ∀ whole, isTrue e X.env whole = (do let v ← whole; standAt e.pos; holding [v] (truthy v)) := by intro _; rfl) : PT X e (tB t) := by
  intro pins s σ H Q I hw
  refine isTrue_plain (thn (h pins s σ H _ I hw) fun v s1 ⟨x, H1, I1, r1, q1⟩ => ?_) (he _)
  obtain ⟨d, rfl, q⟩ := q1
  cases r1
  exact wpAny_truthy_bool ⟨H1, I1, q⟩

/-! ### and, or, not -/
variable {tA tB' : TT} {rest : List Expr}
def tAnd (t u : TT) : TT := fun σ H Q => t σ H fun c H1 => if c = true then u σ H1 Q else Q false H1
def tOr (t u : TT) : TT := fun σ H Q => t σ H fun c H1 => if c = true then Q true H1 else u σ H1 Q
def tNot (t : TT) : TT := fun σ H Q => t σ H fun c H1 => Q (!c) H1
theorem pw_and1 (ha : PT X a tA) : PW X (.BoolOp .And [a] pos) tA := by
  intro wh pins s σ H Q I h
  refine isTrue_and (thn (ha pins s σ H Q I h) fun c s1 e => ?_)
  cases c with
  | true => exact isTrue_and_nil e
  | false => exact e
theorem pw_or1 (ha : PT X a tA) : PW X (.BoolOp .Or [a] pos) tA := by
  intro wh pins s σ H Q I h
  refine isTrue_or (thn (ha pins s σ H Q I h) fun c s1 e => ?_)
  cases c with
  | false => exact isTrue_or_nil e
  | true => exact e
theorem pw_and (ha : PT X a tA) (hb : PW X (.BoolOp .And (b :: rest) pos) tB') : PW X (.BoolOp .And (a :: b :: rest) pos) (tAnd tA tB') := by
  intro wh pins s σ H Q I h
  refine isTrue_and (thn (ha pins s σ H _ I h) fun c s1 ⟨H1, I1, q1⟩ => ?_)
  cases c with
  | true => exact hb wh pins s1 σ H1 Q I1 q1
  | false => exact ⟨H1, I1, q1⟩
theorem pw_or (ha : PT X a tA) (hb : PW X (.BoolOp .Or (b :: rest) pos) tB') : PW X (.BoolOp .Or (a :: b :: rest) pos) (tOr tA tB') := by
  intro wh pins s σ H Q I h
  refine isTrue_or (thn (ha pins s σ H _ I h) fun c s1 ⟨H1, I1, q1⟩ => ?_)
  cases c with
  | true => exact ⟨H1, I1, q1⟩
  | false => exact hb wh pins s1 σ H1 Q I1 q1
theorem pt_not (ha : PT X a tA) : PT X (.UnaryOp .Not a pos) (tNot tA) := by
  intro pins s σ H Q I h
  exact isTrue_not (ha pins s σ H (fun c H1 => Q (!c) H1) I h)
/-- .. as values (bools) -/
def tAndV (ta tb : TE) : TE := fun σ H Q => ta σ H fun x H1 => ∃ c, x = .bl c ∧ if c = true then tb σ H1 Q else Q (.bl false) H1
def tOrV (ta tb : TE) : TE := fun σ H Q => ta σ H fun x H1 => ∃ c, x = .bl c ∧ if c = true then Q (.bl true) H1 else tb σ H1 Q
def tNotV (ta : TE) : TE := fun σ H Q => ta σ H fun x H1 => ∃ c, x = .bl c ∧ Q (.bl (!c)) H1
theorem pe_one {op} {t : TE} (h : PE X a t) : PE X (.BoolOp op [a] pos) t := fun pins s σ H Q I hw => BoolOp_one (h pins s σ H Q I hw)
theorem pe_and (ha : PE X a ta) (hb : PE X (.BoolOp .And (b :: rest) pos) tb) : PE X (.BoolOp .And (a :: b :: rest) pos) (tAndV ta tb) := by
  intro pins s σ H Q I h
  refine BoolOp_and (thn (ha pins s σ H _ I h) fun v s1 ⟨x, H1, I1, r1, q1⟩ => ?_)
  obtain ⟨c, rfl, q1⟩ := q1
  cases r1
  refine wpAny_truthy_bool ?_
  cases c with
  | true => exact hb pins s1 σ H1 Q I1 q1
  | false => exact ⟨.bl false, H1, I1, rfl, q1⟩
theorem pe_or (ha : PE X a ta) (hb : PE X (.BoolOp .Or (b :: rest) pos) tb) : PE X (.BoolOp .Or (a :: b :: rest) pos) (tOrV ta tb) := by
  intro pins s σ H Q I h
  refine BoolOp_or (thn (ha pins s σ H _ I h) fun v s1 ⟨x, H1, I1, r1, q1⟩ => ?_)
  obtain ⟨c, rfl, q1⟩ := q1
  cases r1
  refine wpAny_truthy_bool ?_
  cases c with
  | false => exact hb pins s1 σ H1 Q I1 q1
  | true => exact ⟨.bl true, H1, I1, rfl, q1⟩
theorem pe_not (ha : PE X a ta) : PE X (.UnaryOp .Not a pos) (tNotV ta) := by
  intro pins s σ H Q I h
  refine UnaryOp_ (thn (ha pins s σ H _ I h) fun v s1 ⟨x, H1, I1, r1, q1⟩ => ?_)
  obtain ⟨c, rfl, q1⟩ := q1
  cases r1
  exact not_of (wpAny_truthy_bool ⟨.bl (!c), H1, I1, rfl, q1⟩)
/-- a if t else b -/
def tIf (t : TT) (ta tb : TE) : TE := fun σ H Q => t σ H fun c H1 => if c = true then ta σ H1 Q else tb σ H1 Q
theorem pe_ifExp {c : Expr} (hc : PT X c tA) (ha : PE X a ta) (hb : PE X b tb) : PE X (.IfExp c a b pos) (tIf tA ta tb) := by
  intro pins s σ H Q I h
  refine wpAny_IfExp (thn (hc pins s σ H _ I h) fun d s1 ⟨H1, I1, q1⟩ => ?_)
  cases d with
  | true => exact ha pins s1 σ H1 Q I1 q1
  | false => exact hb pins s1 σ H1 Q I1 q1
end
end L2

namespace L2
open PySem PySem.Spec PyProof.Rows

/-! ### a list, a tuple that is read: tracked, frozen, or an object of the module -/
def SqL (K : PySem.W.Frag) (H : Hp) (a : Addr) (xs : List V) : Prop :=
  Rd H a (.lst xs) ∨
    ∃ (o : Obj) (its : Array Value) (n : Nat), K.lookup a = some o ∧ o.cls = .type "list" ∧ o.dict = none ∧ o.data = .seq its n ∧ its.size ≤ sizeLine ∧ Vals xs its.toList
def SqT (K : PySem.W.Frag) (H : Hp) (a : Addr) (xs : List V) : Prop :=
  Rd H a (.tup xs) ∨
    ∃ (o : Obj) (its : Array Value) (n : Nat), K.lookup a = some o ∧ o.cls = .type "tuple" ∧ o.data = .seq its n ∧ its.size ≤ sizeLine ∧ Vals xs its.toList
def absV : Value → Option V
  | .none => some .non
  | .bool b => some (.bl b)
  | .int i _ => some (.int i)
  | .str x _ => some (.str x)
  | .bytes b _ => some (.byt b)
  | .float b _ => some (.flt b)
  | .ref a => some (.ref a)
  | .type n => some (.ty n)
  | _ => none
theorem RelV.abs {x : V} {u : Value} (r : RelV x u) : absV u = some x := by
  cases x with
  | non => cases r; rfl
  | bl _ => cases r; rfl
  | int _ => obtain ⟨t, rfl⟩ := r; rfl
  | str _ => obtain ⟨t, rfl⟩ := r; rfl
  | byt _ => obtain ⟨t, rfl⟩ := r; rfl
  | flt _ => obtain ⟨t, rfl⟩ := r; rfl
  | ref _ => cases r; rfl
  | ty _ => cases r; rfl
theorem RelV.inj {x y : V} {u : Value} (r : RelV x u) (q : RelV y u) : x = y := Option.some.inj (r.abs.symm.trans q.abs)
theorem Vals.inj : ∀ {xs ys : List V} {us : List Value}, Vals xs us → Vals ys us → xs = ys
  | _, _, _, .nil, .nil => rfl
  | _, _, _, .cons r t, .cons r' t' => by rw [r.inj r', Vals.inj t t']
section
variable {X : Cx} {pins : List (Addr × Obj)} {σ : St} {H : Hp} {s : Shared} {a : Addr} {xs ys : List V}
theorem SqL.of {K : PySem.W.Frag} (h : H a = some (.lst xs)) : SqL K H a xs := .inl (.inl h)
theorem SqT.of {K : PySem.W.Frag} (h : H a = some (.tup xs)) : SqT K H a xs := .inl (.inl h)
theorem Inv.list (I : Inv X pins σ H s) (h : SqL X.K H a xs) : ∃ its : List Value, Vals xs its ∧ PlainL s.heap a its.toArray ∧ xs.length ≤ sizeLine := by
  rcases h with h | ⟨o, its, n, hk, hc, hd, hs, hz, r⟩
  · obtain ⟨z, its, n, r, e⟩ := h.ok I.hok
    exact ⟨its, r, ⟨_, n, e, rfl, rfl, rfl⟩, z⟩
  · refine ⟨its.toList, r, ⟨o, n, I.kIn a o hk, hc, hd, by simpa using hs⟩, ?_⟩
    have e := r.length
    simp only [Array.length_toList] at e
    omega
theorem Inv.tuple (I : Inv X pins σ H s) (h : SqT X.K H a xs) : ∃ its : List Value, Vals xs its ∧ IsTup s.heap a its.toArray ∧ xs.length ≤ sizeLine := by
  rcases h with h | ⟨o, its, n, hk, hc, hs, hz, r⟩
  · obtain ⟨z, its, r, p⟩ := h.ok I.hok
    exact ⟨its, r, p, z⟩
  · refine ⟨its.toList, r, ⟨o, I.kIn a o hk, hc, n, by simpa using hs⟩, ?_⟩
    have e := r.length
    simp only [Array.length_toList] at e
    omega
theorem Inv.list_inj (I : Inv X pins σ H s) (h : SqL X.K H a xs) (h' : SqL X.K H a ys) : xs = ys := by
  obtain ⟨its, r, ⟨o, n, e, _, _, d⟩, _⟩ := I.list h
  obtain ⟨its', r', ⟨o', n', e', _, _, d'⟩, _⟩ := I.list h'
  rw [e] at e'; cases e'
  rw [d] at d'
  injection d' with d1 _
  have : its = its' := by simpa using congrArg Array.toList d1
  subst this
  exact r.inj r'
theorem Inv.tuple_inj (I : Inv X pins σ H s) (h : SqT X.K H a xs) (h' : SqT X.K H a ys) : xs = ys := by
  obtain ⟨its, r, ⟨o, e, _, n, d⟩, _⟩ := I.tuple h
  obtain ⟨its', r', ⟨o', e', _, n', d'⟩, _⟩ := I.tuple h'
  rw [e] at e'; cases e'
  rw [d] at d'
  injection d' with d1 _
  have : its = its' := by simpa using congrArg Array.toList d1
  subst this
  exact r.inj r'
end

/-! ### another wish about exceptions -/
abbrev Cx.wish (X : Cx) (E : Value → Shared → Prop) : Cx := { X with xe := E }
/-- no exception leaves -/
abbrev Cx.nox (X : Cx) : Cx := X.wish fun _ _ => False
theorem Cx.Ok.wish {X : Cx} (ok : X.Ok) (E : Value → Shared → Prop) : (X.wish E).Ok :=
  ⟨ok.mod, ok.kind, ok.glob, ok.blt, ok.above, ok.inj, ok.has, ok.cab, ok.hd, ok.frames, ok.stk, ok.exf, ok.bs, ok.bsz, ok.noex, ok.exfs, ok.funs, ok.frf⟩
theorem Cx.Ok.unwish {X : Cx} {E : Value → Shared → Prop} (ok : (X.wish E).Ok) : X.Ok :=
  ⟨ok.mod, ok.kind, ok.glob, ok.blt, ok.above, ok.inj, ok.has, ok.cab, ok.hd, ok.frames, ok.stk, ok.exf, ok.bs, ok.bsz, ok.noex, ok.exfs, ok.funs, ok.frf⟩
section
variable {X : Cx} {pins : List (Addr × Obj)} {σ : St} {H : Hp} {s : Shared} {E : Value → Shared → Prop}
theorem Inv.wish (I : Inv X pins σ H s) (E : Value → Shared → Prop) : Inv (X.wish E) pins σ H s := ⟨I.ok.wish E, I.os, I.bare, I.base, I.loc, I.cell, I.free, I.freeC, I.pin, I.hok, I.len⟩
theorem Inv.unwish (I : Inv (X.wish E) pins σ H s) : Inv X pins σ H s := ⟨I.ok.unwish, I.os, I.bare, I.base, I.loc, I.cell, I.free, I.freeC, I.pin, I.hok, I.len⟩
theorem SP.unwish {D : Ends} {f : Flow} {s' : Shared} (h : SP (X.wish E) pins D f s') : SP X pins D f s' := by
  cases f with
  | next => obtain ⟨σ', H', I, q⟩ := h; exact ⟨σ', H', I.unwish, q⟩
  | brk => obtain ⟨σ', H', I, q⟩ := h; exact ⟨σ', H', I.unwish, q⟩
  | cont => obtain ⟨σ', H', I, q⟩ := h; exact ⟨σ', H', I.unwish, q⟩
  | ret u => obtain ⟨v, σ', H', I, r, q⟩ := h; exact ⟨v, σ', H', I.unwish, r, q⟩
theorem PE.nox {e : Expr} {t : TE} (h : PE X.nox e t) : PE X e t := fun pins s σ H Q I hw =>
  wpAny_mono (h pins s σ H Q (I.wish _) hw) (fun _ _ ⟨v, H', I', r, q⟩ => ⟨v, H', I'.unwish, r, q⟩) fun _ _ z => False.elim z
theorem PT.nox {e : Expr} {t : TT} (h : PT X.nox e t) : PT X e t := fun pins s σ H Q I hw =>
  wpAny_mono (h pins s σ H Q (I.wish _) hw) (fun _ _ ⟨H', I', q⟩ => ⟨H', I'.unwish, q⟩) fun _ _ z => False.elim z
theorem PSs.nox {st : List Stmt} {t : TS} (h : PSs X.nox st t) : PSs X st t := fun pins s σ H D I hw =>
  wpAny_mono (h pins s σ H D (I.wish _) hw) (fun _ _ q => q.unwish) fun _ _ z => False.elim z
end

/-! ### blocks and small statements -/
section
variable {X : Cx} {st : Stmt} {rest : List Stmt} {t u : TS} {e : Expr} {te : TE} {pos : Pos}
def tNext : TS := fun D σ H => D.nx σ H
def tSeq (t u : TS) : TS := fun D σ H => t { D with nx := u D } σ H
theorem pss_nil : PSs X [] tNext := fun _ _ σ H _ I h => wpAny_execs_nil ⟨σ, H, I, h⟩
theorem pss_cons (h1 : PS X st t) (h2 : PSs X rest u) : PSs X (st :: rest) (tSeq t u) := by
  intro pins s σ H D I h
  refine wpAny_execs_cons (thn (h1 pins s σ H { D with nx := u D } I h) fun f s1 q => ?_)
  cases f with
  | next =>
    obtain ⟨σ', H', I', q⟩ := q
    exact h2 pins s1 σ' H' D I' q
  | ret v => exact q
  | brk => exact q
  | cont => exact q
theorem pss_one (h1 : PS X st t) : PSs X [st] t := by
  intro pins s σ H D I h
  refine wpAny_execs_cons (thn (h1 pins s σ H D I h) fun f s1 q => ?_)
  cases f with
  | next => exact wpAny_execs_nil q
  | ret v => exact q
  | brk => exact q
  | cont => exact q
def tBreak : TS := fun D σ H => D.bk σ H
def tCont : TS := fun D σ H => D.ct σ H
theorem ps_pass : PS X (.Pass pos) tNext := fun _ _ σ H _ I h => wpAny_Pass ⟨σ, H, I, h⟩
theorem ps_break : PS X (.Break pos) tBreak := fun _ _ σ H _ I h => wpAny_Break ⟨σ, H, I, h⟩
theorem ps_continue : PS X (.Continue pos) tCont := fun _ _ σ H _ I h => wpAny_Continue ⟨σ, H, I, h⟩
/-- in a def's body nothing is shown -/
theorem Inv.quiet {pins : List (Addr × Obj)} {σ : St} {H : Hp} {s : Shared} (I : Inv X pins σ H s) : interactive X.env = false := by simp [interactive, I.ok.kind]
/-- a docstring -/
theorem ps_doc {x j pos pos'} : PS X (.Expr (.Constant (.str x) j pos) pos') tNext := fun _ s σ H _ I h => wpAny_Expr (Calls.Constant_str (show SP X _ _ .next { s with toks := s.toks + 1 } from ⟨σ, H, I.tok _, h⟩)) I.quiet
/-- an expression whose value is dropped -/
def tDrop (te : TE) : TS := fun D σ H => te σ H fun _ H1 => D.nx σ H1
theorem ps_expr (he : PE X e te) (hs : swapsWith e none pos.line X.env = pure false := by rfl) : PS X (.Expr e pos) (tDrop te) := by
  intro pins s σ H D I h
  exact wpAny_Expr_any (thn (he pins s σ H _ I h) fun v s1 ⟨x, H1, I1, r1, q1⟩ => ⟨σ, H1, I1, q1⟩) I.quiet hs
def tRet (te : TE) : TS := fun D σ H => te σ H D.rt
theorem ps_ret (he : PE X e te) : PS X (.Return (some e) pos) (tRet te) := by
  intro pins s σ H D I h
  exact wpAny_Return_some (thn (he pins s σ H _ I h) fun v s1 ⟨x, H1, I1, r1, q1⟩ => ⟨x, σ, H1, I1, r1, q1⟩)
def tRetN : TS := fun D _ H => D.rt .non H
theorem ps_retN : PS X (.Return none pos) tRetN := fun _ _ σ H _ I h => wpAny_Return_none ⟨.non, σ, H, I, rfl, h⟩
def tIfS (c : TT) (t u : TS) : TS := fun D σ H => c σ H fun b H1 => if b = true then t D σ H1 else u D σ H1
theorem ps_if {c : Expr} {a b : List Stmt} {tc : TT} (hc : PT X c tc) (ha : PSs X a t) (hb : PSs X b u) : PS X (.If c a b pos) (tIfS tc t u) := by
  intro pins s σ H D I h
  refine wpAny_If (thn (hc pins s σ H _ I h) fun d s1 ⟨H1, I1, q1⟩ => ?_)
  cases d with
  | true => exact ha pins s1 σ H1 D I1 q1
  | false => exact hb pins s1 σ H1 D I1 q1
/-- code that the proof never comes to -/
def tNever : TS := fun _ _ _ => False
theorem ps_never : PS X st tNever := fun _ _ _ _ _ _ h => h.elim
theorem pss_never {sts : List Stmt} : PSs X sts tNever := fun _ _ _ _ _ _ h => h.elim
end

/-! ### targets -/
abbrev TG := V → St → Hp → (St → Hp → Prop) → Prop
abbrev TGs := List V → St → Hp → (St → Hp → Prop) → Prop
def PG (X : Cx) (target : Expr) (t : TG) : Prop :=
  ∀ (pins : List (Addr × Obj)) (s : Shared) (σ : St) (H : Hp) (v : V) (u : Value) (Q : St → Hp → Prop), Inv X pins σ H s → RelV v u → t v σ H Q →
    wpAny (model X.prog X.w) X.A (assign target X.env u) (fun _ s' => ∃ σ' H', Inv X pins σ' H' s' ∧ Q σ' H') X.xe s
/-- several targets, one after another -/
def PGs (X : Cx) (ts : List Expr) (t : TGs) : Prop :=
  ∀ (pins : List (Addr × Obj)) (s : Shared) (σ : St) (H : Hp) (vs : List V) (us : List Value) (Q : St → Hp → Prop), Inv X pins σ H s → Vals vs us → t vs σ H Q →
    wpAny (model X.prog X.w) X.A (assignInOrder ((assignEach ts X.env).map (·.2)) us) (fun _ s' => ∃ σ' H', Inv X pins σ' H' s' ∧ Q σ' H') X.xe s
/-- o[i] = v, by values -/
abbrev TSet := V → V → V → Hp → (Hp → Prop) → Prop
def PSet (X : Cx) (t : TSet) : Prop :=
  ∀ (pins : List (Addr × Obj)) (s : Shared) (σ : St) (H : Hp) (o i v : V) (ov iv u : Value) (Q : Hp → Prop), Inv X pins σ H s → RelV o ov → RelV i iv → RelV v u → t o i v H Q →
    wpAny (model X.prog X.w) X.A (setItem ov iv u) (fun _ s' => ∃ H', Inv X pins σ H' s' ∧ Q H') X.xe s
/-- a op= b, by values -/
abbrev TIp := V → V → Hp → VK → Prop
def PIp (X : Cx) (op : Operator) (t : TIp) : Prop :=
  ∀ (pins : List (Addr × Obj)) (s : Shared) (σ : St) (H : Hp) (x y : V) (v u : Value) (Q : VK), Inv X pins σ H s → RelV x v → RelV y u → t x y H Q →
    wpAny (model X.prog X.w) X.A (inplaceOp op v u) (EP X pins σ Q) X.xe s
section
variable {X : Cx} {pos : Pos}
def gName (i : Nat) : TG := fun v σ H Q => Q (σ.set i (some v)) H
theorem pg_name {i : Nat} {x : Str} (hN : X.N.Nodup) (hi : X.N[i]? = some x) (hx : Loc X.env.scope x) (hf : X.fn x = true ∨ X.env.scope.names.lookup x = some .local := by first | exact .inl rfl | exact .inr rfl | assumption) : PG X (.Name x pos) (gName i) := by
  intro pins s σ H v u Q I r h
  exact wpAny_assign_Name (store_ok I hN hi hx r (fun s' I' => ⟨_, H, I', h⟩) hf)
def gNil : TGs := fun vs σ H Q => vs = [] ∧ Q σ H
def gCons (t : TG) (u : TGs) : TGs := fun vs σ H Q => ∃ v r, vs = v :: r ∧ t v σ H fun σ' H' => u r σ' H' Q
theorem pgs_nil : PGs X [] gNil := by
  intro pins s σ H vs us Q I r h
  obtain ⟨e, h⟩ := h
  subst e
  cases r
  exact assignInOrder_nil ⟨σ, H, I, h⟩
theorem pgs_cons {e : Expr} {es : List Expr} {t : TG} {u : TGs} (h1 : PG X e t) (h2 : PGs X es u)
    (hs : (assignEach (e :: es) X.env).map (·.2) = assign e X.env :: (assignEach es X.env).map (·.2) := by rfl) : PGs X (e :: es) (gCons t u) := by
  intro pins s σ H vs us Q I r h
  obtain ⟨v, vr, e1, h⟩ := h
  subst e1
  cases r with
  | cons r rr =>
    rw [hs]
    refine assignInOrder_cons (thn (h1 pins s σ H _ _ _ I r h) fun _ s1 ⟨σ1, H1, I1, q1⟩ => ?_)
    exact h2 pins s1 σ1 H1 _ _ Q I1 rr q1
/-- (a, b, ..) = a tuple of that length -/
def gTup (K : PySem.W.Frag) (n : Nat) (t : TGs) : TG := fun v σ H Q => ∃ a xs, v = .ref a ∧ SqT K H a xs ∧ xs.length = n ∧ t xs σ H Q
theorem pg_tup {es : List Expr} {k : Nat} {t : TGs} {n : Nat} (hc : X.calm = true) (h : PGs X es t)
    (hn : (assignEach es X.env).length = n := by rfl) (hst : (assignEach es X.env).findIdx? (·.1) = none := by rfl) : PG X (.Tuple es k pos) (gTup X.K n t) := by
  intro pins s σ H v u Q I r hw
  obtain ⟨a, xs, e1, hq, hl, hw⟩ := hw
  subst e1
  cases r
  obtain ⟨its, rv, ht, hz⟩ := I.tuple hq
  refine assign_Tuple_tuple (I.ok.hd hc) ht (by simp [hn, ← hl, rv.length]) hst fun h' hx => ?_
  have I1 : Inv X pins σ H { s with heap := h' } := I.kept (t' := s.toks) fun b o e => hx b o (Nat.ne_of_lt (Heap.lt_size e)) e
  exact h pins _ σ H xs _ Q I1 (by simpa using rv) hw
/-- o[i] = .. -/
def gSub (to ti : TE) (t : TSet) : TG := fun v σ H Q => to σ H fun o H1 => ti σ H1 fun i H2 => t o i v H2 fun H3 => Q σ H3
theorem pg_sub {o i : Expr} {to ti : TE} {t : TSet} (ho : PE X o to) (hi : PE X i ti) (hs : PSet X t)
    (ha : ∀ v, assign (.Subscript o i pos) X.env v = (do
      let ov ← holding [v] (eval o X.env)
      let iv ← holding [v, ov] (eval i X.env)
      standAt pos
      holding [v, ov, iv] (setItem ov iv v)
      release [v, ov, iv] []) := by intro _; rfl) : PG X (.Subscript o i pos) (gSub to ti t) := by
  intro pins s σ H v u Q I r h
  rw [ha]
  refine wpAny_bind (wpAny_holding (thn (ho pins s σ H _ I h) fun ov s1 ⟨x, H1, I1, r1, q1⟩ => ?_))
  refine wpAny_bind (wpAny_holding (thn (hi pins s1 σ H1 _ I1 q1) fun iv s2 ⟨y, H2, I2, r2, q2⟩ => ?_))
  refine wpAny_bind (wpAny_standAt (wpAny_bind (wpAny_holding (thn (hs pins s2 σ H2 x y v ov iv u _ I2 r1 r2 r q2) fun _ s3 ⟨H3, I3, q3⟩ => ?_))))
  exact wpAny_release ⟨σ, H3, I3, q3⟩
/-- target = value -/
def tAsg (te : TE) (g : TG) : TS := fun D σ H => te σ H fun x H1 => g x σ H1 D.nx
theorem ps_asg {tg e : Expr} {te : TE} {g : TG} (he : PE X e te) (hg : PG X tg g) (hs : swapsWithSole [tg] e pos.line X.env = pure false := by rfl) (hw : swappedStores [tg] e X.env = pure none := by rfl)
    (h1 : (assignEach [tg] X.env).map (·.2) = [assign tg X.env] := by rfl) : PS X (.Assign [tg] e pos) (tAsg te g) := by
  intro pins s σ H D I h
  refine wpAny_Assign_stores (thn (he pins s σ H _ I h) fun v s1 ⟨x, H1, I1, r1, q1⟩ => ?_) hs hw
  rw [h1]
  exact thn (hg pins s1 σ H1 x v _ I1 r1 q1) fun _ s2 q => q
/-- name = value -/
theorem ps_set {i : Nat} {x : Str} {e : Expr} {te : TE} {pos' : Pos} (hN : X.N.Nodup) (hi : X.N[i]? = some x) (hx : Loc X.env.scope x) (he : PE X e te) (hs : swapsWith e (some (.Name x pos')) pos.line X.env = pure false := by rfl) (hf : X.fn x = true ∨ X.env.scope.names.lookup x = some .local := by first | exact .inl rfl | exact .inr rfl | assumption) :
    PS X (.Assign [.Name x pos'] e pos) (tAsg te (gName i)) := by
  intro pins s σ H D I h
  refine wpAny_Assign_Name (thn (he pins s σ H _ I h) fun v s1 ⟨y, H1, I1, r1, q1⟩ => ?_) hs
  exact store_ok I1 hN hi hx r1 (fun s2 I2 => ⟨_, H1, I2, q1⟩) hf
/-- a, b = x, y with plain local names: stored from the right; the pair itself is not tracked (the opening rows as in PyProof/Rows/TupAssign.lean:23) -/
def tPar (i j : Nat) (ta : TA) : TS := fun D σ H => ta σ H fun vs H1 => ∃ v w, vs = [v, w] ∧ D.nx ((σ.set i (some v)).set j (some w)) H1
theorem ps_par {i j : Nat} {x y : Str} {a b : Expr} {ta : TA} {px py pt : Pos} {kt k2 pt2} (hc : X.calm = true) (hN : X.N.Nodup) (hi : X.N[i]? = some x) (hj : X.N[j]? = some y) (hij : i ≠ j)
    (hx : X.env.scope.names.lookup x = some .local) (hy : X.env.scope.names.lookup y = some .local) (ha : PA X [a, b] ta)
    (hw : swappedStores [.Tuple [.Name x px, .Name y py] kt pt] (.Tuple [a, b] k2 pt2) X.env = pure (some [x, y]))
    (hs : swapsWithSole [.Tuple [.Name x px, .Name y py] kt pt] (.Tuple [a, b] k2 pt2) pos.line X.env = pure false := by rfl) :
    PS X (.Assign [.Tuple [.Name x px, .Name y py] kt pt] (.Tuple [a, b] k2 pt2) pos) (tPar i j ta) := by
  intro pins s σ H D I h
  rw [exec_Assign_arm]
  refine wpAny_bind (wpAny_standAt ?_)
  rw [hs]
  refine wpAny_bind (wpAny_pure ?_)
  rw [if_neg (by decide)]
  refine wpAny_bind (Tuple_ (thn (ha _ pins s σ H _ I h) fun us s1 ⟨vs, H1, I1, r1, q1⟩ => ?_))
  obtain ⟨v, w, e1, q1⟩ := q1
  subst e1
  obtain ⟨u1, u2, rfl, rv, rw'⟩ : ∃ u1 u2, us = [u1, u2] ∧ RelV v u1 ∧ RelV w u2 := by
    cases r1 with
    | cons p q =>
      cases q with
      | cons p' q' =>
        cases q'
        exact ⟨_, _, rfl, p, p'⟩
  refine wpAny_newObj_type ?_ (by show 2 ≤ sizeLine; decide)
  have I2 : Inv X pins σ H1 { s1 with heap := s1.heap.push { cls := .type "tuple", data := .seq [u1, u2].toArray } } := I1.kept (t' := s1.toks) fun b o e => Heap.get?_push_of_some _ e
  rw [hw]
  refine wpAny_bind (wpAny_pure ?_)
  show wpAny (model X.prog X.w) X.A (do rule "assign.swapped-stores"; let items ← unpackItems (.ref s1.heap.objs.size) 2 none; assignInOrder [fun v => bindName X.env y v, fun v => bindName X.env x v] items.reverse; pure Flow.next) _ _ _
  refine wpAny_bind (wpAny_rule (wpAny_bind (unpackItems_tuple (items := #[u1, u2]) (I.ok.hd hc) (IsTup.new s1.heap _) fun h' hx' => ?_)))
  have I3 := I2.kept (h' := h') (t' := s1.toks) fun b o e => hx' b o (Nat.ne_of_lt (Heap.lt_size e)) e
  show wpAny _ _ (assignInOrder [fun v => bindName X.env y v, fun v => bindName X.env x v] [u2, u1] >>= fun _ => pure Flow.next) _ _ _
  refine wpAny_bind (assignInOrder_cons (wpAny_bindName (store_ok I3 hN hj (.inl hy) rw' (fun s2 I4 => ?_) (.inr hy))))
  refine assignInOrder_cons (wpAny_bindName (store_ok I4 hN hi (.inl hx) rv (fun s3 I5 => assignInOrder_nil (wpAny_pure ?_)) (.inr hx)))
  rw [List.set_comm _ _ (Ne.symm hij)] at I5
  exact ⟨_, H1, I5, q1⟩
/-- name op= e -/
def tAug (i : Nat) (te : TE) (ti : TIp) : TS := fun D σ H => ∃ x, σ[i]? = some (some x) ∧ te σ H fun y H1 => ti x y H1 fun z H2 => D.nx (σ.set i (some z)) H2
theorem ps_aug {i : Nat} {x : Str} {e : Expr} {te : TE} {op : Operator} {ti : TIp} {pos' : Pos} (hN : X.N.Nodup) (hi : X.N[i]? = some x) (hx : Loc X.env.scope x) (he : PE X e te) (ho : PIp X op ti) (hf : X.fn x = true ∨ X.env.scope.names.lookup x = some .local := by first | exact .inl rfl | exact .inr rfl | assumption) :
    PS X (.AugAssign (.Name x pos') op e pos) (tAug i te ti) := by
  intro pins s σ H D I h
  obtain ⟨v, e1, h⟩ := h
  obtain ⟨m, hn, hl⟩ := I.loc
  have vis : Vis X.env.scope x := by rcases hx with k | k; exact .inl k; exact .inr (.inl k)
  obtain ⟨u, r, l⟩ := hl i x v hi e1 vis
  refine wpAny_AugAssign_Name ?_
  have go : wpAny (model X.prog X.w) X.A (eval e X.env) (fun w s₂ => wpAny (model X.prog X.w) X.A (inplaceOp op u w) (fun r s₃ => wpAny (model X.prog X.w) X.A (storeName X.env x r) (fun _ => SP X pins D .next) X.xe s₃) X.xe s₂) X.xe s := by
    refine thn (he pins s σ H _ I h) fun w s1 ⟨y, H1, I1, r1, q1⟩ => ?_
    refine thn (ho pins s1 σ H1 v y u w _ I1 r r1 q1) fun z s2 ⟨zv, H2, I2, r2, q2⟩ => ?_
    exact store_ok I2 hN hi hx r2 (fun s3 I3 => ⟨_, H2, I3, q2⟩) hf
  rcases l with ⟨hk, hm⟩ | ⟨hk, c, hc, hcell⟩
  · exact wpAny_loadName_local I.ok.kind hk hn hm go
  · rcases hk with hk | hk
    · exact wpAny_loadName_cell I.ok.kind hk hc hcell go
    · rcases hx with k | k
      · have : X.env.scope.names.lookup x = some .free := hk
        rw [k] at this; cases this
      · have : X.env.scope.names.lookup x = some .free := hk
        rw [k] at this; cases this
/-- o[i] op= e -/
def tAugS (to ti te : TE) (tget : V → V → Hp → VK → Prop) (tip : TIp) (tset : TSet) : TS := fun D σ H => to σ H fun o H1 => ti σ H1 fun i H2 => tget o i H2 fun x H3 => te σ H3 fun y H4 => tip x y H4 fun z H5 => tset o i z H5 fun H6 => D.nx σ H6
/-- o[i], by values -/
def PGet (X : Cx) (t : V → V → Hp → VK → Prop) : Prop :=
  ∀ (pins : List (Addr × Obj)) (s : Shared) (σ : St) (H : Hp) (o i : V) (ov iv : Value) (Q : VK), Inv X pins σ H s → RelV o ov → RelV i iv → t o i H Q →
    wpAny (model X.prog X.w) X.A (getItem ov iv) (EP X pins σ Q) X.xe s
theorem ps_augS {o i e : Expr} {to ti te : TE} {tget : V → V → Hp → VK → Prop} {tip : TIp} {tset : TSet} {op : Operator} {tpos : Pos} (ho : PE X o to) (hi : PE X i ti) (hg : PGet X tget) (he : PE X e te) (hp : PIp X op tip) (hs : PSet X tset)
    (ha : ∀ ov iv new, augStore i ov iv new = (do holding [new, ov, iv] (setItem ov iv new); release [new, ov, iv] []; pure .next) := by intros; rfl) : PS X (.AugAssign (.Subscript o i tpos) op e pos) (tAugS to ti te tget tip tset) := by
  intro pins s σ H D I h
  refine wpAny_AugAssign_SubscriptAny (thn (ho pins s σ H _ I h) fun ov s1 ⟨x1, H1, I1, r1, q1⟩ => ?_) ha
  refine thn (hi pins s1 σ H1 _ I1 q1) fun iv s2 ⟨x2, H2, I2, r2, q2⟩ => ?_
  refine thn (hg pins s2 σ H2 x1 x2 ov iv _ I2 r1 r2 q2) fun old s3 ⟨x3, H3, I3, r3, q3⟩ => ?_
  refine thn (he pins s3 σ H3 _ I3 q3) fun v s4 ⟨x4, H4, I4, r4, q4⟩ => ?_
  refine thn (hp pins s4 σ H4 x3 x4 old v _ I4 r3 r4 q4) fun new s5 ⟨x5, H5, I5, r5, q5⟩ => ?_
  exact thn (hs pins s5 σ H5 x1 x2 x5 ov iv new _ I5 r1 r2 r5 q5) fun _ s6 ⟨H6, I6, q6⟩ => ⟨σ, H6, I6, q6⟩
/-- ints -/
def ipI (f : Int → Int → Int) : TIp := fun x y H Q => ∃ i j, x = .int i ∧ y = .int j ∧ Q (.int (f i j)) H
theorem ip_add : PIp X .Add (ipI fun i j => i + j) := by
  intro pins s σ H x y v u Q I r1 r2 h
  obtain ⟨i, j, e1, e2, q⟩ := h
  subst e1; subst e2
  obtain ⟨t, rfl⟩ := r1
  obtain ⟨t', rfl⟩ := r2
  exact iadd_int ⟨.int _, H, I.tok _, ⟨_, rfl⟩, q⟩
theorem ip_sub : PIp X .Sub (ipI fun i j => i - j) := by
  intro pins s σ H x y v u Q I r1 r2 h
  obtain ⟨i, j, e1, e2, q⟩ := h
  subst e1; subst e2
  obtain ⟨t, rfl⟩ := r1
  obtain ⟨t', rfl⟩ := r2
  exact isub_int ⟨.int _, H, I.tok _, ⟨_, rfl⟩, q⟩
end

/-! ### while -/
section
variable {X : Cx} {pos : Pos}
/-- the invariant W with its measure -/
def tWhile (c : TT) (tb : TS) : TS := fun D σ H => ∃ W : Nat → St → Hp → Prop, (∃ m, W m σ H) ∧ ∀ m σ H, W m σ H →
  c σ H fun b H1 => if b = true then ∃ N : St → Hp → Prop, (∀ σ' H', N σ' H' → ∃ m', m' < m ∧ W m' σ' H') ∧ tb { D with nx := N, ct := N, bk := D.nx } σ H1 else D.nx σ H1
theorem ps_while {c : Expr} {body : List Stmt} {tc : TT} {tb : TS} (hp : PassesOwn (model X.prog X.w) X.A X.env X.xe) (hc : PT X c tc) (hb : PSs X body tb) : PS X (.While c body [] pos) (tWhile tc tb) := by
  intro pins s σ H D I h
  obtain ⟨W, ⟨m0, w0⟩, turn⟩ := h
  refine wpAny_While (codeAny_whileLoop (fun n s' => ∃ σ' H', Inv X pins σ' H' s' ∧ W n σ' H') ?_ m0 ⟨σ, H, I, w0⟩)
  rintro n s1 ⟨σ1, H1, I1, w1⟩
  refine wpAny_passesOwn hp (thn (hc pins s1 σ1 H1 _ I1 (turn n σ1 H1 w1)) fun b s2 ⟨H2, I2, q2⟩ => ?_)
  cases b with
  | true =>
    obtain ⟨N, hN, q2⟩ := q2
    rw [if_pos rfl]
    refine wpAny_passesOwn hp (thn (hb pins s2 σ1 H2 _ I2 q2) fun f s3 q3 => ?_)
    cases f with
    | next =>
      obtain ⟨σ3, H3, I3, n3⟩ := q3
      obtain ⟨m', hm, w3⟩ := hN σ3 H3 n3
      exact ⟨m', hm, σ3, H3, I3, w3⟩
    | cont =>
      obtain ⟨σ3, H3, I3, n3⟩ := q3
      obtain ⟨m', hm, w3⟩ := hN σ3 H3 n3
      exact ⟨m', hm, σ3, H3, I3, w3⟩
    | brk => exact q3
    | ret v => exact q3
  | false =>
    rw [if_neg Bool.false_ne_true]
    exact wpAny_execs_nil ⟨σ1, H2, I2, q2⟩
end

/-! ### what a loop or a comprehension walks -/
/-- at turn i: it yields x (the heap may grow), or it stops -/
structure It where
  go : Nat → Hp → Prop
  yld : Nat → Hp → V → Hp → Prop
  stop : Nat → Hp → Prop
/-- the iterator's own objects may turn: they are not the frame's, not pinned, younger than the entry (or a comprehension's own) -/
def FpOk (X : Cx) (pins : List (Addr × Obj)) (H : Hp) (b : Addr) : Prop :=
  H b = none ∧ b ≠ X.env.locals ∧ b ∉ X.fs ∧ (b ∈ X.ex ∨ X.s₀.heap.objs.size ≤ b) ∧ (∀ x c, X.env.cells.lookup x = some c → c ≠ b) ∧ ∀ p ∈ X.pn ++ pins, p.1 ≠ b
theorem Inv.fpOk {X : Cx} {pins : List (Addr × Obj)} {σ : St} {H H' : Hp} {s : Shared} {b : Addr} (I : Inv X pins σ H s) (hb : s.heap.objs.size ≤ b) (hn : H' b = none) : FpOk X pins H' b := by
  refine ⟨hn, Nat.ne_of_gt (Nat.lt_of_lt_of_le I.lt hb), I.nofs hb, .inr (Nat.le_trans I.sz hb), fun x c e z => ?_, fun p hp z => ?_⟩
  · obtain ⟨v, q⟩ := I.cell x c e
    exact absurd (Nat.lt_of_lt_of_le q.lt (by rw [z]; exact hb)) (Nat.lt_irrefl _)
  · exact absurd (Nat.lt_of_lt_of_le (Heap.lt_size (I.pin p hp).1) (by rw [z]; exact hb)) (Nat.lt_irrefl _)
structure Turn (P : Program) (w : World) (K : PySem.W.Frag) (tg : Expr) (J : It) (fp : List Addr) (it : Addr) (tn : Nat → Heap → Prop) : Prop where
  mem : it ∈ fp
  obj : ∀ i h, tn i h → ∀ b ∈ fp, ∃ o, h.get? b = some o ∧ ∀ v, o.data ≠ .cell v
  keep : ∀ i h h', tn i h → (∀ b ∈ fp, ∀ o, h.get? b = some o → h'.get? b = some o) → tn i h'
  item : ∀ (X : Cx), X.prog = P → X.w = w → X.K = K → X.calm = true → ∀ (i : Nat) (pins : List (Addr × Obj)) (s : Shared) (σ : St) (H : Hp) (E : Value → Shared → Prop), Inv X pins σ H s → (∀ b ∈ fp, FpOk X pins H b) → tn i s.heap → J.go i H →
    wpAny (model P w) X.A (pyNext (.ref it)) (fun r s1 => ∃ u, r = some u ∧
      wpAny (model P w) X.A (letOwnedTupleGo tg (.ref it) u) (fun _ s2 => ∃ x H', Inv X pins σ H' s2 ∧ RelV x u ∧ J.yld i H x H' ∧ tn (i + 1) s2.heap ∧ ∀ b ∈ fp, H' b = none) E s1) E s
  done : ∀ (X : Cx), X.prog = P → X.w = w → X.K = K → X.calm = true → ∀ (i : Nat) (pins : List (Addr × Obj)) (s : Shared) (σ : St) (H : Hp) (E : Value → Shared → Prop), Inv X pins σ H s → (∀ b ∈ fp, FpOk X pins H b) → tn i s.heap → J.stop i H →
    wpAny (model P w) X.A (pyNext (.ref it)) (fun r s1 => r = none ∧ Inv X pins σ H s1) E s
  self : ∀ (A : Around) (i : Nat) (s : Shared) (Q : Value → Shared → Prop) (E : Value → Shared → Prop), tn i s.heap → Q (.ref it) s → wpAny (model P w) A (pyIter (.ref it)) Q E s
abbrev TI := St → Hp → (It → Hp → Prop) → Prop
/-- an iterator has come -/
def PIE (X : Cx) (pins : List (Addr × Obj)) (σ : St) (tg : Expr) (R : It → Hp → Prop) (itv : Value) (s2 : Shared) : Prop :=
  ∃ (it : Addr) (fp : List Addr) (tn : Nat → Heap → Prop) (J : It) (H' : Hp), itv = .ref it ∧ Inv X pins σ H' s2 ∧ Turn X.prog X.w X.K tg J fp it tn ∧ tn 0 s2.heap ∧ (∀ b ∈ fp, FpOk X pins H' b) ∧ R J H'
def PI (X : Cx) (tg iter : Expr) (wi : TI) : Prop :=
  ∀ (pins : List (Addr × Obj)) (s : Shared) (σ : St) (H : Hp) (R : It → Hp → Prop), Inv X pins σ H s → wi σ H R →
    wpAny (model X.prog X.w) X.A (eval iter X.env) (fun v s1 => wpAny (model X.prog X.w) X.A (pyIter v) (PIE X pins σ tg R) X.xe s1) X.xe s

/-- the step ahead of the store is nothing for an iterator that keeps no tuple -/
theorem go_of {M : Model} {A : Around} {E : Value → Shared → Prop} {s : Shared} {tg : Expr} {it : Addr} {u : Value} {o : Obj} {n : String} {vs : Array Value} {Q : Unit → Shared → Prop} (ho : s.heap.get? it = some o) (hc : o.cls = .type n) (hd : o.data = .fields vs)
    (hn : ["enumerate", "zip", "dict_itemiterator", "dict_reverseitemiterator", "odict_iterator", "itertools.zip_longest", "itertools.pairwise"].contains n = false) (hQ : Q () s) : wpAny M A (letOwnedTupleGo tg (.ref it) u) Q E s := by
  unfold letOwnedTupleGo
  cases tg <;> first
    | exact wpAny_pure hQ
    | (cases u <;> first
        | exact wpAny_pure hQ
        | (refine wpAny_bind (wpAny_load ho ?_)
           rw [hc, hd]
           show wpAny M A (if (["enumerate", "zip", "dict_itemiterator", "dict_reverseitemiterator", "odict_iterator", "itertools.zip_longest", "itertools.pairwise"].contains n && vs[0]? == some (rawInt _)) = true then _ else _) Q E s
           rw [if_neg (by intro h; rw [hn, Bool.false_and] at h; cases h)]
           exact wpAny_pure hQ))

/-- the list at a, as it stands at each turn (a loop may append to it) -/
def Itl (K : PySem.W.Frag) (a : Addr) : It :=
  ⟨fun i H => ∃ xs x, SqL K H a xs ∧ xs[i]? = some x, fun i H x H' => H' = H ∧ ∀ xs, SqL K H a xs → xs[i]? = some x, fun i H => ∃ xs, SqL K H a xs ∧ xs.length ≤ i⟩
def Itt (K : PySem.W.Frag) (a : Addr) : It :=
  ⟨fun i H => ∃ xs x, SqT K H a xs ∧ xs[i]? = some x, fun i H x H' => H' = H ∧ ∀ xs, SqT K H a xs → xs[i]? = some x, fun i H => ∃ xs, SqT K H a xs ∧ xs.length ≤ i⟩
/-- lo, lo + 1, .. (n of them) -/
def Itr (lo : Int) (n : Nat) : It := ⟨fun i _ => i < n, fun i H x H' => H' = H ∧ x = .int (lo + i), fun i _ => n ≤ i⟩
theorem turn_list {P : Program} {w : World} {K : PySem.W.Frag} {tg : Expr} (a it : Addr) : Turn P w K tg (Itl K a) [it] it (fun i h => h.IsListIter it a i) where
  mem := by simp
  obj := fun i h st b hb => by
    have e : b = it := by simpa using hb
    subst e
    obtain ⟨o, e, c, d⟩ := st
    exact ⟨o, e, fun v z => by rw [d] at z; cases z⟩
  keep := fun i h h' st k => st.at fun o e => k it (by simp) o e
  item := by
    intro X hP hw hK hc i pins s σ H E I hf st hg
    subst hP hw hK
    obtain ⟨xs, x, hq, hx⟩ := hg
    obtain ⟨its, rv, p, hz⟩ := I.list hq
    obtain ⟨u, hu, ru⟩ := rv.get hx
    obtain ⟨f0, f1, f2, f3, f4, f5⟩ := hf it (by simp)
    refine wpAny_pyNext_list_item st p.isList (x := u) (by simpa using hu) fun h' st' sb => ?_
    have I1 : Inv X pins σ H { s with heap := h' } := I.turned (t' := s.toks) (fun b o hb e => (sb.2 b hb).trans e) f0 f1 f3 f4 f5
    obtain ⟨o, e, c, d⟩ := id st'
    exact ⟨u, rfl, go_of (s := { s with heap := h' }) e c d (by decide) ⟨x, H, I1, ru, ⟨rfl, fun ys hy => by rw [I.list_inj hy hq]; exact hx⟩, st', fun b hb => (hf b hb).1⟩⟩
  done := by
    intro X hP hw hK hc i pins s σ H E I hf st hg
    subst hP hw hK
    obtain ⟨xs, hq, hx⟩ := hg
    obtain ⟨its, rv, p, hz⟩ := I.list hq
    obtain ⟨f0, f1, f2, f3, f4, f5⟩ := hf it (by simp)
    have hl := rv.length
    exact wpAny_pyNext_list_end (I.ok.hd hc) st p.isList (by simp; omega) fun h' eb => ⟨rfl, I.turned (t' := s.toks) (fun b o hb e => eb b o hb e) f0 f1 f3 f4 f5⟩
  self := fun _ _ _ _ _ st h => wpAny_pyIter_listiter st h
theorem turn_tuple {P : Program} {w : World} {K : PySem.W.Frag} {tg : Expr} (a it : Addr) : Turn P w K tg (Itt K a) [it] it (fun i h => h.IsTupleIter it a i) where
  mem := by simp
  obj := fun i h st b hb => by
    have e : b = it := by simpa using hb
    subst e
    obtain ⟨o, e, c, d⟩ := st
    exact ⟨o, e, fun v z => by rw [d] at z; cases z⟩
  keep := fun i h h' st k => st.at fun o e => k it (by simp) o e
  item := by
    intro X hP hw hK hc i pins s σ H E I hf st hg
    subst hP hw hK
    obtain ⟨xs, x, hq, hx⟩ := hg
    obtain ⟨its, rv, p, hz⟩ := I.tuple hq
    obtain ⟨u, hu, ru⟩ := rv.get hx
    obtain ⟨f0, f1, f2, f3, f4, f5⟩ := hf it (by simp)
    refine wpAny_pyNext_tuple_item st (show s.heap.IsTuple a its.toArray from p) (x := u) (by simpa using hu) fun h' st' sb => ?_
    have I1 : Inv X pins σ H { s with heap := h' } := I.turned (t' := s.toks) (fun b o hb e => (sb.2 b hb).trans e) f0 f1 f3 f4 f5
    obtain ⟨o, e, c, d⟩ := id st'
    exact ⟨u, rfl, go_of (s := { s with heap := h' }) e c d (by decide) ⟨x, H, I1, ru, ⟨rfl, fun ys hy => by rw [I.tuple_inj hy hq]; exact hx⟩, st', fun b hb => (hf b hb).1⟩⟩
  done := by
    intro X hP hw hK hc i pins s σ H E I hf st hg
    subst hP hw hK
    obtain ⟨xs, hq, hx⟩ := hg
    obtain ⟨its, rv, p, hz⟩ := I.tuple hq
    obtain ⟨f0, f1, f2, f3, f4, f5⟩ := hf it (by simp)
    have hl := rv.length
    exact wpAny_pyNext_tuple_end (I.ok.hd hc) st (show s.heap.IsTuple a its.toArray from p) (by simp; omega) fun h' eb => ⟨rfl, I.turned (t' := s.toks) (fun b o hb e => eb b o hb e) f0 f1 f3 f4 f5⟩
  self := fun _ _ _ _ _ st h => wpAny_pyIter_tupleiter st h
theorem turn_range {P : Program} {w : World} {K : PySem.W.Frag} {tg : Expr} (it : Addr) (lo : Int) (n : Nat) : Turn P w K tg (Itr lo n) [it] it (fun i h => IsRangeIter h it (lo + (i : Nat) * 1) ((n : Int) - (i : Nat)) 1) where
  mem := by simp
  obj := fun i h st b hb => by
    have e : b = it := by simpa using hb
    subst e
    exact ⟨_, st, fun v z => by
      have z' : Data.fields _ = Data.cell v := z
      cases z'⟩
  keep := fun i h h' st k => k it (by simp) _ st
  item := by
    intro X hP hw hK hc i pins s σ H E I hf st hg
    subst hP hw hK
    obtain ⟨f0, f1, f2, f3, f4, f5⟩ := hf it (by simp)
    have W := Walks.range (prog := X.prog) (w := X.w) (I.ok.hd hc) it lo 1 n
    refine W.item i s _ _ hg st fun v h' tk hv st' kk => ?_
    obtain ⟨t, rfl⟩ := hv
    have I1 : Inv X pins σ H { s with heap := h', toks := tk } := I.turned (fun b o hb e => kk b o (by simpa using hb) e) f0 f1 f3 f4 f5
    refine ⟨_, rfl, go_of (s := { s with heap := h', toks := tk }) (n := "range_iterator") st' rfl rfl (by decide) ⟨.int (lo + i), H, I1, ⟨t, ?_⟩, ⟨rfl, rfl⟩, st', fun b hb => (hf b hb).1⟩⟩
    rw [Int.mul_one]
  done := by
    intro X hP hw hK hc i pins s σ H E I hf st hg
    subst hP hw hK
    obtain ⟨f0, f1, f2, f3, f4, f5⟩ := hf it (by simp)
    exact wpAny_pyNext_range_end (I.ok.hd hc) st (by have : n ≤ i := hg; omega) fun h' eb => ⟨rfl, I.turned (t' := s.toks) (fun b o hb e => eb b o hb e) f0 f1 f3 f4 f5⟩
  self := fun _ _ _ _ _ st h => wpAny_pyIter_rangeiter st h
end L2

namespace L2
open PySem PySem.Spec PyProof.Rows
section
variable {X : Cx} {tg : Expr}
def iList (K : PySem.W.Frag) (tl : TE) : TI := fun σ H R => tl σ H fun x H1 => ∃ a, x = .ref a ∧ (∃ xs, SqL K H1 a xs) ∧ R (Itl K a) H1
def iTup (K : PySem.W.Frag) (tl : TE) : TI := fun σ H R => tl σ H fun x H1 => ∃ a, x = .ref a ∧ (∃ xs, SqT K H1 a xs) ∧ R (Itt K a) H1
theorem pi_list {l : Expr} {tl : TE} (hl : PE X l tl) : PI X tg l (iList X.K tl) := by
  intro pins s σ H R I h
  refine thn (hl pins s σ H _ I h) fun v s1 ⟨x, H1, I1, r1, q1⟩ => ?_
  obtain ⟨a, e, ⟨xs, hq⟩, q⟩ := q1
  subst e
  cases r1
  obtain ⟨its, rv, p, hz⟩ := I1.list hq
  refine wpAny_pyIter_list p.isList ?_
  refine ⟨s1.heap.objs.size, [s1.heap.objs.size], _, _, H1, rfl, I1.kept (t' := s1.toks) fun b o e => Heap.get?_push_of_some _ e, turn_list a _, ⟨_, Heap.get?_push_size _ rfl, rfl, rfl⟩, fun b hb => ?_, q⟩
  have e : b = s1.heap.objs.size := by simpa using hb
  subst e
  exact I1.fpOk (Nat.le_refl _) (I1.hok.fresh (Nat.le_refl _))
theorem pi_tup {l : Expr} {tl : TE} (hl : PE X l tl) : PI X tg l (iTup X.K tl) := by
  intro pins s σ H R I h
  refine thn (hl pins s σ H _ I h) fun v s1 ⟨x, H1, I1, r1, q1⟩ => ?_
  obtain ⟨a, e, ⟨xs, hq⟩, q⟩ := q1
  subst e
  cases r1
  obtain ⟨its, rv, p, hz⟩ := I1.tuple hq
  refine wpAny_pyIter_tuple (show s1.heap.IsTuple a its.toArray from p) ?_
  refine ⟨s1.heap.objs.size, [s1.heap.objs.size], _, _, H1, rfl, I1.kept (t' := s1.toks) fun b o e => Heap.get?_push_of_some _ e, turn_tuple a _, ⟨_, Heap.get?_push_size _ rfl, rfl, rfl⟩, fun b hb => ?_, q⟩
  have e : b = s1.heap.objs.size := by simpa using hb
  subst e
  exact I1.fpOk (Nat.le_refl _) (I1.hok.fresh (Nat.le_refl _))
/-- a range object just made, walked -/
theorem range_it {pins : List (Addr × Obj)} {σ : St} {H : Hp} {s : Shared} {R : It → Hp → Prop} {E : Value → Shared → Prop} {lo hi : Int} {t u v : Tok} {tk : Nat} (I : Inv X pins σ H s) (h1 : -(2 ^ 62) ≤ lo) (h2 : lo < 2 ^ 62) (h3 : -(2 ^ 62) ≤ hi) (h4 : hi < 2 ^ 62)
    (q : R (Itr lo (hi - lo).toNat) H) : wpAny (model X.prog X.w) X.A (pyIter (.ref s.heap.objs.size)) (PIE X pins σ tg R) E { s with heap := s.heap.push { cls := .type "range", data := .fields #[.int lo t, .int hi u, .int 1 v] }, toks := tk } := by
  refine wpAny_pyIter_range (IsRange.new ..) (small_one h1 h2 h3 h4) ?_
  have I1 : Inv X pins σ H { s with heap := s.heap.push { cls := .type "range", data := .fields #[.int lo t, .int hi u, .int 1 v] }, toks := tk } := I.kept fun b o e => Heap.get?_push_of_some _ e
  refine ⟨(s.heap.push { cls := .type "range", data := .fields #[.int lo t, .int hi u, .int 1 v] }).objs.size, [(s.heap.push { cls := .type "range", data := .fields #[.int lo t, .int hi u, .int 1 v] }).objs.size], _, _, H, rfl,
    I1.kept (t' := tk) fun b o e => Heap.get?_push_of_some _ e, turn_range _ lo (hi - lo).toNat, ?_, fun b hb => ?_, q⟩
  · have e1 : lo + ((0 : Nat) : Int) * 1 = lo := by simp
    have e2 : (((hi - lo).toNat : Nat) : Int) - ((0 : Nat) : Int) = Builtin.Range.rangeSize lo hi 1 := by rw [rangeSize_one]; split <;> omega
    show IsRangeIter _ _ (lo + ((0 : Nat) : Int) * 1) ((((hi - lo).toNat : Nat) : Int) - ((0 : Nat) : Int)) 1
    rw [e1, e2]
    exact Heap.get?_push_size _ rfl
  · have e : b = (s.heap.push { cls := .type "range", data := .fields #[.int lo t, .int hi u, .int 1 v] }).objs.size := by simpa using hb
    subst e
    exact I1.fpOk (Nat.le_refl _) (I1.hok.fresh (Nat.le_refl _))
def iRng1 (ta : TA) : TI := fun σ H R => ta σ H fun vs H1 => ∃ j : Int, vs = [.int j] ∧ -(2 ^ 62) ≤ j ∧ j < 2 ^ 62 ∧ R (Itr 0 j.toNat) H1
def iRng2 (ta : TA) : TI := fun σ H R => ta σ H fun vs H1 => ∃ i j : Int, vs = [.int i, .int j] ∧ (-(2 ^ 62) ≤ i ∧ i < 2 ^ 62 ∧ -(2 ^ 62) ≤ j ∧ j < 2 ^ 62) ∧ R (Itr i (j - i).toNat) H1
theorem pi_range1 {a : Expr} {ta : TA} {p pos : Pos} (hg : Gl X "range") (hm : X.mg "range" = none) (ha : PA X [a] ta) (hs : starEach [a] X.env = [(false, eval a X.env)] := by rfl) : PI X tg (.Call (.Name "range" p) [a] [] pos) (iRng1 ta) := by
  intro pins s σ H R I h
  refine Call_ (ld_blt I hg hm boot_range (PyProof.Rows.callWith_type1 (thn (ha pos pins s σ H _ I h) fun us s1 ⟨vs, H1, I1, r1, q1⟩ => ?_) hs rfl))
  obtain ⟨j, e, q1, q2, q⟩ := q1
  subst e
  cases r1 with
  | cons r rr =>
    cases rr
    obtain ⟨t, rfl⟩ := r
    exact call_range_1 (range_it I1 (by omega) (by omega) q1 q2 (by simpa using q))
theorem pi_range2 {a b : Expr} {ta : TA} {p pos : Pos} (hg : Gl X "range") (hm : X.mg "range" = none) (ha : PA X [a, b] ta) (hs : starEach [a, b] X.env = [(false, eval a X.env), (false, eval b X.env)] := by rfl) (hs2 : starEach [b] X.env = [(false, eval b X.env)] := by rfl) :
    PI X tg (.Call (.Name "range" p) [a, b] [] pos) (iRng2 ta) := by
  intro pins s σ H R I h
  refine Call_ (ld_blt I hg hm boot_range (PyProof.Rows.callWith_type1 (thn (ha pos pins s σ H _ I h) fun us s1 ⟨vs, H1, I1, r1, q1⟩ => ?_) (by rw [hs, hs2]) (by rw [hs2]; rfl)))
  obtain ⟨i, j, e, ⟨q1, q2, q3, q4⟩, q⟩ := q1
  subst e
  cases r1 with
  | cons r rr =>
    cases rr with
    | cons r' rr =>
      cases rr
      obtain ⟨t, rfl⟩ := r
      obtain ⟨t', rfl⟩ := r'
      exact call_range_2 (range_it I1 q1 q2 q3 q4 q)

/-! ### for -/
/-- W: the invariant by the turn and a measure; N: what the body is to reach -/
def tFor (wi : TI) (g : TG) (tb : TS) : TS := fun D σ H => wi σ H fun J H1 => ∃ W : Nat → Nat → St → Hp → Prop, (∃ m, W 0 m σ H1) ∧ ∀ i m σ H, W i m σ H →
  (J.stop i H ∧ D.nx σ H) ∨ (J.go i H ∧ ∃ N : St → Hp → Prop, (∀ σ' H', N σ' H' → ∃ m', m' < m ∧ W (i + 1) m' σ' H') ∧ ∀ x H', J.yld i H x H' → g x σ H' fun σ2 H2 => tb { D with nx := N, ct := N, bk := D.nx } σ2 H2)
/-- the records at fp as they stand -/
def pinsAt (fp : List Addr) (h : Heap) : List (Addr × Obj) := fp.filterMap fun b => (h.get? b).map fun o => (b, o)
theorem mem_pinsAt {fp : List Addr} {h : Heap} {b : Addr} {o : Obj} (hb : b ∈ fp) (e : h.get? b = some o) : (b, o) ∈ pinsAt fp h := List.mem_filterMap.mpr ⟨b, hb, by rw [e]; rfl⟩
theorem of_pinsAt {fp : List Addr} {h : Heap} {p : Addr × Obj} (hp : p ∈ pinsAt fp h) : p.1 ∈ fp ∧ h.get? p.1 = some p.2 := by
  obtain ⟨b, hb, e⟩ := List.mem_filterMap.mp hp
  cases q : h.get? b with
  | none => rw [q] at e; cases e
  | some o =>
    rw [q] at e
    have e' : (b, o) = p := Option.some.inj e
    subst e'
    exact ⟨hb, q⟩
theorem Inv.pinned {pins : List (Addr × Obj)} {σ : St} {H : Hp} {s : Shared} {fp : List Addr} (I : Inv X pins σ H s) (hf : ∀ b ∈ fp, FpOk X pins H b) (ho : ∀ b ∈ fp, ∃ o, s.heap.get? b = some o ∧ ∀ v, o.data ≠ .cell v) : Inv X (pins ++ pinsAt fp s.heap) σ H s :=
  I.pins_of fun p hp => (List.mem_append.mp hp).elim (fun z => I.pin p (List.mem_append_right _ z)) fun z => by
    obtain ⟨hb, e⟩ := of_pinsAt z
    obtain ⟨f0, f1, f2, _⟩ := hf p.1 hb
    obtain ⟨o, e', d⟩ := ho p.1 hb
    rw [e] at e'; cases e'
    exact ⟨e, f0, f1, f2, d⟩
theorem Inv.unpinned {pins pl : List (Addr × Obj)} {σ : St} {H : Hp} {s : Shared} (I : Inv X (pins ++ pl) σ H s) : Inv X pins σ H s := I.pins_of fun p hp => I.pin p (List.mem_append_right _ (List.mem_append_left _ hp))
theorem ps_for {iter : Expr} {body : List Stmt} {wi : TI} {g : TG} {tb : TS} {pos : Pos} (hp : PassesOwn (model X.prog X.w) X.A X.env X.xe) (hc : X.calm = true) (hi : PI X tg iter wi) (hg : PG X tg g) (hb : PSs X body tb)
    (hs : ∀ x, foldedSetIterable iter X.env x = pure x := by intro _; rfl) : PS X (.For tg iter body [] pos) (tFor wi g tb) := by
  intro pins s σ H D I h
  refine wpAny_For (thn (hi pins s σ H _ I h) fun v s1 h1 => thn h1 fun itv s2 h2 => ?_) hs
  obtain ⟨it, fp, tn, J, H2, e, I2, T, st2, f2, W, ⟨m0, w0⟩, turn⟩ := h2
  subst e
  -- what stays true of the iterator's objects through the loop
  have stat : ∀ {H' : Hp}, (∀ b ∈ fp, H' b = none) → ∀ b ∈ fp, FpOk X pins H' b := fun hn b hb => ⟨hn b hb, (f2 b hb).2⟩
  refine codeAny_forLoop_any (fun n s' => ∃ i σ' H', Inv X pins σ' H' s' ∧ tn i s'.heap ∧ (∀ b ∈ fp, H' b = none) ∧ W i n σ' H') ?_ m0 ⟨0, σ, H2, I2, st2, fun b hb => (f2 b hb).1, w0⟩
  rintro n s3 ⟨i, σ3, H3, I3, st3, fr3, w3⟩
  rcases turn i n σ3 H3 w3 with ⟨stop, qn⟩ | ⟨go, N, hN, step⟩
  · refine wpAny_passesOwn hp (thn (T.done X rfl rfl rfl hc i pins s3 σ3 H3 X.xe I3 (stat fr3) st3 stop) fun r s4 ⟨hr, I4⟩ => ?_)
    subst hr
    exact wpAny_execs_nil ⟨σ3, H3, I4, qn⟩
  · refine wpAny_passesOwn hp (thn (T.item X rfl rfl rfl hc i pins s3 σ3 H3 X.xe I3 (stat fr3) st3 go) fun r s4 ⟨u, hr, h4⟩ => ?_)
    subst hr
    refine wpAny_passesOwn hp (thn h4 fun _ s5 ⟨x, H5, I5, r5, y5, st5, fr5⟩ => ?_)
    have I5' := I5.pinned (stat fr5) (T.obj _ _ st5)
    refine wpAny_passesOwn hp (thn (hg _ s5 σ3 H5 x u _ I5' r5 (step x H5 y5)) fun _ s6 ⟨σ6, H6, I6, q6⟩ => ?_)
    refine wpAny_passesOwn hp (thn (hb _ s6 σ6 H6 _ I6 q6) fun f s7 q7 => ?_)
    have again : ∀ {σ7 : St} {H7 : Hp}, Inv X (pins ++ pinsAt fp s5.heap) σ7 H7 s7 → N σ7 H7 → ∃ m, m < n ∧ ∃ i σ' H', Inv X pins σ' H' s7 ∧ tn i s7.heap ∧ (∀ b ∈ fp, H' b = none) ∧ W i m σ' H' := fun {σ7 H7} I7 n7 => by
      obtain ⟨m', hm, w7⟩ := hN σ7 H7 n7
      refine ⟨m', hm, i + 1, σ7, H7, I7.unpinned, T.keep _ _ _ st5 fun b hb o e => (I7.pin (b, o) (List.mem_append_right _ (List.mem_append_right _ (mem_pinsAt hb e)))).1, fun b hb => ?_, w7⟩
      obtain ⟨o, e, d⟩ := T.obj _ _ st5 b hb
      exact (I7.pin (b, o) (List.mem_append_right _ (List.mem_append_right _ (mem_pinsAt hb e)))).2.1
    cases f with
    | next => obtain ⟨σ7, H7, I7, n7⟩ := q7; exact again I7 n7
    | cont => obtain ⟨σ7, H7, I7, n7⟩ := q7; exact again I7 n7
    | brk => obtain ⟨σ7, H7, I7, q7⟩ := q7; exact ⟨σ7, H7, I7.unpinned, q7⟩
    | ret v => obtain ⟨x7, σ7, H7, I7, r7, q7⟩ := q7; exact ⟨x7, σ7, H7, I7.unpinned, r7, q7⟩
end

/-! ### the forms one uses -/
/-- over a list that the body leaves as it is -/
theorem for_list {K : PySem.W.Frag} {a : Addr} {xs : List V} {g : TG} {tb : TS} {D : Ends} {σ : St} {H : Hp} (Pv : Nat → St → Hp → Prop) (h0 : Pv 0 σ H) (hl : ∀ i σ H, i ≤ xs.length → Pv i σ H → SqL K H a xs)
    (hs : ∀ i x σ H, xs[i]? = some x → Pv i σ H → g x σ H fun σ2 H2 => tb { D with nx := Pv (i + 1), ct := Pv (i + 1), bk := D.nx } σ2 H2) (hd : ∀ σ H, Pv xs.length σ H → D.nx σ H) :
    ∃ W : Nat → Nat → St → Hp → Prop, (∃ m, W 0 m σ H) ∧ ∀ i m σ H, W i m σ H →
      ((Itl K a).stop i H ∧ D.nx σ H) ∨ ((Itl K a).go i H ∧ ∃ N : St → Hp → Prop, (∀ σ' H', N σ' H' → ∃ m', m' < m ∧ W (i + 1) m' σ' H') ∧ ∀ x H', (Itl K a).yld i H x H' → g x σ H' fun σ2 H2 => tb { D with nx := N, ct := N, bk := D.nx } σ2 H2) := by
  refine ⟨fun i m σ H => m = xs.length - i ∧ i ≤ xs.length ∧ Pv i σ H, ⟨xs.length, by simp, Nat.zero_le _, h0⟩, ?_⟩
  rintro i m σ H ⟨rfl, hi, p⟩
  have q := hl i σ H hi p
  by_cases hlt : i < xs.length
  · refine .inr ⟨⟨xs, xs[i], q, by simp [hlt]⟩, Pv (i + 1), fun σ' H' p' => ⟨xs.length - (i + 1), by omega, rfl, hlt, p'⟩, fun x H' y => ?_⟩
    obtain ⟨e, y⟩ := y
    subst e
    exact hs i x σ _ (y xs q) p
  · have e : i = xs.length := by omega
    subst e
    exact .inl ⟨⟨xs, q, Nat.le_refl _⟩, hd σ H p⟩
theorem for_tup {K : PySem.W.Frag} {a : Addr} {xs : List V} {g : TG} {tb : TS} {D : Ends} {σ : St} {H : Hp} (Pv : Nat → St → Hp → Prop) (h0 : Pv 0 σ H) (hl : ∀ i σ H, i ≤ xs.length → Pv i σ H → SqT K H a xs)
    (hs : ∀ i x σ H, xs[i]? = some x → Pv i σ H → g x σ H fun σ2 H2 => tb { D with nx := Pv (i + 1), ct := Pv (i + 1), bk := D.nx } σ2 H2) (hd : ∀ σ H, Pv xs.length σ H → D.nx σ H) :
    ∃ W : Nat → Nat → St → Hp → Prop, (∃ m, W 0 m σ H) ∧ ∀ i m σ H, W i m σ H →
      ((Itt K a).stop i H ∧ D.nx σ H) ∨ ((Itt K a).go i H ∧ ∃ N : St → Hp → Prop, (∀ σ' H', N σ' H' → ∃ m', m' < m ∧ W (i + 1) m' σ' H') ∧ ∀ x H', (Itt K a).yld i H x H' → g x σ H' fun σ2 H2 => tb { D with nx := N, ct := N, bk := D.nx } σ2 H2) := by
  refine ⟨fun i m σ H => m = xs.length - i ∧ i ≤ xs.length ∧ Pv i σ H, ⟨xs.length, by simp, Nat.zero_le _, h0⟩, ?_⟩
  rintro i m σ H ⟨rfl, hi, p⟩
  have q := hl i σ H hi p
  by_cases hlt : i < xs.length
  · refine .inr ⟨⟨xs, xs[i], q, by simp [hlt]⟩, Pv (i + 1), fun σ' H' p' => ⟨xs.length - (i + 1), by omega, rfl, hlt, p'⟩, fun x H' y => ?_⟩
    obtain ⟨e, y⟩ := y
    subst e
    exact hs i x σ _ (y xs q) p
  · have e : i = xs.length := by omega
    subst e
    exact .inl ⟨⟨xs, q, Nat.le_refl _⟩, hd σ H p⟩
theorem for_range {lo : Int} {n : Nat} {g : TG} {tb : TS} {D : Ends} {σ : St} {H : Hp} (Pv : Nat → St → Hp → Prop) (h0 : Pv 0 σ H)
    (hs : ∀ i σ H, i < n → Pv i σ H → g (.int (lo + i)) σ H fun σ2 H2 => tb { D with nx := Pv (i + 1), ct := Pv (i + 1), bk := D.nx } σ2 H2) (hd : ∀ σ H, Pv n σ H → D.nx σ H) :
    ∃ W : Nat → Nat → St → Hp → Prop, (∃ m, W 0 m σ H) ∧ ∀ i m σ H, W i m σ H →
      ((Itr lo n).stop i H ∧ D.nx σ H) ∨ ((Itr lo n).go i H ∧ ∃ N : St → Hp → Prop, (∀ σ' H', N σ' H' → ∃ m', m' < m ∧ W (i + 1) m' σ' H') ∧ ∀ x H', (Itr lo n).yld i H x H' → g x σ H' fun σ2 H2 => tb { D with nx := N, ct := N, bk := D.nx } σ2 H2) := by
  refine ⟨fun i m σ H => m = n - i ∧ i ≤ n ∧ Pv i σ H, ⟨n, by simp, Nat.zero_le _, h0⟩, ?_⟩
  rintro i m σ H ⟨rfl, hi, p⟩
  by_cases hlt : i < n
  · refine .inr ⟨hlt, Pv (i + 1), fun σ' H' p' => ⟨n - (i + 1), by omega, rfl, hlt, p'⟩, fun x H' y => ?_⟩
    obtain ⟨e, y⟩ := y
    subst e y
    exact hs i σ _ hlt p
  · have e : i = n := by omega
    subst e
    exact .inl ⟨Nat.le_refl _, hd σ H p⟩
/-- while, by a word and a measure of the state -/
theorem while_by {c : TT} {tb : TS} {D : Ends} {σ : St} {H : Hp} (Pv : St → Hp → Prop) (μ : St → Hp → Nat) (h0 : Pv σ H)
    (hs : ∀ σ H, Pv σ H → c σ H fun b H1 => if b = true then tb { D with nx := fun σ' H' => Pv σ' H' ∧ μ σ' H' < μ σ H, ct := fun σ' H' => Pv σ' H' ∧ μ σ' H' < μ σ H, bk := D.nx } σ H1 else D.nx σ H1)
    (mono : ∀ σ H Q Q', (∀ b H1, Q b H1 → Q' b H1) → c σ H Q → c σ H Q') : tWhile c tb D σ H := by
  refine ⟨fun m σ H => m = μ σ H ∧ Pv σ H, ⟨_, rfl, h0⟩, ?_⟩
  rintro m σ H ⟨rfl, p⟩
  refine mono σ H _ _ (fun b H1 q => ?_) (hs σ H p)
  cases b with
  | true => exact ⟨_, fun σ' H' ⟨p', l⟩ => ⟨_, l, rfl, p'⟩, q⟩
  | false => exact q
end L2

namespace L2
open PySem PySem.Spec PyProof.Rows

abbrev R2 := V → V → Hp → VK → Prop
/-- a two-place operation on values: f is binaryOp op, inplaceOp op or compareOp op -/
def OpR (X : Cx) (f : Value → Value → Sem Value) (r : R2) : Prop :=
  ∀ (pins : List (Addr × Obj)) (s : Shared) (σ : St) (H : Hp) (x y : V) (v u : Value) (Q : VK), Inv X pins σ H s → RelV x v → RelV y u → r x y H Q →
    wpAny (model X.prog X.w) X.A (f v u) (EP X pins σ Q) X.xe s
/-- a one-place operation -/
def UnR (X : Cx) (f : Value → Sem Value) (r : V → Hp → VK → Prop) : Prop :=
  ∀ (pins : List (Addr × Obj)) (s : Shared) (σ : St) (H : Hp) (x : V) (v : Value) (Q : VK), Inv X pins σ H s → RelV x v → r x H Q →
    wpAny (model X.prog X.w) X.A (f v) (EP X pins σ Q) X.xe s
/-- a call of a value that is known (a builtin, a type) with values -/
def CallR (X : Cx) (f : Value) (r : List V → Hp → VK → Prop) : Prop :=
  ∀ (pins : List (Addr × Obj)) (s : Shared) (σ : St) (H : Hp) (xs : List V) (us : List Value) (Q : VK), Inv X pins σ H s → Vals xs us → r xs H Q →
    wpAny (model X.prog X.w) X.A (call f us) (EP X pins σ Q) X.xe s
/-- a value's truth -/
def TruR (X : Cx) (r : V → Hp → (Bool → Hp → Prop) → Prop) : Prop :=
  ∀ (pins : List (Addr × Obj)) (s : Shared) (σ : St) (H : Hp) (x : V) (v : Value) (Q : Bool → Hp → Prop), Inv X pins σ H s → RelV x v → r x H Q →
    wpAny (model X.prog X.w) X.A (truthy v) (TP X pins σ Q) X.xe s

def tOp (r : R2) (ta tb : TE) : TE := fun σ H Q => ta σ H fun x H1 => tb σ H1 fun y H2 => r x y H2 Q
def tUn (r : V → Hp → VK → Prop) (ta : TE) : TE := fun σ H Q => ta σ H fun x H1 => r x H1 Q
/-- ints in, under C, and a value out -/
def rI (C : Int → Int → Prop) (g : Int → Int → V) : R2 := fun x y H Q => ∃ i j, x = .int i ∧ y = .int j ∧ C i j ∧ Q (g i j) H
def rI0 (g : Int → Int → V) : R2 := fun x y H Q => ∃ i j, x = .int i ∧ y = .int j ∧ Q (g i j) H
def rU (g : Int → V) : V → Hp → VK → Prop := fun x H Q => ∃ i, x = .int i ∧ Q (g i) H

section
variable {X : Cx} {a b c : Expr} {ta tb tc : TE} {pos : Pos}

theorem binT (ha : PE X a ta) (hb : PE X b tb) {pins : List (Addr × Obj)} {s : Shared} {σ : St} {H : Hp} {R : V → V → Hp → Prop} (I : Inv X pins σ H s)
    (h : ta σ H fun x H1 => tb σ H1 fun y H2 => R x y H2) {Q : Value → Shared → Prop} {f : Value → Value → Sem Value}
    (hf : ∀ v u s2 x y H2, Inv X pins σ H2 s2 → RelV x v → RelV y u → R x y H2 → wpAny (model X.prog X.w) X.A (f v u) Q X.xe s2) :
    wpAny (model X.prog X.w) X.A (eval a X.env) (fun v s₁ => wpAny (model X.prog X.w) X.A (eval b X.env) (fun u s₂ => wpAny (model X.prog X.w) X.A (f v u) Q X.xe s₂) X.xe s₁) X.xe s := by
  refine thn (ha pins s σ H _ I h) fun v s1 ⟨x, H1, I1, r1, q1⟩ => ?_
  refine thn (hb pins s1 σ H1 _ I1 q1) fun u s2 ⟨y, H2, I2, r2, q2⟩ => ?_
  exact hf v u s2 x y H2 I2 r1 r2 q2

theorem pe_op {op : Operator} {r : R2} (ho : OpR X (binaryOp op) r) (ha : PE X a ta) (hb : PE X b tb) : PE X (.BinOp a op b pos) (tOp r ta tb) := by
  intro pins s σ H Q I h
  exact wpAny_BinOp (binT ha hb I h fun v u s2 x y H2 I2 rx ry q => ho pins s2 σ H2 x y v u Q I2 rx ry q)
theorem pe_un {op : UnaryOp} {r : V → Hp → VK → Prop} (ho : UnR X (unaryOp op) r) (ha : PE X a ta) : PE X (.UnaryOp op a pos) (tUn r ta) := by
  intro pins s σ H Q I h
  exact UnaryOp_ (thn (ha pins s σ H _ I h) fun v s1 ⟨x, H1, I1, r1, q1⟩ => ho pins s1 σ H1 x v Q I1 r1 q1)
/-- a op= e at a name: the name's slot i -/
theorem augR {op : Operator} {r : R2} (ho : OpR X (inplaceOp op) r) {pins : List (Addr × Obj)} {s : Shared} {σ : St} {H : Hp} {x y : V} {v u : Value} {Q : VK} (I : Inv X pins σ H s)
    (rx : RelV x v) (ry : RelV y u) (q : r x y H Q) : wpAny (model X.prog X.w) X.A (inplaceOp op v u) (EP X pins σ Q) X.xe s := ho pins s σ H x y v u Q I rx ry q

/-! ### ints -/
theorem opI {f : Value → Value → Sem Value} {C : Int → Int → Prop} {g : Int → Int → Int}
    (rule : ∀ (i j : Int) (t u : Tok) (s : Shared) (Q : Value → Shared → Prop) (E : Value → Shared → Prop), C i j → Q (.int (g i j) s.toks) { s with toks := s.toks + 1 } → wpAny (model X.prog X.w) X.A (f (.int i t) (.int j u)) Q E s) :
    OpR X f (rI C fun i j => .int (g i j)) := by
  intro pins s σ H x y v u Q I rx ry h
  obtain ⟨i, j, rfl, rfl, hc, q⟩ := h
  obtain ⟨t, rfl⟩ := rx
  obtain ⟨t', rfl⟩ := ry
  exact rule i j t t' s _ _ hc ⟨.int (g i j), H, I.tok _, ⟨_, rfl⟩, q⟩
theorem opI0 {f : Value → Value → Sem Value} {g : Int → Int → Int}
    (rule : ∀ (i j : Int) (t u : Tok) (s : Shared) (Q : Value → Shared → Prop) (E : Value → Shared → Prop), Q (.int (g i j) s.toks) { s with toks := s.toks + 1 } → wpAny (model X.prog X.w) X.A (f (.int i t) (.int j u)) Q E s) :
    OpR X f (rI0 fun i j => .int (g i j)) := by
  intro pins s σ H x y v u Q I rx ry h
  obtain ⟨i, j, rfl, rfl, q⟩ := h
  obtain ⟨t, rfl⟩ := rx
  obtain ⟨t', rfl⟩ := ry
  exact rule i j t t' s _ _ ⟨.int (g i j), H, I.tok _, ⟨_, rfl⟩, q⟩
theorem opB0 {f : Value → Value → Sem Value} {g : Int → Int → Bool}
    (rule : ∀ (i j : Int) (t u : Tok) (s : Shared) (Q : Value → Shared → Prop) (E : Value → Shared → Prop), Q (.bool (g i j)) s → wpAny (model X.prog X.w) X.A (f (.int i t) (.int j u)) Q E s) :
    OpR X f (rI0 fun i j => .bl (g i j)) := by
  intro pins s σ H x y v u Q I rx ry h
  obtain ⟨i, j, rfl, rfl, q⟩ := h
  obtain ⟨t, rfl⟩ := rx
  obtain ⟨t', rfl⟩ := ry
  exact rule i j t t' s _ _ ⟨.bl (g i j), H, I, rfl, q⟩

def CDiv (i j : Int) : Prop := 0 < j ∧ j < 1073741824
def CDivN (i j : Int) : Prop := j ≠ 0 ∧ j.natAbs < 1073741824
def CPow (i j : Int) : Prop := 0 ≤ j ∧ j ≤ 1000000 ∧ i.natAbs < 2 ^ 64
def CMul (i j : Int) : Prop := (-(2 ^ 64) < i ∧ i < 2 ^ 64) ∨ (-(2 ^ 64) < j ∧ j < 2 ^ 64)
theorem CMul.ok {i j : Int} (h : CMul i j) : IntMulOk i j := by
  rcases h with ⟨h1, h2⟩ | ⟨h1, h2⟩
  · exact .of_left (intBits_le_64 h1 h2)
  · exact .of_right (intBits_le_64 h1 h2)
theorem two_pow_nn (k : Nat) : (0 : Int) ≤ 2 ^ k := by
  rw [two_pow_cast]
  exact Int.natCast_nonneg _

theorem op_add : OpR X (binaryOp .Add) (rI0 fun i j => .int (i + j)) := opI0 fun _ _ _ _ _ _ _ q => add_int q
theorem op_sub : OpR X (binaryOp .Sub) (rI0 fun i j => .int (i - j)) := opI0 fun _ _ _ _ _ _ _ q => sub_int q
theorem op_mul : OpR X (binaryOp .Mult) (rI CMul fun i j => .int (i * j)) := opI fun _ _ _ _ _ _ _ hc q => mul_int q hc.ok
/-- // by a positive divisor -/
theorem op_fdiv : OpR X (binaryOp .FloorDiv) (rI CDiv fun i j => .int (i / j)) := opI fun i j _ _ _ _ _ hc q => by
  have h1 : (0 : Int) < j := hc.1
  have h2 : j < 1073741824 := hc.2
  exact floordiv_int (by omega) (by rw [Int.fdiv_eq_ediv_of_nonneg i (by omega)]; exact q) (.inl (PyProof.noPylong_small (by omega)))
theorem op_fdivN : OpR X (binaryOp .FloorDiv) (rI CDivN fun i j => .int (i.fdiv j)) := opI fun _ _ _ _ _ _ _ hc q => floordiv_int hc.1 q (.inl (PyProof.noPylong_small hc.2))
/-- % by a positive divisor of any size -/
theorem op_mod : OpR X (binaryOp .Mod) (rI (fun _ j => 0 < j) fun i j => .int (i % j)) := opI fun i j _ _ _ _ _ hc q => by
  have h1 : (0 : Int) < j := hc
  exact mod_int' (by omega) (by rw [Int.fmod_eq_emod_of_nonneg i (by omega)]; exact q)
theorem op_modN : OpR X (binaryOp .Mod) (rI (fun _ j => j ≠ 0) fun i j => .int (i.fmod j)) := opI fun _ _ _ _ _ _ _ hc q => mod_int' hc q
theorem op_pow : OpR X (binaryOp .Pow) (rI CPow fun i j => .int (i ^ j.toNat)) := opI fun _ _ _ _ _ _ _ hc q => pow_int_small hc.1 hc.2.1 hc.2.2 q
theorem op_shl : OpR X (binaryOp .LShift) (rI CPow fun i j => .int (i * 2 ^ j.toNat)) := opI fun _ _ _ _ _ _ _ hc q => lshift_int_small hc.1 hc.2.1 hc.2.2 q
theorem op_shr : OpR X (binaryOp .RShift) (rI (fun _ j => 0 ≤ j) fun i j => .int (i / 2 ^ j.toNat)) := opI fun i j _ _ _ _ _ hc q =>
  rshift_int hc (by rw [Int.fdiv_eq_ediv_of_nonneg i (two_pow_nn _)]; exact q)
theorem op_and : OpR X (binaryOp .BitAnd) (rI0 fun i j => .int (Builtin.bitAnd i j)) := opI0 fun _ _ _ _ _ _ _ q => and_int q
theorem op_or : OpR X (binaryOp .BitOr) (rI0 fun i j => .int (Builtin.bitOr i j)) := opI0 fun _ _ _ _ _ _ _ q => or_int q
theorem op_xor : OpR X (binaryOp .BitXor) (rI0 fun i j => .int (Builtin.bitXor i j)) := opI0 fun _ _ _ _ _ _ _ q => xor_int q

theorem iop_add : OpR X (inplaceOp .Add) (rI0 fun i j => .int (i + j)) := opI0 fun _ _ _ _ _ _ _ q => iadd_int q
theorem iop_sub : OpR X (inplaceOp .Sub) (rI0 fun i j => .int (i - j)) := opI0 fun _ _ _ _ _ _ _ q => isub_int q
theorem iop_mul : OpR X (inplaceOp .Mult) (rI CMul fun i j => .int (i * j)) := opI fun _ _ _ _ _ _ _ hc q => imul_int q hc.ok
theorem iop_fdiv : OpR X (inplaceOp .FloorDiv) (rI CDiv fun i j => .int (i / j)) := opI fun i j _ _ _ _ _ hc q => by
  have h1 : (0 : Int) < j := hc.1
  have h2 : j < 1073741824 := hc.2
  exact ifloordiv_int (by omega) (by rw [Int.fdiv_eq_ediv_of_nonneg i (by omega)]; exact q) (.inl (PyProof.noPylong_small (by omega)))
theorem iop_mod : OpR X (inplaceOp .Mod) (rI (fun _ j => 0 < j) fun i j => .int (i % j)) := opI fun i j _ _ _ _ _ hc q => by
  have h1 : (0 : Int) < j := hc
  exact imod_int (by omega) (by rw [Int.fmod_eq_emod_of_nonneg i (by omega)]; exact q)
theorem iop_shl : OpR X (inplaceOp .LShift) (rI CPow fun i j => .int (i * 2 ^ j.toNat)) := opI fun _ _ _ _ _ _ _ hc q => ilshift_int_small hc.1 hc.2.1 hc.2.2 q
theorem iop_shr : OpR X (inplaceOp .RShift) (rI (fun _ j => 0 ≤ j) fun i j => .int (i / 2 ^ j.toNat)) := opI fun i j _ _ _ _ _ hc q =>
  irshift_int hc (by rw [Int.fdiv_eq_ediv_of_nonneg i (two_pow_nn _)]; exact q)
theorem iop_and : OpR X (inplaceOp .BitAnd) (rI0 fun i j => .int (Builtin.bitAnd i j)) := opI0 fun _ _ _ _ _ _ _ q => iand_int q
theorem iop_or : OpR X (inplaceOp .BitOr) (rI0 fun i j => .int (Builtin.bitOr i j)) := opI0 fun _ _ _ _ _ _ _ q => ior_int q
theorem iop_xor : OpR X (inplaceOp .BitXor) (rI0 fun i j => .int (Builtin.bitXor i j)) := opI0 fun _ _ _ _ _ _ _ q => ixor_int q

theorem unI {f : Value → Sem Value} {g : Int → Int}
    (rule : ∀ (i : Int) (t : Tok) (s : Shared) (Q : Value → Shared → Prop) (E : Value → Shared → Prop), Q (.int (g i) s.toks) { s with toks := s.toks + 1 } → wpAny (model X.prog X.w) X.A (f (.int i t)) Q E s) :
    UnR X f (rU fun i => .int (g i)) := by
  intro pins s σ H x v Q I rx h
  obtain ⟨i, rfl, q⟩ := h
  obtain ⟨t, rfl⟩ := rx
  exact rule i t s _ _ ⟨.int (g i), H, I.tok _, ⟨_, rfl⟩, q⟩
theorem un_neg : UnR X (unaryOp .USub) (rU fun i => .int (-i)) := unI fun _ _ _ _ _ q => neg_int q
theorem un_inv : UnR X (unaryOp .Invert) (rU fun i => .int (Builtin.bitNot i)) := unI fun _ _ _ _ _ q => invert_int q

/-! ### bools among ints: n += (a < b) -/
theorem op_add_ib : OpR X (binaryOp .Add) (fun x y H Q => ∃ i k, x = .int i ∧ y = .bl k ∧ Q (.int (i + b2i k)) H) := by
  intro pins s σ H x y v u Q I rx ry h
  obtain ⟨i, k, rfl, rfl, q⟩ := h
  obtain ⟨t, rfl⟩ := rx
  cases ry
  exact add_int_bool ⟨.int (i + b2i k), H, I.tok _, ⟨_, rfl⟩, q⟩
end

/-! ### comparisons -/
/-- the scalars that == tells apart as data does -/
def scal : V → V → Bool
  | .non, .non => true | .non, .int _ => true | .int _, .non => true | .non, .bl _ => true | .bl _, .non => true | .non, .str _ => true | .str _, .non => true
  | .int _, .int _ => true | .bl _, .bl _ => true | .str _, .str _ => true | .byt _, .byt _ => true
  | .int _, .str _ => true | .str _, .int _ => true | .bl _, .str _ => true | .str _, .bl _ => true
  | _, _ => false
def rEq : R2 := fun x y H Q => scal x y = true ∧ Q (.bl (decide (x = y))) H
def rNe : R2 := fun x y H Q => scal x y = true ∧ Q (.bl (!decide (x = y))) H

theorem dec_int {i j : Int} : decide (V.int i = V.int j) = (i == j) := by
  rw [Bool.eq_iff_iff]
  simp
theorem dec_bl {i j : Bool} : decide (V.bl i = V.bl j) = (i == j) := by
  rw [Bool.eq_iff_iff]
  simp
theorem dec_str {i j : Str} : decide (V.str i = V.str j) = (i == j) := by
  rw [Bool.eq_iff_iff]
  simp
theorem dec_byt {i j : Array UInt8} : decide (V.byt i = V.byt j) = (i.toList == j.toList) := by
  rw [Bool.eq_iff_iff]
  cases i
  cases j
  simp

section
variable {X : Cx} {a b c : Expr} {ta tb tc : TE} {pos : Pos}
theorem fin_bl {pins : List (Addr × Obj)} {σ : St} {H : Hp} {s : Shared} {Q : VK} {k k' : Bool} (I : Inv X pins σ H s) (q : Q (.bl k) H) (e : k = k') : EP X pins σ Q (.bool k') s := by
  subst e
  exact ⟨.bl k, H, I, rfl, q⟩
theorem op_eq : OpR X (compareOp .Eq) rEq := by
  intro pins s σ H x y v u Q I rx ry h
  obtain ⟨hs, q⟩ := h
  cases x with
  | non =>
    cases rx
    cases y with
    | non => cases ry; exact PySem.EqNone.eq_none_none (fin_bl I q (by simp))
    | bl j => cases ry; exact PySem.EqNone.eq_none_bool (fin_bl I q (by simp))
    | int j => obtain ⟨t', rfl⟩ := ry; exact PySem.EqNone.eq_none_int (fin_bl I q (by simp))
    | str j => obtain ⟨t', rfl⟩ := ry; exact PySem.EqNone.eq_none_str (fin_bl I q (by simp))
    | _ => exact absurd (show false = true from hs) Bool.false_ne_true
  | bl i =>
    cases rx
    cases y with
    | non => cases ry; exact PySem.EqNone.eq_bool_none (fin_bl I q (by simp))
    | bl j => cases ry; exact eq_bool (fin_bl I q dec_bl)
    | str j => obtain ⟨t', rfl⟩ := ry; exact PySem.EqMixed.eq_bool_str (fin_bl I q (by simp))
    | _ => exact absurd (show false = true from hs) Bool.false_ne_true
  | int i =>
    obtain ⟨t, rfl⟩ := rx
    cases y with
    | non => cases ry; exact PySem.EqNone.eq_int_none (fin_bl I q (by simp))
    | int j => obtain ⟨t', rfl⟩ := ry; exact eq_int (fin_bl I q dec_int)
    | str j => obtain ⟨t', rfl⟩ := ry; exact PySem.EqMixed.eq_int_str (fin_bl I q (by simp))
    | _ => exact absurd (show false = true from hs) Bool.false_ne_true
  | str i =>
    obtain ⟨t, rfl⟩ := rx
    cases y with
    | non => cases ry; exact PySem.EqNone.eq_str_none (fin_bl I q (by simp))
    | bl j => cases ry; exact PySem.EqMixed.eq_str_bool (fin_bl I q (by simp))
    | int j => obtain ⟨t', rfl⟩ := ry; exact PySem.EqMixed.eq_str_int (fin_bl I q (by simp))
    | str j => obtain ⟨t', rfl⟩ := ry; exact eq_str (fin_bl I q dec_str)
    | _ => exact absurd (show false = true from hs) Bool.false_ne_true
  | byt i =>
    obtain ⟨t, rfl⟩ := rx
    cases y with
    | byt j => obtain ⟨t', rfl⟩ := ry; exact PySem.W.eq_bytes (fin_bl I q dec_byt)
    | _ => exact absurd (show false = true from hs) Bool.false_ne_true
  | _ => cases y <;> exact absurd (show false = true from hs) Bool.false_ne_true
theorem op_ne : OpR X (compareOp .NotEq) rNe := by
  intro pins s σ H x y v u Q I rx ry h
  obtain ⟨hs, q⟩ := h
  cases x with
  | non =>
    cases rx
    cases y with
    | non => cases ry; exact PySem.EqNone.ne_none_none (fin_bl I q (by simp))
    | bl j => cases ry; exact PySem.EqNone.ne_none_bool (fin_bl I q (by simp))
    | int j => obtain ⟨t', rfl⟩ := ry; exact PySem.EqNone.ne_none_int (fin_bl I q (by simp))
    | str j => obtain ⟨t', rfl⟩ := ry; exact PySem.EqNone.ne_none_str (fin_bl I q (by simp))
    | _ => exact absurd (show false = true from hs) Bool.false_ne_true
  | bl i =>
    cases rx
    cases y with
    | non => cases ry; exact PySem.EqNone.ne_bool_none (fin_bl I q (by simp))
    | bl j => cases ry; exact ne_bool (fin_bl I q (congrArg not dec_bl))
    | str j => obtain ⟨t', rfl⟩ := ry; exact PySem.EqMixed.ne_bool_str (fin_bl I q (by simp))
    | _ => exact absurd (show false = true from hs) Bool.false_ne_true
  | int i =>
    obtain ⟨t, rfl⟩ := rx
    cases y with
    | non => cases ry; exact PySem.EqNone.ne_int_none (fin_bl I q (by simp))
    | int j => obtain ⟨t', rfl⟩ := ry; exact ne_int (fin_bl I q (congrArg not dec_int))
    | str j => obtain ⟨t', rfl⟩ := ry; exact PySem.EqMixed.ne_int_str (fin_bl I q (by simp))
    | _ => exact absurd (show false = true from hs) Bool.false_ne_true
  | str i =>
    obtain ⟨t, rfl⟩ := rx
    cases y with
    | non => cases ry; exact PySem.EqNone.ne_str_none (fin_bl I q (by simp))
    | bl j => cases ry; exact PySem.EqMixed.ne_str_bool (fin_bl I q (by simp))
    | int j => obtain ⟨t', rfl⟩ := ry; exact PySem.EqMixed.ne_str_int (fin_bl I q (by simp))
    | str j => obtain ⟨t', rfl⟩ := ry; exact ne_str (fin_bl I q (congrArg not dec_str))
    | _ => exact absurd (show false = true from hs) Bool.false_ne_true
  | byt i =>
    obtain ⟨t, rfl⟩ := rx
    cases y with
    | byt j => obtain ⟨t', rfl⟩ := ry; exact PySem.W.ne_bytes (fin_bl I q (congrArg not dec_byt))
    | _ => exact absurd (show false = true from hs) Bool.false_ne_true
  | _ => cases y <;> exact absurd (show false = true from hs) Bool.false_ne_true

theorem op_lt : OpR X (compareOp .Lt) (rI0 fun i j => .bl (decide (i < j))) := opB0 fun _ _ _ _ _ _ _ q => lt_int q
theorem op_le : OpR X (compareOp .LtE) (rI0 fun i j => .bl (decide (i ≤ j))) := opB0 fun _ _ _ _ _ _ _ q => le_int q
theorem op_gt : OpR X (compareOp .Gt) (rI0 fun i j => .bl (decide (j < i))) := opB0 fun _ _ _ _ _ _ _ q => gt_int q
theorem op_ge : OpR X (compareOp .GtE) (rI0 fun i j => .bl (decide (j ≤ i))) := opB0 fun _ _ _ _ _ _ _ q => ge_int q
theorem op_lt_str : OpR X (compareOp .Lt) (fun x y H Q => ∃ i j, x = .str i ∧ y = .str j ∧ Q (.bl (decide (i.cps.toList < j.cps.toList))) H) := by
  intro pins s σ H x y v u Q I rx ry h
  obtain ⟨i, j, rfl, rfl, q⟩ := h
  obtain ⟨t, rfl⟩ := rx
  obtain ⟨t', rfl⟩ := ry
  exact lt_str (fin_bl I q rfl)
/-- the one string within the other -/
theorem op_in_str : OpR X (compareOp .In) (fun x y H Q => ∃ i j, x = .str i ∧ y = .str j ∧ Q (.bl (!(Builtin.Str.occurrences j i 0 j.length 1).isEmpty)) H) := by
  intro pins s σ H x y v u Q I rx ry h
  obtain ⟨i, j, rfl, rfl, q⟩ := h
  obtain ⟨t, rfl⟩ := rx
  obtain ⟨t', rfl⟩ := ry
  exact in_str (fin_bl I q rfl)

/-- is None, is not None: the right side a value none -/
theorem op_isN : OpR X (compareOp .Is) (fun x y H Q => y = .non ∧ Q (.bl (decide (x = .non))) H) := by
  intro pins s σ H x y v u Q I rx ry h
  obtain ⟨rfl, q⟩ := h
  cases ry
  refine is_none_gen (fin_bl I q ?_)
  cases x <;> first
    | (cases rx; rfl)
    | (obtain ⟨t, rfl⟩ := rx; rfl)
theorem op_notN : OpR X (compareOp .IsNot) (fun x y H Q => y = .non ∧ Q (.bl (!decide (x = .non))) H) := by
  intro pins s σ H x y v u Q I rx ry h
  obtain ⟨rfl, q⟩ := h
  cases ry
  refine isnot_none_gen (fin_bl I q ?_)
  cases x <;> first
    | (cases rx; rfl)
    | (obtain ⟨t, rfl⟩ := rx; rfl)

theorem op_notin_str : OpR X (compareOp .NotIn) (fun x y H Q => ∃ i j, x = .str i ∧ y = .str j ∧ Q (.bl (!(!(Builtin.Str.occurrences j i 0 j.length 1).isEmpty))) H) := by
  intro pins s σ H x y v u Q I rx ry h
  obtain ⟨i, j, rfl, rfl, q⟩ := h
  obtain ⟨t, rfl⟩ := rx
  obtain ⟨t', rfl⟩ := ry
  exact notIn_str (fin_bl I q rfl)
/-- is, is not of two objects that are tracked lists or instances -/
def isObj : HO → Bool
  | .lst _ => true
  | .ins _ _ _ => true
  | _ => false
theorem obj_there {pins : List (Addr × Obj)} {s : Shared} {σ : St} {H : Hp} {a : Addr} {o : HO} (I : Inv X pins σ H s) (h : H a = some o) (p : isObj o = true) : ∃ ob, s.heap.get? a = some ob ∧ ob.cls ≠ .type "tuple" := by
  cases o with
  | lst xs =>
    obtain ⟨_, its, n, _, e⟩ : xs.length ≤ sizeLine ∧ ∃ (its : List Value) (n : Nat), Vals xs its ∧ s.heap.get? a = some { cls := .type "list", data := .seq its.toArray n } := I.hok a _ h
    exact ⟨_, e, (by show Value.type "list" ≠ .type "tuple"; decide +kernel)⟩
  | ins C dx fs =>
    have x := I.hok a _ h
    obtain ⟨_, _, _, e, _⟩ := x
    exact ⟨_, e, (by show Value.ref C ≠ .type "tuple"; exact fun z => by cases z)⟩
  | _ => exact absurd (show false = true from p) Bool.false_ne_true
theorem op_is_ref : OpR X (compareOp .Is) (fun x y H Q => ∃ a b oa ob, x = .ref a ∧ y = .ref b ∧ H a = some oa ∧ isObj oa = true ∧ H b = some ob ∧ isObj ob = true ∧ Q (.bl (decide (a = b))) H) := by
  intro pins s σ H x y v u Q I rx ry h
  obtain ⟨a, b, oa, ob, rfl, rfl, ha, pa, hb, pb, q⟩ := h
  cases rx
  cases ry
  obtain ⟨o1, e1, n1⟩ := obj_there I ha pa
  obtain ⟨o2, e2, _⟩ := obj_there I hb pb
  by_cases z : a = b
  · subst z
    exact wpAny_is_ref_self (fin_bl I q (by simp))
  · exact wpAny_is_ref_other z e1 e2 n1 (fin_bl I q (by simp [z]))
theorem op_isnot_ref : OpR X (compareOp .IsNot) (fun x y H Q => ∃ a b oa ob, x = .ref a ∧ y = .ref b ∧ H a = some oa ∧ isObj oa = true ∧ H b = some ob ∧ isObj ob = true ∧ Q (.bl (!decide (a = b))) H) := by
  intro pins s σ H x y v u Q I rx ry h
  obtain ⟨a, b, oa, ob, rfl, rfl, ha, pa, hb, pb, q⟩ := h
  cases rx
  cases ry
  obtain ⟨o1, e1, n1⟩ := obj_there I ha pa
  obtain ⟨o2, e2, _⟩ := obj_there I hb pb
  by_cases z : a = b
  · subst z
    exact wpAny_isNot_ref_self (fin_bl I q (by simp))
  · exact wpAny_isNot_ref_other z e1 e2 n1 (fin_bl I q (by simp [z]))

/-- two rules for one operation: by cases -/
theorem OpR.or {f : Value → Value → Sem Value} {r r' : R2} (h : OpR X f r) (h' : OpR X f r') : OpR X f (fun x y H Q => r x y H Q ∨ r' x y H Q) := by
  intro pins s σ H x y v u Q I rx ry q
  rcases q with q | q
  · exact h pins s σ H x y v u Q I rx ry q
  · exact h' pins s σ H x y v u Q I rx ry q

theorem nomark (b : Expr) {op : CmpOp} (h : op ≠ .In := by decide) (h2 : op ≠ .NotIn := by decide) : behindInMarks op b = false := by
  have e1 : (op == CmpOp.In) = false := by cases op <;> first | rfl | exact absurd rfl h
  have e2 : (op == CmpOp.NotIn) = false := by cases op <;> first | rfl | exact absurd rfl h2
  cases b <;> simp [behindInMarks, e1, e2]
/-- a comparison as a value; hm: nomark b, or (for in, not in) by with_unfolding_all rfl -/
theorem pe_cmpR {op : CmpOp} {r : R2} (ho : OpR X (compareOp op) r) (ha : PE X a ta) (hb : PE X b tb) (hm : behindInMarks op b = false) : PE X (.Compare a [op] [b] pos) (tOp r ta tb) := by
  intro pins s σ H Q I h
  exact wpAny_Compare1 (binT ha hb I h fun v u s2 x y H2 I2 rx ry q => ho pins s2 σ H2 x y v u Q I2 rx ry q) hm
/-- a reading of a value as a test -/
def tTest (t : TE) : TT := fun σ H Q => t σ H fun x H' => ∃ k, x = .bl k ∧ Q k H'
theorem pt_cmpR {op : CmpOp} {r : R2} (ho : OpR X (compareOp op) r) (ha : PE X a ta) (hb : PE X b tb) (hm : behindInMarks op b = false) : PT X (.Compare a [op] [b] pos) (tTest (tOp r ta tb)) := by
  intro pins s σ H Q I h
  refine wpAny_isTrue_Compare1 (thn (ha pins s σ H _ I h) fun v s1 ⟨x, H1, I1, r1, q1⟩ => thn (hb pins s1 σ H1 _ I1 q1) fun u s2 ⟨y, H2, I2, r2, q2⟩ =>
    thn (ho pins s2 σ H2 x y v u _ I2 r1 r2 q2) fun c s3 ⟨z, H3, I3, r3, k, e, q3⟩ => ?_) hm
  subst e
  cases r3
  exact wpAny_truthy_bool ⟨H3, I3, q3⟩
/-- a op1 b op2 c -/
def tChain (r r' : R2) (ta tb tc : TE) : TE := fun σ H Q => ta σ H fun x H1 => tb σ H1 fun y H2 => r x y H2 fun z H3 => ∃ k, z = .bl k ∧
  (if k = true then tc σ H3 fun w' H4 => r' y w' H4 Q else Q (.bl false) H3)
theorem pe_chain {op op' : CmpOp} {r r' : R2} (ho : OpR X (compareOp op) r) (ho' : OpR X (compareOp op') r') (ha : PE X a ta) (hb : PE X b tb) (hc : PE X c tc)
    (hm : lastMarks [op, op'] [b, c] = false := by with_unfolding_all rfl) : PE X (.Compare a [op, op'] [b, c] pos) (tChain r r' ta tb tc) := by
  intro pins s σ H Q I h
  refine Compare_chain (thn (ha pins s σ H _ I h) fun v s1 ⟨x, H1, I1, r1, q1⟩ => chain_link (thn (hb pins s1 σ H1 _ I1 q1) fun u s2 ⟨y, H2, I2, r2, q2⟩ =>
    thn (ho pins s2 σ H2 x y v u _ I2 r1 r2 q2) fun d s3 ⟨z, H3, I3, r3, k, e, q3⟩ => ?_)) hm
  subst e
  cases r3
  refine wpAny_truthy_bool ?_
  cases k with
  | false => exact ite_ff ⟨.bl false, H3, I3, rfl, q3⟩
  | true => exact ite_tt (chain_last (thn (hc pins s3 σ H3 _ I3 q3) fun w' s4 ⟨z', H4, I4, r4, q4⟩ => ho' pins s4 σ H4 y z' u w' Q I4 r2 r4 q4))
theorem pt_chain {op op' : CmpOp} {r r' : R2} (ho : OpR X (compareOp op) r) (ho' : OpR X (compareOp op') r') (ha : PE X a ta) (hb : PE X b tb) (hc : PE X c tc)
    (hm : lastMarks [op, op'] [b, c] = false := by with_unfolding_all rfl) : PT X (.Compare a [op, op'] [b, c] pos) (tTest (tChain r r' ta tb tc)) := by
  intro pins s σ H Q I h
  refine isTrue_chain (thn (ha pins s σ H _ I h) fun v s1 ⟨x, H1, I1, r1, q1⟩ => test_link (thn (hb pins s1 σ H1 _ I1 q1) fun u s2 ⟨y, H2, I2, r2, q2⟩ =>
    thn (ho pins s2 σ H2 x y v u _ I2 r1 r2 q2) fun d s3 ⟨z, H3, I3, r3, k, e, q3⟩ => ?_)) hm
  subst e
  cases r3
  refine wpAny_truthy_bool ?_
  cases k with
  | false =>
    obtain ⟨k', e', q'⟩ := q3
    cases e'
    exact ite_ff ⟨H3, I3, q'⟩
  | true =>
    refine ite_tt (test_last (thn (hc pins s3 σ H3 _ I3 q3) fun w' s4 ⟨z', H4, I4, r4, q4⟩ => thn (ho' pins s4 σ H4 y z' u w' _ I4 r2 r4 q4) fun d' s5 ⟨z2, H5, I5, r5, k2, e2, q5⟩ => ?_))
    subst e2
    cases r5
    exact wpAny_truthy_bool ⟨H5, I5, q5⟩

/-! ### truth -/
/-- a value's truth by the abstract heap -/
def TruV (K : PySem.W.Frag) (x : V) (H : Hp) (k : Bool) : Prop :=
  match x with
  | .non => k = false
  | .bl b => k = b
  | .int i => k = (i != 0)
  | .str y => y.length ≤ sizeLine ∧ k = ((y.length : Int) != 0)
  | .byt y => y.size ≤ sizeLine ∧ k = ((y.size : Int) != 0)
  | .ref p => (∃ xs, SqL K H p xs ∧ k = !xs.isEmpty) ∨ (∃ xs, SqT K H p xs ∧ k = !xs.isEmpty) ∨ ∃ kvs, H p = some (.dK kvs) ∧ k = !kvs.isEmpty
  | _ => False
theorem isEmpty_kv {κ : Type} {kvs : List (κ × V)} {vs : List (κ × Value)} (r : KV kvs vs) : (!vs.isEmpty) = !kvs.isEmpty := by
  cases r <;> rfl
theorem isEmpty_of {xs : List V} {its : List Value} (r : Vals xs its) : (!its.toArray.isEmpty) = !xs.isEmpty := by
  cases r <;> simp
theorem line63 : (sizeLine : Nat) < 2 ^ 63 := by rw [sizeLine_eq]; decide
theorem tru_ok : TruR X (fun x H Q => ∃ k, TruV X.K x H k ∧ Q k H) := by
  intro pins s σ H x v Q I rx h
  obtain ⟨k, e, q⟩ := h
  have hl := line63
  have hs : sizeLine = 16777216 := sizeLine_eq
  cases x with
  | non =>
    cases rx
    have e' : k = false := e
    subst e'
    exact truthy_none ⟨H, I, q⟩
  | bl b =>
    cases rx
    have e' : k = b := e
    subst e'
    exact wpAny_truthy_bool ⟨H, I, q⟩
  | int i =>
    obtain ⟨t, rfl⟩ := rx
    have e' : k = (i != 0) := e
    subst e'
    exact PySem.P.truthy_int ⟨H, I, q⟩
  | str y =>
    obtain ⟨t, rfl⟩ := rx
    obtain ⟨hy, e'⟩ : y.length ≤ sizeLine ∧ k = ((y.length : Int) != 0) := e
    subst e'
    exact PySem.P.truthy_str (by omega) ⟨H, I.tok _, q⟩
  | byt y =>
    obtain ⟨t, rfl⟩ := rx
    obtain ⟨hy, e'⟩ : y.size ≤ sizeLine ∧ k = ((y.size : Int) != 0) := e
    subst e'
    exact PySem.W.truthy_bytes (by omega) ⟨H, I.tok _, q⟩
  | ref p =>
    cases rx
    have e' : (∃ xs, SqL X.K H p xs ∧ k = !xs.isEmpty) ∨ (∃ xs, SqT X.K H p xs ∧ k = !xs.isEmpty) ∨ ∃ kvs, H p = some (.dK kvs) ∧ k = !kvs.isEmpty := e
    rcases e' with ⟨xs, hx, e'⟩ | ⟨xs, hx, e'⟩ | ⟨kvs, hx, e'⟩
    · subst e'
      obtain ⟨its, r, pl, hz⟩ := I.list hx
      have hlen := r.length
      exact wpAny_truthy_list pl.isList (by simp only [List.size_toArray]; omega) ⟨H, I.tok _, by rw [isEmpty_of r]; exact q⟩
    · subst e'
      obtain ⟨its, r, pl, hz⟩ := I.tuple hx
      have hlen := r.length
      exact truthy_tuple pl (by simp only [List.size_toArray]; omega) ⟨H, I.tok _, by rw [isEmpty_of r]; exact q⟩
    · subst e'
      obtain ⟨hz, hS, vs, r, m⟩ : kvs.length ≤ sizeLine ∧ (p == sysModules) = false ∧ ∃ vs, KV kvs vs ∧ s.heap.DictOf (mixKind X.prog X.w) p vs := I.hok p _ hx
      have hlen : kvs.length = vs.length := Paired.length r
      exact wpAny_truthy_dict hS m (by omega) ⟨H, I.tok _, by rw [isEmpty_kv r]; exact q⟩
  | _ => exact (show False from e).elim
/-- any expression whose test is its value's truth (a name, a call, a subscript, a field ..: he by fun _ => rfl) -/
theorem pt_truth (ha : PE X a ta) (he : ∀ whole, isTrue a X.env whole = (do let v ← whole; standAt a.pos; holding [v] (truthy v))) :
    PT X a (fun σ H Q => ta σ H fun x H' => ∃ k, TruV X.K x H' k ∧ Q k H') := by
  intro pins s σ H Q I h
  exact isTrue_plain (thn (ha pins s σ H _ I h) fun v s1 ⟨x, H1, I1, r1, q1⟩ => tru_ok pins s1 σ H1 x v Q I1 r1 q1) (he _)

/-! ### strs and bytes -/
theorem pe_byt {x : List UInt8} {k : Nat} : PE X (.Constant (.bytes x) k pos) (fun _ H Q => Q (.byt x.toArray) H) := fun _ _ _ H _ I h => PySem.W.Constant_bytes ⟨.byt x.toArray, H, I.tok _, ⟨_, rfl⟩, h⟩
theorem op_add_str : OpR X (binaryOp .Add) (fun x y H Q => ∃ i j, x = .str i ∧ y = .str j ∧ i.length + j.length ≤ sizeLine ∧ Q (.str (i ++ j)) H) := by
  intro pins s σ H x y v u Q I rx ry h
  obtain ⟨i, j, rfl, rfl, hz, q⟩ := h
  obtain ⟨t, rfl⟩ := rx
  obtain ⟨t', rfl⟩ := ry
  exact add_str (fun t' tk => ⟨.str (i ++ j), H, I.tok _, ⟨_, rfl⟩, q⟩) hz
theorem iop_add_str : OpR X (inplaceOp .Add) (fun x y H Q => ∃ i j, x = .str i ∧ y = .str j ∧ i.length + j.length ≤ sizeLine ∧ Q (.str (i ++ j)) H) := by
  intro pins s σ H x y v u Q I rx ry h
  obtain ⟨i, j, rfl, rfl, hz, q⟩ := h
  obtain ⟨t, rfl⟩ := rx
  obtain ⟨t', rfl⟩ := ry
  exact iadd_str (fun t' tk => ⟨.str (i ++ j), H, I.tok _, ⟨_, rfl⟩, q⟩) hz
theorem op_add_byt : OpR X (binaryOp .Add) (fun x y H Q => ∃ i j, x = .byt i ∧ y = .byt j ∧ i.size + j.size ≤ 16777216 ∧ Q (.byt (i ++ j)) H) := by
  intro pins s σ H x y v u Q I rx ry h
  obtain ⟨i, j, rfl, rfl, hz, q⟩ := h
  obtain ⟨t, rfl⟩ := rx
  obtain ⟨t', rfl⟩ := ry
  exact PySem.W.KBy.add_bytes hz (fun t' tk => ⟨.byt (i ++ j), H, I.tok _, ⟨_, rfl⟩, q⟩)

def PlainIxT (b : Expr) : Prop := ∀ o i, subscripted b false o i = operate [o, i] (getItem o i)
/-- s[i], 0 ≤ i < len -/
theorem pe_item_str (ha : PE X a ta) (hb : PE X b tb) (hs : PlainIxT b) :
    PE X (.Subscript a b pos) (tOp (fun x y H Q => ∃ z i c, x = .str z ∧ y = .int i ∧ 0 ≤ i ∧ i < 2 ^ 63 ∧ i < z.length ∧ z.cps[i.toNat]? = some c ∧ Q (.str ⟨#[c]⟩) H) ta tb) := by
  intro pins s σ H Q I h
  refine Subscript_ (binT ha hb I h fun v u s2 x y H2 I2 rx ry q => ?_)
  obtain ⟨z, i, c, rfl, rfl, h0, h63, h1, hc, q⟩ := q
  obtain ⟨t, rfl⟩ := rx
  obtain ⟨t', rfl⟩ := ry
  have e : seqIndex? i z.length = some i.toNat := PySem.StrLaws.seqIndex_nonneg h0 h1
  exact tail_any (typeIs_str s2 z t) slot_str_getitem.lookup (getItem_str (c := c) (by
    have e1 : decide (i < -(2 ^ 63 : Int)) = false := decide_eq_false (by omega)
    have e2 : decide (i ≥ 2 ^ 63) = false := decide_eq_false (by omega)
    rw [e1, e2] <;> rfl) (by rw [e]; exact hc) ⟨.str ⟨#[c]⟩, H2, I2.tok _, ⟨_, rfl⟩, q⟩) (hs _ _)
/-- b[i], 0 ≤ i < len -/
theorem pe_item_byt (ha : PE X a ta) (hb : PE X b tb) (hs : PlainIxT b) :
    PE X (.Subscript a b pos) (tOp (fun x y H Q => ∃ (z : List UInt8) (i : Int), x = .byt z.toArray ∧ y = .int i ∧ z.length ≤ sizeLine ∧ 0 ≤ i ∧ i < z.length ∧ Q (.int ((z.getD i.toNat 0).toNat : Nat)) H) ta tb) := by
  intro pins s σ H Q I h
  refine Subscript_ (binT ha hb I h fun v u s2 x y H2 I2 rx ry q => ?_)
  obtain ⟨z, i, rfl, rfl, hz, h0, h1, q⟩ := q
  obtain ⟨t, rfl⟩ := rx
  obtain ⟨t', rfl⟩ := ry
  have hl : sizeLine = 16777216 := sizeLine_eq
  exact tail_any (PySem.W.typeIs_bytes s2 z.toArray t) PySem.W.FB.slot_bytes_getitem.lookup (PySem.W.getItem_bytes (by omega) h0 h1 ⟨.int ((z.getD i.toNat 0).toNat : Nat), H2, I2.tok _, ⟨_, rfl⟩, q⟩) (hs _ _)

/-! ### scalar builtins, by CallR -/
theorem vals1 {x : V} {us : List Value} (r : Vals [x] us) : ∃ u, us = [u] ∧ RelV x u := by
  cases r with
  | cons r1 r2 => cases r2; exact ⟨_, rfl, r1⟩
theorem vals2 {x y : V} {us : List Value} (r : Vals [x, y] us) : ∃ u w', us = [u, w'] ∧ RelV x u ∧ RelV y w' := by
  cases r with
  | cons r1 r2 =>
    cases r2 with
    | cons r3 r4 => cases r4; exact ⟨_, _, rfl, r1, r3⟩
theorem call_abs : CallR X (.builtin "abs") (fun xs H Q => ∃ i, xs = [.int i] ∧ Q (.int (if i < 0 then -i else i)) H) := by
  intro pins s σ H xs us Q I r h
  obtain ⟨i, rfl, q⟩ := h
  obtain ⟨u, rfl, t, rfl⟩ := vals1 r
  exact call_abs_int fun u tk => ⟨.int (if i < 0 then -i else i), H, I.tok _, ⟨_, rfl⟩, q⟩
theorem call_max2 (hc : X.calm = true) : CallR X (.builtin "max") (fun xs H Q => ∃ i j, xs = [.int i, .int j] ∧ Q (.int (if j > i then j else i)) H) := by
  intro pins s σ H xs us Q I r h
  obtain ⟨i, j, rfl, q⟩ := h
  obtain ⟨u, w', rfl, ⟨t, rfl⟩, ⟨t', rfl⟩⟩ := vals2 r
  refine max_two_ints (I.ok.hd hc) fun h' tk k => ⟨_, H, I.kept k, ?_, q⟩
  by_cases hj : j > i
  · rw [if_pos hj, if_pos hj]; exact ⟨_, rfl⟩
  · rw [if_neg hj, if_neg hj]; exact ⟨_, rfl⟩
theorem call_min2 (hc : X.calm = true) : CallR X (.builtin "min") (fun xs H Q => ∃ i j, xs = [.int i, .int j] ∧ Q (.int (if j < i then j else i)) H) := by
  intro pins s σ H xs us Q I r h
  obtain ⟨i, j, rfl, q⟩ := h
  obtain ⟨u, w', rfl, ⟨t, rfl⟩, ⟨t', rfl⟩⟩ := vals2 r
  refine min_two_ints (I.ok.hd hc) fun h' tk k => ⟨_, H, I.kept k, ?_, q⟩
  by_cases hj : j < i
  · rw [if_pos hj, if_pos hj]; exact ⟨_, rfl⟩
  · rw [if_neg hj, if_neg hj]; exact ⟨_, rfl⟩
theorem call_int1 : CallR X (.type "int") (fun xs H Q => (∃ i, xs = [.int i] ∧ Q (.int i) H) ∨ ∃ k, xs = [.bl k] ∧ Q (.int (if k then 1 else 0)) H) := by
  intro pins s σ H xs us Q I r h
  rcases h with ⟨i, rfl, q⟩ | ⟨k, rfl, q⟩
  · obtain ⟨u, rfl, t, rfl⟩ := vals1 r
    exact call_int_int ⟨.int i, H, I, ⟨_, rfl⟩, q⟩
  · obtain ⟨u, rfl, r1⟩ := vals1 r
    cases r1
    exact call_int_bool ⟨.int (if k then 1 else 0), H, I.tok _, ⟨_, rfl⟩, q⟩
theorem call_bool1 : CallR X (.type "bool") (fun xs H Q => (∃ i, xs = [.int i] ∧ Q (.bl (i != 0)) H) ∨ ∃ k, xs = [.bl k] ∧ Q (.bl k) H) := by
  intro pins s σ H xs us Q I r h
  rcases h with ⟨i, rfl, q⟩ | ⟨k, rfl, q⟩
  · obtain ⟨u, rfl, t, rfl⟩ := vals1 r
    exact call_bool_int ⟨.bl (i != 0), H, I, rfl, q⟩
  · obtain ⟨u, rfl, r1⟩ := vals1 r
    cases r1
    exact call_bool_bool ⟨.bl k, H, I, rfl, q⟩
theorem call_str_int : CallR X (.type "str") (fun xs H Q => ∃ i, xs = [.int i] ∧ i.natAbs.log2 < 1920 ∧ Q (.str (toString i)) H) := by
  intro pins s σ H xs us Q I r h
  obtain ⟨i, rfl, hz, q⟩ := h
  obtain ⟨u, rfl, t, rfl⟩ := vals1 r
  exact PySem.P.str_of_int hz ⟨.str _, H, I.tok _, ⟨_, rfl⟩, q⟩
theorem call_ord : CallR X (.builtin "ord") (fun xs H Q => ∃ x, xs = [.str x] ∧ x.length = 1 ∧ Q (.int (x.cps.getD 0 0 : Nat)) H) := by
  intro pins s σ H xs us Q I r h
  obtain ⟨x, rfl, hz, q⟩ := h
  obtain ⟨u, rfl, t, rfl⟩ := vals1 r
  exact ord_of_one hz ⟨.int _, H, I.tok _, ⟨_, rfl⟩, q⟩
theorem call_chr : CallR X (.builtin "chr") (fun xs H Q => ∃ i, xs = [.int i] ∧ 0 ≤ i ∧ i ≤ 1114111 ∧ Q (.str ⟨#[i.toNat]⟩) H) := by
  intro pins s σ H xs us Q I r h
  obtain ⟨i, rfl, h0, h1, q⟩ := h
  obtain ⟨u, rfl, t, rfl⟩ := vals1 r
  exact chr_of_range h0 h1 ⟨.str _, H, I.tok _, ⟨_, rfl⟩, q⟩
/-- len of a str, a bytes, a list, a tuple -/
def LenV (K : PySem.W.Frag) (x : V) (H : Hp) (n : Nat) : Prop :=
  match x with
  | .str y => y.length ≤ sizeLine ∧ n = y.length
  | .byt y => y.size ≤ sizeLine ∧ n = y.size
  | .ref p => (∃ xs, SqL K H p xs ∧ n = xs.length) ∨ ∃ xs, SqT K H p xs ∧ n = xs.length
  | _ => False
theorem call_len : CallR X (.builtin "len") (fun xs H Q => ∃ x n, xs = [x] ∧ LenV X.K x H n ∧ Q (.int n) H) := by
  intro pins s σ H xs us Q I r h
  obtain ⟨x, n, rfl, e, q⟩ := h
  obtain ⟨u, rfl, rx⟩ := vals1 r
  have hl := line63
  have hs : sizeLine = 16777216 := sizeLine_eq
  cases x with
  | str y =>
    obtain ⟨t, rfl⟩ := rx
    obtain ⟨hy, e'⟩ : y.length ≤ sizeLine ∧ n = y.length := e
    subst e'
    exact len_str (by omega) ⟨.int _, H, I.tok _, ⟨_, rfl⟩, q⟩
  | byt y =>
    obtain ⟨t, rfl⟩ := rx
    obtain ⟨hy, e'⟩ : y.size ≤ sizeLine ∧ n = y.size := e
    subst e'
    exact PySem.W.len_bytes (by omega) ⟨.int _, H, I.tok _, ⟨_, rfl⟩, q⟩
  | ref p =>
    cases rx
    have e' : (∃ xs, SqL X.K H p xs ∧ n = xs.length) ∨ ∃ xs, SqT X.K H p xs ∧ n = xs.length := e
    rcases e' with ⟨xs, hx, e'⟩ | ⟨xs, hx, e'⟩
    · subst e'
      obtain ⟨its, r', pl, hz⟩ := I.list hx
      have hlen := r'.length
      exact Calls.call_len_list pl.isList (by simp only [List.size_toArray]; omega) ⟨.int xs.length, H, I.tok _, ⟨_, by simp only [List.size_toArray]; rw [hlen]⟩, q⟩
    · subst e'
      obtain ⟨its, r', pl, hz⟩ := I.tuple hx
      have hlen := r'.length
      exact len_tuple pl (by simp only [List.size_toArray]; omega) ⟨.int xs.length, H, I.tok _, ⟨_, by simp only [List.size_toArray]; rw [hlen]⟩, q⟩
  | _ => exact (show False from e).elim
/-- divmod: a new tuple -/
theorem call_divmod : CallR X (.builtin "divmod") (fun xs H Q => ∃ i j, xs = [.int i, .int j] ∧ CDiv i j ∧ ∀ p, H p = none → Q (.ref p) (upd H p (.tup [.int (i / j), .int (i % j)]))) := by
  intro pins s σ H xs us Q I r h
  obtain ⟨i, j, rfl, ⟨h1, h2⟩, q⟩ := h
  obtain ⟨u, w', rfl, ⟨t, rfl⟩, ⟨t', rfl⟩⟩ := vals2 r
  refine divmod_int (by omega) ?_ (.inl (PyProof.noPylong_small (by omega)))
  rw [Int.fdiv_eq_ediv_of_nonneg i (by omega), Int.fmod_eq_emod_of_nonneg i (by omega)]
  have hn : H s.heap.objs.size = none := I.hok.fresh (Nat.le_refl _)
  refine ⟨.ref s.heap.objs.size, _, ?_, rfl, q _ hn⟩
  refine I.laid (fun b o e => Heap.get?_push_of_some _ e) (Nat.le_refl _) ⟨by simp only [List.length_cons, List.length_nil]; rw [sizeLine_eq]; decide, [.int (i / j) s.toks, .int (i % j) (s.toks + 1)], .cons ⟨_, rfl⟩ (.cons ⟨_, rfl⟩ .nil), ?_⟩
  exact ⟨_, Heap.get?_push_size s.heap rfl, rfl, 0, rfl⟩
end
end L2

namespace L2
open PySem PySem.Spec PyProof.Rows

/-! ### an instance, its attributes a map -/
structure ObjM (h : Heap) (x dx C : Addr) (mA : Str → Option Value) : Prop where
  obj : h.get? x = some (PySem.W.instObj C dx)
  ns : h.Ns1 dx mA
  ne : dx ≠ x

theorem lookIn_ns {h : Heap} {dx : Addr} {mA : Str → Option Value} (n : h.Ns1 dx mA) : ∃ od, h.get? dx = some od ∧ ∀ name, PySem.W.lookIn name od = some (mA name) := by
  obtain ⟨o, es, ep, ho, hd, hk, _, hm⟩ := n
  refine ⟨o, ho, fun name => ?_⟩
  have e := hm name
  unfold nsFind findBy at e
  rw [← Array.find?_toList] at e
  unfold PySem.W.lookIn
  rw [hd]
  dsimp only
  split
  · rename_i y q
    rw [q] at e
    exact congrArg some e
  · rename_i q
    rw [q] at e
    have a : es.toList.any (·.refKey) = false := by
      rw [List.any_eq_false]
      intro y hy
      obtain ⟨z, t, hkey⟩ := hk y (Array.mem_toList_iff.mp hy)
      simp [DictEntry.refKey, hkey]
    have a' : ¬ es.toList.any (·.refKey) = true := by rw [a]; exact Bool.false_ne_true
    rw [if_neg a']
    exact congrArg some e

theorem ObjM.look {h : Heap} {x dx C : Addr} {mA : Str → Option Value} (I : ObjM h x dx C mA) : ∃ od, PySem.W.InstAt h x (PySem.W.instObj C dx) C (some od) ∧ ∀ name, PySem.W.lookIn name od = some (mA name) :=
  let ⟨od, ho, hl⟩ := lookIn_ns I.ns
  ⟨od, ⟨I.obj, rfl, rfl, ho⟩, hl⟩

section
variable {prog : Program} {w : World} {A : Around} {E : Value → Shared → Prop} {s : Shared} {K : PySem.W.Frag} {x dx C f : Addr} {mA : Str → Option Value} {name : Str} {v : Value}

theorem get_map {expr : Bool} {Q : Value → Shared → Prop} (X : K.In s.heap) (I : ObjM s.heap x dx C mA) (hg : PySem.W.plainGet K C name = true) (hh : PySem.W.hasDictIn K C = true)
    (ha : PySem.W.findIn K (.ref C) name = some none) (hv : mA name = some v) (hv' : PySem.W.handedIn v = true) (h : Q v { s with toks := s.toks + 1 }) :
    wpAny (model prog w) A (getAttr (.ref x) name expr) Q E s := by
  obtain ⟨od, J, hl⟩ := I.look
  exact PySem.W.get_value X J (PySem.W.plainGet_of hg).1 (PySem.W.findObj_own hh ha rfl (by rw [hl, hv])) hv' h

theorem get_const {expr : Bool} {a : Value} {Q : Value → Shared → Prop} (X : K.In s.heap) (I : ObjM s.heap x dx C mA) (hg : PySem.W.plainGet K C name = true) (hh : PySem.W.hasDictIn K C = true)
    (ha : PySem.W.findIn K (.ref C) name = some (some a)) (hn : PySem.W.specialIn K a "__get__" = some none) (hc : PySem.W.copiedNames.contains name = false) (hv : mA name = none) (hv' : PySem.W.handedIn a = true)
    (h : Q a { s with toks := s.toks + 1 }) : wpAny (model prog w) A (getAttr (.ref x) name expr) Q E s := by
  obtain ⟨od, J, hl⟩ := I.look
  exact PySem.W.get_value X J (PySem.W.plainGet_of hg).1 (PySem.W.findObj_cls hh ha hn hv' hc (by rw [hl, hv])) hv' h

theorem get_meth {pl : Sem Bool} {Q : Value × List Value → Shared → Prop} (X : K.In s.heap) (I : ObjM s.heap x dx C mA) (hg : PySem.W.plainGet K C name = true)
    (hf : PySem.W.findIn K (.ref C) name = some (some (.ref f))) (ht : PySem.W.isFn K (.ref f) = true) (hv : mA name = none) (h : Q (.ref f, [.ref x]) s) :
    wpAny (model prog w) A (getMethod (.ref x) name pl) Q E s := by
  obtain ⟨od, J, hl⟩ := I.look
  exact PySem.W.method_fn X J (PySem.W.plainGet_of hg).1 (PySem.W.plainGet_of hg).2 hf (beq_iff_eq.mp ht) (by show (PySem.W.lookIn name od).map (·.isSome) = some false; rw [hl, hv]; rfl) h

theorem set_map {ns : List Str} {Q : Unit → Shared → Prop} (X : K.In s.heap) (I : ObjM s.heap x dx C mA)
    (hs : PySem.W.findIn K (.ref C) "__setattr__" = some (some (.builtin "object.__setattr__"))) (hp : PySem.W.plainOver K C = true) (ht : PySem.W.takerIn K C name = some none) (hh : PySem.W.hasDictIn K C = true)
    (hw : PySem.Within mA ns) (hsz : ns.length ≤ sizeLine)
    (h : ∀ h', ObjM h' x dx C (fun y => if y = name then some v else mA y) → Heap.SameBut dx s.heap h' → Q () { s with heap := h', toks := s.toks + 2 }) :
    wpAny (model prog w) A (setAttr (.ref x) name v) Q E s := by
  obtain ⟨od, J, hl⟩ := I.look
  refine PySem.W.set_plain X J hs (PySem.W.osa_open (s := { s with toks := s.toks + 1 }) (r := none) X J hp ht fun b => ?_)
  obtain ⟨cd, hc, hd'⟩ := PySem.W.any_some hh
  have hx : s.heap.get? x = some ⟨.ref C, some dx, .plain, #[]⟩ := I.obj
  refine wpAny_bind (wpAny_pure (wpAny_bind (wpAny_bind (wpAny_loadPart hx (wpAny_bind (PySem.W.Looks.here (s := { s with toks := s.toks + 1 }) (PySem.W.looks_clsIn X hc) ?_))))))
  rw [hd']
  refine wpAny_pure (a := some dx) (wpAny_bind (wpAny_pure (wpAny_bind ?_)))
  refine wpAny_nsSet1 (s := { s with toks := s.toks + 1 }) I.ns fun h' hn2 hs2 => ?_
  obtain ⟨oD, esD, epD, hoD, hdD, hcD⟩ := hn2.count (PySem.Within.cons name v hw)
  refine wpAny_bind (wpAny_lookBehind hoD (by rw [hdD]; exact pastItsLine_dict (Nat.le_trans hcD (by rw [List.length_cons]; omega))) ?_)
  exact wpAny_pure (h _ ⟨(hs2.2 _ (Ne.symm I.ne)).trans I.obj, hn2, I.ne⟩ hs2)

/-- C(..): the dict at the heap's end, the instance behind it; then its __init__ -/
theorem make_map {R : Result → Shared → Prop} {vs : List Value} {kw : List (Str × Value)} (X : K.In s.heap) (hm : PySem.W.makesIn K C = true)
    (hi : PySem.W.findIn K (.ref C) "__init__" = some (some (.ref f))) (hf : PySem.W.typeIn K (.ref f) = some (.type "function"))
    (h : codeAny (model prog w) (A.under (.builtin "type.__call__" ⟨.ref C :: vs, kw⟩)) (.call (.ref f) ⟨.ref (s.heap.objs.size + 1) :: vs, kw⟩) (PySem.W.InitBack (s.heap.objs.size + 1) R)
      { s with heap := (s.heap.push PySem.W.emptyDict).push (PySem.W.instObj C s.heap.objs.size) }) :
    codeAny (model prog w) A (.call (.ref C) ⟨vs, kw⟩) R s := by
  obtain ⟨hh, g, d, t, os⟩ := s
  exact PySem.W.make_core (PySem.W.makes_of X hm) (PySem.W.looks_findIn X hi) (fun self => PySem.W.bind_fn X self hf) (.inl rfl) h
/-- C() where there is no __init__ but object's -/
theorem make_map0 {R : Result → Shared → Prop} (X : K.In s.heap) (hm : PySem.W.makesIn K C = true)
    (hi : PySem.W.findIn K (.ref C) "__init__" = some (some (.builtin "object.__init__")))
    (hb : ∀ self, PySem.W.Looks (model prog w) s.heap (bindSpecial (.builtin "object.__init__") self) (.builtin "object.__init__", [self]))
    (h : codeAny (model prog w) (A.under (.builtin "type.__call__" ⟨[.ref C], []⟩)) (.call (.builtin "object.__init__") ⟨[.ref (s.heap.objs.size + 1)], []⟩) (PySem.W.InitBack (s.heap.objs.size + 1) R)
      { s with heap := (s.heap.push PySem.W.emptyDict).push (PySem.W.instObj C s.heap.objs.size) }) :
    codeAny (model prog w) A (.call (.ref C) ⟨[], []⟩) R s := by
  obtain ⟨hh, g, d, t, os⟩ := s
  exact PySem.W.make_core (PySem.W.makes_of X hm) (PySem.W.looks_findIn X hi) hb (.inr ⟨rfl, rfl⟩) h
end

/-! ### the attributes as a list of pairs -/
def putF (f : Str) (v : V) : List (Str × V) → List (Str × V)
  | [] => [(f, v)]
  | (g, x) :: r => if g = f then (g, v) :: r else (g, x) :: putF f v r
theorem lookup_putF (f g : Str) (v : V) : ∀ fs : List (Str × V), (putF f v fs).lookup g = if g = f then some v else fs.lookup g
  | [] => by
    show List.lookup g [(f, v)] = _
    by_cases h : g = f
    · have hb : (g == f) = true := beq_iff_eq.mpr h
      simp only [List.lookup, hb, if_pos h]
    · have hb : (g == f) = false := beq_eq_false_iff_ne.mpr h
      simp only [List.lookup, hb, if_neg h]
  | (k, x) :: r => by
    have ih := lookup_putF f g v r
    rw [show putF f v ((k, x) :: r) = (if k = f then (k, v) :: r else (k, x) :: putF f v r) from rfl]
    by_cases hk : k = f
    · rw [if_pos hk]
      by_cases h : g = k
      · have hb : (g == k) = true := beq_iff_eq.mpr h
        simp only [List.lookup, hb, if_pos (h.trans hk)]
      · have hb : (g == k) = false := beq_eq_false_iff_ne.mpr h
        simp only [List.lookup, hb, if_neg (fun e : g = f => h (e.trans hk.symm))]
    · rw [if_neg hk]
      by_cases h : g = k
      · have hb : (g == k) = true := beq_iff_eq.mpr h
        simp only [List.lookup, hb, if_neg (fun e : g = f => hk (h.symm.trans e))]
      · have hb : (g == k) = false := beq_eq_false_iff_ne.mpr h
        simp only [List.lookup, hb]
        exact ih
theorem keys_putF (f : Str) (v : V) : ∀ fs : List (Str × V), f ∈ (putF f v fs).map (·.1) ∧ ∀ g, g ∈ fs.map (·.1) → g ∈ (putF f v fs).map (·.1)
  | [] => ⟨by simp [putF], fun g h => by simp at h⟩
  | (k, x) :: r => by
    obtain ⟨i1, i2⟩ := keys_putF f v r
    rw [show putF f v ((k, x) :: r) = (if k = f then (k, v) :: r else (k, x) :: putF f v r) from rfl]
    by_cases hk : k = f
    · rw [if_pos hk]
      subst hk
      exact ⟨by simp, fun g h => by simpa using h⟩
    · rw [if_neg hk]
      refine ⟨?_, fun g h => ?_⟩
      · rw [List.map_cons]
        exact List.mem_cons_of_mem _ i1
      · rw [List.map_cons] at h ⊢
        rcases List.mem_cons.mp h with e | e
        · exact List.mem_cons.mpr (.inl e)
        · exact List.mem_cons_of_mem _ (i2 g e)
theorem length_putF (f : Str) (v : V) : ∀ fs : List (Str × V), (putF f v fs).length ≤ fs.length + 1
  | [] => by simp [putF]
  | (k, x) :: r => by
    have ih := length_putF f v r
    rw [show putF f v ((k, x) :: r) = (if k = f then (k, v) :: r else (k, x) :: putF f v r) from rfl]
    by_cases hk : k = f
    · rw [if_pos hk, List.length_cons, List.length_cons]; omega
    · rw [if_neg hk, List.length_cons, List.length_cons]; omega

theorem RelO.some_of {v : V} {o : Option Value} (r : RelO (some v) o) : ∃ u, o = some u ∧ RelV v u := by
  cases o with
  | none => exact (show False from r).elim
  | some u => exact ⟨u, rfl, r⟩
theorem RelO.none_of {o : Option Value} (r : RelO none o) : o = none := by
  cases o with
  | none => rfl
  | some u => exact (show False from r).elim
theorem handed_of {v : V} {u : Value} (r : RelV v u) : PySem.W.handedIn u = true := by
  cases v with
  | non => cases (show u = Value.none from r); rfl
  | bl b => cases (show u = Value.bool b from r); rfl
  | int i => obtain ⟨t, e⟩ := (show ∃ t, u = Value.int i t from r); cases e; rfl
  | str x => obtain ⟨t, e⟩ := (show ∃ t, u = Value.str x t from r); cases e; rfl
  | byt b => obtain ⟨t, e⟩ := (show ∃ t, u = Value.bytes b t from r); cases e; rfl
  | flt b => obtain ⟨t, e⟩ := (show ∃ t, u = Value.float b t from r); cases e; rfl
  | ref a => cases (show u = Value.ref a from r); rfl
  | ty n => cases (show u = Value.type n from r); rfl

section
variable {P : Program} {w : World} {H H' : Hp} {h h' : Heap} {a C dx : Addr} {fs fs' : List (Str × V)}
theorem ins_get (hok : HOk P w H h) (e : H a = some (.ins C dx fs)) : ∃ mA, ObjM h a dx C mA ∧ (∀ f, RelO (fs.lookup f) (mA f)) ∧ PySem.Within mA (fs.map (·.1)) ∧ fs.length ≤ 1000 ∧ H dx = some (.own a) := by
  obtain ⟨d, z, ne, ob, mA, n, r, q⟩ := (show ObjOk P w H h a (.ins C dx fs) from hok a _ e)
  exact ⟨mA, ⟨ob, n, ne⟩, r, q, z, d⟩
end

/-! ### what of the text a class must have -/
structure Cls (K : PySem.W.Frag) (C : Addr) : Prop where
  pg : PySem.W.plainGet K C Str.empty = true
  hd : PySem.W.hasDictIn K C = true
  po : PySem.W.plainOver K C = true
  sa : PySem.W.findIn K (.ref C) "__setattr__" = some (some (.builtin "object.__setattr__"))
theorem Cls.get {K : PySem.W.Frag} {C : Addr} (c : Cls K C) (f : Str) : PySem.W.plainGet K C f = true := c.pg
/-- no class of it has the name -/
def NoAttr (K : PySem.W.Frag) (C : Addr) (f : Str) : Prop := PySem.W.findIn K (.ref C) f = some none
theorem NoAttr.taker {K : PySem.W.Frag} {C : Addr} {f : Str} (n : NoAttr K C f) : PySem.W.takerIn K C f = some none := by
  unfold PySem.W.takerIn
  rw [show PySem.W.findIn K (.ref C) f = some none from n]
  rfl
/-- a constant of the class -/
structure Con (K : PySem.W.Frag) (C : Addr) (f : Str) (v : V) (u : Value) : Prop where
  at_ : PySem.W.findIn K (.ref C) f = some (some u)
  rel : RelV v u
  get : PySem.W.specialIn K u "__get__" = some none
  cp : PySem.W.copiedNames.contains f = false
/-- a method: a plain def of the class or of one above it -/
structure Meth (K : PySem.W.Frag) (C : Addr) (m : Str) (f : Addr) : Prop where
  at_ : PySem.W.findIn K (.ref C) m = some (some (.ref f))
  fn : PySem.W.isFn K (.ref f) = true
  kp : PySem.W.keepIn K (.ref f) = true

section
variable {X : Cx} {pins : List (Addr × Obj)} {σ : St} {H : Hp} {s : Shared} {a C dx : Addr} {fs : List (Str × V)} {f : Str} {v : V} {A : Around} {E : Value → Shared → Prop}

theorem getattr_ok {b : Bool} {Q : Value → Shared → Prop} (I : Inv X pins σ H s) (e : H a = some (.ins C dx fs)) (c : Cls X.K C) (n : NoAttr X.K C f) (l : fs.lookup f = some v)
    (h : ∀ u s', Inv X pins σ H s' → RelV v u → Q u s') : wpAny (model X.prog X.w) A (getAttr (.ref a) f b) Q E s := by
  obtain ⟨mA, O, r, _, _, _⟩ := ins_get I.hok e
  obtain ⟨u, hu, ru⟩ := RelO.some_of (v := v) (o := mA f) (by rw [← l]; exact r f)
  exact get_map I.kIn O (c.get f) c.hd n hu (handed_of ru) (h u _ (I.tok _) ru)

theorem getcon_ok {b : Bool} {u : Value} {Q : Value → Shared → Prop} (I : Inv X pins σ H s) (e : H a = some (.ins C dx fs)) (c : Cls X.K C) (k : Con X.K C f v u) (l : fs.lookup f = none)
    (h : ∀ s', Inv X pins σ H s' → Q u s') : wpAny (model X.prog X.w) A (getAttr (.ref a) f b) Q E s := by
  obtain ⟨mA, O, r, _, _, _⟩ := ins_get I.hok e
  have hn : mA f = none := RelO.none_of (by rw [← l]; exact r f)
  exact get_const I.kIn O (c.get f) c.hd k.at_ k.get k.cp hn (handed_of k.rel) (h _ (I.tok _))

theorem getmeth_ok {m : Str} {g : Addr} {pl : Sem Bool} {Q : Value × List Value → Shared → Prop} (I : Inv X pins σ H s) (e : H a = some (.ins C dx fs)) (c : Cls X.K C) (k : Meth X.K C m g) (l : fs.lookup m = none)
    (h : Q (.ref g, [.ref a]) s) : wpAny (model X.prog X.w) A (getMethod (.ref a) m pl) Q E s := by
  obtain ⟨mA, O, r, _, _, _⟩ := ins_get I.hok e
  have hn : mA m = none := RelO.none_of (by rw [← l]; exact r m)
  exact get_meth I.kIn O (c.get m) k.at_ k.fn hn h

theorem setattr_ok {y : V} {u : Value} {Q : Unit → Shared → Prop} (I : Inv X pins σ H s) (e : H a = some (.ins C dx fs)) (c : Cls X.K C) (n : NoAttr X.K C f) (hl : fs.length < 1000) (ry : RelV y u)
    (h : ∀ s', Inv X pins σ (upd H a (.ins C dx (putF f y fs))) s' → Q () s') : wpAny (model X.prog X.w) A (setAttr (.ref a) f u) Q E s := by
  obtain ⟨mA, O, r, wi, _, ho⟩ := ins_get I.hok e
  have hz : (fs.map (·.1)).length ≤ sizeLine := by rw [List.length_map, sizeLine_eq]; omega
  refine set_map I.kIn O c.sa c.po n.taker c.hd wi hz fun h' O' sb => h _ ?_
  have hd : ∃ o, h'.get? dx = some o := let ⟨o, _, _, e', _⟩ := O'.ns; ⟨o, e'⟩
  refine I.write (x := a) (e := dx) (by rw [e]; exact True.intro) (.inr ho) (fun b q hb z => (sb.2 b hb).trans z) hd ?_
  refine ⟨by rw [upd_ne O.ne]; exact ho, ?_, O.ne, O'.obj, _, O'.ns, fun g => ?_, fun g hg => ?_⟩
  · have := length_putF f y fs; omega
  · show RelO ((putF f y fs).lookup g) (if g = f then some u else mA g)
    rw [lookup_putF]
    by_cases q : g = f
    · rw [if_pos q, if_pos q]; exact ry
    · rw [if_neg q, if_neg q]; exact r g
  · by_cases q : g = f
    · rw [q]; exact (keys_putF f y fs).1
    · refine (keys_putF f y fs).2 g (wi g fun z => hg ?_)
      show (if g = f then some u else mA g) = none
      rw [if_neg q]; exact z

/-- a new instance, tracked, without attributes -/
theorem Inv.made (I : Inv X pins σ H s) : Inv X pins σ (upd (upd H s.heap.objs.size (.own (s.heap.objs.size + 1))) (s.heap.objs.size + 1) (.ins C s.heap.objs.size []))
    { s with heap := (s.heap.push PySem.W.emptyDict).push (PySem.W.instObj C s.heap.objs.size) } := by
  have e1 : (s.heap.push PySem.W.emptyDict).get? s.heap.objs.size = some PySem.W.emptyDict := Heap.get?_push_size s.heap rfl
  have e2 : ((s.heap.push PySem.W.emptyDict).push (PySem.W.instObj C s.heap.objs.size)).get? (s.heap.objs.size + 1) = some (PySem.W.instObj C s.heap.objs.size) := by
    have := Heap.get?_push_size (s.heap.push PySem.W.emptyDict) (o := PySem.W.instObj C s.heap.objs.size) rfl
    rwa [Heap.size_push] at this
  have e3 : (s.heap.push PySem.W.emptyDict).Ns s.heap.objs.size (fun _ => none) := ⟨PySem.W.emptyDict, #[], _, e1, rfl, (fun e he => absurd he (by simp)), fun _ => rfl⟩
  have I1 := I.laid (a := s.heap.objs.size) (o := .own (s.heap.objs.size + 1)) (h' := s.heap.push PySem.W.emptyDict) (t' := s.toks) (fun b u q => Heap.get?_push_of_some _ q) (Nat.le_refl _) ⟨_, e1⟩
  refine I1.laid (a := s.heap.objs.size + 1) (o := .ins C s.heap.objs.size []) (t' := s.toks) (fun b u q => Heap.get?_push_of_some _ q) (Nat.le_of_eq (Heap.size_push _ _)) ?_
  have ne : s.heap.objs.size ≠ s.heap.objs.size + 1 := Nat.ne_of_lt (Nat.lt_succ_self _)
  refine ⟨by rw [upd_ne ne, upd_same], Nat.zero_le _, ne, e2, fun _ => none, (Heap.Ns1.of_empty e3).at fun o q => Heap.get?_push_of_some _ q, fun _ => True.intro, fun y hy => absurd rfl hy⟩

/-- e.f where nothing but the object is asked: through attributeBase (super) and the last hold -/
theorem attr_of {prog : Program} {w : World} {env : Env} {e : Expr} {f : Str} {pos : Pos} {s : Shared} {Q : Value → Shared → Prop} (hb : attributeBase e f env (eval e env) = eval e env)
    (h : wpAny (model prog w) A (eval e env) (fun o s₁ => wpAny (model prog w) A (getAttr o f true) Q E s₁) E s) : wpAny (model prog w) A (eval (.Attribute e f pos) env) Q E s :=
  Attribute_any_ h (by rw [arm_eval_Attribute, hb])
end

/-! ### readings and rules -/
/-- e.f, an attribute of the instance -/
def tFld (K : PySem.W.Frag) (ta : TE) (f : Str) : TE := fun σ H Q => ta σ H fun x H1 => ∃ a C dx fs v, x = .ref a ∧ H1 a = some (.ins C dx fs) ∧ Cls K C ∧ NoAttr K C f ∧ fs.lookup f = some v ∧ Q v H1
/-- e.f, a constant of the class -/
def tCon (K : PySem.W.Frag) (ta : TE) (f : Str) : TE := fun σ H Q => ta σ H fun x H1 => ∃ a C dx fs v u, x = .ref a ∧ H1 a = some (.ins C dx fs) ∧ Cls K C ∧ Con K C f v u ∧ fs.lookup f = none ∧ Q v H1
/-- e.f = value -/
def sFld (K : PySem.W.Frag) (ta tv : TE) (f : Str) : TS := fun D σ H => tv σ H fun y H1 => ta σ H1 fun x H2 => ∃ a C dx fs, x = .ref a ∧ H2 a = some (.ins C dx fs) ∧ Cls K C ∧ NoAttr K C f ∧ fs.length < 1000 ∧
  D.nx σ (upd H2 a (.ins C dx (putF f y fs)))
/-- an augmented operator on two values -/
def InOp (X : Cx) (op : Operator) (rd : V → V → Hp → VK → Prop) : Prop :=
  ∀ (pins : List (Addr × Obj)) (s : Shared) (σ : St) (H : Hp) (x y : V) (u v : Value) (Q : VK), Inv X pins σ H s → RelV x u → RelV y v → rd x y H Q → wpAny (model X.prog X.w) X.A (inplaceOp op u v) (EP X pins σ Q) X.xe s
/-- e.f op= value -/
def sFldAug (K : PySem.W.Frag) (ta tv : TE) (rd : V → V → Hp → VK → Prop) (f : Str) : TS := fun D σ H => ta σ H fun x H1 => ∃ a C dx fs v, x = .ref a ∧ H1 a = some (.ins C dx fs) ∧ Cls K C ∧ NoAttr K C f ∧ fs.lookup f = some v ∧
  tv σ H1 fun y H2 => rd v y H2 fun z H3 => ∃ dx' fs', H3 a = some (.ins C dx' fs') ∧ fs'.length < 1000 ∧ D.nx σ (upd H3 a (.ins C dx' (putF f z fs')))

section
variable {X : Cx} {o e value : Expr} {f : Str} {pos pos' tpos : Pos} {ta tv : TE}
theorem pe_fld (he : PE X e ta) (hb : attributeBase e f X.env (eval e X.env) = eval e X.env) : PE X (.Attribute e f pos) (tFld X.K ta f) := by
  intro pins s σ H Q I h
  refine attr_of hb (thn (he pins s σ H _ I h) fun u s1 ⟨x, H1, I1, rx, a, C, dx, fs, v, ex, ea, c, n, l, q⟩ => ?_)
  subst ex
  obtain rfl : u = Value.ref a := rx
  exact getattr_ok I1 ea c n l fun u' s2 I2 ru => ⟨v, H1, I2, ru, q⟩
theorem pe_con (he : PE X e ta) (hb : attributeBase e f X.env (eval e X.env) = eval e X.env) : PE X (.Attribute e f pos) (tCon X.K ta f) := by
  intro pins s σ H Q I h
  refine attr_of hb (thn (he pins s σ H _ I h) fun u s1 ⟨x, H1, I1, rx, a, C, dx, fs, v, u0, ex, ea, c, k, l, q⟩ => ?_)
  subst ex
  obtain rfl : u = Value.ref a := rx
  exact getcon_ok I1 ea c k l fun s2 I2 => ⟨v, H1, I2, k.rel, q⟩
theorem ps_fld (ha : PE X o ta) (hv : PE X value tv) (hs : swapsWith value (some (.Attribute o f pos')) pos.line X.env = pure false) : PS X (.Assign [.Attribute o f pos'] value pos) (sFld X.K ta tv f) := by
  intro pins s σ H D I h
  refine plainObj_wpAny_Assign_Attribute (thn (hv pins s σ H _ I h) fun u s1 ⟨y, H1, I1, ry, q⟩ => thn (ha pins s1 σ H1 _ I1 q) fun ov s2 ⟨x, H2, I2, rx, a, C, dx, fs, ex, ea, c, n, l, q2⟩ => ?_) hs
  subst ex
  obtain rfl : ov = Value.ref a := rx
  exact setattr_ok I2 ea c n l ry fun s3 I3 => ⟨σ, _, I3, q2⟩
theorem ps_fldaug {op : Operator} {rd : V → V → Hp → VK → Prop} (ha : PE X o ta) (hv : PE X value tv) (hop : InOp X op rd) : PS X (.AugAssign (.Attribute o f tpos) op value pos) (sFldAug X.K ta tv rd f) := by
  intro pins s σ H D I h
  refine wpAny_AugAssign_AttributeAny (thn (ha pins s σ H _ I h) fun ov s1 ⟨x, H1, I1, rx, a, C, dx, fs, v, ex, ea, c, n, l, q⟩ => ?_)
  subst ex
  obtain rfl : ov = Value.ref a := rx
  refine getattr_ok I1 ea c n l fun u s2 I2 ru => thn (hv pins s2 σ H1 _ I2 q) fun w3 s3 ⟨y, H2, I3, ry, q3⟩ => thn (hop pins s3 σ H2 v y u w3 _ I3 ru ry q3) fun w4 s4 ⟨z, H3, I4, rz, dx', fs', ea', l', q4⟩ => ?_
  exact setattr_ok I4 ea' c n l' rz fun s5 I5 => ⟨σ, _, I5, q4⟩
def rAdd : V → V → Hp → VK → Prop := fun x y H Q => ∃ i j, x = .int i ∧ y = .int j ∧ Q (.int (i + j)) H
def rSub : V → V → Hp → VK → Prop := fun x y H Q => ∃ i j, x = .int i ∧ y = .int j ∧ Q (.int (i - j)) H
theorem in_add : InOp X .Add rAdd := by
  rintro pins s σ H x y u v Q I rx ry ⟨i, j, rfl, rfl, q⟩
  obtain ⟨t, rfl⟩ := (show ∃ t, u = Value.int i t from rx)
  obtain ⟨t', rfl⟩ := (show ∃ t', v = Value.int j t' from ry)
  exact PyProof.Rows.iadd_int ⟨.int (i + j), H, I.tok _, ⟨_, rfl⟩, q⟩
theorem in_sub : InOp X .Sub rSub := by
  rintro pins s σ H x y u v Q I rx ry ⟨i, j, rfl, rfl, q⟩
  obtain ⟨t, rfl⟩ := (show ∃ t, u = Value.int i t from rx)
  obtain ⟨t', rfl⟩ := (show ∃ t', v = Value.int j t' from ry)
  exact PyProof.Rows.isub_int ⟨.int (i - j), H, I.tok _, ⟨_, rfl⟩, q⟩

/-- what is between an instance and its method: the tree of a method call -/
theorem methcall_of {pl : Sem Bool} {m : Str} {apos : Pos} {args : List Expr} {pins : List (Addr × Obj)} {s : Shared} {σ : St} {H : Hp} {Q : Value → Shared → Prop} {te : TE} (he : PE X e te) (I : Inv X pins σ H s)
    (h : te σ H fun x H1 => ∃ a C dx fs g, x = .ref a ∧ H1 a = some (.ins C dx fs) ∧ Cls X.K C ∧ Meth X.K C m g ∧ fs.lookup m = none ∧
      ∀ s1, Inv X pins σ H1 s1 → wpAny (model X.prog X.w) X.A (callWith pos (.ref g) [.ref a] (backTo pos (starEach args X.env)) (backToKw pos (keywordEach [] X.env))) Q X.xe s1)
    (ht : eval (.Call (.Attribute e m apos) args [] pos) X.env = (do
      let ov ← eval e X.env
      standAt apos.atName
      let (f, first) ← holding [ov] (getMethod ov m pl)
      callWith pos f first (backTo pos (starEach args X.env)) (backToKw pos (keywordEach [] X.env)))) :
    wpAny (model X.prog X.w) X.A (eval (.Call (.Attribute e m apos) args [] pos) X.env) Q X.xe s := by
  refine PySem.W.methodCall_KW (pl := pl) (thn (he pins s σ H _ I h) fun u s1 ⟨x, H1, I1, rx, a, C, dx, fs, g, ex, ea, c, k, l, q⟩ => ?_) ht
  subst ex
  obtain rfl : u = Value.ref a := rx
  exact getmeth_ok I1 ea c k l (q s1 I1)
end

/-! ### isinstance -/
section
variable {X : Cx} {pins : List (Addr × Obj)} {σ : St} {H : Hp} {s : Shared} {A : Around} {E : Value → Shared → Prop} {Q : Value → Shared → Prop} {c : Value} {b : Bool}
/-- the type of a value, as the fragment's deciders take it; for an instance its class -/
inductive TyOf (K : PySem.W.Frag) (H : Hp) : V → Value → Prop where
  | non : TyOf K H .non (.type "NoneType")
  | bl (x : Bool) : TyOf K H (.bl x) (.type "bool")
  | int (i : Int) : TyOf K H (.int i) (.type "int")
  | str (x : Str) : TyOf K H (.str x) (.type "str")
  | flt (x : UInt64) : TyOf K H (.flt x) (.type "float")
  | lst {a : Addr} {xs : List V} (e : H a = some (.lst xs)) : TyOf K H (.ref a) (.type "list")
  | frz {a : Addr} {o : Obj} {xs : List V} (e : H a = some (.frz o (.lst xs))) : TyOf K H (.ref a) (.type "list")
  | tup {a : Addr} {xs : List V} (e : H a = some (.tup xs)) : TyOf K H (.ref a) (.type "tuple")
  | dK {a : Addr} {kvs : List (Key × V)} (e : H a = some (.dK kvs)) : TyOf K H (.ref a) (.type "dict")
  | dT {a : Addr} {kvs : List (List Key × V)} (e : H a = some (.dT kvs)) : TyOf K H (.ref a) (.type "dict")
  | ins {a C dx : Addr} {fs : List (Str × V)} (e : H a = some (.ins C dx fs)) (cl : Cls K C) (ha : PySem.W.findIn K (.ref C) "__class__" = some (some (.builtin "object.__class__")))
      (hn : PySem.W.specialIn K (.builtin "object.__class__") "__get__" = some (some (.builtin "getset_descriptor.__get__"))) (htk : PySem.W.takesIn K (.builtin "object.__class__") = some true)
      (hm : PySem.W.mroIn K C (.type "object") = some true) : TyOf K H (.ref a) (.ref C)
/-- isinstance(x, c) for one class c, a built-in or an own one: kitOne's answer -/
theorem isinst_ok {x : V} {u t : Value} (I : Inv X pins σ H s) (rx : RelV x u) (ty : TyOf X.K H x t) (e : PySem.W.kitOne X.K t c = some b) (h : ∀ tk, Q (.bool b) { s with toks := tk }) :
    wpAny (model X.prog X.w) A (call (.builtin "isinstance") [u, c]) Q E s := by
  cases ty with
  | non => cases (show u = Value.none from rx); exact PySem.W.kia_one PySem.W.kitx_none I.kIn True.intro e (fun z => nomatch z) h
  | bl y => cases (show u = Value.bool y from rx); exact PySem.W.kia_one PySem.W.kitx_bool I.kIn True.intro e (fun z => nomatch z) h
  | int i => obtain ⟨t, q⟩ := (show ∃ t, u = Value.int i t from rx); cases q; exact PySem.W.kia_one PySem.W.kitx_int I.kIn True.intro e (fun z => nomatch z) h
  | str y => obtain ⟨t, q⟩ := (show ∃ t, u = Value.str y t from rx); cases q; exact PySem.W.kia_one PySem.W.kitx_str I.kIn True.intro e (fun z => nomatch z) h
  | flt y => obtain ⟨t, q⟩ := (show ∃ t, u = Value.float y t from rx); cases q; exact PySem.W.kia_one PySem.W.kitx_float I.kIn True.intro e (fun z => nomatch z) h
  | @lst a xs ea =>
    cases (show u = Value.ref a from rx)
    obtain ⟨_, _, n, _, h1⟩ := (show ObjOk X.prog X.w H s.heap a (.lst xs) from I.hok a _ ea)
    exact PySem.W.kia_one PySem.W.kitx_list I.kIn ⟨_, h1, rfl⟩ e (fun z => nomatch z) h
  | @frz a ob xs ea =>
    cases (show u = Value.ref a from rx)
    obtain ⟨_, _, _, n, _, h1⟩ := (show ObjOk X.prog X.w H s.heap a (.frz ob (.lst xs)) from I.hok a _ ea)
    exact PySem.W.kia_one PySem.W.kitx_list I.kIn ⟨_, h1, rfl⟩ e (fun z => nomatch z) h
  | @tup a xs ea =>
    cases (show u = Value.ref a from rx)
    obtain ⟨_, _, _, p⟩ := (show ObjOk X.prog X.w H s.heap a (.tup xs) from I.hok a _ ea)
    obtain ⟨o, h1, h2, _⟩ := p
    exact PySem.W.kia_one PySem.W.kitx_tuple I.kIn ⟨o, h1, h2⟩ e (fun z => nomatch z) h
  | @dK a kvs ea =>
    cases (show u = Value.ref a from rx)
    obtain ⟨_, _, vs, _, p⟩ := (show ObjOk X.prog X.w H s.heap a (.dK kvs) from I.hok a _ ea)
    obtain ⟨o, es, ep, h1, h2, _⟩ := p
    exact PySem.W.kia_one PySem.W.kitx_dict I.kIn ⟨o, h1, h2.1⟩ e (fun z => nomatch z) h
  | @dT a kvs ea =>
    cases (show u = Value.ref a from rx)
    obtain ⟨_, _, xs, _, o, es, ep, h1, h2, _⟩ := (show ObjOk X.prog X.w H s.heap a (.dT kvs) from I.hok a _ ea)
    exact PySem.W.kia_one PySem.W.kitx_dict I.kIn ⟨o, h1, h2.1⟩ e (fun z => nomatch z) h
  | @ins a C dx fs ea cl ha hn htk hm =>
    cases (show u = Value.ref a from rx)
    obtain ⟨mA, O, _⟩ := ins_get I.hok ea
    obtain ⟨od, J, _⟩ := O.look
    exact PySem.W.kia_one (PySem.W.kitx_own (cl.get _) cl.hd ha hn htk hm) I.kIn J e (fun z => nomatch z) h
end
end L2

namespace L2
open PySem PySem.Spec PyProof.Rows

/-! ### room -/
structure Room (k : Nat) (A : Around) : Prop where
  hd : A.handled = none
  dp : A.depth + 3 * k + 5 < recursionLimit
  un : A.units + 16 * k + 200 < cLine
theorem Room.mono {j k : Nat} {A : Around} (r : Room k A) (h : j ≤ k) : Room j A := ⟨r.hd, by have := r.dp; omega, by have := r.un; omega⟩
theorem Room.deeper {k : Nat} {A : Around} (r : Room (k + 1) A) (env : Env) : Room k (A.deeper env) :=
  ⟨r.hd, by have := r.dp; show A.depth + 1 + 3 * k + 5 < _; omega, by have := r.un; show A.units + 3 + 16 * k + 200 < _; omega⟩
theorem Room.in1 {k : Nat} {A : Around} (r : Room (k + 1) A) : Room k A.in1 :=
  ⟨r.hd, by have := r.dp; show A.depth + 3 * k + 5 < _; omega, by have := r.un; show A.units + 1 + 16 * k + 200 < _; omega⟩
theorem make_depth {A : Around} {C : Addr} {us : List Value} {kw : List (Str × Value)} : (A.under (.builtin "type.__call__" ⟨.ref C :: us, kw⟩)).depth = A.depth + 1 := by
  first | rfl | simp [Around.under, Code.weight, Code.isCreation, Code.isGuard, Code.isCaller, Code.frames, Code.isFrame, guardIds]
theorem make_units {A : Around} {C : Addr} {us : List Value} {kw : List (Str × Value)} : (A.under (.builtin "type.__call__" ⟨.ref C :: us, kw⟩)).units = A.units + 1 := by
  first | rfl | simp [Around.under, Code.cUnits, Code.frames, Code.isFrame]
theorem Room.make {k : Nat} {A : Around} (r : Room (k + 1) A) (C : Addr) (us : List Value) (kw : List (Str × Value)) : Room k (A.under (.builtin "type.__call__" ⟨.ref C :: us, kw⟩)) :=
  ⟨r.hd, by have := r.dp; rw [make_depth]; omega, by have := r.un; rw [make_units]; omega⟩
theorem Room.depth {k : Nat} {A : Around} (r : Room k A) : A.depth < recursionLimit := by have := r.dp; omega
theorem Room.units {k : Nat} {A : Around} (r : Room k A) : A.units + 64 < cLine := by have := r.un; omega
theorem Room.units0 {k : Nat} {A : Around} (r : Room k A) : A.units < cLine := by have := r.un; omega

/-! ### argument lists and displays -/
def tNil : TA := fun _ H Q => Q [] H
def tCons (ta : TE) (tr : TA) : TA := fun σ H Q => ta σ H fun x H1 => tr σ H1 fun xs H2 => Q (x :: xs) H2
section
variable {X : Cx} {e : Expr} {es : List Expr} {te : TE} {t : TA} {pos : Pos}
theorem pa_nil : PA X [] tNil := fun _ _ _ _ H Q I h => Calls.spliced_nil ⟨[], H, I, .nil, h⟩
theorem pa_cons (ha : PE X e te) (hr : PA X es t) (hs : starEach (e :: es) X.env = (false, eval e X.env) :: starEach es X.env := by rfl) : PA X (e :: es) (tCons te t) := by
  intro pos pins s σ H Q I h
  rw [hs]
  show wpAny _ _ (spliced ((false, eval e X.env) :: backTo pos (starEach es X.env))) _ _ s
  refine Calls.spliced_cons (thn (ha pins s σ H _ I h) fun u s1 ⟨x, H1, I1, r1, q1⟩ => ?_)
  exact thn (hr pos pins s1 σ H1 _ I1 q1) fun us s2 ⟨xs, H2, I2, r2, q2⟩ => ⟨x :: xs, H2, I2, .cons r1 r2, q2⟩

/-- a tuple, a list of written items -/
def tTup (t : TA) : TE := fun σ H Q => t σ H fun xs H1 => xs.length ≤ sizeLine ∧ ∀ p, H1 p = none → Q (.ref p) (upd H1 p (.tup xs))
def tLst (t : TA) : TE := fun σ H Q => t σ H fun xs H1 => xs.length ≤ sizeLine ∧ ∀ p, H1 p = none → Q (.ref p) (upd H1 p (.lst xs))
theorem pe_tup {x1} (h : PA X es t) : PE X (.Tuple es x1 pos) (tTup t) := by
  intro pins s σ H Q I hq
  refine wpAny_Tuple_spliced (thn (h pos pins s σ H _ I hq) fun us s1 ⟨xs, H1, I1, r, z, q⟩ => ⟨by rw [← r.length]; exact z, ?_⟩)
  have hf : H1 s1.heap.objs.size = none := I1.hok.fresh (Nat.le_refl _)
  refine ⟨.ref s1.heap.objs.size, upd H1 s1.heap.objs.size (.tup xs), I1.laid (t' := s1.toks) (fun b u e => Heap.get?_push_of_some _ e) (Nat.le_refl _) ?_, rfl, q _ hf⟩
  exact ⟨z, us, r, ⟨_, Heap.get?_push_size _ rfl, rfl, _, rfl⟩⟩
theorem pe_lst (h : PA X es t) : PE X (.List es pos) (tLst t) := by
  intro pins s σ H Q I hq
  refine wpAny_List_spliced (thn (h pos pins s σ H _ I hq) fun us s1 ⟨xs, H1, I1, r, z, q⟩ => ⟨by rw [← r.length]; exact z, ?_⟩)
  have hf : H1 s1.heap.objs.size = none := I1.hok.fresh (Nat.le_refl _)
  refine ⟨.ref s1.heap.objs.size, upd H1 s1.heap.objs.size (.lst xs), I1.laid (t' := s1.toks) (fun b u e => Heap.get?_push_of_some _ e) (Nat.le_refl _) ?_, rfl, q _ hf⟩
  exact ⟨z, us, 0, r, Heap.get?_push_size _ rfl⟩
end

/-! ### what a def promises -/
/-- a def's promise: the bound arguments in the parameters' order, the heap, the wanted end, the wanted exception -/
abbrev Sp := List V → Hp → VK → XK → Prop
/-- how an exception lies behind a call (file 08 gives it): the callers' frames, abstract heap and state ahead of the call, the wish, the exception, the state -/
abbrev CXT := List Env → Hp → Shared → XK → Value → Shared → Prop

/-- the state at a call -/
structure Env0 (P : Program) (w : World) (K : PySem.W.Frag) (mg : Str → Option Value) (base : Heap) (A : Around) (outer : List Env) (s : Shared) (H : Hp) : Prop where
  frames : A.frames = some outer
  mod : Mod K mg base
  bs : ∀ b o, base.get? b = some o → s.heap.get? b = some o ∧ H b = none
  bsz : base.objs.size ≤ s.heap.objs.size
  funs : s.heap.FunFrames base outer
  frf : ∀ b ∈ frs outer, H b = none
  hok : HOk P w H s.heap
  bare : AllBare s.gens
/-- a call's end -/
def CE (outer : List Env) (P : Program) (w : World) (H : Hp) (s : Shared) (Q : VK) (u : Value) (s' : Shared) : Prop :=
  ∃ v H', s'.os = s.os ∧ AllBare s'.gens ∧ Un (frs outer) [] H H' s.heap s'.heap ∧ HOk P w H' s'.heap ∧ RelV v u ∧ Q v H'
def CR (CX : CXT) (outer : List Env) (P : Program) (w : World) (H : Hp) (s : Shared) (Q : VK) (E : XK) (r : Result) (s' : Shared) : Prop :=
  match r with
  | .ok (.ret u) => CE outer P w H s Q u s'
  | .ok _ => False
  | .error e => CX outer H s E e s'
structure FnOk (P : Program) (w : World) (K : PySem.W.Frag) (mg : Str → Option Value) (base : Heap) (CX : CXT) (k : Nat) (f : Addr) (fd : FuncData) (ps : List Str) (sp : Sp) : Prop where
  len : ∀ vs H Q E, sp vs H Q E → vs.length = ps.length
  run : ∀ (A : Around) (outer : List Env) (s : Shared) (H : Hp) (args : Args) (us : List Value) (vs : List V) (Q : VK) (E : XK), Room k A → Env0 P w K mg base A outer s H → BindsTo s fd args (ps.zip us) → Vals vs us → sp vs H Q E →
    codeAny (model P w) A (.call (.ref f) args) (CR CX outer P w H s Q E) s
theorem FnOk.mono {P : Program} {w : World} {K : PySem.W.Frag} {mg : Str → Option Value} {base : Heap} {CX : CXT} {j k : Nat} {f : Addr} {fd : FuncData} {ps : List Str} {sp : Sp} (F : FnOk P w K mg base CX j f fd ps sp) (h : j ≤ k) :
    FnOk P w K mg base CX k f fd ps sp := ⟨F.len, fun A outer s H args us vs Q E hr => F.run A outer s H args us vs Q E (hr.mono h)⟩
/-- a weaker promise -/
theorem FnOk.imp {P : Program} {w : World} {K : PySem.W.Frag} {mg : Str → Option Value} {base : Heap} {CX : CXT} {k : Nat} {f : Addr} {fd : FuncData} {ps : List Str} {sp sp' : Sp} (F : FnOk P w K mg base CX k f fd ps sp)
    (h : ∀ vs H Q E, sp' vs H Q E → sp vs H Q E) : FnOk P w K mg base CX k f fd ps sp' :=
  ⟨fun vs H Q E q => F.len vs H Q E (h _ _ _ _ q), fun A outer s H args us vs Q E hr he hb hv hs => F.run A outer s H args us vs Q E hr he hb hv (h _ _ _ _ hs)⟩

theorem Env0.make {P : Program} {w : World} {K : PySem.W.Frag} {mg : Str → Option Value} {base : Heap} {A : Around} {outer : List Env} {s : Shared} {H : Hp} (e : Env0 P w K mg base A outer s H) (C : Addr) (us : List Value) (kw : List (Str × Value)) :
    Env0 P w K mg base (A.under (.builtin "type.__call__" ⟨.ref C :: us, kw⟩)) outer s H := ⟨by first | exact e.frames | (simpa [Around.under, Code.envs, Code.isFrame, pushEnvs] using e.frames), e.mod, e.bs, e.bsz, e.funs, e.frf, e.hok, e.bare⟩
theorem Env0.in1 {P : Program} {w : World} {K : PySem.W.Frag} {mg : Str → Option Value} {base : Heap} {A : Around} {outer : List Env} {s : Shared} {H : Hp} (e : Env0 P w K mg base A outer s H) :
    Env0 P w K mg base A.in1 outer s H := ⟨e.frames, e.mod, e.bs, e.bsz, e.funs, e.frf, e.hok, e.bare⟩

section
variable {X : Cx} {pins : List (Addr × Obj)} {σ : St} {H : Hp} {s s' : Shared}
/-- from a body: what a callee wants -/
theorem Inv.env0 (I : Inv X pins σ H s) : Env0 X.prog X.w X.K X.mg X.base X.A X.stack s H :=
  ⟨I.ok.frames, I.ok.mod, I.bs, Nat.le_trans I.ok.bsz I.sz, I.stack, I.stkFree, I.hok, I.bare⟩
/-- behind a call -/
theorem Inv.after {Q : VK} {u : Value} (I : Inv X pins σ H s) (h : CE X.stack X.prog X.w H s Q u s') : EP X pins σ Q u s' := by
  obtain ⟨v, H', os, bare, un, hok, r, q⟩ := h
  obtain ⟨hh, g, d, t, os'⟩ := s'
  obtain rfl : os' = s.os := os
  exact ⟨v, H', I.call (h' := hh) (g' := g) (d' := d) (t' := t) (ch := []) un hok bare (fun b z => absurd z (by simp)), r, q⟩
end

/-! ### calls -/
/-- f(..): the written arguments, then the defaults dvs; E: what is wanted of an exception -/
def tCall (sp : Sp) (dvs : List V) (E : XK) (t : TA) : TE := fun σ H Q => t σ H fun vs H1 => sp (vs ++ dvs) H1 Q E
/-- o.m(..) of an instance of the class at C -/
def tMeth (C : Addr) (m : Str) (sp : Sp) (dvs : List V) (E : XK) (ta : TE) (t : TA) : TE := fun σ H Q => ta σ H fun x H1 => ∃ a dx fs, x = .ref a ∧ H1 a = some (.ins C dx fs) ∧ fs.lookup m = none ∧
  t σ H1 fun vs H2 => sp (x :: (vs ++ dvs)) H2 Q E
/-- C(..): a new instance and its dict, then __init__ -/
def tMake (C : Addr) (sp : Sp) (dvs : List V) (E : XK) (t : TA) : TE := fun σ H Q => t σ H fun vs H1 => ∀ x dx, H1 x = none → H1 dx = none → dx ≠ x →
  sp (.ref x :: (vs ++ dvs)) (upd (upd H1 dx (.own x)) x (.ins C dx [])) (fun v H2 => v = .non ∧ Q (.ref x) H2) E

/-- how the parameters are bound: us the positional arguments, kw the keywords' values by name, ds the defaults that fill up -/
def Binds (K : PySem.W.Frag) (fd : FuncData) (ps : List Str) (ds : List Value) : Prop :=
  ∀ (s : Shared) (us : List Value), K.In s.heap → (us ++ ds).length = ps.length → BindsTo s fd ⟨us, []⟩ (ps.zip (us ++ ds))
/-- every parameter is given -/
theorem Binds.all {K : PySem.W.Frag} {fd : FuncData} {ps : List Str} (h : ∀ us : List Value, us.length = ps.length → bindArgs fd ⟨us, []⟩ = pure (ps.zip us)) : Binds K fd ps [] := fun s us _ hl => by
  rw [List.append_nil] at hl ⊢
  exact .of_eq (h us hl)

/-- an exception of a callee reaches what this body wants of exceptions -/
def Passes (CX : CXT) (X : Cx) (E : XK) : Prop := ∀ (pins : List (Addr × Obj)) (σ : St) (H : Hp) (s : Shared) (e : Value) (s' : Shared), Inv X pins σ H s → CX X.stack H s E e s' → X.xe e s'

section
variable {X : Cx} {CX : CXT} {k : Nat} {f C : Addr} {fd : FuncData} {ps : List Str} {sp : Sp} {dvs : List V} {ds : List Value} {E : XK} {x m : Str} {p pos apos : Pos} {e o : Expr} {es : List Expr} {ta : TE} {t : TA}

/-- the callee runs -/
theorem run_fn {pins : List (Addr × Obj)} {σ : St} {H : Hp} {s : Shared} {Q : VK} {us : List Value} {vs : List V} (F : FnOk X.prog X.w X.K X.mg X.base CX k f fd ps sp) (hr : Room k X.A) (hb : Binds X.K fd ps ds) (hd : Vals dvs ds) (hx : Passes CX X E)
    (I : Inv X pins σ H s) (r : Vals vs us) (h : sp (vs ++ dvs) H Q E) : wpAny (model X.prog X.w) X.A (call (.ref f) us) (EP X pins σ Q) X.xe s := by
  have r2 : Vals (vs ++ dvs) (us ++ ds) := r.append hd
  have hl : (us ++ ds).length = ps.length := by rw [← r2.length]; exact F.len _ _ _ _ h
  refine wpAny_call (codeAny_mono (F.run X.A X.stack s H ⟨us, []⟩ (us ++ ds) (vs ++ dvs) Q E hr I.env0 (hb s us I.kIn hl) r2 h) fun r s' hq => ?_)
  cases r with
  | error e => exact hx pins σ H s e s' I hq
  | ok fl =>
    cases fl with
    | ret u => exact I.after hq
    | next => exact False.elim hq
    | brk => exact False.elim hq
    | cont => exact False.elim hq

theorem pe_call (F : FnOk X.prog X.w X.K X.mg X.base CX k f fd ps sp) (hr : Room k X.A) (hg : Gl X x) (hm : X.mg x = some (.ref f)) (hk : PySem.W.keepIn X.K (.ref f) = true) (hb : Binds X.K fd ps ds) (hd : Vals dvs ds) (hx : Passes CX X E)
    (ha : PA X (e :: es) t) (hdb : (x == ("__debug__" : Str)) = false := by decide) (he : starEach (e :: es) X.env = (false, eval e X.env) :: starEach es X.env := by rfl) (hpl : (backTo pos (starEach es X.env)).any (·.1) = false := by rfl) :
    PE X (.Call (.Name x p) (e :: es) [] pos) (tCall sp dvs E t) := by
  intro pins s σ H Q I h
  refine wpAny_Call_Name_kw (ld_glob I hg hm ?_ hdb)
  refine PySem.W.callWith_K (h₀ := X.base) I.ok.mod.kin hk (thn (ha pos pins s σ H _ I h) fun us s1 ⟨vs, H1, I1, r, q⟩ => ⟨I1.kIn, ?_⟩) he hpl
  exact run_fn F hr hb hd hx I1 r q
theorem pe_call0 (F : FnOk X.prog X.w X.K X.mg X.base CX k f fd ps sp) (hr : Room k X.A) (hg : Gl X x) (hm : X.mg x = some (.ref f)) (hk : PySem.W.keepIn X.K (.ref f) = true) (hb : Binds X.K fd ps ds) (hd : Vals dvs ds) (hx : Passes CX X E)
    (hdb : (x == ("__debug__" : Str)) = false := by decide) : PE X (.Call (.Name x p) [] [] pos) (tCall sp dvs E tNil) := by
  intro pins s σ H Q I h
  refine wpAny_Call_Name_kw (ld_glob I hg hm ?_ hdb)
  exact PySem.W.callWith_K0 I.kIn hk (run_fn (us := []) F hr hb hd hx I .nil h)

/-- o.m(e, ..) -/
theorem pe_meth {pl : Sem Bool} (he : PE X o ta) (c : Cls X.K C) (hm : Meth X.K C m f) (F : FnOk X.prog X.w X.K X.mg X.base CX k f fd ps sp) (hr : Room k X.A) (hb : Binds X.K fd ps ds) (hd : Vals dvs ds) (hx : Passes CX X E) (ha : PA X (e :: es) t)
    (hst : starEach (e :: es) X.env = (false, eval e X.env) :: starEach es X.env := by rfl) (hpl : (backTo pos (starEach es X.env)).any (·.1) = false := by rfl)
    (ht : eval (.Call (.Attribute o m apos) (e :: es) [] pos) X.env = (do
      let ov ← eval o X.env
      standAt apos.atName
      let (f, first) ← holding [ov] (getMethod ov m pl)
      callWith pos f first (backTo pos (starEach (e :: es) X.env)) (backToKw pos (keywordEach [] X.env))) := by rfl) :
    PE X (.Call (.Attribute o m apos) (e :: es) [] pos) (tMeth C m sp dvs E ta t) := by
  intro pins s σ H Q I h
  refine PySem.W.methodCall_KW (pl := pl) (thn (he pins s σ H _ I h) fun u s1 ⟨x, H1, I1, rx, a, dx, fs, ex, ea, l, q⟩ => ?_) ht
  subst ex
  obtain rfl : u = Value.ref a := rx
  refine getmeth_ok I1 ea c hm l ?_
  refine PySem.W.callWith_K (first := [.ref a]) (h₀ := X.base) I.ok.mod.kin hm.kp (thn (ha pos pins s1 σ H1 _ I1 q) fun us s2 ⟨vs, H2, I2, r, q2⟩ => ⟨I2.kIn, ?_⟩) hst hpl
  exact run_fn (us := .ref a :: us) (vs := .ref a :: vs) F hr hb hd hx I2 (.cons rfl r) q2
/-- o.m() -/
theorem pe_meth0 {pl : Sem Bool} (he : PE X o ta) (c : Cls X.K C) (hm : Meth X.K C m f) (F : FnOk X.prog X.w X.K X.mg X.base CX k f fd ps sp) (hr : Room k X.A) (hb : Binds X.K fd ps ds) (hd : Vals dvs ds) (hx : Passes CX X E)
    (ht : eval (.Call (.Attribute o m apos) [] [] pos) X.env = (do
      let ov ← eval o X.env
      standAt apos.atName
      let (f, first) ← holding [ov] (getMethod ov m pl)
      callWith pos f first (backTo pos (starEach [] X.env)) (backToKw pos (keywordEach [] X.env))) := by rfl) :
    PE X (.Call (.Attribute o m apos) [] [] pos) (tMeth C m sp dvs E ta tNil) := by
  intro pins s σ H Q I h
  refine PySem.W.methodCall_KW (pl := pl) (thn (he pins s σ H _ I h) fun u s1 ⟨x, H1, I1, rx, a, dx, fs, ex, ea, l, q⟩ => ?_) ht
  subst ex
  obtain rfl : u = Value.ref a := rx
  refine getmeth_ok I1 ea c hm l ?_
  exact PySem.W.callWith_K0 (first := [.ref a]) I1.kIn hm.kp (run_fn (us := [.ref a]) (vs := [.ref a]) F hr hb hd hx I1 (.cons rfl .nil) q)

/-- what a class must have to be made -/
structure Mk (K : PySem.W.Frag) (C f : Addr) : Prop where
  makes : PySem.W.makesIn K C = true
  init : PySem.W.findIn K (.ref C) "__init__" = some (some (.ref f))
  fn : PySem.W.isFn K (.ref f) = true
  kp : PySem.W.keepIn K (.ref C) = true

theorem run_make {pins : List (Addr × Obj)} {σ : St} {H : Hp} {s : Shared} {Q : VK} {us : List Value} {vs : List V} (M : Mk X.K C f) (F : FnOk X.prog X.w X.K X.mg X.base CX k f fd ps sp) (hr : Room (k + 1) X.A) (hb : Binds X.K fd ps ds) (hd : Vals dvs ds)
    (hx : Passes CX X E) (I : Inv X pins σ H s) (r : Vals vs us)
    (h : ∀ x dx, H x = none → H dx = none → dx ≠ x → sp (.ref x :: (vs ++ dvs)) (upd (upd H dx (.own x)) x (.ins C dx [])) (fun v H2 => v = .non ∧ Q (.ref x) H2) E) :
    wpAny (model X.prog X.w) X.A (call (.ref C) us) (EP X pins σ Q) X.xe s := by
  have hq := h (s.heap.objs.size + 1) s.heap.objs.size (I.hok.fresh (Nat.le_succ _)) (I.hok.fresh (Nat.le_refl _)) (Nat.ne_of_lt (Nat.lt_succ_self _))
  have I2 := Inv.made (C := C) I
  have r2 : Vals (V.ref (s.heap.objs.size + 1) :: (vs ++ dvs)) (Value.ref (s.heap.objs.size + 1) :: (us ++ ds)) := .cons rfl (r.append hd)
  have hl : (Value.ref (s.heap.objs.size + 1) :: us ++ ds).length = ps.length := by
    have e := r2.length
    rw [F.len _ _ _ _ hq] at e
    exact e.symm
  refine wpAny_call (make_map (f := f) I.kIn M.makes M.init (beq_iff_eq.mp M.fn) (codeAny_mono (F.run _ X.stack _ _ ⟨Value.ref (s.heap.objs.size + 1) :: us, []⟩ (Value.ref (s.heap.objs.size + 1) :: (us ++ ds)) _ _ E (hr.make C us [])
    (I2.env0.make C us []) (hb _ (Value.ref (s.heap.objs.size + 1) :: us) I2.kIn hl) r2 hq) fun r s' hq' => ?_))
  cases r with
  | error e => exact hx pins σ _ _ e s' I2 hq'
  | ok fl =>
    cases fl with
    | ret u =>
      obtain ⟨v, H', I3, rv, ev, q3⟩ := I2.after hq'
      subst ev
      exact ⟨rv, ⟨V.ref (s.heap.objs.size + 1), H', I3, rfl, q3⟩⟩
    | next => exact False.elim hq'
    | brk => exact False.elim hq'
    | cont => exact False.elim hq'
theorem pe_make (M : Mk X.K C f) (F : FnOk X.prog X.w X.K X.mg X.base CX k f fd ps sp) (hr : Room (k + 1) X.A) (hg : Gl X x) (hm : X.mg x = some (.ref C)) (hb : Binds X.K fd ps ds) (hd : Vals dvs ds) (hx : Passes CX X E)
    (ha : PA X (e :: es) t) (hdb : (x == ("__debug__" : Str)) = false := by decide) (he : starEach (e :: es) X.env = (false, eval e X.env) :: starEach es X.env := by rfl) (hpl : (backTo pos (starEach es X.env)).any (·.1) = false := by rfl) :
    PE X (.Call (.Name x p) (e :: es) [] pos) (tMake C sp dvs E t) := by
  intro pins s σ H Q I h
  refine wpAny_Call_Name_kw (ld_glob I hg hm ?_ hdb)
  refine PySem.W.callWith_K (h₀ := X.base) I.ok.mod.kin M.kp (thn (ha pos pins s σ H _ I h) fun us s1 ⟨vs, H1, I1, r, q⟩ => ⟨I1.kIn, ?_⟩) he hpl
  exact run_make M F hr hb hd hx I1 r q
theorem pe_make0 (M : Mk X.K C f) (F : FnOk X.prog X.w X.K X.mg X.base CX k f fd ps sp) (hr : Room (k + 1) X.A) (hg : Gl X x) (hm : X.mg x = some (.ref C)) (hb : Binds X.K fd ps ds) (hd : Vals dvs ds) (hx : Passes CX X E)
    (hdb : (x == ("__debug__" : Str)) = false := by decide) : PE X (.Call (.Name x p) [] [] pos) (tMake C sp dvs E tNil) := by
  intro pins s σ H Q I h
  refine wpAny_Call_Name_kw (ld_glob I hg hm ?_ hdb)
  exact PySem.W.callWith_K0 I.kIn M.kp (run_make (us := []) M F hr hb hd hx I .nil h)
end

/-! ### keywords -/
/-- the values of the keywords, from the left -/
def PK (X : Cx) (kws : List Keyword) (t : TA) : Prop :=
  ∀ (pos : Pos) (pins : List (Addr × Obj)) (s : Shared) (σ : St) (H : Hp) (Q : List V → Hp → Prop), Inv X pins σ H s → t σ H Q → wpAny (model X.prog X.w) X.A (evalAll ((backToKw pos (keywordEach kws X.env)).map (·.2))) (AP X pins σ Q) X.xe s
section
variable {X : Cx} {CX : CXT} {k : Nat} {f C : Addr} {fd : FuncData} {ps ks : List Str} {sp : Sp} {E : XK} {x m : Str} {p pos apos kpos : Pos} {e o : Expr} {es : List Expr} {kws : List Keyword} {te ta : TE} {t tk : TA} {nm : Option Str}
theorem pk_nil : PK X [] tNil := fun _ _ _ _ H Q I h => wpAny_evalAll_nil ⟨[], H, I, .nil, h⟩
theorem pk_cons (ha : PE X e te) (hr : PK X kws t) : PK X (⟨nm, e, kpos⟩ :: kws) (tCons te t) := by
  intro pos pins s σ H Q I h
  show wpAny _ _ (evalAll ((do let v ← eval e X.env; standAt pos; pure v) :: (backToKw pos (keywordEach kws X.env)).map (·.2))) _ _ s
  refine wpAny_evalAll_cons (wpAny_bind (thn (ha pins s σ H _ I h) fun u s1 ⟨x, H1, I1, r1, q1⟩ => wpAny_bind (wpAny_standAt (wpAny_pure ?_))))
  exact thn (hr pos pins s1 σ H1 _ I1 q1) fun us s2 ⟨xs, H2, I2, r2, q2⟩ => ⟨x :: xs, H2, I2, .cons r1 r2, q2⟩

/-- how a call with keywords binds: g puts the positional values us and the keywords' values ws (names ks) in the parameters' order, defaults among them -/
structure KBinds (K : PySem.W.Frag) (fd : FuncData) (ps ks : List Str) (g : List Value → List Value → List Value) (gV : List V → List V → List V) : Prop where
  to : ∀ (s : Shared) (us ws : List Value), K.In s.heap → (g us ws).length = ps.length → BindsTo s fd ⟨us, ks.zip ws⟩ (ps.zip (g us ws))
  rel : ∀ {vs : List V} {us : List Value} {zs : List V} {ws : List Value}, Vals vs us → Vals zs ws → Vals (gV vs zs) (g us ws)
def tCallK (sp : Sp) (gV : List V → List V → List V) (E : XK) (t tk : TA) : TE := fun σ H Q => t σ H fun vs H1 => tk σ H1 fun zs H2 => sp (gV vs zs) H2 Q E
variable {g : List Value → List Value → List Value} {gV : List V → List V → List V}
theorem run_fnk {pins : List (Addr × Obj)} {σ : St} {H : Hp} {s : Shared} {Q : VK} {us ws : List Value} {vs zs : List V} (F : FnOk X.prog X.w X.K X.mg X.base CX k f fd ps sp) (hr : Room k X.A) (hb : KBinds X.K fd ps ks g gV) (hx : Passes CX X E)
    (I : Inv X pins σ H s) (r : Vals vs us) (rz : Vals zs ws) (h : sp (gV vs zs) H Q E) : wpAny (model X.prog X.w) X.A (call (.ref f) us (ks.zip ws)) (EP X pins σ Q) X.xe s := by
  have r2 := hb.rel r rz
  have hl : (g us ws).length = ps.length := by rw [← r2.length]; exact F.len _ _ _ _ h
  refine wpAny_call (codeAny_mono (F.run X.A X.stack s H ⟨us, ks.zip ws⟩ (g us ws) (gV vs zs) Q E hr I.env0 (hb.to s us ws I.kIn hl) r2 h) fun r s' hq => ?_)
  cases r with
  | error e => exact hx pins σ H s e s' I hq
  | ok fl =>
    cases fl with
    | ret u => exact I.after hq
    | next => exact False.elim hq
    | brk => exact False.elim hq
    | cont => exact False.elim hq
/-- f(e, .., k = v, ..) -/
theorem pe_callK (F : FnOk X.prog X.w X.K X.mg X.base CX k f fd ps sp) (hr : Room k X.A) (hg : Gl X x) (hm : X.mg x = some (.ref f)) (hk : PySem.W.keepIn X.K (.ref f) = true) (hb : KBinds X.K fd ps ks g gV) (hx : Passes CX X E)
    (ha : PA X (e :: es) t) (hkw : PK X kws tk) (hall : (backToKw pos (keywordEach kws X.env)).all (·.1.isSome) = true := by rfl) (hks : (backToKw pos (keywordEach kws X.env)).filterMap (·.1) = ks := by rfl)
    (hdb : (x == ("__debug__" : Str)) = false := by decide) (he : starEach (e :: es) X.env = (false, eval e X.env) :: starEach es X.env := by rfl)
    (hpl : ((backTo pos (starEach (e :: es) X.env)).any (·.1) || (backToKw pos (keywordEach kws X.env)).any (·.1.isNone)) = false := by rfl) :
    PE X (.Call (.Name x p) (e :: es) kws pos) (tCallK sp gV E t tk) := by
  intro pins s σ H Q I h
  refine wpAny_Call_Name_kw (ld_glob I hg hm ?_ hdb)
  refine PySem.W.callWith_KW (h₀ := X.base) I.ok.mod.kin hk hall (thn (ha pos pins s σ H _ I h) fun us s1 ⟨vs, H1, I1, r, q⟩ => ?_) hpl he
  refine thn (hkw pos pins s1 σ H1 _ I1 q) fun ws s2 ⟨zs, H2, I2, rz, q2⟩ => ⟨I2.kIn, ?_⟩
  rw [hks]
  exact run_fnk F hr hb hx I2 r rz q2
end

/-! ### a def's body keeps its promise -/
/-- names: the parameters first -/
structure FnScope (N P : List Str) (sc : Scope) : Prop where
  kind : sc.kind = .function
  co : sc.isCoroutine = false
  gen : sc.isGenerator = false
  nd : N.Nodup
  pre : N.take P.length = P
  par : ∀ x ∈ P, sc.names.lookup x = some .local ∨ sc.names.lookup x = some .cell
  nofree : ∀ y ∈ sc.names, y.2 ≠ .free

theorem bindL_out {kindOf : Str → Option NameKind} {x : Str} : ∀ {binds : List (Str × Value)} {m : Str → Option Value}, (∀ v, (x, v) ∉ binds) → bindL kindOf binds m x = m x
  | [], _, _ => rfl
  | (n, v) :: r, m, h => by
    unfold bindL
    rw [bindL_out fun w hw => h w (List.mem_cons_of_mem _ hw)]
    split
    · have : x ≠ n := by rintro rfl; exact h v List.mem_cons_self
      simp [this]
    · rfl
theorem bindC_out {kindOf : Str → Option NameKind} {x : Str} : ∀ {binds : List (Str × Value)} {m : Str → Option Value}, (∀ v, (x, v) ∉ binds) → bindC kindOf binds m x = m x
  | [], _, _ => rfl
  | (n, v) :: r, m, h => by
    unfold bindC
    rw [bindC_out fun w hw => h w (List.mem_cons_of_mem _ hw)]
    split
    · rfl
    · have : x ≠ n := by rintro rfl; exact h v List.mem_cons_self
      simp [this]
theorem bindL_get {kindOf : Str → Option NameKind} {x : Str} {v : Value} : ∀ {P : List Str} {vs : List Value} {i : Nat} {m : Str → Option Value}, P.Nodup → P[i]? = some x → vs[i]? = some v → kindOf x = some .local →
    bindL kindOf (P.zip vs) m x = some v
  | [], _, _, _, _, h, _, _ => by simp at h
  | _ :: _, [], _, _, _, _, h, _ => by simp at h
  | p :: P, w :: vs, 0, m, nd, h1, h2, hk => by
    simp at h1 h2; subst h1; subst h2
    show bindL kindOf ((p, w) :: P.zip vs) m p = _
    unfold bindL
    rw [bindL_out fun v hv => (List.nodup_cons.mp nd).1 (List.of_mem_zip hv).1, if_pos hk]
    simp
  | p :: P, w :: vs, i + 1, m, nd, h1, h2, hk => by
    show bindL kindOf ((p, w) :: P.zip vs) m x = _
    unfold bindL
    exact bindL_get (i := i) (List.nodup_cons.mp nd).2 (by simpa using h1) (by simpa using h2) hk
theorem bindC_get {kindOf : Str → Option NameKind} {x : Str} {v : Value} : ∀ {P : List Str} {vs : List Value} {i : Nat} {m : Str → Option Value}, P.Nodup → P[i]? = some x → vs[i]? = some v → kindOf x ≠ some .local →
    bindC kindOf (P.zip vs) m x = some v
  | [], _, _, _, _, h, _, _ => by simp at h
  | _ :: _, [], _, _, _, _, h, _ => by simp at h
  | p :: P, w :: vs, 0, m, nd, h1, h2, hk => by
    simp at h1 h2; subst h1; subst h2
    show bindC kindOf ((p, w) :: P.zip vs) m p = _
    unfold bindC
    rw [bindC_out fun v hv => (List.nodup_cons.mp nd).1 (List.of_mem_zip hv).1, if_neg hk]
    simp
  | p :: P, w :: vs, i + 1, m, nd, h1, h2, hk => by
    show bindC kindOf ((p, w) :: P.zip vs) m x = _
    unfold bindC
    exact bindC_get (i := i) (List.nodup_cons.mp nd).2 (by simpa using h1) (by simpa using h2) hk

/-- the names' values at the entry -/
def start (N : List Str) (vs : List V) : St := vs.map some ++ List.replicate (N.length - vs.length) none

/-- the context of a def's body, at its entry; an exception leaves the frame, then lies as CX says -/
def cxOf (CX : CXT) (P : Program) (w : World) (K : PySem.W.Frag) (mg : Str → Option Value) (base : Heap) (N : List Str) (qual : Str) (scope : Scope) (f : Addr) (cd : Value) (A : Around) (outer : List Env) (s : Shared) (H : Hp) (E : XK) : Cx where
  prog := P
  w := w
  K := K
  mg := mg
  base := base
  A := A.deeper (envOfC qual scope s.heap.objs.size f cd)
  N := N
  s₀ := s
  H₀ := H
  env := envOfC qual scope s.heap.objs.size f cd
  outer := outer
  stack := envOfC qual scope s.heap.objs.size f cd :: outer
  ex := []
  calm := true
  fn := fun _ => true
  pn := []
  xe := fun e s' => wpAny (model P w) (A.deeper (envOfC qual scope s.heap.objs.size f cd)) (leaving (envOfC qual scope s.heap.objs.size f cd) e) (fun _ s'' => CX outer H s E e s'') (fun e' s'' => CX outer H s E e' s'') s'

theorem cell_has {sc : Scope} {n : Nat} {x : Str} (h : sc.names.lookup x = some .cell) : ∃ c, (cellsFrom n sc.names []).lookup x = some c := by
  have q := PySem.W.cellsFrom_some sc.names n [] (.inl h)
  exact Option.isSome_iff_exists.mp q

theorem inv_start {CX : CXT} {P : Program} {w : World} {K : PySem.W.Frag} {mg : Str → Option Value} {base : Heap} {N ps : List Str} {qual : Str} {scope : Scope} {f : Addr} {cd : Value} {A : Around} {outer : List Env} {s s1 : Shared} {H : Hp} {E : XK} {us : List Value} {vs : List V}
    (S : FnScope N ps scope) (hd : A.handled = none) (e0 : Env0 P w K mg base A outer s H) (hl : vs.length = ps.length) (r : Vals vs us)
    (x : InCallC s s.heap.objs.size (bindL (envOfC qual scope s.heap.objs.size f cd).kindOf (ps.zip us) fun _ => none) (cellsFrom (s.heap.objs.size + 1) scope.names []) (bindC (envOfC qual scope s.heap.objs.size f cd).kindOf (ps.zip us) fun _ => none) s1) :
    Inv (cxOf CX P w K mg base N qual scope f cd A outer s H E) [] (start N vs) H s1 := by
  have hpl : ps.length ≤ N.length := by have := congrArg List.length S.pre; rw [List.length_take] at this; omega
  obtain ⟨h1, tk, rfl, hk⟩ := x.done
  have noA : ∀ b : Addr, b ∉ (cxOf CX P w K mg base N qual scope f cd A outer s H E).ex := fun b z => absurd (show b ∈ ([] : List Addr) from z) (by simp)
  refine ⟨⟨e0.mod, S.kind, rfl, rfl, Nat.le_refl _, fun y z c h1 h2 => ?_, fun y hy => ?_, fun y c _ h => ?_, fun _ => hd, Around.frames_deeper e0.frames, .inr ⟨rfl, rfl⟩, fun b z => absurd z (noA b), e0.bs, e0.bsz, fun b _ _ => noA b, fun b z => absurd z (noA b), e0.funs, e0.frf⟩,
    rfl, e0.bare, Un.kept hk, ⟨_, x.toInCall.ns, fun i y v h1 h2 h3 => ?_⟩, fun y c h => ⟨_, x.cell y c h⟩, e0.hok.fresh (Nat.le_refl _), fun y c h => ?_, fun p hp => absurd (show p ∈ ([] : List (Addr × Obj)) from hp) (by simp), e0.hok.kept hk, ?_⟩
  · exact name_of_addr x.apart (PySem.mem_of_lookup h1) (PySem.mem_of_lookup h2)
  · have hy : scope.names.lookup y = some .cell ∨ scope.names.lookup y = some .free := hy
    rcases hy with hy | hy
    · exact cell_has hy
    · exact absurd rfl (S.nofree _ (PySem.mem_of_lookup hy))
  · exact Nat.le_of_lt (x.above y c (PySem.mem_of_lookup h))
  · have hi : i < vs.length := by
      unfold start at h2
      by_cases hi : i < vs.length
      · exact hi
      · rw [List.getElem?_append_right (by simpa using hi)] at h2
        rw [List.getElem?_replicate] at h2
        split at h2 <;> cases h2
    have ha : vs[i]? = some v := by
      unfold start at h2
      rw [List.getElem?_append_left (by simpa using hi), List.getElem?_map] at h2
      cases e : vs[i]? with
      | none => rw [e] at h2; cases h2
      | some a => rw [e] at h2; cases h2; rfl
    obtain ⟨u, hu, rv⟩ := r.get ha
    have hp : ps[i]? = some y := by
      rw [← S.pre, List.getElem?_take_of_lt (by omega)]; exact h1
    have ndP : ps.Nodup := by rw [← S.pre]; exact S.nd.sublist (List.take_sublist _ _)
    refine ⟨u, rv, ?_⟩
    rcases S.par y (List.mem_of_getElem? hp) with k | k
    · exact .inl ⟨k, bindL_get ndP hp hu k⟩
    · obtain ⟨c, e⟩ := cell_has (n := s.heap.objs.size + 1) k
      refine .inr ⟨.inl k, c, e, ?_⟩
      have q := x.cell y c e
      rw [bindC_get ndP hp hu (by show scope.names.lookup y ≠ _; rw [k]; decide)] at q
      exact q
  · exact e0.hok.fresh (Nat.le_of_lt (x.above y c (PySem.mem_of_lookup h)))
  · unfold start
    show _ = N.length
    rw [List.length_append, List.length_map, List.length_replicate]
    omega

/-- THE RULE: a def (or a method) of the text, by its body. The body's reading t is chosen for each entry; it is run at the parameters' values -/
theorem fn_of {CX : CXT} {P : Program} {w : World} {K : PySem.W.Frag} {mg : Str → Option Value} {base : Heap} {k : Nat} {f : Addr} {name qual : Str} {params : Arguments} {body : List Stmt} {scope : Scope} {dV kV doc pm cdv ct oc : Value} {an od : Option Addr}
    {osl : Array (Option Value)} {N ps : List Str} {sp : Sp} (lk : K.lookup f = some ⟨oc, od, .func (PySem.W.fnOf name qual params body scope dV kV doc pm an cdv ct), osl⟩) (hcd : PySem.W.codeIn K cdv qual = true) (S : FnScope N ps scope)
    (len : ∀ vs H Q E, sp vs H Q E → vs.length = ps.length)
    (hbody : ∀ (A : Around) (outer : List Env) (s : Shared) (H : Hp) (vs : List V) (Q : VK) (E : XK), Room k (A.deeper (envOfC qual scope s.heap.objs.size f cdv)) → sp vs H Q E →
      ∃ t, PSs (cxOf CX P w K mg base N qual scope f cdv A outer s H E) body t ∧ t { nx := fun _ H' => Q .non H', rt := Q } (start N vs) H) :
    FnOk P w K mg base CX (k + 1) f (PySem.W.fnOf name qual params body scope dV kV doc pm an cdv ct) ps sp := by
  refine ⟨len, fun A outer s H args us vs Q E hr e0 hb r hsp => ?_⟩
  have hl := len _ _ _ _ hsp
  have KX : K.In s.heap := e0.mod.kin.keeps fun b o e => (e0.bs b o e).1
  have lim : s.heap.NoLimit := e0.mod.nolimit.keeps fun b o e => (e0.bs b o e).1
  have hkind : ∀ y ∈ ps.zip us, scope.names.lookup y.1 = some .local ∨ (scope.names.lookup y.1 = some .cell ∧ ((cellsFrom (s.heap.objs.size + 1) scope.names []).lookup y.1).isSome = true) := fun ⟨n, v⟩ hy => by
    rcases S.par n (List.of_mem_zip hy).1 with q | q
    · exact .inl q
    · exact .inr ⟨q, PySem.W.cellsFrom_some _ _ _ (.inl q)⟩
  refine codeAny_call_function hr.depth (KX _ _ lk) rfl S.co S.gen rfl (PySem.W.codeRec_of KX hcd) (hb _ _ _ _ ?_)
  refine wpAny_newFunctionEnv_cells S.kind hkind fun env he s1 x => ?_
  subst he
  refine ⟨lim.keeps x.toInCall.keep, codeAny_func ?_⟩
  obtain ⟨t, ht, hq⟩ := hbody A outer s H vs Q E (hr.deeper _) hsp
  have I : Inv (cxOf CX P w K mg base N qual scope f cdv A outer s H E) [] (start N vs) H s1 := inv_start S hr.hd e0 hl r x
  refine wpAny_mono (ht [] s1 (start N vs) H _ I hq) (fun fl s' hs => ?_) fun e s' hs => hs
  have fin : ∀ {σ' : St} {H' : Hp} {v : V} {u : Value}, Inv (cxOf CX P w K mg base N qual scope f cdv A outer s H E) [] σ' H' s' → RelV v u → Q v H' → CE outer P w H s Q u s' :=
    fun {σ' H' v u} J rv q => ⟨v, H', J.os, J.bare, J.base, J.hok, rv, q⟩
  cases fl with
  | ret u =>
    obtain ⟨v, σ', H', J, rv, q⟩ := hs
    exact fin J rv q
  | next =>
    obtain ⟨σ', H', J, q⟩ := hs
    exact fin (v := V.non) (u := Value.none) J rfl q
  | brk =>
    obtain ⟨_, _, _, q⟩ := hs
    exact False.elim q
  | cont =>
    obtain ⟨_, _, _, q⟩ := hs
    exact False.elim q
end L2

namespace L2
open PySem PySem.Spec PyProof.Rows
section
variable {X : Cx} {x : Str} {p pos : Pos} {e : Expr} {es : List Expr} {t : TA} {id T : String} {r : List V → Hp → VK → Prop}

def tCB (r : List V → Hp → VK → Prop) (t : TA) : TE := fun σ H Q => t σ H fun vs H1 => r vs H1 Q
/-- f(e, ..), f a built-in function -/
theorem pe_callB (hc : CallR X (.builtin id) r) (hg : Gl X x) (hm : X.mg x = none) (hv : bootBuiltins x = some (.builtin id)) (ha : PA X (e :: es) t) (hn : x ≠ "__name__" := by decide) (hdb : (x == ("__debug__" : Str)) = false := by decide)
    (he : starEach (e :: es) X.env = (false, eval e X.env) :: starEach es X.env := by rfl) (hpl : (backTo pos (starEach es X.env)).any (·.1) = false := by rfl) : PE X (.Call (.Name x p) (e :: es) [] pos) (tCB r t) := by
  intro pins s σ H Q I h
  refine wpAny_Call_Name_kw (ld_blt I hg hm hv ?_ hn hdb)
  exact PyProof.Rows.callWith_builtin1 (thn (ha pos pins s σ H _ I h) fun us s1 ⟨vs, H1, I1, r1, q1⟩ => hc pins s1 σ H1 vs us Q I1 r1 q1) he hpl
/-- T(e, ..), T a built-in type -/
theorem pe_callTy (hc : CallR X (.type T) r) (hg : Gl X x) (hm : X.mg x = none) (hv : bootBuiltins x = some (.type T)) (ha : PA X (e :: es) t) (hn : x ≠ "__name__" := by decide) (hdb : (x == ("__debug__" : Str)) = false := by decide)
    (he : starEach (e :: es) X.env = (false, eval e X.env) :: starEach es X.env := by rfl) (hpl : (backTo pos (starEach es X.env)).any (·.1) = false := by rfl) : PE X (.Call (.Name x p) (e :: es) [] pos) (tCB r t) := by
  intro pins s σ H Q I h
  refine wpAny_Call_Name_kw (ld_blt I hg hm hv ?_ hn hdb)
  exact PyProof.Rows.callWith_type1 (thn (ha pos pins s σ H _ I h) fun us s1 ⟨vs, H1, I1, r1, q1⟩ => hc pins s1 σ H1 vs us Q I1 r1 q1) he hpl
/-- T() -/
theorem pe_callTy0 (hc : CallR X (.type T) r) (hg : Gl X x) (hm : X.mg x = none) (hv : bootBuiltins x = some (.type T)) (hn : x ≠ "__name__" := by decide) (hdb : (x == ("__debug__" : Str)) = false := by decide) :
    PE X (.Call (.Name x p) [] [] pos) (tCB r tNil) := by
  intro pins s σ H Q I h
  refine wpAny_Call_Name_kw (ld_blt I hg hm hv ?_ hn hdb)
  exact PyProof.Rows.callWith_type0 (hc pins s σ H [] [] Q I .nil h)
end
end L2

namespace HT
open PySem PyProof.Rows

/-- t < u of tuples of ints -/
def lexLt : List Int → List Int → Bool
  | [], [] => false
  | [], _ :: _ => true
  | _ :: _, [] => false
  | x :: xs, y :: ys => if x = y then lexLt xs ys else decide (x < y)
theorem lexLt_cons (x y : Int) (xs ys : List Int) : lexLt (x :: xs) (y :: ys) = if x = y then lexLt xs ys else decide (x < y) := rfl
theorem lexLt_nil_nil : lexLt [] [] = false := rfl
theorem lexLt_nil_cons (y : Int) (ys : List Int) : lexLt [] (y :: ys) = true := rfl
theorem lexLt_cons_nil (x : Int) (xs : List Int) : lexLt (x :: xs) [] = false := rfl

theorem eqAt_int (A : Around) (s : Shared) (a : Int) (t : Tok) (c : Int) (u : Tok) : ∃ e, SeqAt.EqAt A s (.int a t) (.int c u) e ∧ (e = true ↔ a = c) :=
  ⟨(a == c), SeqAt.EqAt.int_int a t c u, by simp⟩
theorem rcLt_int (A : Around) (s : Shared) (a : Int) (t : Tok) (c : Int) (u : Tok) (prog : Program) (w : World) (E : Value → Shared → Prop) (Q : Value → Shared → Prop) (h : Q (.bool (decide (a < c))) s) :
    wpAny (model prog w) A (richCompare .Lt (.int a t) (.int c u)) Q E s :=
  (PyProof.Rows.lt_int h : wpAny (model prog w) A (compareOp .Lt (.int a t) (.int c u)) Q E s)

section
open PySem.SeqAt
open PySem.AutoSeq1 (wpAny_loadPart')
open PySem.MeetsSeq PySem.MeetsSeq2 PySem.MeetsSeq3

theorem tuple_lt_ints (l b : Addr) (items items2 : Array Value) (n n2 : Nat) (dd dd2 : Option Addr) (sl sl2 : Array (Option Value)) (ns ms : List Int) (hi : IntsAre items.toList ns) (hj : IntsAre items2.toList ms) :
    Meets (Builtin.«tuple.__lt__» ⟨[.ref l, .ref b], []⟩)
      (fun _ R s => s.heap.get? l = some { cls := .type "tuple", dict := dd, data := .seq items n, slots := sl } ∧ s.heap.get? b = some { cls := .type "tuple", dict := dd2, data := .seq items2 n2, slots := sl2 } ∧
        R (.ok (.ret (.bool (lexLt ns ms)))) s) :=
  .of_wp fun prog w A R s h => by
    obtain ⟨hp, g, d, tk, os⟩ := s; obtain ⟨hl, hb, h⟩ := h
    have f2 := AutoSeq1.sub_tuple_tuple
    have z1 : items.size = ns.length := by rw [← hi.length]; simp
    have z2 : items2.size = ms.length := by rw [← hj.length]; simp
    wp_walk using wpAny_loadPart' hl, wpAny_loadPart' hb, wpAny_forIn_list _ (fun rest b s' => b.1 = none ∧ s' = ⟨hp, g, d, tk, os⟩ ∧ ∃ (vs ws : List Value) (ns' ms' : List Int), rest = vs.zip ws ∧
      IntsAre vs ns' ∧ IntsAre ws ms' ∧ ns'.length + items2.size = ms'.length + items.size ∧ R (.ok (.ret (.bool (lexLt ns' ms')))) ⟨hp, g, d, tk, os⟩) _
    case turn =>
      rintro ⟨y, x⟩ rest b s' ⟨hb', rfl, vs, ws, ns', ms', hz, hvi, hwi, hlen, hR⟩
      cases hvi with
      | nil => rw [List.zip_nil_left] at hz; cases hz
      | cons a t hvi' =>
        cases hwi with
        | nil => rw [List.zip_nil_right] at hz; cases hz
        | cons c u hwi' =>
          rw [List.zip_cons_cons] at hz
          injection hz with hyx hrest
          injection hyx with hy hx
          subst hy hx
          rw [lexLt_cons] at hR
          simp only [List.length_cons] at hlen
          obtain ⟨e, he, hiff⟩ := eqAt_int A.in1 ⟨hp, g, d, tk, os⟩ a t c u
          refine wpAny_bind (he prog w _ _ ?_)
          cases e with
          | true =>
            rw [if_pos (hiff.mp rfl)] at hR
            wp_walk
            exact ⟨rfl, rfl, _, _, _, _, hrest, hvi', hwi', by omega, hR⟩
          | false =>
            rw [if_neg (fun q => absurd (hiff.mpr q) Bool.false_ne_true)] at hR
            have hri := rcLt_int A.in1 ⟨hp, g, d, tk, os⟩ a t c u prog w
            wp_walk using hri
            exact ⟨_, rfl, by simpa using hR⟩
    case fin =>
      rintro ⟨b1, b2⟩ s' ⟨hb', rfl, vs, ws, ns', ms', hz, hvi, hwi, hlen, hR⟩
      simp only at hb'
      subst hb'
      have hv : lexLt ns' ms' = decide (items.size < items2.size) := by
        cases hvi with
        | nil =>
          cases hwi with
          | nil =>
            simp only [List.length_nil] at hlen
            rw [lexLt_nil_nil]
            exact (decide_eq_false (by omega)).symm
          | cons c u hw =>
            simp only [List.length_nil, List.length_cons] at hlen
            rw [lexLt_nil_cons]
            exact (decide_eq_true (by omega)).symm
        | cons a t hv =>
          cases hwi with
          | nil =>
            simp only [List.length_nil, List.length_cons] at hlen
            rw [lexLt_cons_nil]
            exact (decide_eq_false (by omega)).symm
          | cons c u hw =>
            rw [List.zip_cons_cons] at hz
            cases hz
      rw [hv] at hR
      wp_walk
      exact ⟨_, rfl, by simpa [Builtin.Tuple.tupleCompareSizes] using hR⟩
    case h =>
      exact ⟨rfl, rfl, items.toList, items2.toList, ns, ms, rfl, hi, hj, by omega, h⟩
end

section
variable {prog : Program} {w : World} {A : Around} {E : Value → Shared → Prop} {s : Shared}

theorem lt_tupInts {l b : Addr} {items items2 : Array Value} {ns ms : List Int} {Q : Value → Shared → Prop} (hl : IsTup s.heap l items) (hb : IsTup s.heap b items2) (hi : IntsAre items.toList ns) (hj : IntsAre items2.toList ms)
    (hu : A.units < cLine) (h : Q (.bool (lexLt ns ms)) s) : wpAny (model prog w) A (compareOp .Lt (.ref l) (.ref b)) Q E s := by
  obtain ⟨⟨cls, dd, data, sl⟩, ho, hc, n, hd⟩ := id hl
  obtain ⟨⟨cls2, dd2, data2, sl2⟩, ho2, hc2, n2, hd2⟩ := id hb
  simp only at hc hd hc2 hd2
  subst hc hd hc2 hd2
  exact richCompare_meets_room (op := .Lt) ⟨_, ho, rfl⟩ ⟨_, ho2, rfl⟩ PySem.F.slot_tuple_lt PySem.F.entry_tuple_lt (PySem.F.args_tuple_lt_2 _ _) (tuple_lt_ints l b items items2 n n2 dd dd2 sl sl2 ns ms hi hj)
    ⟨ho, ho2, show Value.bool (lexLt ns ms) ≠ Value.notImplemented ∧ Q (.bool (lexLt ns ms)) s from ⟨(fun x => nomatch x), h⟩⟩ hu

/-- t + u, t not empty -/
theorem cat_tup {t b : Addr} {vs ws : List Value} {Q : Value → Shared → Prop} (ht : IsTup s.heap t vs.toArray) (hb : IsTup s.heap b ws.toArray) (hv : vs ≠ [])
    (h1 : ws = [] → Q (.ref t) s) (h2 : ws ≠ [] → Q (.ref s.heap.objs.size) { s with heap := s.heap.push { cls := .type "tuple", data := .seq (vs ++ ws).toArray } })
    (hsz : vs.length + ws.length ≤ sizeLine) : wpAny (model prog w) A (binaryOp .Add (.ref t) (.ref b)) Q E s := by
  obtain ⟨⟨cls, dd, data, sl⟩, ho, hc, n, hd⟩ := id ht
  obtain ⟨⟨cls2, dd2, data2, sl2⟩, ho2, hc2, n2, hd2⟩ := id hb
  simp only at hc hd hc2 hd2
  subst hc hd hc2 hd2
  have e : vs.toArray ++ ws.toArray = (vs ++ ws).toArray := by simp
  by_cases hw : ws = []
  · exact concat_meets ⟨_, ho, rfl⟩ ⟨_, ho2, rfl⟩ noFill_tuple_add seq_tuple_add PySem.F.slot_tuple_add PySem.F.entry_tuple_add (PySem.F.args_tuple_add_2 _ _)
      (tuple_addW1 t b vs.toArray ws.toArray n n2 dd dd2 sl sl2 (by simpa using hv) (by simp [hw])) ⟨ho, ho2, h1 hw⟩
  · refine concat_meets ⟨_, ho, rfl⟩ ⟨_, ho2, rfl⟩ noFill_tuple_add seq_tuple_add PySem.F.slot_tuple_add PySem.F.entry_tuple_add (PySem.F.args_tuple_add_2 _ _)
      (tuple_addW2 t b vs.toArray ws.toArray n n2 dd dd2 sl sl2 (by simpa using hv) (by simpa using hw) (by rw [List.size_toArray, List.size_toArray]; exact hsz)) ⟨ho, ho2, ?_⟩
    rw [e]
    exact h2 hw

/-! ### t[a:b], not the whole -/
/-- a slice's bound as a place among n (d where it is left out) -/
def sIx (n d : Nat) : Option Int → Nat
  | none => d
  | some v => if v < 0 then (v + (n : Int)).toNat else min v.toNat n
theorem sIx_none (n d : Nat) : sIx n d none = d := rfl
theorem sIx_nat (n d k : Nat) : sIx n d (some (k : Int)) = min k n := by
  show (if (k : Int) < 0 then ((k : Int) + (n : Int)).toNat else min (k : Int).toNat n) = min k n
  rw [if_neg (by omega), Int.toNat_natCast]
theorem sIx_le (n d : Nat) (hd : d ≤ n) (o : Option Int) : sIx n d o ≤ n := by
  cases o with
  | none => exact hd
  | some v =>
    show (if v < 0 then (v + (n : Int)).toNat else min v.toNat n) ≤ n
    by_cases hv : v < 0
    · rw [if_pos hv]; omega
    · rw [if_neg hv]; exact Nat.min_le_right _ _
theorem clip_eq (v : Int) (n d : Nat) : (if v < 0 then max (v + (n : Int)) 0 else min v (n : Int)) = ((sIx n d (some v) : Nat) : Int) := by
  show (if v < 0 then max (v + (n : Int)) 0 else min v (n : Int)) = (((if v < 0 then (v + (n : Int)).toNat else min v.toNat n) : Nat) : Int)
  by_cases hv : v < 0
  · simp only [if_pos hv]; omega
  · simp only [if_neg hv]; omega
theorem adjust_gen (lo hi : Option Int) (n : Nat) : Builtin.Slice.sliceAdjust lo hi 1 (n : Int) = (((sIx n 0 lo : Nat) : Int), ((sIx n n hi : Nat) : Int)) := by
  have h1 : ¬ ((1 : Int) < 0) := by omega
  unfold Builtin.Slice.sliceAdjust
  simp only [h1, if_false]
  refine Prod.ext ?_ ?_
  · cases lo with
    | none => rfl
    | some v => exact clip_eq v n 0
  · cases hi with
    | none => rfl
    | some v => exact clip_eq v n n
theorem places_gen (i j : Nat) : Builtin.Slice.slicePlaces (i : Int) (j : Int) 1 = j - i := by
  unfold Builtin.Slice.slicePlaces
  have h1 : (1 : Int) > 0 := by omega
  simp only [h1, if_true, Int.ediv_one]
  split <;> omega
theorem slicePart_ {v : Value} {o : Option Int} {Q : Option Int → Shared → Prop} (p : IsPart v o) (h : Q o s) : wpAny (model prog w) A (Builtin.Slice.slicePartIndex v) Q E s := by
  cases p with
  | none => exact slicePart_none h
  | int i t => exact slicePart_int h
theorem sliceApplied_gen {sl : Addr} {vl vu : Value} {lo hi : Option Int} {n : Nat} {Q : Int × Int × Nat → Shared → Prop} (hs : s.heap.IsSliceOf sl vl vu .none) (pl : IsPart vl lo) (pu : IsPart vu hi)
    (h : Q (((sIx n 0 lo : Nat) : Int), 1, sIx n n hi - sIx n 0 lo) s) : wpAny (model prog w) A (Builtin.Slice.sliceApplied (.ref sl) (pure (n : Int))) Q E s := by
  obtain ⟨os, hos, hcs, hds⟩ := id hs
  unfold Builtin.Slice.sliceApplied Builtin.Slice.sliceFields
  refine wpAny_bind (wpAny_bind (wpAny_field hos hds (x := vl) rfl (wpAny_bind (wpAny_field hos hds (x := vu) rfl (wpAny_bind (wpAny_field hos hds (x := .none) rfl (wpAny_pure ?_)))))))
  refine wpAny_bind (slicePart_none ?_)
  show wpAny _ _ (if ((1 : Int) == 0) = true then _ else _) _ _ s
  rw [if_neg (by decide)]
  refine wpAny_bind (slicePart_ pl (wpAny_bind (slicePart_ pu (wpAny_bind (wpAny_pure ?_)))))
  show wpAny _ _ (match Builtin.Slice.sliceAdjust lo hi 1 (n : Int) with | (lo, hi) => pure (lo, (1 : Int), Builtin.Slice.slicePlaces lo hi 1)) _ _ s
  rw [adjust_gen lo hi n]
  show wpAny _ _ (pure (((sIx n 0 lo : Nat) : Int), (1 : Int), Builtin.Slice.slicePlaces ((sIx n 0 lo : Nat) : Int) ((sIx n n hi : Nat) : Int) 1)) _ _ s
  rw [places_gen]
  exact wpAny_pure h
theorem pick_gen (xs : Array Value) (i k : Nat) : ((List.range k).filterMap fun (m : Nat) => xs[((i : Int) + (m : Int) * 1).toNat]?).toArray = ((xs.toList.drop i).take k).toArray := by
  have e : (fun (m : Nat) => xs[((i : Int) + (m : Int) * 1).toNat]?) = fun m => xs[i + m]? := by
    funext m
    have : ((i : Int) + (m : Int) * 1).toNat = i + m := by omega
    rw [this]
  rw [e]
  have := pick_run xs i k
  rw [List.filterMap_map] at this
  have e2 : ((fun x => xs[x]?) ∘ fun x => i + x) = fun m => xs[i + m]? := rfl
  rw [e2] at this
  rw [this]

theorem getItem_tuple_cut {t sl : Addr} {items : Array Value} {vl vu : Value} {lo hi : Option Int} {Q : Value → Shared → Prop} (ht : IsTup s.heap t items) (hs : s.heap.IsSliceOf sl vl vu .none) (pl : IsPart vl lo) (pu : IsPart vu hi)
    (hw : ¬ (sIx items.size 0 lo = 0 ∧ sIx items.size items.size hi = items.size))
    (h : Q (.ref s.heap.objs.size) { s with heap := s.heap.push { cls := .type "tuple", data := .seq ((items.toList.drop (sIx items.size 0 lo)).take (sIx items.size items.size hi - sIx items.size 0 lo)).toArray } })
    (hsz : items.size ≤ sizeLine) : wpAny (model prog w) A (getItem (.ref t) (.ref sl)) Q E s := by
  have htake : sizeOk (.seq ((items.toList.drop (sIx items.size 0 lo)).take (sIx items.size items.size hi - sIx items.size 0 lo)).toArray) := by
    show ((items.toList.drop (sIx items.size 0 lo)).take (sIx items.size items.size hi - sIx items.size 0 lo)).toArray.size ≤ sizeLine
    rw [List.size_toArray, List.length_take, List.length_drop, Array.length_toList]
    omega
  have hj : sIx items.size items.size hi ≤ items.size := sIx_le _ _ (Nat.le_refl _) hi
  obtain ⟨os, hos, hcs, hds⟩ := id hs
  have hTs : s.TypeIs (.ref sl) "slice" := ⟨os, hos, hcs⟩
  unfold getItem
  try with_reducible refine wpAny_holding ?_
  first | refine wpAny_bind (wpAny_pure ?_) | skip
  refine wpAny_bind (wpAny_sequenceKey ht.typeIs (by decide) ?_)
  refine wpAny_bind (wpAny_callSpecial?_slot (name := Str.ofString "__getitem__") ht.typeIs PyProof.Rows.slot_tuple_getitem
    (wpAny_call_entry PyProof.Rows.slot_tuple_getitem ht.typeIs entry_tuple_getitem ?_ (args_tuple_getitem _ _)))
  show wpAny _ _ (Builtin.Tuple.tupleItemsOf (.ref t) >>= _) _ _ s
  refine wpAny_bind (tupleItemsOf_ ht ?_)
  refine wpAny_bind (wpAny_typeOf hTs ?_)
  rw [if_pos (by decide)]
  refine wpAny_bind (sliceApplied_gen hs pl pu ?_)
  have hno : ¬ ((((sIx items.size 0 lo : Nat) : Int) == 0 && (1 : Int) == 1 && (sIx items.size items.size hi - sIx items.size 0 lo) == items.size) = true) := by
    intro q
    rw [Bool.and_eq_true, Bool.and_eq_true] at q
    have q1 : ((sIx items.size 0 lo : Nat) : Int) = 0 := eq_of_beq q.1.1
    have q2 : sIx items.size items.size hi - sIx items.size 0 lo = items.size := eq_of_beq q.2
    exact hw ⟨by omega, by omega⟩
  show wpAny _ _ (if (((sIx items.size 0 lo : Nat) : Int) == 0 && (1 : Int) == 1 && (sIx items.size items.size hi - sIx items.size 0 lo) == items.size) = true then _ else _) _ _ s
  rw [if_neg hno, pick_gen]
  first
    | exact wpAny_bind (m := Builtin.Tuple.tupleExact _) (wpAny_newObj_type (wpAny_pure ⟨_, rfl, wpAny_pure h⟩) htake)
    | exact wpAny_bind (m := Builtin.Tuple.tupleExact _) (wpAny_newObj_type (wpAny_bind (wpAny_pure (wpAny_pure ⟨_, rfl, wpAny_pure h⟩))) htake)
    | exact wpAny_bind (wpAny_bind (m := Builtin.Tuple.tupleExact _) (wpAny_newObj_type (wpAny_pure (wpAny_pure ⟨_, rfl, wpAny_pure h⟩)) htake))
    | exact wpAny_bind (wpAny_bind (m := Builtin.Tuple.tupleExact _) (wpAny_newObj_type (wpAny_pure ⟨_, rfl, wpAny_pure h⟩) htake))
end
end HT

namespace L2
open PySem PySem.Spec PyProof.Rows

/-! ### the parts of a slice -/
abbrev TO := St → Hp → (Option Int → Hp → Prop) → Prop
/-- a slice's part (left out, or an int) -/
def PO (X : Cx) (e : Option Expr) (t : TO) : Prop :=
  ∀ (pins : List (Addr × Obj)) (s : Shared) (σ : St) (H : Hp) (Q : Option Int → Hp → Prop), Inv X pins σ H s → t σ H Q →
    wpAny (model X.prog X.w) X.A (evalPart e X.env) (fun u s' => ∃ o H', Inv X pins σ H' s' ∧ IsPart u o ∧ Q o H') X.xe s
def tNoPart : TO := fun _ H Q => Q none H
def tPart (t : TE) : TO := fun σ H Q => t σ H fun x H1 => ∃ i, x = .int i ∧ Q (some i) H1

theorem intsAre_of {ns : List Int} : ∀ {us : List Value}, Vals (ns.map V.int) us → IntsAre us ns := by
  induction ns with
  | nil => intro us r; rw [List.map_nil] at r; cases r; exact .nil
  | cons n ns ih =>
    intro us r
    rw [List.map_cons] at r
    cases r with
    | cons r1 r2 =>
      obtain ⟨t, e⟩ := r1
      subst e
      exact .cons n t (ih r2)

section
variable {X : Cx} {e : Expr} {te : TE} {lo hi : Option Expr} {tl th : TO} {pos p2 : Pos}

theorem po_none : PO X none tNoPart := by
  intro pins s σ H Q I h
  rw [evalPart_none]
  exact wpAny_pure ⟨none, H, I, .none, h⟩
theorem po_some (h : PE X e te) : PO X (some e) (tPart te) := by
  intro pins s σ H Q I hw
  rw [evalPart_some]
  refine thn (h pins s σ H _ I hw) fun u s1 ⟨x, H1, I1, r1, q1⟩ => ?_
  obtain ⟨i, rfl, q⟩ := q1
  obtain ⟨t, rfl⟩ := r1
  exact ⟨some i, H1, I1, .int i t, q⟩

/-- what a slice of a value is, by values: the slice object stands at sl -/
def SlR (X : Cx) (r : V → Option Int → Option Int → Hp → VK → Prop) : Prop :=
  ∀ (pins : List (Addr × Obj)) (s : Shared) (σ : St) (H : Hp) (x : V) (v vl vu : Value) (lo hi : Option Int) (sl : Addr) (Q : VK), Inv X pins σ H s → RelV x v → s.heap.IsSliceOf sl vl vu .none → IsPart vl lo → IsPart vu hi → r x lo hi H Q →
    ∃ T id, typeLookup (.type T) "__getitem__" = pure (some (.builtin id)) ∧ s.TypeIs v T ∧ wpAny (model X.prog X.w) X.A (getItem v (.ref sl)) (EP X pins σ Q) X.xe s
theorem SlR.or {r r' : V → Option Int → Option Int → Hp → VK → Prop} (h : SlR X r) (h' : SlR X r') : SlR X (fun x lo hi H Q => r x lo hi H Q ∨ r' x lo hi H Q) := by
  intro pins s σ H x v vl vu lo hi sl Q I rx hs pl pu q
  rcases q with q | q
  · exact h pins s σ H x v vl vu lo hi sl Q I rx hs pl pu q
  · exact h' pins s σ H x v vl vu lo hi sl Q I rx hs pl pu q
def tSl (r : V → Option Int → Option Int → Hp → VK → Prop) (te : TE) (tl th : TO) : TE := fun σ H Q => te σ H fun x H1 => tl σ H1 fun l H2 => th σ H2 fun u H3 => r x l u H3 Q
/-- a[lo:hi], any a -/
theorem pe_slice {r : V → Option Int → Option Int → Hp → VK → Prop} (hr : SlR X r) (he : PE X e te) (hl : PO X lo tl) (hu : PO X hi th) : PE X (.Subscript e (.Slice lo hi none p2) pos) (tSl r te tl th) := by
  intro pins s σ H Q I h
  refine Subscript_ (thn (he pins s σ H _ I h) fun v s1 ⟨x, H1, I1, r1, q1⟩ => ?_)
  refine wpAny_Slice (thn (hl pins s1 σ H1 _ I1 q1) fun vl s2 ⟨l, H2, I2, pl, q2⟩ => thn (hu pins s2 σ H2 _ I2 q2) fun vu s3 ⟨u, H3, I3, pu, q3⟩ => ?_)
  rw [evalPart_none]
  refine wpAny_pure ?_
  have I4 : Inv X pins σ H3 { s3 with heap := s3.heap.push { cls := .type "slice", data := .fields #[vl, vu, .none] } } := I3.kept (t' := s3.toks) fun b ob q => Heap.get?_push_of_some _ q
  obtain ⟨T, id, hT, ht, hg⟩ := hr pins { s3 with heap := s3.heap.push { cls := .type "slice", data := .fields #[vl, vu, .none] } } σ H3 x v vl vu l u s3.heap.objs.size Q I4 r1 (Heap.IsSliceOf.new ..) pl pu q3
  show wpAny (model X.prog X.w) X.A (subscriptTail e (.Slice lo hi none p2) v (.ref s3.heap.objs.size)) (EP X pins σ Q) X.xe { s3 with heap := s3.heap.push { cls := .type "slice", data := .fields #[vl, vu, .none] } }
  exact tail_any (ops := [.ref s3.heap.objs.size, v]) ht hT hg (by with_unfolding_all rfl)

/-- the items of xs[lo:hi] -/
def cutV (xs : List V) (lo hi : Option Int) : List V := (xs.drop (HT.sIx xs.length 0 lo)).take (HT.sIx xs.length xs.length hi - HT.sIx xs.length 0 lo)
theorem cutV_length (xs : List V) (lo hi : Option Int) : (cutV xs lo hi).length ≤ xs.length := by
  unfold cutV
  rw [List.length_take, List.length_drop]
  omega
/-- t[lo:hi], not the whole of it (the whole would be t itself) -/
def rSlT (K : PySem.W.Frag) : V → Option Int → Option Int → Hp → VK → Prop := fun x lo hi H Q => ∃ a xs, x = .ref a ∧ SqT K H a xs ∧
  ¬ (HT.sIx xs.length 0 lo = 0 ∧ HT.sIx xs.length xs.length hi = xs.length) ∧ ∀ p, H p = none → Q (.ref p) (upd H p (.tup (cutV xs lo hi)))
theorem sl_tup : SlR X (rSlT X.K) := by
  intro pins s σ H x v vl vu lo hi sl Q I rx hs pl pu h
  obtain ⟨a, xs, rfl, hx, hw, q⟩ := h
  cases rx
  obtain ⟨its, r, ht, hz⟩ := I.tuple hx
  have hlen : its.toArray.size = xs.length := by rw [List.size_toArray]; exact r.length.symm
  refine ⟨"tuple", _, PyProof.Rows.slot_tuple_getitem.lookup, ht.typeIs, ?_⟩
  refine HT.getItem_tuple_cut ht hs pl pu (by rw [hlen]; exact hw) ?_ (by rw [hlen]; exact hz)
  rw [hlen]
  refine ⟨.ref s.heap.objs.size, _, I.laid (t' := s.toks) (o := .tup (cutV xs lo hi)) (fun b ob q => Heap.get?_push_of_some _ q) (Nat.le_refl _) ?_, rfl, q _ (I.hok.fresh (Nat.le_refl _))⟩
  exact ⟨Nat.le_trans (cutV_length xs lo hi) hz, _, (r.drop (HT.sIx xs.length 0 lo)).take (HT.sIx xs.length xs.length hi - HT.sIx xs.length 0 lo), IsTup.new _ _⟩

/-! ### t < u, t + u -/
def rLtT (K : PySem.W.Frag) : R2 := fun x y H Q => ∃ a b ns ms, x = .ref a ∧ y = .ref b ∧ SqT K H a (ns.map V.int) ∧ SqT K H b (ms.map V.int) ∧ Q (.bl (HT.lexLt ns ms)) H
theorem op_ltT (hu : X.A.units < cLine) : OpR X (compareOp .Lt) (rLtT X.K) := by
  intro pins s σ H x y v u Q I rx ry h
  obtain ⟨a, b, ns, ms, rfl, rfl, ha, hb, q⟩ := h
  cases rx
  cases ry
  obtain ⟨its, r1, p1, _⟩ := I.tuple ha
  obtain ⟨its2, r2, p2, _⟩ := I.tuple hb
  have i1 : IntsAre its.toArray.toList ns := intsAre_of r1
  have i2 : IntsAre its2.toArray.toList ms := intsAre_of r2
  exact HT.lt_tupInts p1 p2 i1 i2 hu ⟨.bl (HT.lexLt ns ms), H, I, rfl, q⟩
/-- t + u, t not empty: u empty gives t itself -/
def rCatT (K : PySem.W.Frag) : R2 := fun x y H Q => ∃ a b xs ys, x = .ref a ∧ y = .ref b ∧ SqT K H a xs ∧ SqT K H b ys ∧ xs ≠ [] ∧ xs.length + ys.length ≤ sizeLine ∧
  (ys = [] → Q (.ref a) H) ∧ (ys ≠ [] → ∀ p, H p = none → Q (.ref p) (upd H p (.tup (xs ++ ys))))
theorem Vals.nil_iff {xs : List V} {us : List Value} (r : Vals xs us) : us = [] ↔ xs = [] := by
  cases r with
  | nil => simp
  | cons _ _ => simp
theorem op_catT : OpR X (binaryOp .Add) (rCatT X.K) := by
  intro pins s σ H x y v u Q I rx ry h
  obtain ⟨a, b, xs, ys, rfl, rfl, ha, hb, hx, hz, q1, q2⟩ := h
  cases rx
  cases ry
  obtain ⟨its, r1, p1, _⟩ := I.tuple ha
  obtain ⟨its2, r2, p2, _⟩ := I.tuple hb
  refine HT.cat_tup p1 p2 (fun z => hx (r1.nil_iff.mp z)) (fun z => ⟨.ref a, H, I, rfl, q1 (r2.nil_iff.mp z)⟩) (fun z => ?_) (by rw [← r1.length, ← r2.length]; exact hz)
  refine ⟨.ref s.heap.objs.size, _, I.laid (t' := s.toks) (o := .tup (xs ++ ys)) (fun b ob q => Heap.get?_push_of_some _ q) (Nat.le_refl _) ?_, rfl, q2 (fun w => z (r2.nil_iff.mpr w)) _ (I.hok.fresh (Nat.le_refl _))⟩
  exact ⟨by rw [List.length_append]; exact hz, _, r1.append r2, IsTup.new _ _⟩
/-- tuple(t) -/
theorem call_tupleT : CallR X (.type "tuple") (fun xs H Q => ∃ a ys, xs = [.ref a] ∧ SqT X.K H a ys ∧ Q (.ref a) H) := by
  intro pins s σ H xs us Q I r h
  obtain ⟨a, ys, rfl, ha, q⟩ := h
  obtain ⟨u, rfl, ru⟩ := vals1 r
  cases ru
  obtain ⟨its, _, p1, _⟩ := I.tuple ha
  exact call_tuple_same (items := its.toArray) p1 ⟨.ref a, H, I, rfl, q⟩
end
end L2

namespace L2
open PySem PySem.Spec PyProof.Rows

/-! ### places -/
/-- the place that an index of any sign means -/
def ixN (n : Nat) (i : Int) : Option Nat := if 0 ≤ i then (if i < n then some i.toNat else none) else if -(n : Int) ≤ i then some (i + n).toNat else none
def atI {α : Type} (xs : List α) (i : Int) : Option α := (ixN xs.length i).bind fun j => xs[j]?
theorem ixN_seq {n : Nat} {i : Int} {j : Nat} (h : ixN n i = some j) : seqIndex? i n = some j ∧ j < n ∧ -(n : Int) ≤ i ∧ i < n := by
  unfold ixN at h
  by_cases h0 : 0 ≤ i
  · rw [if_pos h0] at h
    by_cases h1 : i < n
    · rw [if_pos h1] at h
      have e : i.toNat = j := Option.some.inj h
      exact ⟨by rw [seqIndex_of h0 h1, e], by omega, by omega, h1⟩
    · rw [if_neg h1] at h; cases h
  · rw [if_neg h0] at h
    by_cases h1 : -(n : Int) ≤ i
    · rw [if_pos h1] at h
      have e : (i + n).toNat = j := Option.some.inj h
      exact ⟨by rw [seqIndex_neg (by omega) h1, e], by omega, h1, by omega⟩
    · rw [if_neg h1] at h; cases h
theorem atI_get {α : Type} {xs : List α} {i : Int} {v : α} (h : atI xs i = some v) : ∃ j, seqIndex? i xs.length = some j ∧ xs[j]? = some v ∧ j < xs.length ∧ -(xs.length : Int) ≤ i ∧ i < xs.length := by
  unfold atI at h
  cases e : ixN xs.length i with
  | none => rw [e] at h; cases h
  | some j =>
    rw [e] at h
    obtain ⟨h1, h2, h3, h4⟩ := ixN_seq e
    exact ⟨j, h1, h, h2, h3, h4⟩
theorem atI_nat {α : Type} {xs : List α} {j : Nat} {v : α} (h : xs[j]? = some v) : atI xs (j : Int) = some v := by
  have hj : j < xs.length := (List.getElem?_eq_some_iff.mp h).1
  have e : ixN xs.length (j : Int) = some j := by
    unfold ixN
    rw [if_pos (by omega), if_pos (by omega)]; simp
  unfold atI; rw [e]; exact h
theorem atI_last {α : Type} (xs : List α) (v : α) : atI (xs ++ [v]) (-1) = some v := by
  have hl : (xs ++ [v]).length = xs.length + 1 := by simp
  have e : ixN (xs ++ [v]).length (-1) = some xs.length := by
    unfold ixN
    rw [hl, if_neg (by decide), if_pos (by omega)]
    congr 1
    omega
  unfold atI
  rw [e]
  show (xs ++ [v])[xs.length]? = some v
  simp

/-! ### what may be subscripted -/
/-- what stands as an index of a plain subscript -/
def PlainIx (b : Expr) : Prop := ∀ o i, subscripted b false o i = operate [o, i] (getItem o i)
/-- a subscript by values -/
def IxR (X : Cx) (r : R2) : Prop :=
  ∀ (value slice : Expr) (pins : List (Addr × Obj)) (s : Shared) (σ : St) (H : Hp) (x y : V) (v u : Value) (Q : VK), Inv X pins σ H s → RelV x v → RelV y u → r x y H Q →
    subscripted slice false v u = operate [v, u] (getItem v u) → wpAny (model X.prog X.w) X.A (subscriptTail value slice v u) (EP X pins σ Q) X.xe s
/-- a call of a builtin's method by values: the receiver, the arguments -/
def MtR (X : Cx) (id : String) (r : V → List V → Hp → VK → Prop) : Prop :=
  ∀ (pins : List (Addr × Obj)) (s : Shared) (σ : St) (H : Hp) (x : V) (xs : List V) (v : Value) (us : List Value) (Q : VK), Inv X pins σ H s → RelV x v → Vals xs us → r x xs H Q →
    wpAny (model X.prog X.w) X.A (call (.builtin id) (v :: us)) (EP X pins σ Q) X.xe s
section
variable {X : Cx} {a b : Expr} {ta tb : TE} {pos : Pos}
theorem IxR.or {r r' : R2} (h : IxR X r) (h' : IxR X r') : IxR X (fun x y H Q => r x y H Q ∨ r' x y H Q) := by
  intro value slice pins s σ H x y v u Q I rx ry q hs
  rcases q with q | q
  · exact h value slice pins s σ H x y v u Q I rx ry q hs
  · exact h' value slice pins s σ H x y v u Q I rx ry q hs
theorem MtR.or {id : String} {r r' : V → List V → Hp → VK → Prop} (h : MtR X id r) (h' : MtR X id r') : MtR X id (fun x xs H Q => r x xs H Q ∨ r' x xs H Q) := by
  intro pins s σ H x xs v us Q I rx rs q
  rcases q with q | q
  · exact h pins s σ H x xs v us Q I rx rs q
  · exact h' pins s σ H x xs v us Q I rx rs q
/-- a[b] -/
theorem pe_ix {r : R2} (hr : IxR X r) (ha : PE X a ta) (hb : PE X b tb) (hs : PlainIx b) : PE X (.Subscript a b pos) (tOp r ta tb) := by
  intro pins s σ H Q I h
  exact Subscript_ (binT ha hb I h fun v u s2 x y H2 I2 rx ry q => hr a b pins s2 σ H2 x y v u Q I2 rx ry q (hs _ _))

def rIxL (K : PySem.W.Frag) : R2 := fun x y H Q => ∃ p xs i v, x = .ref p ∧ y = .int i ∧ SqL K H p xs ∧ atI xs i = some v ∧ Q v H
def rIxT (K : PySem.W.Frag) : R2 := fun x y H Q => ∃ p xs i v, x = .ref p ∧ y = .int i ∧ SqT K H p xs ∧ atI xs i = some v ∧ Q v H
def rIxS : R2 := fun x y H Q => ∃ z i c, x = .str z ∧ y = .int i ∧ z.length ≤ sizeLine ∧ atI z.cps.toList i = some c ∧ Q (.str ⟨#[c]⟩) H
theorem ix_list : IxR X (rIxL X.K) := by
  intro value slice pins s σ H x y v u Q I rx ry h hs
  obtain ⟨p, xs, i, z, rfl, rfl, hq, he, q⟩ := h
  cases rx
  obtain ⟨t, rfl⟩ := ry
  obtain ⟨its, r, pl, hz⟩ := I.list hq
  obtain ⟨j, h1, h2, h3, h4, h5⟩ := atI_get he
  obtain ⟨w, ew, rw'⟩ := r.get h2
  have hl := r.length
  have hn := line63
  have fin : EP X pins σ Q w s := ⟨z, H, I, rw', q⟩
  by_cases h0 : 0 ≤ i
  · have hj : i.toNat = j := by
      rw [seqIndex_of h0 h5] at h1
      exact Option.some.inj h1
    exact item_listR pl.isList h0 (by omega) (by rw [hj]; simpa using ew) fin hs
  · have hj : (i + (its.toArray.size : Int)).toNat = j := by
      rw [seqIndex_neg (by omega) h4] at h1
      rw [List.size_toArray, ← hl]
      exact Option.some.inj h1
    exact subscriptTail_builtinR (x := w) pl.isList.typeIs slot_list_getitem.lookup
      (wpAny_getItem_list_neg (Q := fun r s' => r = w ∧ EP X pins σ Q r s') pl.isList (by omega) (by rw [List.size_toArray] <;> omega) (by omega) (by rw [hj]; simpa using ew) ⟨rfl, fin⟩) hs
theorem ix_tup : IxR X (rIxT X.K) := by
  intro value slice pins s σ H x y v u Q I rx ry h hs
  obtain ⟨p, xs, i, z, rfl, rfl, hq, he, q⟩ := h
  cases rx
  obtain ⟨t, rfl⟩ := ry
  obtain ⟨its, r, pl, hz⟩ := I.tuple hq
  obtain ⟨j, h1, h2, h3, h4, h5⟩ := atI_get he
  obtain ⟨w, ew, rw'⟩ := r.get h2
  have hl := r.length
  have hn := line63
  have fin : EP X pins σ Q w s := ⟨z, H, I, rw', q⟩
  exact subscriptTail_builtinR (x := w) pl.typeIs slot_tuple_getitem.lookup
    (getItem_tuple (j := j) (Q := fun r s' => r = w ∧ EP X pins σ Q r s') pl (by omega) (by omega) (by rw [List.size_toArray, ← hl]; exact h1) (by simpa using ew) ⟨rfl, fin⟩) hs
theorem ix_str : IxR X rIxS := by
  intro value slice pins s σ H x y v u Q I rx ry h hs
  obtain ⟨z, i, c, rfl, rfl, hz, he, q⟩ := h
  obtain ⟨t, rfl⟩ := rx
  obtain ⟨t', rfl⟩ := ry
  obtain ⟨j, h1, h2, h3, h4, h5⟩ := atI_get he
  have hl : z.cps.toList.length = z.length := by simp [Str.length]
  rw [hl] at h1 h4 h5
  have hn := line63
  exact tail_any (typeIs_str s z t) slot_str_getitem.lookup (getItem_str (c := c) (by
    have e1 : decide (i < -(2 ^ 63 : Int)) = false := decide_eq_false (by omega)
    have e2 : decide (i ≥ 2 ^ 63) = false := decide_eq_false (by omega)
    rw [e1, e2, Bool.or_false]) (by rw [h1]; simpa using h2) ⟨.str ⟨#[c]⟩, H, I.tok _, ⟨_, rfl⟩, q⟩) hs
/-- list, tuple or str -/
def rIx (K : PySem.W.Frag) : R2 := fun x y H Q => rIxL K x y H Q ∨ rIxT K x y H Q ∨ rIxS x y H Q
theorem ix_seq : IxR X (rIx X.K) := ix_list.or (ix_tup.or ix_str)

/-! ### xs[i] = v, any sign -/
/-- the list's object behind a store -/
theorem mapSeq_set (its : List Value) (n j : Nat) (u : Value) : Obj.mapSeq (·.setIfInBounds j u) { cls := .type "list", data := .seq its.toArray n } = { cls := .type "list", data := .seq (its.set j u).toArray n } := by
  simp [Obj.mapSeq]
theorem Inv.lst {pins : List (Addr × Obj)} {σ : St} {H : Hp} {s : Shared} {p : Addr} {xs : List V} (I : Inv X pins σ H s) (h : H p = some (.lst xs)) :
    ∃ (its : List Value) (n : Nat), Vals xs its ∧ s.heap.get? p = some { cls := .type "list", data := .seq its.toArray n } ∧ xs.length ≤ sizeLine := by
  obtain ⟨z, its, n, r, e⟩ := I.hok p _ h
  exact ⟨its, n, r, e, z⟩
/-- the list at p is written by an update of its object -/
theorem Inv.lstUpd {pins : List (Addr × Obj)} {σ : St} {H : Hp} {s : Shared} {p : Addr} {xs ys : List V} {its its' : List Value} {n n' : Nat} {f : Obj → Obj} (I : Inv X pins σ H s) (h : H p = some (.lst xs))
    (ho : s.heap.get? p = some { cls := .type "list", data := .seq its.toArray n }) (hf : f { cls := .type "list", data := .seq its.toArray n } = { cls := .type "list", data := .seq its'.toArray n' }) (r : Vals ys its') (hz : ys.length ≤ sizeLine) (t : Nat) :
    Inv X pins σ (upd H p (.lst ys)) { s with heap := s.heap.update p f, toks := t } := by
  have e : (s.heap.update p f).get? p = some { cls := .type "list", data := .seq its'.toArray n' } := by
    rw [Heap.get?_update_self f ho (by rw [hf] <;> rfl), hf]
  refine I.write (x := p) (e := p) (by rw [h]; trivial) (.inl rfl) (fun b u hb q => (Heap.get?_update_other _ _ (Ne.symm hb)).trans q) ⟨_, e⟩ ?_
  exact ⟨hz, its', n', r, e⟩
def rSetL : V → V → V → Hp → (Hp → Prop) → Prop := fun o i v H Q => ∃ p xs k j, o = .ref p ∧ i = .int k ∧ H p = some (.lst xs) ∧ ixN xs.length k = some j ∧ Q (upd H p (.lst (xs.set j v)))
theorem set_list : PSet X rSetL := by
  intro pins s σ H o i v ov iv u Q I ro ri rv h
  obtain ⟨p, xs, k, j, rfl, rfl, hp, hj, q⟩ := h
  cases ro
  obtain ⟨t, rfl⟩ := ri
  obtain ⟨its, n, r, ho, hz⟩ := I.lst hp
  obtain ⟨h1, h2, h3, h4⟩ := ixN_seq hj
  have hl := r.length
  have hn := line63
  have I' : Inv X pins σ (upd H p (.lst (xs.set j v))) { s with heap := s.heap.update p (Obj.mapSeq (·.setIfInBounds j u)) } :=
    I.lstUpd hp ho (mapSeq_set its n j u) (r.set rv j) (by rw [List.length_set]; exact hz) s.toks
  by_cases h0 : 0 ≤ k
  · have hk : k.toNat = j := by
      rw [seqIndex_of h0 h4] at h1
      exact Option.some.inj h1
    exact PySem.W.ki_setAt ho h0 (by omega) (by rw [List.size_toArray, ← hl]; exact h4) (by rw [hk]; exact ⟨_, I', q⟩)
  · have hk : (k + (its.toArray.size : Int)).toNat = j := by
      rw [seqIndex_neg (by omega) h3] at h1
      rw [List.size_toArray, ← hl]
      exact Option.some.inj h1
    exact PySem.W.ki_setBack ho (by omega) (by rw [List.size_toArray, ← hl]; exact h3) (by omega) (by rw [hk]; exact ⟨_, I', q⟩)

/-! ### slices -/
theorem slice_bounds (lo hi : Option Int) (n : Nat) : (sliceBounds lo hi none n).1 = ((HT.sIx n 0 lo : Nat) : Int) ∧ (sliceBounds lo hi none n).2.1 = ((HT.sIx n n hi : Nat) : Int) ∧ (sliceBounds lo hi none n).2.2 = 1 := by
  refine ⟨?_, ?_, rfl⟩
  · cases lo with
    | none => simp [sliceBounds, HT.sIx]
    | some i =>
      simp only [sliceBounds, HT.sIx, Option.getD_none, show (1 : Int) > 0 by decide, if_true]
      by_cases h : i < 0
      · simp only [h, if_true] <;> omega
      · simp only [h, if_false] <;> omega
  · cases hi with
    | none => simp [sliceBounds, HT.sIx]
    | some i =>
      simp only [sliceBounds, HT.sIx, Option.getD_none, show (1 : Int) > 0 by decide, if_true]
      by_cases h : i < 0
      · simp only [h, if_true] <;> omega
      · simp only [h, if_false] <;> omega
theorem slicePick_cut (its : List Value) (lo hi : Option Int) : slicePick its.toArray lo hi none = ((its.drop (HT.sIx its.length 0 lo)).take (HT.sIx its.length its.length hi - HT.sIx its.length 0 lo)).toArray := by
  obtain ⟨h1, h2, h3⟩ := slice_bounds lo hi its.toArray.size
  unfold slicePick
  rw [h1, h2, h3]
  simp only [sliceRange_one, pick_run, List.size_toArray] <;> rfl
/-- xs[lo:hi] of a list: a new list -/
def rSlL (K : PySem.W.Frag) : V → Option Int → Option Int → Hp → VK → Prop := fun x lo hi H Q => ∃ a xs, x = .ref a ∧ SqL K H a xs ∧ ∀ p, H p = none → Q (.ref p) (upd H p (.lst (cutV xs lo hi)))
theorem sl_list : SlR X (rSlL X.K) := by
  intro pins s σ H x v vl vu lo hi sl Q I rx hs pl pu h
  obtain ⟨a, xs, rfl, hx, q⟩ := h
  cases rx
  obtain ⟨its, r, ht, hz⟩ := I.list hx
  have hlen := r.length
  refine ⟨"list", _, slot_list_getitem.lookup, ht.isList.typeIs, ?_⟩
  refine wpAny_getItem_list_slice ht.isList hs pl pu .none (by simp) ?_ (by rw [List.size_toArray] <;> omega)
  rw [slicePick_cut, ← hlen]
  refine ⟨.ref s.heap.objs.size, _, I.laid (t' := s.toks) (o := .lst (cutV xs lo hi)) (fun b ob q => Heap.get?_push_of_some _ q) (Nat.le_refl _) ?_, rfl, q _ (I.hok.fresh (Nat.le_refl _))⟩
  exact ⟨Nat.le_trans (cutV_length xs lo hi) hz, _, 0, (r.drop (HT.sIx xs.length 0 lo)).take (HT.sIx xs.length xs.length hi - HT.sIx xs.length 0 lo), Heap.get?_push_size _ rfl⟩

/-! ### in, not in: flat items -/
def flatV : V → Bool
  | .non => true
  | .bl _ => true
  | .int _ => true
  | .str _ => true
  | _ => false
/-- == of flat values -/
def eqV : V → V → Bool
  | .non, .non => true
  | .bl a, .bl b => a == b
  | .bl a, .int b => (if a then 1 else 0) == b
  | .int a, .bl b => a == (if b then 1 else 0)
  | .int a, .int b => a == b
  | .str a, .str b => a == b
  | _, _ => false
theorem eqAt_V {A : Around} {s : Shared} {y x : V} {u v : Value} (ry : RelV y u) (rx : RelV x v) (fy : flatV y = true) (fx : flatV x = true) : SeqAt.EqAt A s u v (eqV y x) := by
  cases y with
  | non =>
    cases ry
    cases x with
    | non => cases rx; exact SeqAt.EqAt.same _
    | bl b => cases rx; exact SeqAt.EqAt.none_bool b
    | int b => obtain ⟨t, rfl⟩ := rx; exact SeqAt.EqAt.none_int b t
    | str b => obtain ⟨t, rfl⟩ := rx; exact SeqAt.EqAt.none_str b t
    | _ => exact absurd (show false = true from fx) Bool.false_ne_true
  | bl a =>
    cases ry
    cases x with
    | non => cases rx; exact SeqAt.EqAt.bool_none a
    | bl b => cases rx; exact SeqAt.EqAt.bool_bool a b
    | int b => obtain ⟨t, rfl⟩ := rx; exact SeqAt.EqAt.bool_int a b t
    | str b => obtain ⟨t, rfl⟩ := rx; exact SeqAt.EqAt.bool_str a b t
    | _ => exact absurd (show false = true from fx) Bool.false_ne_true
  | int a =>
    obtain ⟨t', rfl⟩ := ry
    cases x with
    | non => cases rx; exact SeqAt.EqAt.int_none a t'
    | bl b => cases rx; exact SeqAt.EqAt.int_bool a t' b
    | int b => obtain ⟨t, rfl⟩ := rx; exact SeqAt.EqAt.int_int a t' b t
    | str b => obtain ⟨t, rfl⟩ := rx; exact SeqAt.EqAt.int_str a t' b t
    | _ => exact absurd (show false = true from fx) Bool.false_ne_true
  | str a =>
    obtain ⟨t', rfl⟩ := ry
    cases x with
    | non => cases rx; exact SeqAt.EqAt.str_none a t'
    | bl b => cases rx; exact SeqAt.EqAt.str_bool a t' b
    | int b => obtain ⟨t, rfl⟩ := rx; exact SeqAt.EqAt.str_int a t' b t
    | str b => obtain ⟨t, rfl⟩ := rx; exact SeqAt.EqAt.str_str a t' b t
    | _ => exact absurd (show false = true from fx) Bool.false_ne_true
  | _ => exact absurd (show false = true from fy) Bool.false_ne_true
/-- the items' answers, read off the values (a value's own answer does not lean on its token) -/
def eqU (x : V) (u : Value) : Bool := match u with
  | .none => eqV .non x
  | .bool b => eqV (.bl b) x
  | .int i _ => eqV (.int i) x
  | .str z _ => eqV (.str z) x
  | _ => false
theorem eqU_of {x y : V} {u : Value} (r : RelV y u) (f : flatV y = true) : eqU x u = eqV y x := by
  cases y with
  | non => cases r; rfl
  | bl b => cases r; rfl
  | int i => obtain ⟨t, rfl⟩ := r; rfl
  | str z => obtain ⟨t, rfl⟩ := r; rfl
  | _ => exact absurd (show false = true from f) Bool.false_ne_true
theorem any_eqU {x : V} : ∀ {xs : List V} {us : List Value}, Vals xs us → xs.all flatV = true → us.any (eqU x) = xs.any fun y => eqV y x
  | _, _, .nil, _ => rfl
  | y :: xs, u :: us, .cons r t, f => by
    rw [List.all_cons, Bool.and_eq_true] at f
    rw [List.any_cons, List.any_cons, eqU_of r f.1, any_eqU t f.2]
theorem mem_eqAt {A : Around} {s : Shared} {x : V} {v : Value} (rx : RelV x v) (fx : flatV x = true) : ∀ {xs : List V} {us : List Value}, Vals xs us → xs.all flatV = true → ∀ u ∈ us, SeqAt.EqAt A s u v (eqU x u)
  | _, _, .nil, _ => fun u hu => by cases hu
  | y :: xs, u :: us, .cons r t, f => fun u' hu => by
    rw [List.all_cons, Bool.and_eq_true] at f
    rcases List.mem_cons.mp hu with rfl | hu
    · rw [eqU_of r f.1]; exact eqAt_V r rx f.1 fx
    · exact mem_eqAt rx fx t f.2 u' hu
def inV (x : V) (xs : List V) : Bool := xs.any fun y => eqV y x
/-- x in a list or tuple of flat items -/
def rIn (K : PySem.W.Frag) (neg : Bool) : R2 := fun x y H Q => ∃ p xs, y = .ref p ∧ (SqL K H p xs ∨ SqT K H p xs) ∧ flatV x = true ∧ xs.all flatV = true ∧ Q (.bl (if neg then !inV x xs else inV x xs)) H
theorem op_in_seq : OpR X (compareOp .In) (rIn X.K false) := by
  intro pins s σ H x y v u Q I rx ry h
  obtain ⟨p, xs, rfl, hq, fx, fs, q⟩ := h
  cases ry
  rcases hq with hq | hq
  · obtain ⟨its, r, pl, hz⟩ := I.list hq
    refine SeqAt.in_listAt (eqU x) pl.isList (fun w hw => mem_eqAt rx fx r fs w (by simpa using hw)) ⟨.bl _, H, I, rfl, ?_⟩
    rw [show its.toArray.any (eqU x) = its.any (eqU x) by simp, any_eqU r fs]
    exact q
  · obtain ⟨its, r, pl, hz⟩ := I.tuple hq
    refine SeqAt.in_tupleAt (eqU x) pl (fun w hw => mem_eqAt rx fx r fs w (by simpa using hw)) ⟨.bl _, H, I, rfl, ?_⟩
    rw [show its.toArray.any (eqU x) = its.any (eqU x) by simp, any_eqU r fs]
    exact q
theorem op_notIn_seq : OpR X (compareOp .NotIn) (rIn X.K true) := by
  intro pins s σ H x y v u Q I rx ry h
  obtain ⟨p, xs, rfl, hq, fx, fs, q⟩ := h
  cases ry
  rcases hq with hq | hq
  · obtain ⟨its, r, pl, hz⟩ := I.list hq
    refine SeqAt.notIn_listAt (eqU x) pl.isList (fun w hw => mem_eqAt rx fx r fs w (by simpa using hw)) ⟨.bl _, H, I, rfl, ?_⟩
    rw [show its.toArray.any (eqU x) = its.any (eqU x) by simp, any_eqU r fs]
    exact q
  · obtain ⟨its, r, pl, hz⟩ := I.tuple hq
    refine SeqAt.notIn_tupleAt (eqU x) pl (fun w hw => mem_eqAt rx fx r fs w (by simpa using hw)) ⟨.bl _, H, I, rfl, ?_⟩
    rw [show its.toArray.any (eqU x) = its.any (eqU x) by simp, any_eqU r fs]
    exact q
theorem op_notIn_str : OpR X (compareOp .NotIn) (fun x y H Q => ∃ i j, x = .str i ∧ y = .str j ∧ Q (.bl (!(!(Builtin.Str.occurrences j i 0 j.length 1).isEmpty))) H) := by
  intro pins s σ H x y v u Q I rx ry h
  obtain ⟨i, j, rfl, rfl, q⟩ := h
  obtain ⟨t, rfl⟩ := rx
  obtain ⟨t', rfl⟩ := ry
  exact notIn_str ⟨.bl _, H, I, rfl, q⟩

/-! ### len, list(x), tuple(x) of any list or tuple that is read -/
theorem call_len_seq : CallR X (.builtin "len") (fun xs H Q => ∃ p ys, xs = [.ref p] ∧ (SqL X.K H p ys ∨ SqT X.K H p ys) ∧ Q (.int ys.length) H) := by
  intro pins s σ H xs us Q I r h
  obtain ⟨p, ys, rfl, hq, q⟩ := h
  obtain ⟨u, rfl, rx⟩ := vals1 r
  cases rx
  have hn := line63
  rcases hq with hq | hq
  · obtain ⟨its, r', pl, hz⟩ := I.list hq
    have hlen := r'.length
    exact Calls.call_len_list pl.isList (by simp only [List.size_toArray] <;> omega) ⟨.int ys.length, H, I.tok _, ⟨s.toks + 1, by rw [List.size_toArray, hlen]⟩, q⟩
  · obtain ⟨its, r', pl, hz⟩ := I.tuple hq
    have hlen := r'.length
    exact len_tuple pl (by simp only [List.size_toArray] <;> omega) ⟨.int ys.length, H, I.tok _, ⟨s.toks + 1, by rw [List.size_toArray, hlen]⟩, q⟩
theorem call_len_str : CallR X (.builtin "len") (fun xs H Q => ∃ z, xs = [.str z] ∧ z.length ≤ sizeLine ∧ Q (.int z.length) H) := by
  intro pins s σ H xs us Q I r h
  obtain ⟨z, rfl, hz, q⟩ := h
  obtain ⟨u, rfl, t, rfl⟩ := vals1 r
  have hn := line63
  exact len_str (by omega) ⟨.int z.length, H, I.tok _, ⟨_, rfl⟩, q⟩
theorem CallR.or {f : Value} {r r' : List V → Hp → VK → Prop} (h : CallR X f r) (h' : CallR X f r') : CallR X f (fun xs H Q => r xs H Q ∨ r' xs H Q) := by
  intro pins s σ H xs us Q I rs q
  rcases q with q | q
  · exact h pins s σ H xs us Q I rs q
  · exact h' pins s σ H xs us Q I rs q
theorem call_list_of : CallR X (.type "list") (fun xs H Q => ∃ p ys, xs = [.ref p] ∧ (SqL X.K H p ys ∨ SqT X.K H p ys) ∧ ∀ l, H l = none → Q (.ref l) (upd H l (.lst ys))) := by
  intro pins s σ H xs us Q I r h
  obtain ⟨p, ys, rfl, hq, q⟩ := h
  obtain ⟨u, rfl, rx⟩ := vals1 r
  cases rx
  have fin : ∀ (its : List Value), Vals ys its → ys.length ≤ sizeLine → ∀ (h' : Heap) (c' : Nat), (∀ b o', s.heap.get? b = some o' → h'.get? b = some o') →
      h'.get? s.heap.objs.size = some { cls := .type "list", dict := none, data := .seq its.toArray c', slots := #[] } → EP X pins σ Q (.ref s.heap.objs.size) { s with heap := h' } := fun its r' hz h' c' kp e =>
    ⟨.ref s.heap.objs.size, _, I.laid (t' := s.toks) kp (Nat.le_refl _) (show ObjOk X.prog X.w _ h' _ (.lst ys) from ⟨hz, its, c', r', e⟩), rfl, q _ (I.hok.fresh (Nat.le_refl _))⟩
  rcases hq with hq | hq
  · obtain ⟨its, r', pl, hz⟩ := I.list hq
    have hlen := r'.length
    obtain ⟨o, ho, hc, n, hd⟩ := pl.isList
    exact call_list_seq p (.inl rfl) ho hc hd (fun h' c' kp e => fin its r' hz h' c' kp e) (by simp only [List.size_toArray] <;> omega)
  · obtain ⟨its, r', pl, hz⟩ := I.tuple hq
    have hlen := r'.length
    obtain ⟨o, ho, hc, n, hd⟩ := pl
    exact call_list_seq p (.inr rfl) ho hc hd (fun h' c' kp e => fin its r' hz h' c' kp e) (by simp only [List.size_toArray] <;> omega)
theorem call_tuple_of : CallR X (.type "tuple") (fun xs H Q => ∃ p ys, xs = [.ref p] ∧ ((SqL X.K H p ys ∧ ∀ l, H l = none → Q (.ref l) (upd H l (.tup ys))) ∨ (SqT X.K H p ys ∧ Q (.ref p) H))) := by
  intro pins s σ H xs us Q I r h
  obtain ⟨p, ys, rfl, h⟩ := h
  obtain ⟨u, rfl, rx⟩ := vals1 r
  cases rx
  rcases h with ⟨hq, q⟩ | ⟨hq, q⟩
  · obtain ⟨its, r', pl, hz⟩ := I.list hq
    have hlen := r'.length
    refine call_tuple_list pl.isList (fun h' kp => ?_) (by simp only [List.size_toArray] <;> omega)
    have I1 : Inv X pins σ H { s with heap := h' } := I.kept (t' := s.toks) kp
    have I2 : Inv X pins σ (upd H h'.objs.size (.tup ys)) { s with heap := h'.push { cls := .type "tuple", data := .seq its.toArray } } :=
      I1.laid (t' := s.toks) (fun b o e => Heap.get?_push_of_some _ e) (Nat.le_refl _) (show ObjOk X.prog X.w _ _ _ (.tup ys) from ⟨hz, its, r', IsTup.new _ _⟩)
    exact ⟨.ref h'.objs.size, _, I2, rfl, q _ (I1.hok.fresh (Nat.le_refl _))⟩
  · obtain ⟨its, r', pl, hz⟩ := I.tuple hq
    exact call_tuple_same pl ⟨.ref p, H, I, rfl, q⟩

/-! ### the call of a builtin's method: o.m(..) -/
/-- the value is of that builtin type -/
def tyV (K : PySem.W.Frag) (T : String) (x : V) (H : Hp) : Prop := match x with
  | .str _ => T = "str"
  | .int _ => T = "int"
  | .ref p => (T = "list" ∧ ∃ xs, SqL K H p xs) ∨ (T = "tuple" ∧ ∃ o, K.lookup p = some o ∧ o.cls = .type "tuple" ∧ o.dict = none) ∨
      (T = "dict" ∧ ((∃ kvs, H p = some (.dK kvs)) ∨ ∃ kvs, H p = some (.dT kvs))) ∨ (T = "set" ∧ ∃ S n, H p = some (.set S n))
  | _ => False
theorem tyV_is {pins : List (Addr × Obj)} {σ : St} {H : Hp} {s : Shared} {T : String} {x : V} {v : Value} (I : Inv X pins σ H s) (r : RelV x v) (ty : tyV X.K T x H) :
    s.TypeIs v T ∧ ∀ a, v = .ref a → ∃ ob, s.heap.get? a = some ob ∧ ob.dict = none := by
  cases x with
  | str z =>
    obtain ⟨t, rfl⟩ := r
    cases (show T = "str" from ty)
    exact ⟨typeIs_str s z t, fun _ e => nomatch e⟩
  | int i =>
    obtain ⟨t, rfl⟩ := r
    cases (show T = "int" from ty)
    exact ⟨typeIs_int s i t, fun _ e => nomatch e⟩
  | ref p =>
    cases r
    rcases ty with ⟨rfl, xs, hq⟩ | ⟨rfl, o, hk, hc, hd⟩ | ⟨rfl, hk⟩ | ⟨rfl, S, n, hk⟩
    · obtain ⟨its, _, pl, _⟩ := I.list hq
      refine ⟨pl.isList.typeIs, fun a e => ?_⟩
      cases e
      obtain ⟨o, n, e, c, hd, _⟩ := pl
      exact ⟨o, e, hd⟩
    · refine ⟨⟨o, I.kIn p o hk, hc⟩, fun a e => ?_⟩
      cases e
      exact ⟨o, I.kIn _ o hk, hd⟩
    · have z : ∃ o, s.heap.get? p = some o ∧ o.ExactDict := by
        rcases hk with ⟨kvs, hk⟩ | ⟨kvs, hk⟩
        · obtain ⟨_, _, _, _, o, _, _, e, ex, _⟩ := I.hok p _ hk
          exact ⟨o, e, ex⟩
        · obtain ⟨_, _, _, _, o, _, _, e, ex, _⟩ := I.hok p _ hk
          exact ⟨o, e, ex⟩
      obtain ⟨o, e, ex⟩ := z
      refine ⟨⟨o, e, ex.1⟩, fun a e2 => ?_⟩
      cases e2
      exact ⟨o, e, ex.2.1⟩
    · obtain ⟨o, _, _, _, e, ex, _⟩ := I.hok p _ hk
      refine ⟨⟨o, e, ex.1⟩, fun a e2 => ?_⟩
      cases e2
      exact ⟨o, e, ex.2.1⟩
  | _ => exact False.elim ty
def tBM0 (K : PySem.W.Frag) (T : String) (r : V → List V → Hp → VK → Prop) (to : TE) : TE := fun σ H Q => to σ H fun x H1 => tyV K T x H1 ∧ r x [] H1 Q
def tBM (K : PySem.W.Frag) (T : String) (r : V → List V → Hp → VK → Prop) (to : TE) (t : TA) : TE := fun σ H Q => to σ H fun x H1 => tyV K T x H1 ∧ t σ H1 fun xs H2 => r x xs H2 Q
variable {o e : Expr} {es : List Expr} {to : TE} {t : TA} {name : Str} {apos cpos : Pos} {T id : String} {r : V → List V → Hp → VK → Prop}
theorem pe_bm0 (pa : PlainAttrs T) (slot : Slot T name id) (hty : typeOf (.builtin id) = pure (.type "method_descriptor")) (hm : MtR X id r) (ho : PE X o to)
    (hbase : attributeBase o name X.env (eval o X.env) = eval o X.env := by rfl) (hline : (apos.endLine == cpos.line) = true := by rfl) : PE X (.Call (.Attribute o name apos) [] [] cpos) (tBM0 X.K T r to) := by
  intro pins s σ H Q I h
  refine wpAny_Call_method0_late hbase hline (thn (ho pins s σ H _ I h) fun v s1 ⟨x, H1, I1, r1, ty, q1⟩ => ?_)
  obtain ⟨h1, h2⟩ := tyV_is I1 r1 ty
  exact ⟨T, id, pa, slot, hty, h1, h2, Calls.callWith_builtin rfl (PySem.evalArgs_none (hm pins s1 σ H1 x [] v [] Q I1 r1 .nil q1))⟩
theorem pe_bm (pa : PlainAttrs T) (slot : Slot T name id) (hty : typeOf (.builtin id) = pure (.type "method_descriptor")) (hm : MtR X id r) (ho : PE X o to) (ha : PA X (e :: es) t)
    (hbase : attributeBase o name X.env (eval o X.env) = eval o X.env := by rfl)
    (hfew : ((backTo cpos (starEach (e :: es) X.env)).all (fun x => !x.1) && (backToKw cpos (keywordEach [] X.env)).all (fun x => x.1.isSome)
      && decide ((e :: es).length + ([] : List Keyword).length + (if ([] : List Keyword).isEmpty then 0 else 1) < 30)) = true := by rfl)
    (hline : (apos.endLine == cpos.line) = true := by rfl) (hs : starEach (e :: es) X.env = (false, eval e X.env) :: starEach es X.env := by rfl) (hplain : (backTo cpos (starEach es X.env)).any (·.1) = false := by rfl) :
    PE X (.Call (.Attribute o name apos) (e :: es) [] cpos) (tBM X.K T r to t) := by
  intro pins s σ H Q I h
  refine wpAny_Call_method_late hbase hfew hline rfl (thn (ho pins s σ H _ I h) fun v s1 ⟨x, H1, I1, r1, ty, q1⟩ => ?_)
  obtain ⟨h1, h2⟩ := tyV_is I1 r1 ty
  refine ⟨T, id, pa, slot, hty, h1, h2, ?_⟩
  have hA := ha cpos pins s1 σ H1 _ I1 q1
  rw [hs] at hA ⊢
  refine Calls.callWith_builtin (by show (false || (backTo cpos (starEach es X.env)).any (·.1)) = false; rw [hplain] <;> rfl) (Calls.evalArgs_plain ?_)
  exact thn hA fun us s2 ⟨vs, H2, I2, r2, q2⟩ => hm pins s2 σ H2 x vs v us Q I2 r1 r2 q2
/- xs.append(e), list.index on a module's tuple .. are MtR facts of 06m -/
end
end L2

namespace L2
open PySem PySem.Spec PyProof.Rows

def MtM (X : Cx) (id : String) (r : V → List V → Hp → VK → Prop) : Prop :=
  ∀ (pins : List (Addr × Obj)) (s : Shared) (σ : St) (H : Hp) (x : V) (xs : List V) (v : Value) (us : List Value) (Q : VK), Inv X pins σ H s → RelV x v → Vals xs us → r x xs H Q →
    wpAny (model X.prog X.w) X.A (call (.builtin id) (v :: us)) (EP X pins σ Q) X.xe s

/-! ### lists of values -/
theorem Vals.one : ∀ {x : V} {us : List Value}, Vals [x] us → ∃ u, us = [u] ∧ RelV x u
  | _, _, .cons r .nil => ⟨_, rfl, r⟩
theorem Vals.two : ∀ {x y : V} {us : List Value}, Vals [x, y] us → ∃ u v, us = [u, v] ∧ RelV x u ∧ RelV y v
  | _, _, _, .cons r (.cons q .nil) => ⟨_, _, rfl, r, q⟩
theorem Vals.zero : ∀ {us : List Value}, Vals [] us → us = []
  | _, .nil => rfl
theorem Vals.dropLast {xs : List V} {us : List Value} (h : Vals xs us) : Vals xs.dropLast us.dropLast := by
  induction h with
  | nil => exact .nil
  | cons r t ih =>
    cases t with
    | nil => exact .nil
    | cons q t' => exact .cons r ih
theorem Vals.eraseIdx : ∀ {xs : List V} {us : List Value} (i : Nat), Vals xs us → Vals (xs.eraseIdx i) (us.eraseIdx i)
  | _, _, _, .nil => .nil
  | _, _, 0, .cons _ t => t
  | _, _, i + 1, .cons r t => .cons r (Vals.eraseIdx i t)
theorem Vals.reverse {xs : List V} {us : List Value} (h : Vals xs us) : Vals xs.reverse us.reverse := by
  induction h with
  | nil => exact .nil
  | cons r t ih => rw [List.reverse_cons, List.reverse_cons]; exact Vals.append ih (.cons r .nil)
theorem Vals.rep {xs : List V} {us : List Value} (h : Vals xs us) : ∀ k : Nat, Vals (List.replicate k xs).flatten (List.replicate k us).flatten
  | 0 => .nil
  | k + 1 => by
    rw [List.replicate_succ, List.replicate_succ, List.flatten_cons, List.flatten_cons]
    exact Vals.append h (Vals.rep h k)
theorem erase_last {α : Type} (l : List α) : l.eraseIdx (l.length - 1) = l.dropLast := by
  induction l with
  | nil => rfl
  | cons a r ih =>
    cases r with
    | nil => rfl
    | cons b r =>
      have e : (a :: b :: r).length - 1 = ((b :: r).length - 1) + 1 := by
        have h1 : (a :: b :: r).length = r.length + 2 := rfl
        have h2 : (b :: r).length = r.length + 1 := rfl
        omega
      rw [e, List.eraseIdx_cons_succ, ih]
      all_goals rfl
theorem len_erase {α : Type} : ∀ (l : List α) (i : Nat), (l.eraseIdx i).length ≤ l.length
  | [], _ => Nat.le_refl _
  | _ :: _, 0 => Nat.le_succ _
  | _ :: r, i + 1 => Nat.succ_le_succ (len_erase r i)
theorem foldl_rep (its : List Value) : ∀ (k : Nat) (acc : List Value),
    List.foldl (fun x1 x2 => x1 ++ x2) acc.toArray (List.replicate k its.toArray) = (acc ++ (List.replicate k its).flatten).toArray
  | 0, acc => by simp
  | k + 1, acc => by
    have e : acc.toArray ++ its.toArray = (acc ++ its).toArray := by simp
    have e2 : (acc ++ its) ++ (List.replicate k its).flatten = acc ++ (List.replicate (k + 1) its).flatten := by
      rw [List.replicate_succ, List.flatten_cons, List.append_assoc]
    rw [← e2, ← foldl_rep its k (acc ++ its), ← e, List.replicate_succ, List.foldl_cons]

section
variable {X : Cx} {pins : List (Addr × Obj)} {σ : St} {H : Hp} {s : Shared} {l b : Addr} {xs ys zs : List V}

/-! ### the two steps: a tracked list is rewritten, a new list is laid -/
theorem Inv.lset {its its' : List Value} {n : Nat} {f : Array Value → Array Value} {t' : Nat} (I : Inv X pins σ H s) (hH : H l = some (.lst xs))
    (e : s.heap.get? l = some { cls := .type "list", data := .seq its.toArray n }) (hf : f its.toArray = its'.toArray) (hv : Vals ys its') (hz : ys.length ≤ sizeLine) :
    Inv X pins σ (upd H l (.lst ys)) { s with heap := s.heap.update l (Obj.mapSeq f), toks := t' } := by
  have q := PySem.IsL.update e f
  rw [hf] at q
  refine I.write (x := l) (e := l) (by rw [hH]; exact trivial) (.inl rfl) (fun b' u hb hu => (Heap.get?_update_other s.heap (Obj.mapSeq f) (Ne.symm hb)).trans hu) ⟨_, q⟩ ?_
  exact ⟨hz, its', _, hv, q⟩
theorem Inv.lnew {its : List Value} {t' : Nat} (I : Inv X pins σ H s) (hv : Vals ys its) (hz : ys.length ≤ sizeLine) :
    Inv X pins σ (upd H s.heap.objs.size (.lst ys)) { s with heap := s.heap.push { cls := .type "list", data := .seq its.toArray }, toks := t' } :=
  I.laid (fun _ _ q => Heap.get?_push_of_some _ q) (Nat.le_refl _) ⟨hz, its, 0, hv, Heap.get?_push_size _ rfl⟩
theorem Inv.fresh (I : Inv X pins σ H s) : H s.heap.objs.size = none := I.hok.fresh (Nat.le_refl _)
theorem Inv.lstM (I : Inv X pins σ H s) (hH : H l = some (.lst xs)) : xs.length ≤ sizeLine ∧ ∃ (its : List Value) (n : Nat), Vals xs its ∧ xs.length = its.length ∧ s.heap.get? l = some { cls := .type "list", data := .seq its.toArray n } := by
  obtain ⟨z, its, n, r, e⟩ := I.hok l _ hH
  exact ⟨z, its, n, r, r.length, e⟩

theorem notLongL {n : Nat} (h : n ≤ sizeLine) : Builtin.List.listTooLong n = false := by
  unfold Builtin.List.listTooLong
  exact decide_eq_false (by omega)
end

section
variable {X : Cx}

/-! ### methods -/
def rAppend : V → List V → Hp → VK → Prop := fun x vs H Q => ∃ l xs y, x = .ref l ∧ vs = [y] ∧ H l = some (.lst xs) ∧ xs.length < sizeLine ∧ Q .non (upd H l (.lst (xs ++ [y])))
theorem mt_append : MtM X "list.append" rAppend := by
  intro pins s σ H x vs v us Q I rx rv h
  obtain ⟨l, xs, y, rfl, rfl, hH, hz, q⟩ := h
  cases rx
  obtain ⟨u, rfl, ru⟩ := rv.one
  obtain ⟨z, its, n, r, hl, e⟩ := I.lstM hH
  refine call_meets F.slot_list_append ⟨_, e, rfl⟩ F.entry_list_append (F.args_list_append_2 _ _) (PySem.list_append l its.toArray n u (by rw [List.size_toArray]; omega)) ⟨e, ?_⟩
  refine ⟨.non, _, I.lset (its' := its ++ [u]) hH e (by simp) (r.append (.cons ru .nil)) ?_, rfl, q⟩
  rw [List.length_append, List.length_singleton]
  omega

def rExtend : V → List V → Hp → VK → Prop := fun x vs H Q => ∃ l b xs zs, x = .ref l ∧ vs = [.ref b] ∧ H l = some (.lst xs) ∧ H b = some (.lst zs) ∧ xs.length + zs.length ≤ sizeLine ∧ Q .non (upd H l (.lst (xs ++ zs)))
theorem mt_extend : MtM X "list.extend" rExtend := by
  intro pins s σ H x vs v us Q I rx rv h
  obtain ⟨l, b, xs, zs, rfl, rfl, hH, hB, hz, q⟩ := h
  cases rx
  obtain ⟨u, rfl, ru⟩ := rv.one
  cases ru
  obtain ⟨z, its, n, r, hl, e⟩ := I.lstM hH
  obtain ⟨z2, its2, n2, r2, hl2, e2⟩ := I.lstM hB
  have hsz : its.toArray.size + its2.toArray.size ≤ sizeLine := by rw [List.size_toArray, List.size_toArray]; omega
  have hlong : ¬ (!its.toArray.isEmpty && Builtin.List.listTooLong (its.toArray.size + its2.toArray.size)) = true := by
    rw [notLongL hsz, Bool.and_false]
    exact Bool.false_ne_true
  refine call_meets F.slot_list_extend ⟨_, e, rfl⟩ F.entry_list_extend (F.args_list_extend_2 _ _)
    (AutoSeq1.list_extend_list_list_0 l its.toArray n b its2.toArray n2 hlong (by rw [List.size_toArray]; omega) (by omega)) ⟨e, e2, ?_⟩
  refine ⟨.non, _, I.lset (its' := its ++ its2) hH e (by simp) (r.append r2) ?_, rfl, q⟩
  rw [List.length_append]
  omega

def rPop : V → List V → Hp → VK → Prop := fun x vs H Q => ∃ l xs y, x = .ref l ∧ vs = [] ∧ H l = some (.lst xs) ∧ xs[xs.length - 1]? = some y ∧ Q y (upd H l (.lst xs.dropLast))
theorem mt_pop : MtM X "list.pop" rPop := by
  intro pins s σ H x vs v us Q I rx rv h
  obtain ⟨l, xs, y, rfl, rfl, hH, hy, q⟩ := h
  cases rx
  have hus := rv.zero
  subst hus
  obtain ⟨z, its, n, r, hl, e⟩ := I.lstM hH
  obtain ⟨u, hu, ru⟩ := r.get hy
  have hy' : its.toArray[its.toArray.size - 1]? = some u := by
    show its.toArray[its.length - 1]? = some u
    rw [← Array.getElem?_toList, ← hl]
    exact hu
  refine call_meets F.slot_list_pop ⟨_, e, rfl⟩ F.entry_list_pop (F.args_list_pop_1 _) (MeetsSeq.list_pop_last l its.toArray n u hy' (by rw [List.size_toArray]; omega)) ⟨e, ?_⟩
  refine ⟨y, _, I.lset (its' := its.dropLast) hH e ?_ r.dropLast ?_, ru, q⟩
  · show its.toArray.eraseIdxIfInBounds (its.toArray.size - 1) = its.dropLast.toArray
    rw [List.size_toArray, List.eraseIdxIfInBounds_toArray, erase_last]
  · rw [List.length_dropLast]
    omega

def rPopAt : V → List V → Hp → VK → Prop := fun x vs H Q => ∃ l xs i k y, x = .ref l ∧ vs = [.int i] ∧ H l = some (.lst xs) ∧ -(2 ^ 63) ≤ i ∧ i < 2 ^ 63 ∧ seqIndex? i xs.length = some k ∧ xs[k]? = some y ∧ Q y (upd H l (.lst (xs.eraseIdx k)))
theorem mt_popAt : MtM X "list.pop" rPopAt := by
  intro pins s σ H x vs v us Q I rx rv h
  obtain ⟨l, xs, i, k, y, rfl, rfl, hH, h1, h2, hk, hy, q⟩ := h
  cases rx
  obtain ⟨u, rfl, ru⟩ := rv.one
  obtain ⟨t, rfl⟩ := ru
  obtain ⟨z, its, n, r, hl, e⟩ := I.lstM hH
  obtain ⟨w, hw, rw'⟩ := r.get hy
  refine call_meets F.slot_list_pop ⟨_, e, rfl⟩ F.entry_list_pop (F.args_list_pop_2 _ _)
    (MeetsSeq.list_pop_at l its.toArray n i t k w (fitsIndex_both h1 h2) (by rw [List.size_toArray, ← hl]; exact hk) (by rw [← Array.getElem?_toList]; exact hw) (by rw [List.size_toArray]; omega)) ⟨e, ?_⟩
  refine ⟨y, _, I.lset (its' := its.eraseIdx k) hH e ?_ (r.eraseIdx k) ?_, rw', q⟩
  · show its.toArray.eraseIdxIfInBounds k = (its.eraseIdx k).toArray
    rw [List.eraseIdxIfInBounds_toArray]
  · have := len_erase xs k
    omega

def rReverse : V → List V → Hp → VK → Prop := fun x vs H Q => ∃ l xs, x = .ref l ∧ vs = [] ∧ H l = some (.lst xs) ∧ Q .non (upd H l (.lst xs.reverse))
theorem mt_reverse : MtM X "list.reverse" rReverse := by
  intro pins s σ H x vs v us Q I rx rv h
  obtain ⟨l, xs, rfl, rfl, hH, q⟩ := h
  cases rx
  have hus := rv.zero
  subst hus
  obtain ⟨z, its, n, r, hl, e⟩ := I.lstM hH
  refine call_meets F.slot_list_reverse ⟨_, e, rfl⟩ F.entry_list_reverse (F.args_list_reverse_1 _) (AutoSeq1.list_reverse_list_0 l its.toArray n (by rw [List.size_toArray]; omega)) ⟨e, ?_⟩
  refine ⟨.non, _, I.lset (its' := its.reverse) hH e (by simp) r.reverse ?_, rfl, q⟩
  rw [List.length_reverse]
  omega

def rClear : V → List V → Hp → VK → Prop := fun x vs H Q => ∃ l xs, x = .ref l ∧ vs = [] ∧ H l = some (.lst xs) ∧ Q .non (upd H l (.lst []))
theorem mt_clear : MtM X "list.clear" rClear := by
  intro pins s σ H x vs v us Q I rx rv h
  obtain ⟨l, xs, rfl, rfl, hH, q⟩ := h
  cases rx
  have hus := rv.zero
  subst hus
  obtain ⟨z, its, n, r, hl, e⟩ := I.lstM hH
  refine call_meets F.slot_list_clear ⟨_, e, rfl⟩ F.entry_list_clear (F.args_list_clear_1 _) (AutoSeq1.list_clear_list_0 l its.toArray n (by rw [List.size_toArray]; omega)) ⟨e, ?_⟩
  exact ⟨.non, _, I.lset (its' := []) (ys := []) hH e rfl .nil (Nat.zero_le _), rfl, q⟩

/-! ### list + list, list += list, list * int -/
def rCat : R2 := fun x y H Q => ∃ l b xs zs, x = .ref l ∧ y = .ref b ∧ H l = some (.lst xs) ∧ H b = some (.lst zs) ∧ xs.length + zs.length ≤ sizeLine ∧ ∀ p, H p = none → Q (.ref p) (upd H p (.lst (xs ++ zs)))
theorem op_cat : OpR X (binaryOp .Add) rCat := by
  intro pins s σ H x y v u Q I rx ry h
  obtain ⟨l, b, xs, zs, rfl, rfl, hH, hB, hz, q⟩ := h
  cases rx
  cases ry
  obtain ⟨z, its, n, r, hl, e⟩ := I.lstM hH
  obtain ⟨z2, its2, n2, r2, hl2, e2⟩ := I.lstM hB
  refine PySem.P.add_list e e2 ?_ (by rw [List.size_toArray, List.size_toArray]; omega)
  have ea : its.toArray ++ its2.toArray = (its ++ its2).toArray := by simp
  rw [ea]
  exact ⟨.ref _, _, I.lnew (t' := s.toks) (r.append r2) (by rw [List.length_append]; omega), rfl, q _ I.fresh⟩
/-- a list times an int (a negative one is nothing) -/
def rRep : R2 := fun x y H Q => ∃ l k xs, x = .ref l ∧ y = .int k ∧ H l = some (.lst xs) ∧ -(2 ^ 63) ≤ k ∧ k < 2 ^ 63 ∧ xs.length * k.toNat ≤ sizeLine ∧
  ∀ p, H p = none → Q (.ref p) (upd H p (.lst (List.replicate k.toNat xs).flatten))
theorem len_rep {α : Type} (xs : List α) (k : Nat) : (List.replicate k xs).flatten.length = k * xs.length := by
  induction k with
  | zero => simp
  | succ k ih => rw [List.replicate_succ, List.flatten_cons, List.length_append, ih, Nat.succ_mul, Nat.add_comm]
theorem op_rep : OpR X (binaryOp .Mult) rRep := by
  intro pins s σ H x y v u Q I rx ry h
  obtain ⟨l, k, xs, rfl, rfl, hH, h1, h2, hz, q⟩ := h
  cases rx
  obtain ⟨t, rfl⟩ := ry
  obtain ⟨z, its, n, r, hl, e⟩ := I.lstM hH
  have hlen : its.toArray.size * k.toNat ≤ sizeLine := by rw [List.size_toArray, ← hl]; exact hz
  have hcap : ¬ its.toArray.size * k.toNat > (2 ^ 63 - 1) / 8 := by
    have : (sizeLine : Nat) ≤ (2 ^ 63 - 1) / 8 := by decide
    omega
  have hfit : ¬ (!Builtin.List.listFitsIndex k) = true := by
    rw [fitsIndex_both h1 h2]
    exact Bool.false_ne_true
  have hlong : ¬ Builtin.List.listTooLong (its.toArray.size * k.toNat) = true := by
    rw [notLongL hlen]
    exact Bool.false_ne_true
  have hnew : List.foldl (fun x1 x2 => x1 ++ x2) #[] (List.replicate (if its.toArray.isEmpty = true then 0 else k.toNat) its.toArray) = (List.replicate k.toNat its).flatten.toArray := by
    have f0 : ∀ m : Nat, List.foldl (fun x1 x2 => x1 ++ x2) #[] (List.replicate m its.toArray) = (List.replicate m its).flatten.toArray := fun m => by
      have := foldl_rep its m []
      rw [List.nil_append] at this
      exact this
    rw [f0]
    cases its with
    | nil => simp
    | cons a r' => rw [if_neg (by simp)]
  refine wpAny_binaryOp_repeat_ref (T := "list") (U := "int") (by decide) ⟨_, e, rfl⟩ (fun s' => typeIs_int s' k t) noFill_list_mul F.fills_int_mul F.slot_int_rmul repeat_list F.slot_int_index.lookup
    (call_meets F.slot_int_rmul (typeIs_int s k t) F.entry_int_rmul (F.args_int_rmul_2 _ _) (int___rmul___int_list k t l its.toArray n)
      ⟨e, rfl, ⟨_, e, rfl⟩, call_meets F.slot_list_mul ⟨_, e, rfl⟩ F.entry_list_mul (F.args_list_mul_2 _ _) (AutoListH.list___mul___list_int_3 l its.toArray n k t hfit hcap hlong) ⟨e, ?_⟩⟩)
  rw [hnew]
  exact ⟨.ref _, _, I.lnew (t' := s.toks) (r.rep k.toNat) (by rw [len_rep, Nat.mul_comm]; exact hz), rfl, q _ I.fresh⟩

/-! ### del xs[i] -/
theorem del_list {pins : List (Addr × Obj)} {s : Shared} {σ : St} {H : Hp} {l : Addr} {xs : List V} {i : Int} {t : Tok} {k : Nat} {Q : Unit → Shared → Prop} (I : Inv X pins σ H s) (hH : H l = some (.lst xs))
    (h1 : -(2 ^ 63) ≤ i) (h2 : i < 2 ^ 63) (hk : seqIndex? i xs.length = some k) (h : ∀ s', Inv X pins σ (upd H l (.lst (xs.eraseIdx k))) s' → Q () s') :
    wpAny (model X.prog X.w) X.A (delItem (.ref l) (.int i t)) Q X.xe s := by
  obtain ⟨z, its, n, r, hl, e⟩ := I.lstM hH
  refine PySem.P.delItem_list (k := k) e (fitsIndex_both h1 h2) (by rw [List.size_toArray, ← hl]; exact hk) (h _ ?_) (by rw [List.size_toArray]; omega)
  refine I.lset (its' := its.eraseIdx k) (t' := s.toks) hH e ?_ (r.eraseIdx k) ?_
  · show its.toArray.eraseIdxIfInBounds k = (its.eraseIdx k).toArray
    rw [List.eraseIdxIfInBounds_toArray]
  · have := len_erase xs k
    omega
end

/-! ### xs[a:b] = ys -/
section
variable {prog : Program} {w : World} {A : Around} {E : Value → Shared → Prop} {s : Shared}
theorem splice_eq (its its2 : List Value) (a c : Nat) : its.toArray.extract 0 a ++ its2.toArray ++ its.toArray.extract c its.toArray.size = (its.take a ++ its2 ++ its.drop c).toArray := by
  apply Array.toList_inj.mp
  first
    | (simp
       exact List.take_of_length_le (by simp))
    | simp [List.take_of_length_le]
    | simp
theorem bounds_run {a c n : Nat} (hac : a ≤ c) (hc : c ≤ n) : sliceBounds (some (a : Int)) (some (c : Int)) none n = ((a : Int), (c : Int), 1) := by
  simp only [sliceBounds, Option.getD_none]
  have h1 : ¬ ((a : Int) < 0) := by omega
  have h2 : ¬ ((c : Int) < 0) := by omega
  simp only [h1, h2, if_false, show (1 : Int) > 0 by decide, if_true]
  congr 1
  · omega
  · congr 1; omega
set_option maxRecDepth 100000 in
/-- list.__setitem__ with a slice of step one and another list -/
theorem setItem_slice {l b sl : Addr} {items new : Array Value} {n n2 : Nat} {vl vu : Value} {a c : Nat} {Q : Unit → Shared → Prop}
    (e : s.heap.get? l = some { cls := .type "list", data := .seq items n }) (e2 : s.heap.get? b = some { cls := .type "list", data := .seq new n2 }) (hne : l ≠ b)
    (hs : s.heap.IsSliceOf sl vl vu .none) (pl : IsPart vl (some (a : Int))) (pu : IsPart vu (some (c : Int))) (hac : a ≤ c) (hc : c ≤ items.size)
    (hsz : items.size + new.size ≤ sizeLine) (h : Q () { s with heap := s.heap.update l (Obj.mapSeq fun xs => xs.extract 0 a ++ new ++ xs.extract c xs.size) }) :
    wpAny (model prog w) A (setItem (.ref l) (.ref sl) (.ref b)) Q E s := by
  have hl : s.heap.IsList l items := PySem.IsL.isList e
  have hb : s.heap.IsList b new := PySem.IsL.isList e2
  obtain ⟨os, hos, hcs, hds⟩ := id hs
  have hTs : s.TypeIs (.ref sl) "slice" := ⟨os, hos, hcs⟩
  have hstep : ¬ ((rawPart none == rawInt 0) = true) := Bool.false_ne_true
  have hsame : Builtin.List.listSameRef (.ref l) (.ref b) = false := by
    unfold Builtin.List.listSameRef
    exact beq_eq_false_iff_ne.mpr hne
  have hmax : (max (a : Int) (c : Int)).toNat = c := by omega
  have hz' : ((fun xs : Array Value => xs.extract 0 a ++ new ++ xs.extract c xs.size) items).size ≤ sizeLine + 1 := by
    simp only [Array.size_append, Array.size_extract]
    omega
  unfold setItem
  try with_reducible refine wpAny_holding ?_
  first | refine wpAny_bind (wpAny_pure ?_) | skip
  refine wpAny_bind (wpAny_sequenceKey hl.typeIs (by decide) ?_)
  refine wpAny_bind (wpAny_callSpecial?_slot (name := Str.ofString "__setitem__") hl.typeIs slot_list_setitem
    (wpAny_call_entry slot_list_setitem hl.typeIs entry_list_setitem ?_ (args_list_setitem _ _ _)))
  show wpAny _ _ (Builtin.List.listSubscript? (.ref sl) >>= _) _ _ s
  refine wpAny_bind ?_
  unfold Builtin.List.listSubscript?
  refine wpAny_bind (wpAny_specialOf hTs slice_no_index ?_)
  simp only [Option.isNone_none, if_true]
  refine wpAny_pure ?_
  show wpAny _ _ (typeOf (.ref sl) >>= _) _ _ s
  refine wpAny_bind (wpAny_typeOf hTs ?_)
  first
    | rw [if_neg (by decide)]
    | refine PySem.W.KFB.if_not (by decide) ?_
  rw [listSliceParts_eq]
  refine wpAny_bind (wpAny_bind (wpAny_field hos hds (x := .none) rfl (wpAny_bind (wpAny_listPart .none ?_))))
  rw [if_neg hstep]
  refine wpAny_bind (wpAny_field hos hds (x := vl) rfl (wpAny_bind (wpAny_listPart pl ?_)))
  refine wpAny_bind (wpAny_field hos hds (x := vu) rfl (wpAny_bind (wpAny_listPart pu (wpAny_pure ?_))))
  first
    | simp only [hsame, Bool.false_eq_true, if_false]
    | refine PySem.W.KFB.if_not hsame ?_
    | (dsimp only
       rw [if_neg (by rw [hsame]; exact Bool.false_ne_true)])
  refine wpAny_bind (m := Builtin.List.listAllItems (.ref b) "must assign iterable to extended slice") ?_
  unfold Builtin.List.listAllItems
  refine wpAny_bind (wpAny_typeOf hb.typeIs ?_)
  first
    | refine PySem.W.KFB.if_so (by decide) ?_
    | rw [if_pos (by decide)]
    | simp only [beq_self_eq_true, Bool.true_or, if_true]
  unfold Builtin.List.listItems
  refine wpAny_bind (wpAny_seqItems e2 rfl (wpAny_pure ?_))
  refine wpAny_bind (wpAny_bind (wpAny_seqItems e rfl (wpAny_pure ?_)))
  refine wpAny_bind (wpAny_of_eq ((sliceIndices_raw (some (a : Int)) (some (c : Int)) none items.size (by simp)).trans (congrArg (pure : Int × Int × Int → Sem (Int × Int × Int)) (bounds_run hac hc))) ?_)
  show wpAny _ _ (if ((1 : Int) == 1) = true then _ else _) _ _ s
  rw [if_pos (by decide)]
  refine wpAny_bind (wpAny_rule ?_)
  first
    | simp only [notLongL hsz, Bool.false_eq_true, if_false]
    | refine PySem.W.KFB.if_not (notLongL hsz) ?_
  first | refine wpAny_bind (wpAny_pure ?_) | skip
  show wpAny _ _ (updateSeq l (fun xs => xs.extract 0 ((a : Int)).toNat ++ new ++ xs.extract (max (a : Int) (c : Int)).toNat xs.size) >>= _) _ _ s
  rw [hmax, Int.toNat_natCast]
  refine wpAny_bind (wpAny_updateSeq (hz := Nat.le_trans (Nat.le_add_right _ _) hsz) (_hz' := hz') e rfl ?_)
  refine wpAny_bind (wpAny_letGo ?_)
  first
    | exact wpAny_bind (wpAny_pure (wpAny_pure ⟨.none, rfl, wpAny_pure h⟩))
    | exact wpAny_pure ⟨.none, rfl, wpAny_pure h⟩
end

section
variable {X : Cx}
/-- xs[a:c] = ys of another list, at the value level: sl is the slice object that was just made -/
theorem set_slice {pins : List (Addr × Obj)} {s : Shared} {σ : St} {H : Hp} {l b sl : Addr} {xs ys : List V} {a c : Int} {vl vu : Value} {Q : Unit → Shared → Prop} (I : Inv X pins σ H s)
    (hH : H l = some (.lst xs)) (hB : H b = some (.lst ys)) (hne : l ≠ b) (hs : s.heap.IsSliceOf sl vl vu .none) (ra : RelV (.int a) vl) (rc : RelV (.int c) vu) (h0 : 0 ≤ a) (hac : a ≤ c) (hc : c ≤ xs.length)
    (hz : xs.length + ys.length ≤ sizeLine) (h : ∀ s', Inv X pins σ (upd H l (.lst (xs.take a.toNat ++ ys ++ xs.drop c.toNat))) s' → Q () s') :
    wpAny (model X.prog X.w) X.A (setItem (.ref l) (.ref sl) (.ref b)) Q X.xe s := by
  obtain ⟨ta, rfl⟩ := ra
  obtain ⟨tc, rfl⟩ := rc
  obtain ⟨z, its, n, r, hl, e⟩ := I.lstM hH
  obtain ⟨z2, its2, n2, r2, hl2, e2⟩ := I.lstM hB
  obtain ⟨a', rfl⟩ := Int.eq_ofNat_of_zero_le h0
  obtain ⟨c', rfl⟩ := Int.eq_ofNat_of_zero_le (Int.le_trans h0 hac)
  simp only [Int.toNat_natCast] at h
  refine setItem_slice (a := a') (c := c') e e2 hne hs (.int _ _) (.int _ _) (by omega) (by rw [List.size_toArray]; omega) (by rw [List.size_toArray, List.size_toArray]; omega) (h _ ?_)
  refine I.lset (its' := its.take a' ++ its2 ++ its.drop c') (t' := s.toks) hH e ?_ (Vals.append (Vals.append (r.take _) r2) (r.drop _)) ?_
  · exact splice_eq its its2 a' c'
  · rw [List.length_append, List.length_append, List.length_take, List.length_drop]
    omega
end
end L2

namespace Att
open PySem PySem.W PySem.Calls PyProof.Rows

/-! ### the script -/
theorem ints_of_wellAll {P : Params} {h : Heap} : ∀ (ns : List Int) (vs : List Value), WellAll P h vs (ns.map WData.int) → IntsAre vs ns := by
  intro ns
  induction ns with
  | nil =>
    intro vs w
    rw [List.map_nil] at w
    cases w
    exact .nil
  | cons n ns ih =>
    intro vs w
    rw [List.map_cons] at w
    cases w with
    | cons a b =>
      cases a
      exact .cons _ _ (ih _ b)

theorem script_of {l : OpenLaw} {n : Nat} (hn : l.most = some n) {P : Params} {h : Heap} {args : List WData} {vals : List Value}
    (hpre : l.row.toRowW.claim.pre args = true) (hwl : WellAll P h vals args) :
    ∃ a vs ns, vals = [Value.ref a] ∧ args = [WData.list (ns.map WData.int)] ∧ h.get? a = some { cls := .type "list", data := .seq vs.toArray } ∧ IntsAre vs ns ∧ ns.length ≤ n := by
  have hsh : WShape.hasAll [] args [.list .int] = true := (pre_splitW hpre).1
  have hc : l.pre.holds [] { args := args } = true := (pre_splitW hpre).2
  obtain ⟨d, r, rfl, h1, h2⟩ := hasAllW_cons hsh
  obtain rfl := hasAllW_nil h2
  obtain ⟨xs, rfl, h3⟩ := hasW_list h1
  obtain ⟨ns, rfl⟩ := items_int h3
  have hlen : ns.length ≤ n := by
    unfold OpenLaw.pre at hc
    have h4 : (WTm.not (.lt (.lit (.int (n : Int))) (.len (.arg 0)))).holds [] { args := [.list (ns.map .int)] } = true := by
      have h4 := (holds_andW hc).1
      rw [hn] at h4
      exact h4
    have h5 := condW_of h4 (w_not (w_lt w_lit (w_len_list (w_arg rfl))))
    rw [List.length_map] at h5
    refine Nat.le_of_not_lt fun q => ?_
    have q' : (n : Int) < ((ns.length : Nat) : Int) := by omega
    first
      | (rw [decide_eq_true q'] at h5; exact absurd h5 (by decide))
      | (simp at h5; omega)
  cases hwl with
  | cons w1 w2 =>
    cases w2
    cases w1 with
    | list ho hall => exact ⟨_, _, ns, rfl, rfl, ho, ints_of_wellAll ns _ hall, hlen⟩

theorem post_true (l : OpenLaw) (args : List WData) : l.row.toRowW.claim.post args (.bool true) args = true :=
  postW_of (r := l.row.toRowW) (X := (true == true))
    (show WShape.has [] (.bool true) .bool = true by first | rfl | decide | simp [WShape.has, WShape.arms, WShape.armsAll])
    (show (WTm.eq .res (.lit (.bool true))).value [] { args := args, res := some (.bool true), after := args } = some (.bool (true == true)) from w_eq_bool (w_res rfl) w_lit) rfl

/-! ### the attachment: holds_open's last premise (the goal 'hc' behind k_head) from a wpAny of the law's body -/
theorem attach {l : OpenLaw} {n : Nat} {q : Program} {loose : List Str} {XP : (Str → Option Value) → Heap → Prop} {YP : World → Heap → Prop} {d : DefRec} {x : Str}
    (hn : l.most = some n) (hdf : d.params.defaults = [])
    (hbind : ∀ pm cd doc v : Value, bindArgs (docDef d.name d.params d.body d.scope pm cd doc) ⟨[v], []⟩ = pure [(x, v)])
    (hx : d.scope.names.lookup x = some .local ∨ d.scope.names.lookup x = some .cell)
    (hk : d.scope.kind = .function) (hco : d.scope.isCoroutine = false) (hgen : d.scope.isGenerator = false)
    (body : ∀ (w : World) (s₀ s₁ s : Shared) (mg mb : Str → Option Value) (fa : Addr) (o : Obj) (pm cd doc : Value) (a : Addr) (vs : List Value) (ns : List Int),
      Ground q loose [] XP w s₀ mg mb s₁.heap → YP w s₁.heap →
      s₁.heap.get? fa = some o → o.data = .func (docDef d.name d.params d.body d.scope pm cd doc) → s₁.heap.CodeRec cd d.name → mg d.name = some (.ref fa) →
      s₁.heap.get? a = some { cls := .type "list", data := .seq vs.toArray } → IntsAre vs ns → ns.length ≤ n →
      s.gens = #[] → s.os = s₁.os →
      Fr s₁.heap s₁.heap.objs.size s.heap (bindL (envOfC d.name d.scope s₁.heap.objs.size fa cd).kindOf [(x, .ref a)] fun _ => none) →
      Cl s₁.heap.objs.size (cellsFrom (s₁.heap.objs.size + 1) d.scope.names []) s.heap (bindC (envOfC d.name d.scope s₁.heap.objs.size fa cd).kindOf [(x, .ref a)] fun _ => none) →
      wpAny (model l.prog w) (callerA.deeper (envOfC d.name d.scope s₁.heap.objs.size fa cd)) (execs d.body (envOfC d.name d.scope s₁.heap.objs.size fa cd))
        (fun f s' => f = .ret (.bool true) ∧ OldK s₁.heap s'.heap ∧ s'.os = s₁.os ∧ AllBare s'.gens) (fun _ _ => False) s) :
    WalkO q loose XP YP l.row.toRowW d [] (fun f vs => PySem.call f vs) := by
  intro w s₀ s₁ mg mb G Y fa o pm cd doc dV kV ho hd hcd hD hmg hg args vals as hpre hlay hrd hwl hlo
  obtain rfl : dV = .none := Dflts.none hD hdf
  obtain rfl : kV = .none := Dflts.noKw hD
  obtain ⟨a, vs, ns, rfl, rfl, hobj, hints, hlen⟩ := script_of hn hpre hwl
  refine enter_call ?_
  refine call_cells_ret (o := o) (by rw [depth_caller]; decide) ho (fd_plain hd) G.T.nolimit hcd (hbind pm cd doc (.ref a)) (fun y hy => ?_) (fun h₁ tk F X => ?_) hco hgen hk
  · obtain rfl : y = (x, Value.ref a) := List.mem_singleton.mp hy
    rcases hx with e | e
    · exact .inl e
    · exact .inr ⟨e, cellsFrom_some _ _ _ (.inl e)⟩
  · refine wpAny_mono (body w s₀ s₁ { s₁ with heap := h₁, toks := tk } mg mb fa o pm cd doc a vs ns G Y ho (fd_plain hd) hcd hmg hobj hints hlen hg rfl F X) (fun f s' hq => ?_) (fun _ _ hq => hq)
    obtain ⟨rfl, h2, h3, h4⟩ := hq
    exact ⟨.inl ⟨.bool true, .bool true, [], rfl, fun _ => rfl, .bool true, post_true l _, fun _ => ⟨List.Pairwise.nil, fun _ hm => (nomatch hm)⟩⟩, h2, h3, h4⟩

/-- the same from a codeAny of the CALL (for a layer whose function contracts speak of calls) -/
theorem attach_call {l : OpenLaw} {n : Nat} {q : Program} {loose : List Str} {XP : (Str → Option Value) → Heap → Prop} {YP : World → Heap → Prop} {d : DefRec}
    (hn : l.most = some n) (hdf : d.params.defaults = [])
    (call : ∀ (w : World) (s₀ s₁ : Shared) (mg mb : Str → Option Value) (fa : Addr) (o : Obj) (pm cd doc : Value) (a : Addr) (vs : List Value) (ns : List Int),
      Ground q loose [] XP w s₀ mg mb s₁.heap → YP w s₁.heap →
      s₁.heap.get? fa = some o → o.data = .func (docDef d.name d.params d.body d.scope pm cd doc) → s₁.heap.CodeRec cd d.name → mg d.name = some (.ref fa) →
      s₁.heap.get? a = some { cls := .type "list", data := .seq vs.toArray } → IntsAre vs ns → ns.length ≤ n → s₁.gens = #[] →
      codeAny (model l.prog w) callerA (.call (.ref fa) ⟨[.ref a], []⟩) (fun r s' => r = .ok (.ret (.bool true)) ∧ OldK s₁.heap s'.heap ∧ s'.os = s₁.os ∧ AllBare s'.gens) s₁) :
    WalkO q loose XP YP l.row.toRowW d [] (fun f vs => PySem.call f vs) := by
  intro w s₀ s₁ mg mb G Y fa o pm cd doc dV kV ho hd hcd hD hmg hg args vals as hpre hlay hrd hwl hlo
  obtain rfl : dV = .none := Dflts.none hD hdf
  obtain rfl : kV = .none := Dflts.noKw hD
  obtain ⟨a, vs, ns, rfl, rfl, hobj, hints, hlen⟩ := script_of hn hpre hwl
  refine enter_call (codeAny_mono (call w s₀ s₁ mg mb fa o pm cd doc a vs ns G Y ho (fd_plain hd) hcd hmg hobj hints hlen hg) fun r s' hq => ?_)
  obtain ⟨rfl, h2, h3, h4⟩ := hq
  exact ⟨.inl ⟨.bool true, .bool true, [], rfl, fun _ => rfl, .bool true, post_true l _, fun _ => ⟨List.Pairwise.nil, fun _ hm => (nomatch hm)⟩⟩, h2, h3, h4⟩

/-- the same where the top left finished generators (o_head chose holds_openN): nothing may have changed at all and no generator may be left -/
theorem attachN {l : OpenLaw} {n : Nat} {q : Program} {loose : List Str} {XP : (Str → Option Value) → Heap → Prop} {YP : World → Heap → Prop} {d : DefRec} {x : Str}
    (hn : l.most = some n) (hdf : d.params.defaults = [])
    (hbind : ∀ pm cd doc v : Value, bindArgs (docDef d.name d.params d.body d.scope pm cd doc) ⟨[v], []⟩ = pure [(x, v)])
    (hx : d.scope.names.lookup x = some .local ∨ d.scope.names.lookup x = some .cell)
    (hk : d.scope.kind = .function) (hco : d.scope.isCoroutine = false) (hgen : d.scope.isGenerator = false)
    (body : ∀ (w : World) (s₀ s₁ s : Shared) (mg mb : Str → Option Value) (fa : Addr) (o : Obj) (pm cd doc : Value) (a : Addr) (vs : List Value) (ns : List Int),
      Ground q loose [] XP w s₀ mg mb s₁.heap → YP w s₁.heap →
      s₁.heap.get? fa = some o → o.data = .func (docDef d.name d.params d.body d.scope pm cd doc) → s₁.heap.CodeRec cd d.name → mg d.name = some (.ref fa) →
      s₁.heap.get? a = some { cls := .type "list", data := .seq vs.toArray } → IntsAre vs ns → ns.length ≤ n →
      s.gens = #[] → s.os = s₁.os →
      Fr s₁.heap s₁.heap.objs.size s.heap (bindL (envOfC d.name d.scope s₁.heap.objs.size fa cd).kindOf [(x, .ref a)] fun _ => none) →
      Cl s₁.heap.objs.size (cellsFrom (s₁.heap.objs.size + 1) d.scope.names []) s.heap (bindC (envOfC d.name d.scope s₁.heap.objs.size fa cd).kindOf [(x, .ref a)] fun _ => none) →
      wpAny (model l.prog w) (callerA.deeper (envOfC d.name d.scope s₁.heap.objs.size fa cd)) (execs d.body (envOfC d.name d.scope s₁.heap.objs.size fa cd))
        (fun f s' => f = .ret (.bool true) ∧ (∀ b o, s₁.heap.get? b = some o → s'.heap.get? b = some o) ∧ s'.os = s₁.os ∧ s'.gens = #[]) (fun _ _ => False) s) :
    WalkN q loose XP YP l.row.toRowW d [] (fun f vs => PySem.call f vs) := by
  intro w s₀ s₁ mg mb G Y fa o pm cd doc dV kV ho hd hcd hD hmg hg args vals as hpre hlay hrd hwl hlo
  obtain rfl : dV = .none := Dflts.none hD hdf
  obtain rfl : kV = .none := Dflts.noKw hD
  obtain ⟨a, vs, ns, rfl, rfl, hobj, hints, hlen⟩ := script_of hn hpre hwl
  refine enter_callW ?_
  refine call_cells_ret (o := o) (by rw [depth_caller]; decide) ho (fd_plain hd) G.T.nolimit hcd (hbind pm cd doc (.ref a)) (fun y hy => ?_) (fun h₁ tk F X => ?_) hco hgen hk
  · obtain rfl : y = (x, Value.ref a) := List.mem_singleton.mp hy
    rcases hx with e | e
    · exact .inl e
    · exact .inr ⟨e, cellsFrom_some _ _ _ (.inl e)⟩
  · refine wpAny_mono (body w s₀ s₁ { s₁ with heap := h₁, toks := tk } mg mb fa o pm cd doc a vs ns G Y ho (fd_plain hd) hcd hmg hobj hints hlen hg rfl F X) (fun f s' hq => ?_) (fun _ _ hq => hq)
    obtain ⟨rfl, h2, h3, h4⟩ := hq
    exact ⟨.inl ⟨.bool true, .bool true, [], rfl, fun _ => rfl, .bool true, post_true l _, fun _ => ⟨List.Pairwise.nil, fun _ hm => (nomatch hm)⟩⟩, h2, h3, h4⟩

/-! ### rules over ANY heap (no ledger) from facts about the written part K: the library's own take a ledger (News) for what they write -/
section
variable {prog : Program} {w : World} {A : Around} {E : Value → Shared → Prop} {s : Shared} {K : Frag}

/-- a def of the module, or a method (qual 'C.m'), entered: the frame is the next address; cells behind it -/
theorem call_fn {R : Result → Shared → Prop} {name qual : Str} {params : Arguments} {body : List Stmt} {scope : Scope} {dV kV doc pm cdv ct oc : Value} {an od : Option Addr} {osl : Array (Option Value)} {f : Addr} {args : Args} {binds : List (Str × Value)}
    (X : K.In s.heap) (hlim : s.heap.NoLimit) (ho : K.lookup f = some ⟨oc, od, .func (fnOf name qual params body scope dV kV doc pm an cdv ct), osl⟩) (hcd : codeIn K cdv qual = true) (hroom : A.depth < recursionLimit)
    (hbind : BindsTo s (fnOf name qual params body scope dV kV doc pm an cdv ct) args binds)
    (hkind : (binds.all fun y => scope.names.lookup y.1 == some .local || scope.names.lookup y.1 == some .cell) = true)
    (h : ∀ s₁, InCallC s s.heap.objs.size (bindL (envOfC qual scope s.heap.objs.size f cdv).kindOf binds fun _ => none) (cellsFrom (s.heap.objs.size + 1) scope.names [])
        (bindC (envOfC qual scope s.heap.objs.size f cdv).kindOf binds fun _ => none) s₁ →
      wpAny (model prog w) (A.deeper (envOfC qual scope s.heap.objs.size f cdv)) (execs body (envOfC qual scope s.heap.objs.size f cdv))
        (fun fl s' => R (.ok (.ret (match fl with | .ret v => v | _ => .none))) s')
        (fun e s' => wpAny (model prog w) (A.deeper (envOfC qual scope s.heap.objs.size f cdv)) (leaving (envOfC qual scope s.heap.objs.size f cdv) e) (fun _ s'' => R (.error e) s'') (fun e' s'' => R (.error e') s'') s') s₁)
    (hco : scope.isCoroutine = false) (hgen : scope.isGenerator = false) (hk : scope.kind = .function) : codeAny (model prog w) A (.call (.ref f) args) R s := by
  refine codeAny_call_function hroom (X _ _ ho) rfl hco hgen rfl (codeRec_of X hcd) (hbind _ _ _ _ ?_)
  refine wpAny_newFunctionEnv_cells hk (kindsX hkind _) fun env he s₁ x => ?_
  subst he
  exact ⟨hlim.keeps x.toInCall.keep, codeAny_func (h s₁ x)⟩

/-- C(..): dict at size, instance at size + 1, then __init__ -/
theorem make_obj {R : Result → Shared → Prop} {C fI : Addr} {rest : List Value} {kw : List (Str × Value)}
    (X : K.In s.heap) (hm : makesIn K C = true) (hi : findIn K (.ref C) "__init__" = some (some (.ref fI))) (hf : isFn K (.ref fI) = true)
    (h : codeAny (model prog w) (A.under (.builtin "type.__call__" ⟨.ref C :: rest, kw⟩)) (.call (.ref fI) ⟨.ref (s.heap.objs.size + 1) :: rest, kw⟩) (InitBack (s.heap.objs.size + 1) R)
      { s with heap := (s.heap.push emptyDict).push (instObj C s.heap.objs.size) }) : codeAny (model prog w) A (.call (.ref C) ⟨rest, kw⟩) R s := by
  obtain ⟨hh, g, d, t, os⟩ := s
  exact make_core (makes_of X hm) (looks_findIn X hi) (fun self => bind_fn X self (beq_iff_eq.mp hf)) (.inl rfl) h

/-- x.name where the instance's dict holds the name and the class does not -/
theorem get_field {x C : Addr} {ox : Obj} {es : List DictEntry} {n : Nat} {name : Str} {expr : Bool} {v : Value} {Q : Value → Shared → Prop}
    (X : K.In s.heap) (I : PySem.W.InstAt s.heap x ox C (some (dictOf es n))) (hg : plainGet K C name = true) (hh : hasDictIn K C = true) (ha : findIn K (.ref C) name = some none)
    (hl : getL name es = some (some v)) (hv : handedIn v = true) (h : Q v { s with toks := s.toks + 1 }) : wpAny (model prog w) A (getAttr (.ref x) name expr) Q E s :=
  get_value X I (plainGet_of hg).1 (findObj_own hh ha rfl hl) hv h

/-- x.m(..): the method found in the class -/
theorem get_method {x C f : Addr} {ox : Obj} {es : List DictEntry} {n : Nat} {name : Str} {pl : Sem Bool} {Q : Value × List Value → Shared → Prop}
    (X : K.In s.heap) (I : PySem.W.InstAt s.heap x ox C (some (dictOf es n))) (hg : plainGet K C name = true) (hf : findIn K (.ref C) name = some (some (.ref f))) (ht : isFn K (.ref f) = true)
    (hl : getL name es = some none) (h : Q (.ref f, [.ref x]) s) : wpAny (model prog w) A (getMethod (.ref x) name pl) Q E s :=
  method_fn X I (plainGet_of hg).1 (plainGet_of hg).2 hf (beq_iff_eq.mp ht) (by show (lookIn name (dictOf es n)).map _ = _; rw [lookIn_dict, hl]; rfl) h

/-! the whole heap as the ledger: makes every rule that writes through a ledger a rule over any heap -/
def noObjs (h : Heap) : Heap := { h with objs := #[] }
theorem noObjs_get (h : Heap) (b : Addr) : (noObjs h).get? b = none := by
  cases e : (noObjs h).get? b with
  | none => rfl
  | some o => exact absurd (Heap.lt_size e) (Nat.not_lt_zero _)
def ledger (h : Heap) (L d : Addr) : List (Addr × Obj) := (List.range h.objs.size).filterMap fun a => if a = L ∨ a = d then none else (h.get? a).map fun o => (a, o)
theorem mem_ledger {h : Heap} {L d a : Addr} {o : Obj} : (a, o) ∈ ledger h L d ↔ a ≠ L ∧ a ≠ d ∧ h.get? a = some o := by
  unfold ledger
  rw [List.mem_filterMap]
  constructor
  · rintro ⟨b, _, e⟩
    split at e
    · cases e
    · rename_i hb
      obtain ⟨o', ho, e'⟩ := Option.map_eq_some_iff.mp e
      cases e'
      exact ⟨fun q => hb (.inl q), fun q => hb (.inr q), ho⟩
  · rintro ⟨n1, n2, ho⟩
    refine ⟨a, List.mem_range.mpr (Heap.lt_size ho), ?_⟩
    rw [if_neg (show ¬ (a = L ∨ a = d) from fun q => q.elim n1 n2), ho] <;> rfl
theorem news_ledger {h : Heap} {L d : Addr} {od : Obj} (hne : d ≠ L) (ho : h.get? d = some od) : News (noObjs h) L h ([] ++ (d, od) :: ledger h L d) := by
  rintro ⟨a, o⟩ hp
  rcases List.mem_cons.mp hp with e | hp
  · cases e
    exact ⟨ho, hne, noObjs_get _ _⟩
  · obtain ⟨n1, n2, e⟩ := mem_ledger.mp hp
    exact ⟨e, n1, noObjs_get _ _⟩
theorem fr_all {h : Heap} {L : Addr} {m : Str → Option Value} (n : h.Ns L m) : Fr (noObjs h) L h m :=
  ⟨n, fun b o e => (by rw [noObjs_get] at e; cases e), Nat.zero_le _⟩
/-- Upd of the head entry (for append_K, setItem_K ..) -/
theorem upd_ledger {h : Heap} {L d : Addr} {o o' : Obj} : Upd d o o' ((d, o) :: ledger h L d) ((d, o') :: ledger h L d) :=
  .head fun ⟨_, _⟩ hp => (mem_ledger.mp hp).2.1

/-- x.name = v over any heap: L is any namespace of the heap (the frame's, say): its map stays, its object is not told; all else but the dict stays -/
theorem set_field {x C dx L : Addr} {ox : Obj} {m : Str → Option Value} {es es' : List DictEntry} {n n' : Nat} {name : Str} {v : Value} {Q : Unit → Shared → Prop}
    (X : K.In s.heap) (I : PySem.W.InstAt s.heap x ox C (some (dictOf es n))) (hd : ox.dict = some dx) (hL : s.heap.Ns L m) (hne : dx ≠ L)
    (hs : findIn K (.ref C) "__setattr__" = some (some (.builtin "object.__setattr__"))) (hp : plainOver K C = true) (ht : takerIn K C name = some none) (hh : hasDictIn K C = true) (hl : (getL name es).isSome = true)
    (e : (putL name (PyData.keyHash w.params name) (.str name (s.toks + 1)) v es, putN name es n) = (es', n')) (hz : es'.length ≤ 1000)
    (h : ∀ h' : Heap, h'.Ns L m → h'.get? dx = some (dictOf es' n') → (∀ b o, b ≠ dx → b ≠ L → s.heap.get? b = some o → h'.get? b = some o) → Q () { s with heap := h', toks := s.toks + 2 }) :
    wpAny (model prog w) A (setAttr (.ref x) name v) Q E s := by
  obtain ⟨e1, e2⟩ := Prod.mk.inj e
  have hdx : s.heap.get? dx = some (dictOf es n) := by
    have := I.dict
    rw [hd] at this
    exact this
  refine set_plain X I hs (osa_dict (s := { s with toks := s.toks + 1 }) (h₀ := noObjs s.heap) (L := L) (m := m) (od := dictOf es n) (od' := dictOf es' n') (es := es') (n := n') (pre := []) (post := ledger s.heap L dx)
    (fr_all hL) (news_ledger hne hdx) X I hd hp ht hh hl (fun _ q => nomatch q) (fun ⟨_, _⟩ q => (mem_ledger.mp q).2.1) (by rw [putName_dict, e1, e2]) rfl hz fun h' F' N' => ?_)
  exact h h' F'.ns (N'.get (List.Mem.head _)) fun b o n1 n2 ho => N'.get (List.Mem.tail _ (mem_ledger.mpr ⟨n2, n1, ho⟩))
end
end Att

namespace L2
open PySem PySem.Spec PyProof.Rows

theorem vals_ints : ∀ {vs : List Value} {ns : List Int}, IntsAre vs ns → Vals (ns.map V.int) vs
  | _, _, .nil => .nil
  | _, _, .cons n t h => .cons ⟨t, rfl⟩ (vals_ints h)

/-- nothing is tracked but the script, known to the object (or it is an object of the module) -/
def Only (H : Hp) : Prop := ∀ b, H b = none ∨ ∃ o xs, H b = some (.frz o (.lst xs))

/-- THE HEAD: the law's promise, at the heap behind the top. F, the promise of the law's def, may use that base is part of the heap (so K.In base, base.Ns mainGlobals mg stand in Mod) -/
theorem law_call {P : Program} {w : World} {K : PySem.W.Frag} {mg mb : Str → Option Value} {CX : CXT} {k : Nat} {fa a : Addr} {fd : FuncData} {x : Str} {sp : Sp} {s₁ : Shared} {vs : List Value} {ns : List Int}
    (KX : K.In s₁.heap) (hns : s₁.heap.Ns mainGlobals mg) (hb : s₁.heap.Ns builtinsNs mb) (hbb : ∀ x : Str, x ≠ "__name__" → mb x = bootBuiltins x) (hlim : s₁.heap.NoLimit) (hg : s₁.gens = #[])
    (ha : s₁.heap.get? a = some { cls := .type "list", data := .seq vs.toArray }) (hi : IntsAre vs ns) (hl : ns.length ≤ sizeLine) (hr : Room k callerA)
    (F : ∀ base : Heap, K.In base → base.Ns mainGlobals mg → FnOk P w K mg base CX k fa fd [x] sp) (hbind : ∀ (s : Shared) (u : Value), BindsTo s fd ⟨[u], []⟩ [(x, u)])
    (hsp : ∀ H : Hp, Only H → SqL K H a (ns.map V.int) → sp [.ref a] H (fun v _ => v = .bl true) fun _ _ _ => False)
    (hCX : ∀ H e s', CX [] H s₁ (fun _ _ _ => False) e s' → False) :
    codeAny (model P w) callerA (.call (.ref fa) ⟨[.ref a], []⟩) (fun r s' => r = .ok (.ret (.bool true)) ∧ OldK s₁.heap s'.heap ∧ s'.os = s₁.os ∧ AllBare s'.gens) s₁ := by
  have rv := vals_ints hi
  have lenV := hi.length
  -- from an abstract heap in which nothing but the script may be tracked
  have core : ∀ H : Hp, Only H → SqL K H a (ns.map V.int) → HOk P w H s₁.heap → (∀ b, H b ≠ none → b = a) → (H a ≠ none → K.lookup a = none) →
      codeAny (model P w) callerA (.call (.ref fa) ⟨[.ref a], []⟩) (fun r s' => r = .ok (.ret (.bool true)) ∧ OldK s₁.heap s'.heap ∧ s'.os = s₁.os ∧ AllBare s'.gens) s₁ := by
    intro H hO hS hok hA hK
    have base_of : ∀ {b : Addr} {o : Obj}, s₁.heap.get? b = some o → H b = none → (hidT s₁.heap H).get? b = some o := fun e n => hidT_get e n
    have noA : ∀ {b : Addr} {o : Obj} {es : Array DictEntry} {ep : Nat}, s₁.heap.get? b = some o → o.data = .dict es ep → H b = none := fun {b o es ep} e d => by
      cases q : H b with
      | none => rfl
      | some u =>
        have e' : b = a := hA b (by rw [q]; simp)
        subst e'
        rw [ha] at e; cases e
        have d' : Data.seq vs.toArray _ = Data.dict es ep := d
        cases d'
    have nsK : ∀ {b : Addr} {m : Str → Option Value}, s₁.heap.Ns b m → (hidT s₁.heap H).Ns b m := fun {b m} ⟨o, es, ep, e, d, r⟩ => ⟨o, es, ep, base_of e (noA e d), d, r⟩
    have hKb : K.In (hidT s₁.heap H) := fun b o e => base_of (KX b o e) (by
      cases q : H b with
      | none => rfl
      | some u =>
        have e' : b = a := hA b (by rw [q]; simp)
        subst e'
        rw [hK (by rw [q]; simp)] at e; cases e)
    have hM : Mod K mg (hidT s₁.heap H) := ⟨hKb, nsK hns, ⟨mb, nsK hb, hbb⟩, let ⟨mc, h1, h2⟩ := hlim; ⟨mc, nsK h1, h2⟩⟩
    have e0 : Env0 P w K mg (hidT s₁.heap H) callerA [] s₁ H := ⟨rfl, hM, fun b o e => of_hidT e, Nat.le_of_eq (hidT_size _ _), trivial, fun b hb => absurd (show b ∈ ([] : List Addr) from hb) (by simp), hok, .of_eq hg⟩
    refine codeAny_mono ((F _ hKb (nsK hns)).run callerA [] s₁ H ⟨[.ref a], []⟩ [.ref a] [.ref a] _ _ hr e0 (hbind s₁ (.ref a)) (.cons rfl .nil) (hsp H hO hS)) fun r s' h => ?_
    cases r with
    | error e => exact (hCX H e s' h).elim
    | ok fl =>
      cases fl with
      | next => exact False.elim h
      | brk => exact False.elim h
      | cont => exact False.elim h
      | ret u =>
        obtain ⟨v, H', os, bare, un, hok', r', q⟩ := h
        have q' : v = .bl true := q
        subst q'
        obtain rfl : u = Value.bool true := r'
        refine ⟨rfl, OldK.of_keep fun b o e => ?_, os, bare⟩
        cases q : H b with
        | none => exact un.keep b o e q (by intro z; exact absurd (show b ∈ ([] : List Addr) from z) (by simp)) (by simp)
        | some u =>
          rcases hO b with z | ⟨ob, xs, z⟩
          · rw [q] at z; cases z
          · have z2 := un.frzs b ob _ z
            obtain ⟨e1, _⟩ := hok b _ z
            obtain ⟨e2, _⟩ := hok' b _ z2
            rw [e] at e1; cases e1
            exact e2
  cases hk : K.lookup a with
  | some o =>
    -- the script is one of the module's own objects
    have e := KX a o hk
    rw [ha] at e
    cases e
    refine core (fun _ => none) (fun _ => .inl rfl) (.inr ⟨_, vs.toArray, _, hk, rfl, rfl, rfl, by rw [List.size_toArray, lenV]; exact hl, by simpa using rv⟩) (fun b u z => by have z' : (none : Option HO) = some u := z; cases z') (fun b z => absurd rfl z) fun z => absurd rfl z
  | none =>
    refine core (fun b => if b = a then some (.frz { cls := .type "list", data := .seq vs.toArray } (.lst (ns.map V.int))) else none) (fun b => ?_) (.inl (.inr ⟨{ cls := .type "list", data := .seq vs.toArray }, if_pos rfl⟩)) (fun b u z => ?_) (fun b z => ?_) fun _ => hk
    · by_cases hb : b = a
      · exact .inr ⟨_, _, if_pos hb⟩
      · exact .inl (if_neg hb)
    · by_cases hb : b = a
      · have z' := (if_pos hb).symm.trans z
        cases z'
        subst hb
        exact ⟨ha, by rw [List.length_map]; exact hl, vs, _, rv, ha⟩
      · have z' := (if_neg hb).symm.trans z
        cases z'
    · by_cases hb : b = a
      · exact hb
      · exact absurd (if_neg hb) z
end L2

namespace L2
open PySem PySem.Spec PyProof.Rows

abbrev KOf {K : PySem.W.Frag} {h : Heap} (_ : K.In h) : PySem.W.Frag := K

/-- the goal that k_head leaves (case hc), from the law's promise. F gives the function object fd (K's own) once, then the promise over every base -/
theorem walk_of {l : PySem.W.OpenLaw} {n k : Nat} {q : Program} {loose : List Str} {XP : (Str → Option Value) → Heap → Prop} {YP : World → Heap → Prop} {d : DefRec} {K : Params → PySem.W.Frag} {CX : World → CXT} {sp : World → Sp} {x : Str}
    (hn : l.most = some n) (hn2 : n ≤ sizeLine) (hdf : d.params.defaults = []) (hr : Room k callerA)
    (hY : ∀ (w : World) (h : Heap), YP w h → (K w.params).In h)
    (F : ∀ (w : World) (mg : Str → Option Value) (fa : Addr) (h : Heap), (K w.params).In h → h.Ns mainGlobals mg → mg d.name = some (.ref fa) →
      ∃ fd : FuncData, (∀ (s : Shared) (u : Value), BindsTo s fd ⟨[u], []⟩ [(x, u)]) ∧
        ∀ base : Heap, (K w.params).In base → base.Ns mainGlobals mg → FnOk l.prog w (K w.params) mg base (CX w) k fa fd [x] (sp w))
    (hsp : ∀ (w : World) (H : Hp) (a : Addr) (ns : List Int), ns.length ≤ n → Only H → SqL (K w.params) H a (ns.map V.int) → sp w [.ref a] H (fun v _ => v = .bl true) fun _ _ _ => False)
    (hCX : ∀ (w : World) (H : Hp) (s : Shared) (e : Value) (s' : Shared), CX w [] H s (fun _ _ _ => False) e s' → False) :
    PySem.W.WalkO q loose XP YP l.row.toRowW d [] (fun f vs => PySem.call f vs) := by
  refine Att.attach_call hn hdf fun w s₀ s₁ mg mb fa o pm cd doc a vs ns G Y ho hd hcd hmg hobj hints hlen hg => ?_
  have KX := hY w _ Y
  obtain ⟨fd, hb, hF⟩ := F w mg fa _ KX G.T.g hmg
  exact law_call KX G.T.g G.T.b G.T.builtins G.T.nolimit hg hobj hints (Nat.le_trans hlen hn2) hr hF hb (fun H hO hS => hsp w H a ns hlen hO hS) fun H e s' => hCX w H s₁ e s'
/-- the same where the promise hangs on the written part alone: (sp := My.sp_law), no hole under a binder -/
theorem walk_ofK {l : PySem.W.OpenLaw} {n k : Nat} {q : Program} {loose : List Str} {XP : (Str → Option Value) → Heap → Prop} {YP : World → Heap → Prop} {d : DefRec} {K : Params → PySem.W.Frag} {CX : CXT} {sp : PySem.W.Frag → Sp} {x : Str}
    (hn : l.most = some n) (hn2 : n ≤ sizeLine) (hdf : d.params.defaults = []) (hr : Room k callerA)
    (hY : ∀ (w : World) (h : Heap), YP w h → (K w.params).In h)
    (F : ∀ (w : World) (mg : Str → Option Value) (fa : Addr) (h : Heap), (K w.params).In h → h.Ns mainGlobals mg → mg d.name = some (.ref fa) →
      ∃ fd : FuncData, (∀ (s : Shared) (u : Value), BindsTo s fd ⟨[u], []⟩ [(x, u)]) ∧
        ∀ base : Heap, (K w.params).In base → base.Ns mainGlobals mg → FnOk l.prog w (K w.params) mg base CX k fa fd [x] (sp (K w.params)))
    (hsp : ∀ (K : PySem.W.Frag) (H : Hp) (a : Addr) (ns : List Int), ns.length ≤ n → Only H → SqL K H a (ns.map V.int) → sp K [.ref a] H (fun v _ => v = .bl true) fun _ _ _ => False)
    (hCX : ∀ (H : Hp) (s : Shared) (e : Value) (s' : Shared), CX [] H s (fun _ _ _ => False) e s' → False) :
    PySem.W.WalkO q loose XP YP l.row.toRowW d [] (fun f vs => PySem.call f vs) :=
  walk_of (K := K) (CX := fun _ => CX) (sp := fun w => sp (K w.params)) hn hn2 hdf hr hY F (fun w H a ns h1 h2 h3 => hsp (K w.params) H a ns h1 h2 h3) fun _ H s e s' => hCX H s e s'
end L2

/- THE LAST THEOREM (shape; LID, My.* are yours):
   My.Adr: a structure of the addresses that your layer names (classes, functions); My.Txt K t: a structure (Prop) of the equations over K;
   My.txt_mk : {K} {implicit addresses ..} (e1 : nsIn K mainGlobals "law" = some (some (.ref f))) (e2 : K.lookup f = some ⟨oc, od, .func (fnOf "law" "law" params body scope dV kV doc pm an cdv ct), sl⟩) (e3 : codeIn K cdv "law" = true) .. : ∃ t, My.Txt K t

set_option maxRecDepth 100000 in
set_option maxHeartbeats 0 in
theorem PySem.Challenge.cw_LID_holds : PySem.Challenge.rw_LID.Holds := by
  w_on; o_law; k_head; (case hw => w_witness2)
  k_fill
  refine L2.walk_of (l := PySem.Challenge.rw_LID) (n := 63) (k := 40) (x := "script") (CX := fun w => ..) (sp := fun _ => My.sp_law) rfl (by decide) rfl ⟨rfl, by decide, by decide⟩ (fun w h Y => PySem.W.kIn_of Y) ?F ?S ?C
  case F =>
    intro w mg fa h KX G hmg
    have T : ∃ t, My.Txt (L2.KOf KX) t := by
      dsimp only [L2.KOf]                          -- K must stand as «<heap const> w.params» for k_is
      refine' My.txt_mk ?e1 ?e2 ?e3 ..
      (case e1 => PySem.W.k_is)                    -- in the order: a name -> its address -> its object -> its parts
      (case e2 => PySem.W.k_is)
      ..
    obtain ⟨t, T⟩ := T
    have e0 := hmg.symm.trans (PySem.W.mg_of KX G T.law)
    cases e0                                       -- fa is the law's own address
    exact ⟨_, fun s u => .of_eq rfl, fun base kb nb => My.law_fn T kb nb⟩     -- if «.of_eq rfl» comes too early: refine' ⟨_, ?b, fun base kb nb => My.law_fn T kb nb⟩; exact fun s u => .of_eq rfl
  case S => exact fun w H a ns hl hO hS => ..
  case C => exact ..
(the tactic k_is has no namespace: write k_is) -/

/-! SHORT WORDS over the layer: a def of the text, its body, what a loop and a test want. -/
namespace L2
open PySem PySem.Spec PyProof.Rows

/-! ### the text by places -/
/-- the j-th statement of a class's body -/
def inClass (s : Stmt) (j : Nat) : Stmt := match s with
  | .ClassDef _ _ _ body _ _ _ _ _ _ _ => body.getD j (.Pass ⟨0, 0, 0, 0⟩)
  | _ => .Pass ⟨0, 0, 0, 0⟩
def defArgs (s : Stmt) : Arguments := match s with
  | .FunctionDef _ a _ _ _ _ _ _ _ _ => a
  | _ => { posonlyargs := [], args := [], vararg := none, kwonlyargs := [], kw_defaults := [], kwarg := none, defaults := [] }
def defBody (s : Stmt) : List Stmt := match s with
  | .FunctionDef _ _ b _ _ _ _ _ _ _ => b
  | _ => []
def defScope (s : Stmt) : Scope := match s with
  | .FunctionDef _ _ _ _ _ _ sc _ _ _ => sc
  | _ => { kind := .function, names := [], isGenerator := false, isCoroutine := false }

/-! ### no exception leaves a def -/
abbrev CX0 : CXT := fun _ _ _ _ _ _ => False
abbrev E0 : XK := fun _ _ _ => False
theorem pass0 {X : Cx} : Passes CX0 X E0 := fun _ _ _ _ _ _ _ h => h.elim

/-! ### a def (or method) of the text as it stands behind the top -/
structure Fun (K : PySem.W.Frag) (x qual : Str) (st : Stmt) (f : Addr) (fd : FuncData) : Prop where
  ex : ∃ (oc : Value) (od : Option Addr) (kV doc pm : Value) (an : Option Addr) (cdv ct : Value) (osl : Array (Option Value)),
    fd = PySem.W.fnOf x qual (defArgs st) (defBody st) (defScope st) .none kV doc pm an cdv ct ∧ K.lookup f = some ⟨oc, od, .func fd, osl⟩ ∧ PySem.W.codeIn K cdv qual = true
  kp : PySem.W.keepIn K (.ref f) = true
section
variable {P : Program} {w : World} {K : PySem.W.Frag} {mg : Str → Option Value} {base : Heap}
/-- THE RULE for a def: its body as a term of rules, and the reading of that term -/
theorem Fun.ok {x qual : Str} {st : Stmt} {f : Addr} {fd : FuncData} {N ps : List Str} {k : Nat} {sp : Sp} (F : Fun K x qual st f fd) (S : FnScope N ps (defScope st)) (len : ∀ vs H Q E, sp vs H Q E → vs.length = ps.length)
    (hbody : ∀ (cdv : Value) (A : Around) (outer : List Env) (s : Shared) (H : Hp) (vs : List V) (Q : VK) (E : XK), Room k (A.deeper (envOfC qual (defScope st) s.heap.objs.size f cdv)) → sp vs H Q E →
      ∃ t, PSs (cxOf CX0 P w K mg base N qual (defScope st) f cdv A outer s H E).nox (defBody st) t ∧ t { nx := fun _ H' => Q .non H', rt := Q } (start N vs) H) : FnOk P w K mg base CX0 (k + 1) f fd ps sp := by
  obtain ⟨oc, od, kV, doc, pm, an, cdv, ct, osl, rfl, lk, hcd⟩ := F.ex
  refine fn_of lk hcd S len fun A outer s H vs Q E hr hsp => ?_
  obtain ⟨t, h, q⟩ := hbody cdv A outer s H vs Q E hr hsp
  exact ⟨t, h.nox, q⟩
/-- how its arguments bind (no defaults): h is «fun _ _ _ _ _ _ us hl => match us, hl with | [_, _], _ => rfl», one _ a parameter -/
theorem Fun.binds {x qual : Str} {st : Stmt} {f : Addr} {fd : FuncData} {ps : List Str} (F : Fun K x qual st f fd)
    (h : ∀ (kV doc pm : Value) (an : Option Addr) (cdv ct : Value) (us : List Value), us.length = ps.length → bindArgs (PySem.W.fnOf x qual (defArgs st) (defBody st) (defScope st) .none kV doc pm an cdv ct) ⟨us, []⟩ = pure (ps.zip us)) : Binds K fd ps [] := by
  obtain ⟨oc, od, kV, doc, pm, an, cdv, ct, osl, rfl, lk, hcd⟩ := F.ex
  exact .all (h kV doc pm an cdv ct)
theorem fun_mk {x qual : Str} {st : Stmt} {f : Addr} {oc : Value} {od an : Option Addr} {osl : Array (Option Value)} {kV doc pm cdv ct : Value} (l : K.lookup f = some ⟨oc, od, .func (PySem.W.fnOf x qual (defArgs st) (defBody st) (defScope st) .none kV doc pm an cdv ct), osl⟩)
    (c : PySem.W.codeIn K cdv qual = true) (k : PySem.W.keepIn K (.ref f) = true) : Fun K x qual st f (PySem.W.fnOf x qual (defArgs st) (defBody st) (defScope st) .none kV doc pm an cdv ct) := ⟨⟨oc, od, kV, doc, pm, an, cdv, ct, osl, rfl, l, c⟩, k⟩
end
theorem hu_of {A : Around} {k : Nat} (hr : Room k A) : A.units + 1 < cLine := Nat.lt_of_le_of_lt (Nat.add_le_add_left (by decide : 1 ≤ 64) _) hr.units
theorem small1000 {n : Nat} (h : n ≤ 1000) : n < sizeLine := Nat.lt_of_le_of_lt h (by decide)

/-! ### expressions in short: the name that stands in the i-th slot -/
section
variable {X : Cx}
theorem pv (i : Nat) {x : Str} {pos : Pos} (hN : X.N[i]? = some x := by rfl) (hv : Vis X.env.scope x := by first | exact Or.inl rfl | exact Or.inr (Or.inl rfl) | exact Or.inr (Or.inr rfl)) (hd : (x == ("__debug__" : Str)) = false := by decide)
    (hcd : (x == ("__classdict__" : Str)) = false := by decide) : PE X (.Name x pos) (tVar i) := pe_var hN hv hd hcd
end

/-! ### tests -/
theorem iteF {A B : Prop} (h : B) : if false = true then A else B := by
  rw [if_neg Bool.false_ne_true]
  exact h
theorem iteT {A B : Prop} (h : A) : if true = true then A else B := by
  rw [if_pos rfl]
  exact h
theorem ite2 {c A B : Prop} [Decidable c] (h1 : c → A) (h2 : ¬ c → B) : if c then A else B := by
  by_cases h : c
  · rw [if_pos h]
    exact h1 h
  · rw [if_neg h]
    exact h2 h
theorem iteNS {c A B : Prop} [Decidable c] (hc : c) (h : B) : if (!decide c) = true then A else B := by
  rw [decide_eq_true hc]
  exact iteF h

/-! ### heaps -/
/-- all that was tracked is as it was -/
def Same (H H' : Hp) : Prop := ∀ b o, H b = some o → H' b = some o
theorem Same.refl (H : Hp) : Same H H := fun _ _ h => h
theorem Same.trans {H H1 H2 : Hp} (a : Same H H1) (b : Same H1 H2) : Same H H2 := fun c o h => b c o (a c o h)
theorem Same.free {H H' : Hp} (e : Same H H') {l : Addr} (h : H' l = Option.none) : H l = Option.none := by
  cases q : H l with
  | none => rfl
  | some o =>
    rw [e l o q] at h
    cases h
theorem Same.seq {K : PySem.W.Frag} {H H' : Hp} {a : Addr} {xs : List V} (e : Same H H') (h : SqL K H a xs) : SqL K H' a xs := by
  rcases h with (h | ⟨o, h⟩) | h
  · exact .inl (.inl (e _ _ h))
  · exact .inl (.inr ⟨o, e _ _ h⟩)
  · exact .inr h

end L2
set_option maxHeartbeats 4000000
/-! More rules over the hand layer: records that turn, enumerate, zip, comprehensions, isinstance, sum, all, any, min of three, == of lists. -/
namespace L2
open PySem PySem.Spec PyProof.Rows

/-! ### untracked records of ours -/
section
variable {X : Cx} {pins : List (Addr × Obj)} {σ : St} {H : Hp} {s : Shared} {h' : Heap}
theorem Inv.turnedL {t' : Nat} {fp : List Addr} (I : Inv X pins σ H s) (hf : ∀ b ∈ fp, FpOk X pins H b) (k : ∀ b o, b ∉ fp → s.heap.get? b = some o → h'.get? b = some o) : Inv X pins σ H { s with heap := h', toks := t' } := by
  have nit : ∀ b u, H b = some u → b ∉ fp := fun b u e z => by
    have := (hf b z).1
    rw [e] at this
    cases this
  refine I.step (g' := s.gens) (d' := s.drawn) (ch := fp) (fun b hb => ?_) (fun b o _ _ hc e _ => k b o hc e) (fun b o _ _ hc e _ => ⟨o.slots, k b o hc e⟩) (fun _ _ _ _ n => n)
    (fun b o hc e => ⟨o, k b o hc e⟩) (fun _ _ e => e) (fun _ _ _ e => e) (fun b ps e => ⟨#[], by rw [e]; simp⟩) (fun m hm => ?_) (fun b u e => ?_) I.bare
  · obtain ⟨f0, f1, f2, f3, f4, f5⟩ := hf b hb
    exact ⟨f3, f1, f4, f5⟩
  · obtain ⟨o, es, ep, ho, r⟩ := hm
    exact ⟨o, es, ep, k _ o (fun z => (hf _ z).2.1 rfl) ho, r⟩
  · refine (I.hok b u e).stay (fun c v hc q => k c v ?_ q) (fun _ q => q) fun _ _ q => q
    rcases hc with z | z
    · rw [z]; exact nit b u e
    · exact nit c _ z
/-- an untracked object of ours is tracked from now on -/
theorem Inv.track {T : Addr} {o : HO} (I : Inv X pins σ H s) (f : FpOk X pins H T) (new : ObjOk X.prog X.w (upd H T o) s.heap T o) : Inv X pins σ (upd H T o) s := by
  obtain ⟨f0, f1, f2, f3, f4, f5⟩ := f
  have ne : ∀ b u, H b = some u → b ≠ T := fun b u e z => by rw [z, f0] at e; cases e
  refine I.step (h' := s.heap) (H' := upd H T o) (g' := s.gens) (d' := s.drawn) (t' := s.toks) (ch := [T]) (fun b hb => ?_) (fun b o _ _ hc e _ => e) (fun b o _ _ hc e _ => ⟨o.slots, e⟩) (fun b o hc e n => ?_)
    (fun b o hc e => ⟨o, e⟩) (fun b xs e => ?_) (fun b ob u e => ?_) (fun b ps e => ⟨#[], ?_⟩) (fun m hm => hm) (fun b u e => ?_) I.bare
  · have e : b = T := by simpa using hb
    subst e
    exact ⟨f3, f1, f4, f5⟩
  · rw [upd_ne (fun z => hc (by simp [z]))]; exact n
  · rw [upd_ne (ne _ _ e)]; exact e
  · rw [upd_ne (ne _ _ e)]; exact e
  · rw [upd_ne (ne _ _ e), e]; simp
  · by_cases hb : b = T
    · subst hb
      rw [upd_same] at e
      cases e
      exact new
    · rw [upd_ne hb] at e
      refine (I.hok b u e).stay (fun _ _ _ q => q) (fun c q => ?_) fun c xs q => ?_
      · rw [upd_ne (ne _ _ q)]; exact q
      · rw [upd_ne (ne _ _ q)]; exact q
end

/-! ### enumerate(a list) -/
def Ite (K : PySem.W.Frag) (a : Addr) : It :=
  ⟨fun i H => ∃ xs x, SqL K H a xs ∧ xs[i]? = some x, fun i H x H' => ∃ T, H T = none ∧ x = .ref T ∧ ∀ xs, SqL K H a xs → ∃ y, xs[i]? = some y ∧ H' = upd H T (.tup [.int i, y]), fun i H => ∃ xs, SqL K H a xs ∧ xs.length ≤ i⟩
theorem turn_enum {P : Program} {w : World} {K : PySem.W.Frag} {elts : List Expr} {k : Nat} {pos : Pos} (a it e : Addr) (hei : e ≠ it) :
    Turn P w K (.Tuple elts k pos) (Ite K a) [e, it] e (fun i h => (∃ old, IsEnum h e it i old) ∧ h.IsListIter it a i) where
  mem := by simp
  obj := fun i h st b hb => by
    obtain ⟨⟨old, he⟩, o, e2, c, d⟩ := st
    have hb' : b = e ∨ b = it := by simpa using hb
    rcases hb' with rfl | rfl
    · exact ⟨_, he, fun v z => nomatch z⟩
    · exact ⟨o, e2, fun v z => by rw [d] at z; cases z⟩
  keep := fun i h h' st k => by
    obtain ⟨⟨old, he⟩, hit⟩ := st
    exact ⟨⟨old, k e (by simp) _ he⟩, hit.at fun o x => k it (by simp) o x⟩
  item := by
    intro X hP hw hK hc i pins s σ H E I hf st hg
    subst hP hw hK
    obtain ⟨⟨old, he⟩, hit⟩ := st
    obtain ⟨xs, x, hq, hx⟩ := hg
    obtain ⟨its, rv, p, hz⟩ := I.list hq
    obtain ⟨u, hu, ru⟩ := rv.get hx
    refine wpAny_pyNext_enum_item he hit p.isList (x := u) (by simpa using hu) hei fun h' ho hit' hT hsz hk => ?_
    refine ⟨_, rfl, ?_⟩
    refine wpAny_letOwnedTupleGo_enum ho fun h'' he' hs' => ?_
    have nT : ∀ b, s.heap.get? b ≠ none → s.heap.objs.size ≠ b := fun b hb z => hb (Heap.get?_none_of_le (Nat.le_of_eq z))
    have Te : s.heap.objs.size ≠ e := Nat.ne_of_gt (Heap.lt_size he)
    have Ti : s.heap.objs.size ≠ it := by obtain ⟨o, q, _⟩ := hit; exact Nat.ne_of_gt (Heap.lt_size q)
    have I1 : Inv X pins σ H { s with heap := h'', toks := s.toks + 1 } := I.turnedL (fp := [e, it]) hf fun b o hb q => by
      have hb' : b ≠ e ∧ b ≠ it := by simpa using hb
      exact (hs'.2 b hb'.1).trans (hk b o hb'.1 hb'.2 q)
    have fT : FpOk X pins H s.heap.objs.size := I.fpOk (Nat.le_refl _) I.fresh
    refine ⟨.ref s.heap.objs.size, upd H s.heap.objs.size (.tup [.int i, x]), I1.track fT ?_, rfl, ⟨_, I.fresh, rfl, fun ys hy => ⟨x, by rw [I.list_inj hy hq]; exact hx, rfl⟩⟩, ⟨⟨u, by simpa using he'⟩, hit'.at fun o q => (hs'.2 it (Ne.symm hei)).trans q⟩, fun b hb => ?_⟩
    · exact ⟨by show 2 ≤ sizeLine; decide, [.int i s.toks, u], .cons ⟨_, rfl⟩ (.cons ru .nil), _, (hs'.2 _ Te).trans hT, rfl, _, rfl⟩
    · rw [upd_ne ?_]
      · exact (hf b hb).1
      · have hb' : b = e ∨ b = it := by simpa using hb
        rcases hb' with rfl | rfl
        · exact Ne.symm Te
        · exact Ne.symm Ti
  done := by
    intro X hP hw hK hc i pins s σ H E I hf st hg
    subst hP hw hK
    obtain ⟨⟨old, he⟩, hit⟩ := st
    obtain ⟨xs, hq, hx⟩ := hg
    obtain ⟨its, rv, p, hz⟩ := I.list hq
    have hl := rv.length
    refine wpAny_pyNext_enum_end (I.ok.hd hc) he hit p.isList (by simp; omega) fun h' eb => ⟨rfl, I.turnedL (t' := s.toks) (fp := [e, it]) hf fun b o hb q => ?_⟩
    have hb' : b ≠ e ∧ b ≠ it := by simpa using hb
    exact eb b o hb'.2 q
  self := fun _ _ _ _ _ st h => by
    obtain ⟨⟨old, he⟩, hit⟩ := st
    exact wpAny_pyIter_enum he h
section
variable {X : Cx} {elts : List Expr} {k : Nat} {tpos : Pos}
def iEnum (K : PySem.W.Frag) (ta : TA) : TI := fun σ H R => ta σ H fun vs H1 => ∃ a, vs = [.ref a] ∧ (∃ xs, SqL K H1 a xs) ∧ R (Ite K a) H1
theorem pi_enum {l : Expr} {ta : TA} {p pos : Pos} (hg : Gl X "enumerate") (hm : X.mg "enumerate" = none) (ha : PA X [l] ta) (hs : starEach [l] X.env = [(false, eval l X.env)] := by rfl) : PI X (.Tuple elts k tpos) (.Call (.Name "enumerate" p) [l] [] pos) (iEnum X.K ta) := by
  intro pins s σ H R I h
  refine Call_ (ld_blt I hg hm boot_enumerate (PyProof.Rows.callWith_type1 (thn (ha pos pins s σ H _ I h) fun us s1 ⟨vs, H1, I1, r1, q1⟩ => ?_) hs rfl))
  obtain ⟨a, e, ⟨xs, hq⟩, q⟩ := q1
  subst e
  obtain ⟨u, rfl, ru⟩ := vals1 r1
  cases ru
  obtain ⟨its, rv, p, hz⟩ := I1.list hq
  refine call_enumerate_list p.isList fun h' hE hI hsz hk => ?_
  refine wpAny_pyIter_enum hE ?_
  refine ⟨s1.heap.objs.size + 1, [s1.heap.objs.size + 1, s1.heap.objs.size], _, _, H1, rfl, I1.kept (t' := s1.toks) hk, turn_enum a s1.heap.objs.size (s1.heap.objs.size + 1) (Nat.succ_ne_self _), ⟨⟨_, hE⟩, hI⟩, fun b hb => ?_, q⟩
  have hb' : b = s1.heap.objs.size + 1 ∨ b = s1.heap.objs.size := by simpa using hb
  have hle : s1.heap.objs.size ≤ b := by rcases hb' with e | e <;> (have e' : b = _ := e; rw [e'] <;> omega)
  exact I1.fpOk hle (I1.hok.fresh hle)
end

/-! ### zip(a list, a list) -/
def Itz (K : PySem.W.Frag) (a b : Addr) : It :=
  ⟨fun i H => ∃ xs ys x y, SqL K H a xs ∧ SqL K H b ys ∧ xs[i]? = some x ∧ ys[i]? = some y,
   fun i H x H' => ∃ T, H T = none ∧ x = .ref T ∧ ∀ xs ys, SqL K H a xs → SqL K H b ys → ∃ u v, xs[i]? = some u ∧ ys[i]? = some v ∧ H' = upd H T (.tup [u, v]),
   fun i H => ∃ xs ys, SqL K H a xs ∧ SqL K H b ys ∧ (xs.length ≤ i ∨ ys.length ≤ i)⟩
theorem turn_zip {P : Program} {w : World} {K : PySem.W.Frag} {elts : List Expr} {k : Nat} {pos : Pos} (a b z TI TO i1 i2 : Addr) (D : ZipApart z TI TO i1 i2 a b) :
    Turn P w K (.Tuple elts k pos) (Itz K a b) [z, TI, TO, i1, i2] z (fun i h => IsZip h z TI TO .none ∧ IsPair h TI (.ref i1) (.ref i2) ∧ (∃ p q, IsPair h TO p q) ∧ h.IsListIter i1 a i ∧ h.IsListIter i2 b i) where
  mem := by simp
  obj := fun i h st c hc => by
    obtain ⟨hz, hTI, ⟨p, q, hTO⟩, ⟨o1, e1, _, d1⟩, ⟨o2, e2, _, d2⟩⟩ := st
    have hc' : c = z ∨ c = TI ∨ c = TO ∨ c = i1 ∨ c = i2 := by simpa using hc
    rcases hc' with rfl | rfl | rfl | rfl | rfl
    · exact ⟨_, hz, fun v z => nomatch z⟩
    · exact ⟨_, hTI, fun v z => nomatch z⟩
    · exact ⟨_, hTO, fun v z => nomatch z⟩
    · exact ⟨o1, e1, fun v z => by rw [d1] at z; cases z⟩
    · exact ⟨o2, e2, fun v z => by rw [d2] at z; cases z⟩
  keep := fun i h h' st k => by
    obtain ⟨hz, hTI, ⟨p, q, hTO⟩, h1, h2⟩ := st
    exact ⟨k z (by simp) _ hz, k TI (by simp) _ hTI, ⟨p, q, k TO (by simp) _ hTO⟩, h1.at fun o e => k i1 (by simp) o e, h2.at fun o e => k i2 (by simp) o e⟩
  item := by
    intro X hP hw hK hc i pins s σ H E I hf st hg
    subst hP hw hK
    obtain ⟨hz, hTI, ⟨p, q, hTO⟩, h1, h2⟩ := st
    obtain ⟨xs, ys, x, y, hqx, hqy, hx, hy⟩ := hg
    obtain ⟨its, rv, px, hzx⟩ := I.list hqx
    obtain ⟨its2, rv2, py, hzy⟩ := I.list hqy
    obtain ⟨u, hu, ru⟩ := rv.get hx
    obtain ⟨v, hv, rv'⟩ := rv2.get hy
    refine wpAny_pyNext_zip_item D hz hTI hTO h1 h2 px.isList py.isList (x := u) (y := v) (by simpa using hu) (by simpa using hv) fun h' a1 a2 a3 a4 a5 a6 hk => ?_
    refine ⟨_, rfl, ?_⟩
    refine wpAny_letOwnedTupleGo_zip a1 fun h'' hz' hs' => ?_
    have lt : ∀ {c o}, s.heap.get? c = some o → s.heap.objs.size ≠ c := fun e => Nat.ne_of_gt (Heap.lt_size e)
    have Tz := lt hz
    have TTI := lt hTI
    have TTO := lt hTO
    have T1 : s.heap.objs.size ≠ i1 := by obtain ⟨o, e, _⟩ := h1; exact lt e
    have T2 : s.heap.objs.size ≠ i2 := by obtain ⟨o, e, _⟩ := h2; exact lt e
    have I1 : Inv X pins σ H { s with heap := h'', toks := s.toks } := I.turnedL (fp := [z, TI, TO, i1, i2]) hf fun c o hc q => by
      have hc' : c ≠ z ∧ c ≠ TI ∧ c ≠ TO ∧ c ≠ i1 ∧ c ≠ i2 := by simpa using hc
      exact (hs'.2 c hc'.1).trans (hk c o hc'.1 hc'.2.2.1 hc'.2.2.2.1 hc'.2.2.2.2 q)
    have fT : FpOk X pins H s.heap.objs.size := I.fpOk (Nat.le_refl _) I.fresh
    refine ⟨.ref s.heap.objs.size, upd H s.heap.objs.size (.tup [x, y]), I1.track fT ?_, rfl, ⟨_, I.fresh, rfl, fun ys1 ys2 g1 g2 => ⟨x, y, by rw [I.list_inj g1 hqx]; exact hx, by rw [I.list_inj g2 hqy]; exact hy, rfl⟩⟩,
      ⟨hz', (hs'.2 _ D.TIz).trans (hk _ _ D.TIz D.TITO D.TIi1 D.TIi2 hTI), ⟨_, _, (hs'.2 _ D.TOz).trans a2⟩, a3.at fun o e => (hs'.2 _ D.i1z).trans e, a4.at fun o e => (hs'.2 _ D.i2z).trans e⟩, fun c hc => ?_⟩
    · exact ⟨by show 2 ≤ sizeLine; decide, [u, v], .cons ru (.cons rv' .nil), _, (hs'.2 _ Tz).trans a5, rfl, _, rfl⟩
    · rw [upd_ne ?_]
      · exact (hf c hc).1
      · have hc' : c = z ∨ c = TI ∨ c = TO ∨ c = i1 ∨ c = i2 := by simpa using hc
        rcases hc' with rfl | rfl | rfl | rfl | rfl
        · exact Ne.symm Tz
        · exact Ne.symm TTI
        · exact Ne.symm TTO
        · exact Ne.symm T1
        · exact Ne.symm T2
  done := by
    intro X hP hw hK hc i pins s σ H E I hf st hg
    subst hP hw hK
    obtain ⟨hz, hTI, ⟨p, q, hTO⟩, h1, h2⟩ := st
    obtain ⟨xs, ys, hqx, hqy, hend⟩ := hg
    obtain ⟨its, rv, px, hzx⟩ := I.list hqx
    obtain ⟨its2, rv2, py, hzy⟩ := I.list hqy
    have hl := rv.length
    have hl2 := rv2.length
    refine wpAny_pyNext_zip_end (I.ok.hd hc) D hz hTI hTO h1 h2 px.isList py.isList (k1 := i) (k2 := i) ?_ fun h' hk => ⟨rfl, I.turnedL (t' := s.toks) (fp := [z, TI, TO, i1, i2]) hf fun c o hc q => ?_⟩
    · rcases hend with g | g
      · exact .inl (by simp; omega)
      · exact .inr (by simp; omega)
    · have hc' : c ≠ z ∧ c ≠ TI ∧ c ≠ TO ∧ c ≠ i1 ∧ c ≠ i2 := by simpa using hc
      exact hk c o hc'.1 hc'.2.2.1 hc'.2.2.2.1 hc'.2.2.2.2 q
  self := fun _ _ _ _ _ st h => wpAny_pyIter_zip st.1 h
theorem apart5 (I l1 l2 : Nat) (h1 : l1 < I) (h2 : l2 < I) : ZipApart (I + 4) (I + 2) (I + 3) I (I + 1) l1 l2 := PySem.W.ktu_apart I l1 l2 h1 h2
section
variable {X : Cx} {elts : List Expr} {k : Nat} {tpos : Pos}
def iZip (K : PySem.W.Frag) (ta : TA) : TI := fun σ H R => ta σ H fun vs H1 => ∃ a b, vs = [.ref a, .ref b] ∧ (∃ xs, SqL K H1 a xs) ∧ (∃ ys, SqL K H1 b ys) ∧ R (Itz K a b) H1
theorem pi_zip {l m : Expr} {ta : TA} {p pos : Pos} (hg : Gl X "zip") (hm : X.mg "zip" = none) (ha : PA X [l, m] ta) (hs : starEach [l, m] X.env = [(false, eval l X.env), (false, eval m X.env)] := by rfl) (hs2 : starEach [m] X.env = [(false, eval m X.env)] := by rfl) :
    PI X (.Tuple elts k tpos) (.Call (.Name "zip" p) [l, m] [] pos) (iZip X.K ta) := by
  intro pins s σ H R I h
  refine Call_ (ld_blt I hg hm boot_zip (PyProof.Rows.callWith_type1 (thn (ha pos pins s σ H _ I h) fun us s1 ⟨vs, H1, I1, r1, q1⟩ => ?_) (by rw [hs, hs2]) (by rw [hs2]; rfl)))
  obtain ⟨a, b, e, ⟨xs, hqx⟩, ⟨ys, hqy⟩, q⟩ := q1
  subst e
  obtain ⟨u, v, rfl, ru, rv⟩ := vals2 r1
  cases ru
  cases rv
  obtain ⟨its, rv, px, hzx⟩ := I1.list hqx
  obtain ⟨its2, rv2, py, hzy⟩ := I1.list hqy
  have lx : a < s1.heap.objs.size := by obtain ⟨_, e, _⟩ := px.isList; exact Heap.lt_size e
  have ly : b < s1.heap.objs.size := by obtain ⟨_, e, _⟩ := py.isList; exact Heap.lt_size e
  refine call_zip_2 px.isList py.isList fun h' hz hTI hTO hi1 hi2 hsz hk => ?_
  refine wpAny_pyIter_zip hz ?_
  refine ⟨s1.heap.objs.size + 4, [s1.heap.objs.size + 4, s1.heap.objs.size + 2, s1.heap.objs.size + 3, s1.heap.objs.size, s1.heap.objs.size + 1], _, _, H1, rfl, I1.kept (t' := s1.toks) hk, turn_zip a b _ _ _ _ _ (apart5 _ a b lx ly), ⟨hz, hTI, ⟨_, _, hTO⟩, hi1, hi2⟩, fun c hc => ?_, q⟩
  have hle : s1.heap.objs.size ≤ c := by
    have hc' : c = s1.heap.objs.size + 4 ∨ c = s1.heap.objs.size + 2 ∨ c = s1.heap.objs.size + 3 ∨ c = s1.heap.objs.size ∨ c = s1.heap.objs.size + 1 := by simpa using hc
    have le0 : ∀ n : Nat, s1.heap.objs.size ≤ s1.heap.objs.size + n := fun n => Nat.le_add_right _ _
    rcases hc' with e | e | e | e | e
    · rw [e]; exact le0 4
    · rw [e]; exact le0 2
    · rw [e]; exact le0 3
    · rw [e]; exact Nat.le_refl _
    · rw [e]; exact le0 1
  exact I1.fpOk hle (I1.hok.fresh hle)
end
end L2
set_option maxHeartbeats 4000000
/-! A list comprehension, as an expression and as the value of an assignment. -/
namespace L2
open PySem PySem.Spec PyProof.Rows

/-! ### its tests -/
def PF (X : Cx) (ifs : List Expr) (t : TT) : Prop :=
  ∀ (pins : List (Addr × Obj)) (s : Shared) (σ : St) (H : Hp) (Q : Bool → Hp → Prop), Inv X pins σ H s → t σ H Q →
    wpAny (model X.prog X.w) X.A (forIn ifs true fun c r => if r = true then do let ok ← isTrue c X.env (eval c X.env); pure (ForInStep.yield ok) else pure (ForInStep.yield r)) (TP X pins σ Q) X.xe s
def tYes : TT := fun _ H Q => Q true H
theorem pf_nil {X : Cx} : PF X [] tYes := fun _ _ _ H _ I h => wpAny_tests_nil ⟨H, I, h⟩
theorem pf_one {X : Cx} {c : Expr} {t : TT} (h : PT X c t) : PF X [c] t := fun pins s σ H Q I hw => wpAny_tests_one (h pins s σ H Q I hw)

/-! ### the loop, with a tuple as its target too -/
section
variable {prog : Program} {w : World} {A : Around} {R : Result → Shared → Prop} {s : Shared}
theorem comp_loop {elt target iter : Expr} {ifs : List Expr} {scope : Scope} {pos : Pos} {it acc : Value} {env : Env} (I : Nat → Shared → Prop)
    (turn : ∀ n s, I n s → wpAny (model prog w) A (pyNext it) (fun r s₁ => match r with
      | none => R (.ok .next) s₁
      | some v => wpAny (model prog w) A (letOwnedTupleGo target it v) (fun _ s₀ => wpAny (model prog w) A (assign target env v) (fun _ s₂ =>
          wpAny (model prog w) A (forIn ifs true fun c r => if r = true then do let ok ← isTrue c env (eval c env); pure (ForInStep.yield ok) else pure (ForInStep.yield r)) (fun ok s₃ =>
            if ok = true then wpAny (model prog w) A (eval elt env) (fun x s₄ =>
              wpAny (model prog w) A (call (.builtin "list.append") [acc, x]) (fun _ s₅ => ∃ m, m < n ∧ I m s₅) (notedBy (model prog w) A env fun e s' => R (.error e) s') s₄) (notedBy (model prog w) A env fun e s' => R (.error e) s') s₃
            else ∃ m, m < n ∧ I m s₃) (notedBy (model prog w) A env fun e s' => R (.error e) s') s₂) (notedBy (model prog w) A env fun e s' => R (.error e) s') s₀) (notedBy (model prog w) A env fun e s' => R (.error e) s') s₁)
        (notedBy (model prog w) A env fun e s' => R (.error e) s') s)
    (n : Nat) (h : I n s) :
    codeAny (model prog w) A (.compLoop (.ListComp elt [⟨target, iter, ifs, 0⟩] scope pos) 0 it acc env) R s := by
  refine codeAny_loop rfl I (fun n s hI => ?_) n h
  show wpAny _ A ((compTurn (.ListComp elt [⟨target, iter, ifs, 0⟩] scope pos) 0 it acc env).onRaise (fun x => do noteFrame x env; theTreesLotGoes x)) _ _ s
  refine wpAny_noted ?_
  rw [compTurn_list]
  refine wpAny_bind (wpAny_standAt (wpAny_bind (wpAny_mono (turn n s hI) (fun r s₁ h₁ => ?_) fun _ _ h' => h')))
  cases r with
  | none => exact wpAny_pure h₁
  | some v =>
    refine wpAny_bind (wpAny_mono h₁ (fun _ s₀ h₀ => ?_) fun _ _ h' => h')
    refine wpAny_bind (wpAny_mono h₀ (fun _ s₂ h₂ => wpAny_bind (wpAny_mono h₂ (fun ok s₃ h₃ => ?_) fun _ _ h' => h')) fun _ _ h' => h')
    cases ok with
    | false => exact wpAny_pure ⟨rfl, h₃⟩
    | true =>
      exact wpAny_bind (wpAny_bind (wpAny_mono h₃ (fun x s₄ h₄ => wpAny_bind (wpAny_mono h₄ (fun _ s₅ h₅ => wpAny_pure (wpAny_pure ⟨rfl, h₅⟩)) fun _ _ h' => h')) fun _ _ h' => h'))
end

/-! ### its scope -/
def clOf (env : Env) : List (Str × NameKind) → List (Str × Addr) → List (Str × Addr)
  | [], acc => acc
  | (n, k) :: r, acc => if k == .free then clOf env r ((n, (env.cells.lookup n).getD 0) :: acc) else clOf env r acc
theorem clOf_sub {env : Env} {x : Str} {c : Addr} : ∀ (names : List (Str × NameKind)) (acc : List (Str × Addr)), (∀ y ∈ names, y.2 = .free → ∃ c, env.cells.lookup y.1 = some c) → (∀ x c, acc.lookup x = some c → env.cells.lookup x = some c) →
    (clOf env names acc).lookup x = some c → env.cells.lookup x = some c
  | [], acc, _, ha, h => ha x c h
  | (n, k) :: r, acc, hf, ha, h => by
    unfold clOf at h
    by_cases hk : (k == NameKind.free) = true
    · rw [if_pos hk] at h
      refine clOf_sub r _ (fun y hy => hf y (List.mem_cons_of_mem _ hy)) (fun y d hd => ?_) h
      obtain ⟨c', e⟩ := hf (n, k) List.mem_cons_self (by simpa using hk)
      rw [List.lookup_cons] at hd
      cases hyn : y == n with
      | true =>
        rw [hyn] at hd
        have hyn' : y = n := by simpa using hyn
        rw [hyn', e]
        rw [e] at hd
        exact hd
      | false =>
        rw [hyn] at hd
        exact ha y d hd
    · rw [if_neg hk] at h
      exact clOf_sub r acc (fun y hy => hf y (List.mem_cons_of_mem _ hy)) ha h
theorem clOf_keeps {env : Env} {x : Str} : ∀ (names : List (Str × NameKind)) (acc : List (Str × Addr)), (acc.lookup x).isSome = true → ((clOf env names acc).lookup x).isSome = true
  | [], _, h => h
  | (n, k) :: r, acc, h => by
    unfold clOf
    split
    · refine clOf_keeps r _ ?_
      rw [List.lookup_cons]
      cases x == n with
      | true => rfl
      | false => exact h
    · exact clOf_keeps r acc h
theorem clOf_has {env : Env} {x : Str} : ∀ (names : List (Str × NameKind)) (acc : List (Str × Addr)), names.lookup x = some .free → ((clOf env names acc).lookup x).isSome = true
  | [], _, h => by simp at h
  | (n, k) :: r, acc, h => by
    rw [List.lookup_cons] at h
    cases hx : x == n with
    | true =>
      rw [hx] at h
      have hk : k = .free := by simpa using h
      subst hk
      show (List.lookup x (clOf env r ((n, (env.cells.lookup n).getD 0) :: acc))).isSome = true
      refine clOf_keeps r _ ?_
      rw [List.lookup_cons, hx]
      rfl
    | false =>
      rw [hx] at h
      unfold clOf
      split
      · exact clOf_has r _ h
      · exact clOf_has r _ h
theorem clOf_cons {env : Env} {n : Str} {k : NameKind} {r : List (Str × NameKind)} {acc : List (Str × Addr)} : clOf env ((n, k) :: r) acc = if (k == NameKind.free) = true then clOf env r ((n, (env.cells.lookup n).getD 0) :: acc) else clOf env r acc := rfl
theorem clos_loop {env : Env} : ∀ (names : List (Str × NameKind)) (acc : List (Str × Addr)), (∀ y ∈ names, y.2 = .free → ∃ c, env.cells.lookup y.1 = some c) →
    (forIn names acc fun (x : Str × NameKind) (r : List (Str × Addr)) => if (x.2 == NameKind.free) = true then do let y ← cellOf env x.1; pure (ForInStep.yield ((x.1, y) :: r)) else pure (ForInStep.yield r) : Sem (List (Str × Addr))) = pure (clOf env names acc)
  | [], acc, _ => by simp [clOf]
  | (n, k) :: r, acc, hf => by
    rw [List.forIn_cons]
    have ih := fun a => clos_loop (env := env) r a fun y hy => hf y (List.mem_cons_of_mem _ hy)
    by_cases hk : (k == NameKind.free) = true
    · obtain ⟨c', e⟩ := hf (n, k) List.mem_cons_self (by simpa using hk)
      have ec : cellOf env n = pure c' := by unfold cellOf; rw [show env.cells.lookup n = some c' from e]
      simp only [hk, if_true, ec, pure_bind]
      rw [ih, clOf_cons, if_pos hk, show env.cells.lookup n = some c' from e]
      rfl
    · have hk' : (k == NameKind.free) = false := Bool.eq_false_iff.mpr hk
      simp only [hk', Bool.false_eq_true, if_false, pure_bind]
      rw [ih, clOf_cons, if_neg hk]
theorem clos_eq {env : Env} {scope : Scope} (hf : ∀ y ∈ scope.names, y.2 = .free → ∃ c, env.cells.lookup y.1 = some c) : closureFor scope env = pure (clOf env scope.names []) := by
  have h := clos_loop (env := env) scope.names [] hf
  unfold closureFor
  show (do let cs ← forIn scope.names [] _; pure cs) = _
  first
    | (rw [h]; rfl)
    | (simp only [h]; rfl)
    | (refine Eq.trans ?_ h; simp)
theorem lookup_relabel_free {env : Env} : ∀ {names : List (Str × NameKind)} {x : Str}, names.lookup x = some .free →
    (names.map fun (n, k) => if (k == NameKind.free && env.scope.kind == .function && env.kindOf n == some .cell) then (n, NameKind.cell) else (n, k)).lookup x = some .cell ∨
    (names.map fun (n, k) => if (k == NameKind.free && env.scope.kind == .function && env.kindOf n == some .cell) then (n, NameKind.cell) else (n, k)).lookup x = some .free
  | [], _, h => by simp at h
  | (n, k) :: r, x, h => by
    have ih := @lookup_relabel_free env r x
    simp only [List.map_cons]
    cases hx : x == n with
    | true =>
      simp only [List.lookup_cons, hx] at h
      have hk : k = .free := by simpa using h
      subst hk
      by_cases hc : (NameKind.free == NameKind.free && env.scope.kind == .function && env.kindOf n == some .cell) = true
      · left; rw [if_pos hc]; simp [List.lookup_cons, hx]
      · right; rw [if_neg hc]; simp [List.lookup_cons, hx]
    | false =>
      simp only [List.lookup_cons, hx] at h
      by_cases hc : (k == NameKind.free && env.scope.kind == .function && env.kindOf n == some .cell) = true
      · rw [if_pos hc]; simp only [List.lookup_cons, hx]; exact ih h
      · rw [if_neg hc]; simp only [List.lookup_cons, hx]; exact ih h
theorem lookup_relabel_back {env : Env} : ∀ {names : List (Str × NameKind)} {x : Str}, (∀ y ∈ names, y.2 ≠ .cell) →
    ((names.map fun (n, k) => if (k == NameKind.free && env.scope.kind == .function && env.kindOf n == some .cell) then (n, NameKind.cell) else (n, k)).lookup x = some .cell ∨
    (names.map fun (n, k) => if (k == NameKind.free && env.scope.kind == .function && env.kindOf n == some .cell) then (n, NameKind.cell) else (n, k)).lookup x = some .free) → names.lookup x = some .free
  | [], _, _, h => by simp at h
  | (n, k) :: r, x, hn, h => by
    have ih := @lookup_relabel_back env r x fun y hy => hn y (List.mem_cons_of_mem _ hy)
    have hk0 : k ≠ .cell := hn (n, k) List.mem_cons_self
    simp only [List.map_cons] at h
    cases hx : x == n with
    | true =>
      by_cases hc : (k == NameKind.free && env.scope.kind == .function && env.kindOf n == some .cell) = true
      · have : k = .free := by
          rw [Bool.and_eq_true, Bool.and_eq_true] at hc
          simpa using hc.1.1
        simp [List.lookup_cons, hx, this]
      · rw [if_neg hc] at h
        simp only [List.lookup_cons, hx] at h ⊢
        rcases h with h | h
        · exact absurd (Option.some.inj h) hk0
        · exact h
    | false =>
      by_cases hc : (k == NameKind.free && env.scope.kind == .function && env.kindOf n == some .cell) = true
      · rw [if_pos hc] at h; simp only [List.lookup_cons, hx] at h ⊢; exact ih h
      · rw [if_neg hc] at h; simp only [List.lookup_cons, hx] at h ⊢; exact ih h

/-- the names of a comprehension: nOwn of its own, then what it takes from the def around it (whose names are NF): ix says where those stand there -/
structure CScope (NF : List Str) (scF scope : Scope) (nOwn : Nat) (NC : List Str) (ix : List Nat) : Prop where
  kind : scope.kind = .function
  nocell : ∀ y ∈ scope.names, y.2 ≠ .cell
  names : ∀ y ∈ scope.names, y.2 = .local → scope.names.lookup y.1 = some .local
  free : ∀ y ∈ scope.names, y.2 = .free → scF.names.lookup y.1 = some .cell ∨ scF.names.lookup y.1 = some .free
  caps : ∀ p ∈ (NC.drop nOwn).zip ix, NF[p.2]? = some p.1 ∧ scope.names.lookup p.1 = some .free ∧ (scF.names.lookup p.1 = some .cell ∨ scF.names.lookup p.1 = some .free)
  len : NC.length = nOwn + ix.length

/-- the context of its block -/
def cxC (X : Cx) (NC : List Str) (scope : Scope) (cl : List (Str × Addr)) (s : Shared) (H : Hp) (ex : List Addr) : Cx :=
  { X with N := NC, s₀ := s, H₀ := H, env := compEnvC scope cl s.heap.objs.size X.env, outer := X.stack, ex := ex, fn := fun _ => false, pn := [], xe := fun _ _ => False }
/-- the values at the start of each turn -/
def cst (nOwn : Nat) (ix : List Nat) (σ : St) : St := List.replicate nOwn none ++ ix.map fun i => (σ[i]?).join
theorem cst_length (nOwn : Nat) (ix : List Nat) (σ : St) : (cst nOwn ix σ).length = nOwn + ix.length := by
  unfold cst; rw [List.length_append, List.length_replicate, List.length_map]
theorem cst_get {nOwn : Nat} {ix : List Nat} {σ : St} {i : Nat} {v : V} (h : (cst nOwn ix σ)[i]? = some (some v)) : nOwn ≤ i ∧ ∃ k, ix[i - nOwn]? = some k ∧ σ[k]? = some (some v) := by
  unfold cst at h
  by_cases hi : i < nOwn
  · rw [List.getElem?_append_left (by simpa using hi), List.getElem?_replicate] at h
    split at h <;> cases h
  · have hle : nOwn ≤ i := Nat.le_of_not_lt hi
    rw [List.getElem?_append_right (by simpa using hle), List.length_replicate, List.getElem?_map] at h
    cases e : ix[i - nOwn]? with
    | none => rw [e] at h; cases h
    | some k =>
      rw [e] at h
      have h' : (σ[k]?).join = some v := by simpa using h
      refine ⟨hle, k, rfl, ?_⟩
      cases q : σ[k]? with
      | none => rw [q] at h'; cases h'
      | some o => rw [q] at h'; simpa using h'

def tCompK (nOwn : Nat) (ix : List Nat) (wi : TI) (g : TG) (tt : TT) (te : TE) (fin : List V → Hp → Prop) : St → Hp → Prop := fun σ H => wi σ H fun J H1 =>
  ∃ W : Nat → Nat → List V → Hp → Prop, (∃ m, W 0 m [] H1) ∧ ∀ i m ys H2, W i m ys H2 → ys.length ≤ sizeLine ∧
    ((J.stop i H2 ∧ fin ys H2) ∨ (J.go i H2 ∧ ∃ Nx : List V → Hp → Prop, (∀ ys' H', Nx ys' H' → ∃ m', m' < m ∧ W (i + 1) m' ys' H') ∧
      ∀ x H', J.yld i H2 x H' → g x (cst nOwn ix σ) H' fun σ2 H3 => (σ2.drop nOwn = (cst nOwn ix σ).drop nOwn ∧ σ2.length = nOwn + ix.length) ∧
        tt σ2 H3 fun b H4 => if b = true then te σ2 H4 fun v H5 => Nx (ys ++ [v]) H5 else Nx ys H4))
def tComp (nOwn : Nat) (ix : List Nat) (wi : TI) (g : TG) (tt : TT) (te : TE) : TE := fun σ H Q => tCompK nOwn ix wi g tt te (fun ys H2 => ∀ p, H2 p = none → Q (.ref p) (upd H2 p (.lst ys))) σ H
def sComp (i : Nat) (nOwn : Nat) (ix : List Nat) (wi : TI) (g : TG) (tt : TT) (te : TE) : TS := fun D σ H => tCompK nOwn ix wi g tt te (fun ys H2 => ∀ p, H2 p = none → D.nx (σ.set i (some (.ref p))) (upd H2 p (.lst ys))) σ H

section
variable {X : Cx} {NF NC : List Str} {scF scope : Scope} {nOwn : Nat} {ix : List Nat} {tg elt iter : Expr} {ifs : List Expr} {wi : TI} {g : TG} {tt : TT} {te : TE} {pos : Pos}

/-- the block: E is what is wanted of an exception of the two allocations (there is none) -/
theorem comp_block {pins : List (Addr × Obj)} {σ : St} {H : Hp} {s₂ : Shared} {it : Addr} {fp : List Addr} {tn : Nat → Heap → Prop} {J : It} {E : Value → Shared → Prop} {RR : Value → Addr → Result → Shared → Prop} {fin : List V → Hp → Prop}
    (hc : X.calm = true) (hsc : X.env.scope = scF) (hN : X.N = NF) (CS : CScope NF scF scope nOwn NC ix) (I : Inv X pins σ H s₂) (T : Turn X.prog X.w X.K tg J fp it tn) (st0 : tn 0 s₂.heap) (fok : ∀ b ∈ fp, FpOk X pins H b)
    (hg : ∀ cl s H ex, PG (cxC X NC scope cl s H ex) tg g) (hf : ∀ cl s H ex, PF (cxC X NC scope cl s H ex) ifs tt) (he : ∀ cl s H ex, PE (cxC X NC scope cl s H ex) elt te)
    (W : Nat → Nat → List V → Hp → Prop) (w0 : ∃ m, W 0 m [] H) (turn : ∀ i m ys H2, W i m ys H2 → ys.length ≤ sizeLine ∧
      ((J.stop i H2 ∧ fin ys H2) ∨ (J.go i H2 ∧ ∃ Nx : List V → Hp → Prop, (∀ ys' H', Nx ys' H' → ∃ m', m' < m ∧ W (i + 1) m' ys' H') ∧
        ∀ x H', J.yld i H2 x H' → g x (cst nOwn ix σ) H' fun σ2 H3 => (σ2.drop nOwn = (cst nOwn ix σ).drop nOwn ∧ σ2.length = nOwn + ix.length) ∧
          tt σ2 H3 fun b H4 => if b = true then te σ2 H4 fun v H5 => Nx (ys ++ [v]) H5 else Nx ys H4)))
    (hRR : ∀ (C D : Addr) (oC : Obj) (ys : List V) (H' : Hp) (s' : Shared), H' D = none → fin ys H' → (∃ es ep, oC.data = .dict es ep ∧ StrKeys es) → Inv X (pins ++ [(C, oC)]) σ (upd H' D (.lst ys)) s' →
      FpOk X pins (upd H' D (.lst ys)) C → RR (.ref D) C (.ok .next) s') :
    wpAny (model X.prog X.w) X.A (newList []) (fun acc s₃ => wpAny (model X.prog X.w) X.A (newFunctionEnv scope X.env.globals (clOf X.env scope.names []) [] X.env.qual none .none (some X.env)) (fun cenv s₄ =>
      codeAny (model X.prog X.w) X.A (.compStart (.ListComp elt [⟨tg, iter, ifs, 0⟩] scope pos) 0 (.ref it) acc { cenv with scope := relabel scope X.env }) (RR acc cenv.locals) s₄) E s₃) E s₂ := by
  have hfree : ∀ y ∈ scope.names, y.2 = .free → ∃ c, X.env.cells.lookup y.1 = some c := fun y hy e => I.ok.has y.1 (by
    have := CS.free y hy e
    rw [← hsc] at this
    exact this)
  have clsub : ∀ x c, (clOf X.env scope.names []).lookup x = some c → X.env.cells.lookup x = some c := fun x c h => clOf_sub scope.names [] hfree (fun x c h => by simp at h) h
  refine wpAny_newObj_type (wpAny_newFunctionEnv CS.nocell (by intro y hy; simp at hy) (fun h₁ hns₁ hsb₁ => ?_) CS.kind)
  dsimp only at hns₁ hsb₁ ⊢
  -- D: the list, C: the names
  have hD : ∀ b o, s₂.heap.get? b = some o → b < s₂.heap.objs.size := fun b o e => Heap.lt_size e
  generalize hH3 : s₂.heap.push { cls := .type "list", dict := none, data := .seq ([] : List Value).toArray } = h3 at hns₁ hsb₁ ⊢
  have hCs : h3.objs.size = s₂.heap.objs.size + 1 := by rw [← hH3, Heap.size_push]
  have hDC : s₂.heap.objs.size ≠ h3.objs.size := by rw [hCs]; exact Nat.ne_of_lt (Nat.lt_succ_self _)
  have k23 : ∀ b o, s₂.heap.get? b = some o → h3.get? b = some o := fun b o e => by rw [← hH3]; exact Heap.get?_push_of_some _ e
  have k31 : ∀ b o, h3.get? b = some o → h₁.get? b = some o := fun b o e => (hsb₁.2 b (Nat.ne_of_lt (Heap.lt_size e))).trans (Heap.get?_push_of_some _ e)
  have I3 : Inv X pins σ H { s₂ with heap := h3 } := I.kept (t' := s₂.toks) k23
  have hDg : h3.get? s₂.heap.objs.size = some { cls := .type "list", data := .seq ([] : List Value).toArray } := by rw [← hH3]; exact Heap.get?_push_size _ rfl
  have hDn : H s₂.heap.objs.size = none := I.fresh
  have hfl : ∀ b ∈ fp, b < s₂.heap.objs.size := fun b hb => by
    obtain ⟨o, e, _⟩ := T.obj 0 _ st0 b hb
    exact Heap.lt_size e
  have hDf : s₂.heap.objs.size ∉ fp := fun z => Nat.lt_irrefl _ (hfl _ z)
  have cellLt : ∀ x c, (clOf X.env scope.names []).lookup x = some c → c < s₂.heap.objs.size := fun x c h => by
    obtain ⟨v, q⟩ := I.cell x c (clsub x c h)
    exact q.lt
  have ndC : ∀ b ∈ frs X.stack, b < s₂.heap.objs.size := fun b hb => by
    rcases List.mem_cons.mp (I.stkSub b hb) with e | hb
    · rw [e]; exact I.lt
    · obtain ⟨_, o, ho, _⟩ := I.funs.mem hb
      exact Heap.lt_size ho
  have notfs : ∀ b ∈ fp, b ∉ frs X.stack := fun b hb z => by
    rcases List.mem_cons.mp (I.stkSub b z) with e | z
    · exact (fok b hb).2.1 e
    · exact (fok b hb).2.2.1 z
  -- the block's context
  have okY : (cxC X NC scope (clOf X.env scope.names []) { s₂ with heap := h3 } H (s₂.heap.objs.size :: fp)).Ok := by
    refine ⟨I.ok.mod, CS.kind, I.ok.glob, I.ok.blt, Nat.le_refl _, fun x y c e1 e2 => I.ok.inj x y c (clsub x c e1) (clsub y c e2), fun x hx => ?_, fun x c hx => (by cases (show false = true from hx)), I.ok.hd, I.ok.frames, .inl rfl, fun b hb => ⟨?_, fun x c e => ?_⟩,
      fun b o e => ⟨k23 _ _ (I.bs b o e).1, (I.bs b o e).2⟩, Nat.le_trans (Nat.le_trans I.ok.bsz I.sz) (show s₂.heap.objs.size ≤ h3.objs.size by rw [hCs]; exact Nat.le_succ _), fun b o e hb => ?_, fun b hb => ?_, I3.stack, I3.stkFree⟩
    · have hx' : scope.names.lookup x = some .free := lookup_relabel_back CS.nocell hx
      exact Option.isSome_iff_exists.mp (clOf_has scope.names [] hx')
    · show b ≠ h3.objs.size
      rcases List.mem_cons.mp hb with e | hb
      · rw [e]; exact hDC
      · rw [hCs]; exact Nat.ne_of_lt (Nat.lt_succ_of_lt (hfl b hb))
    · rcases List.mem_cons.mp hb with e' | hb
      · rw [e']; exact Nat.ne_of_lt (cellLt x c e)
      · exact (fok b hb).2.2.2.2.1 x c (clsub x c e)
    · rcases List.mem_cons.mp hb with e' | hb
      · exact absurd (hD _ _ (I.bs b o e).1) (by rw [e']; exact Nat.lt_irrefl _)
      · rcases (fok b hb).2.2.2.1 with z | z
        · exact I.ok.noex b o e z
        · exact absurd (Nat.lt_of_lt_of_le (Heap.lt_size (I.ok.bs b o e).1) z) (Nat.lt_irrefl _)
    · rcases List.mem_cons.mp hb with e' | hb
      · intro z
        rw [e'] at z
        exact Nat.lt_irrefl _ (ndC _ z)
      · exact notfs b hb
  have hpl0 : h₁.PlainList s₂.heap.objs.size #[] := ⟨_, k31 _ _ hDg⟩
  have IY : Inv (cxC X NC scope (clOf X.env scope.names []) { s₂ with heap := h3 } H (s₂.heap.objs.size :: fp)) [] (cst nOwn ix σ) H { s₂ with heap := h₁, toks := s₂.toks + ([] : List (Str × Value)).length } := by
    refine ⟨okY, rfl, I3.bare, Un.kept k31, ⟨_, hns₁, fun i x v e1 e2 e3 => ?_⟩, fun x c e => ?_, I3.hok.fresh (Nat.le_refl _), fun x c e => I.freeC x c (clsub x c e), fun p hp => absurd (show p ∈ ([] : List (Addr × Obj)) from hp) (by simp), I3.hok.kept k31, ?_⟩
    · obtain ⟨hle, k, hk, hσ⟩ := cst_get e2
      have hz : (x, k) ∈ (NC.drop nOwn).zip ix := by
        refine List.mem_of_getElem? (i := i - nOwn) ?_
        rw [List.getElem?_zip_eq_some]
        refine ⟨?_, hk⟩
        rw [List.getElem?_drop, Nat.add_sub_cancel' hle]
        exact e1
      obtain ⟨hNk, hfr, hkd⟩ := CS.caps _ hz
      obtain ⟨m, _, hl⟩ := I.loc
      rw [← hsc] at hkd
      obtain ⟨u, ru, lk⟩ := hl k x v (by rw [hN]; exact hNk) hσ (.inr hkd)
      refine ⟨u, ru, ?_⟩
      rcases lk with ⟨z, _⟩ | ⟨z, c, ec, hcell⟩
      · have z' : X.env.scope.names.lookup x = some .local := z
        rcases hkd with q | q
        · rw [z'] at q; cases q
        · rw [z'] at q; cases q
      · obtain ⟨c', ec'⟩ := Option.isSome_iff_exists.mp (clOf_has (env := X.env) scope.names [] hfr)
        have := clsub x c' ec'
        rw [ec] at this
        cases this
        obtain ⟨oc, hoc, hd⟩ := hcell
        exact .inr ⟨lookup_relabel_free hfr, c, ec', oc, k31 _ _ (k23 _ _ hoc), hd⟩
    · obtain ⟨v, oc, hoc, hd⟩ := I.cell x c (clsub x c e)
      exact ⟨v, oc, k31 _ _ (k23 _ _ hoc), hd⟩
    · rw [cst_length]; exact CS.len.symm
  -- the loop
  have fokY : ∀ {H' : Hp} {pins' : List (Addr × Obj)}, (∀ b ∈ fp, H' b = none) → (∀ p ∈ pins', p.1 = s₂.heap.objs.size) → ∀ b ∈ fp, FpOk (cxC X NC scope (clOf X.env scope.names []) { s₂ with heap := h3 } H (s₂.heap.objs.size :: fp)) pins' H' b := fun {H' pins'} hn hp b hb => by
    refine ⟨hn b hb, ?_, notfs b hb, .inl (List.mem_cons_of_mem _ hb), fun x c e => (fok b hb).2.2.2.2.1 x c (clsub x c e), fun p hp' z => ?_⟩
    · show b ≠ h3.objs.size
      rw [hCs]; exact Nat.ne_of_lt (Nat.lt_succ_of_lt (hfl b hb))
    · have e := hp p (by simpa [cxC] using hp')
      rw [e] at z
      exact hDf (z ▸ hb)
  have loop : ∀ s₅ : Shared, s₅ = { s₂ with heap := h₁, toks := s₂.toks + ([] : List (Str × Value)).length } →
      codeAny (model X.prog X.w) X.A (.compLoop (.ListComp elt [⟨tg, iter, ifs, 0⟩] scope pos) 0 (.ref it) (.ref s₂.heap.objs.size) (compEnvC scope (clOf X.env scope.names []) h3.objs.size X.env)) (RR (.ref s₂.heap.objs.size) h3.objs.size) s₅ := by
    rintro s₅ rfl
    obtain ⟨m0, w0⟩ := w0
    refine comp_loop (fun n s' => ∃ i ys its H', Inv (cxC X NC scope (clOf X.env scope.names []) { s₂ with heap := h3 } H (s₂.heap.objs.size :: fp)) [] (cst nOwn ix σ) H' s' ∧ tn i s'.heap ∧ (∀ b ∈ fp, H' b = none) ∧ H' s₂.heap.objs.size = none ∧
      s'.heap.PlainList s₂.heap.objs.size its ∧ Vals ys its.toList ∧ W i n ys H') ?_ m0 ⟨0, [], #[], H, IY, T.keep 0 _ _ st0 (fun b hb o e => k31 _ _ (k23 _ _ e)), fun b hb => (fok b hb).1, hDn, hpl0, .nil, w0⟩
    rintro n s6 ⟨i, ys, its, H6, I6, st6, fr6, nD6, ⟨nn, pl6⟩, rv6, w6⟩
    have DneC : s₂.heap.objs.size ≠ (cxC X NC scope (clOf X.env scope.names []) { s₂ with heap := h3 } H (s₂.heap.objs.size :: fp)).env.locals := hDC
    have hsize : its.size = ys.length := by rw [rv6.length]; simp
    have pinD : ∀ {s' : Shared} {H' : Hp} {σ' : St} {o : Obj} {its' : Array Value}, Inv (cxC X NC scope (clOf X.env scope.names []) { s₂ with heap := h3 } H (s₂.heap.objs.size :: fp)) [] σ' H' s' → H' s₂.heap.objs.size = none → s'.heap.get? s₂.heap.objs.size = some o → o.data = .seq its' nn → Inv (cxC X NC scope (clOf X.env scope.names []) { s₂ with heap := h3 } H (s₂.heap.objs.size :: fp)) [(s₂.heap.objs.size, o)] σ' H' s' := by
      intro s' H' σ' o its' J hn hg' hdt
      refine J.pins_of fun p hp => ?_
      have e : p = (s₂.heap.objs.size, o) := by simpa using hp
      subst e
      refine ⟨hg', hn, DneC, fun z => Nat.lt_irrefl _ (ndC _ z), fun v z => ?_⟩
      rw [hdt] at z
      cases z
    have J6 := pinD I6 nD6 pl6 rfl
    obtain ⟨hlen, hw⟩ := turn i n ys H6 w6
    rcases hw with ⟨stop, hfin⟩ | ⟨go, Nx, hNx, step⟩
    · refine wpAny_mono (T.done (cxC X NC scope (clOf X.env scope.names []) { s₂ with heap := h3 } H (s₂.heap.objs.size :: fp)) rfl rfl rfl hc i _ s6 _ H6 _ J6 (fokY fr6 (fun p hp => by rw [List.mem_singleton.mp hp])) st6 stop) (fun r s7 hr => ?_) fun _ _ e => e
      obtain ⟨rfl, J7⟩ := hr
      -- the end: back to the def's context
      have g7 : s7.heap.get? s₂.heap.objs.size = some { cls := .type "list", data := .seq its nn } := (J7.pin (s₂.heap.objs.size, _) (List.mem_append_right _ (by simp))).1
      obtain ⟨mC, ⟨oC, es, ep, hoC, hdC, hkC, _⟩, _⟩ := id J7.loc
      have hoC' : s7.heap.get? h3.objs.size = some oC := hoC
      have nC7 : H6 h3.objs.size = none := J7.free
      have ub := J7.base
      have exn : ∀ b o, s₂.heap.get? b = some o → b ∉ fp → b ∉ s₂.heap.objs.size :: fp := fun b o e hb z => by
        rcases List.mem_cons.mp z with e' | z
        · exact absurd (Heap.lt_size e) (by rw [e']; exact Nat.lt_irrefl _)
        · exact hb z
      have neD : ∀ b o, s₂.heap.get? b = some o → b ≠ s₂.heap.objs.size := fun b o e => Nat.ne_of_lt (Heap.lt_size e)
      have hneD : ∀ b u, H6 b = some u → b ≠ s₂.heap.objs.size := fun b u e z => by rw [z, nD6] at e; cases e
      have U : Un (frs X.stack) fp H (upd H6 s₂.heap.objs.size (.lst ys)) s₂.heap s7.heap := by
        refine ⟨fun b o e hn hb hx => ub.keep b o (k23 _ _ e) hn hb (exn b o e hx), fun b o e hn hb hx => ub.slot b o (k23 _ _ e) hn hb (exn b o e hx), fun b o e hn hx => ?_, fun b o e hx => ub.there b o (k23 _ _ e) (exn b o e hx), fun b xs e => ?_, fun b o u e => ?_, fun b ps e => ?_⟩
        · rw [upd_ne (neD b o e)]; exact ub.free b o (k23 _ _ e) hn (exn b o e hx)
        · have q := ub.tups b xs e
          rw [upd_ne (hneD _ _ q)]; exact q
        · have q := ub.frzs b o u e
          rw [upd_ne (hneD _ _ q)]; exact q
        · obtain ⟨more, q⟩ := ub.tbls b ps e
          exact ⟨more, by rw [upd_ne (hneD _ _ q)]; exact q⟩
      have hok7 : HOk X.prog X.w (upd H6 s₂.heap.objs.size (.lst ys)) s7.heap := fun b u e => by
        by_cases hb : b = s₂.heap.objs.size
        · subst hb
          rw [upd_same] at e
          cases e
          exact ⟨hlen, its.toList, nn, rv6, by rw [Array.toArray_toList]; exact g7⟩
        · rw [upd_ne hb] at e
          refine ObjOk.stay (J7.hok b u e) (fun _ _ _ q => q) (fun c q => ?_) fun c xs q => ?_
          · rw [upd_ne (hneD _ _ q)]; exact q
          · rw [upd_ne (hneD _ _ q)]; exact q
      have os7 : s7.os = s₂.os := J7.os
      have IX : Inv X pins σ (upd H6 s₂.heap.objs.size (.lst ys)) s7 := I.call' os7 U hok7 J7.bare fun b hb => ⟨(fok b hb).2.2.2.1, (fok b hb).2.1, (fok b hb).2.2.2.2.1, (fok b hb).2.2.2.2.2⟩
      have nC' : (upd H6 s₂.heap.objs.size (.lst ys)) h3.objs.size = none := by rw [upd_ne (Ne.symm hDC)]; exact nC7
      have hle : s₂.heap.objs.size ≤ h3.objs.size := by rw [hCs]; exact Nat.le_succ _
      have fC : FpOk X pins (upd H6 s₂.heap.objs.size (.lst ys)) h3.objs.size := I.fpOk hle nC'
      refine hRR h3.objs.size s₂.heap.objs.size oC ys H6 s7 nD6 hfin ⟨es, ep, hdC, hkC⟩ (IX.pins_of fun p hp => ?_) fC
      rcases List.mem_append.mp hp with z | z
      · exact IX.pin p (List.mem_append_right _ z)
      · have e : p = (h3.objs.size, oC) := by simpa using z
        subst e
        exact ⟨hoC', nC', fC.2.1, fC.2.2.1, fun v z => by rw [hdC] at z; cases z⟩
    · refine wpAny_mono (T.item (cxC X NC scope (clOf X.env scope.names []) { s₂ with heap := h3 } H (s₂.heap.objs.size :: fp)) rfl rfl rfl hc i _ s6 _ H6 _ J6 (fokY fr6 (fun p hp => by rw [List.mem_singleton.mp hp])) st6 go) (fun r s7 hr => ?_) fun _ _ e => e
      obtain ⟨u, rfl, h7⟩ := hr
      refine wpAny_mono h7 (fun _ s8 ⟨x, H8, I8, r8, y8, st8, fr8⟩ => ?_) fun _ _ e => e
      have I8' := I8.pinned (fokY fr8 (fun p hp => by rw [List.mem_singleton.mp hp])) (T.obj _ _ st8)
      refine wpAny_mono (hg _ _ _ _ _ s8 _ H8 x u _ I8' r8 (step x H8 y8)) (fun _ s9 ⟨σ9, H9, I9, ⟨hσ, hl9⟩, q9⟩ => ?_) fun _ _ e => e.elim
      have wk : ∀ {s' : Shared} {H' : Hp}, Inv (cxC X NC scope (clOf X.env scope.names []) { s₂ with heap := h3 } H (s₂.heap.objs.size :: fp)) [] σ9 H' s' → Inv (cxC X NC scope (clOf X.env scope.names []) { s₂ with heap := h3 } H (s₂.heap.objs.size :: fp)) [] (cst nOwn ix σ) H' s' := fun K => by
        refine K.weak (by rw [cst_length, hl9]) fun j v e => ?_
        obtain ⟨hle, _⟩ := cst_get e
        have : (σ9.drop nOwn)[j - nOwn]? = ((cst nOwn ix σ).drop nOwn)[j - nOwn]? := by rw [hσ]
        rw [List.getElem?_drop, List.getElem?_drop, Nat.add_sub_cancel' hle] at this
        rw [this]; exact e
      refine wpAny_mono (hf _ _ _ _ _ s9 σ9 H9 _ I9 q9) (fun ok s10 ⟨H10, I10, q10⟩ => ?_) fun _ _ e => e.elim
      have back : ∀ {s' : Shared} {H' : Hp}, Inv (cxC X NC scope (clOf X.env scope.names []) { s₂ with heap := h3 } H (s₂.heap.objs.size :: fp)) ([(s₂.heap.objs.size, ({ cls := .type "list", data := .seq its nn } : Obj))] ++ pinsAt fp s8.heap) σ9 H' s' →
          tn (i + 1) s'.heap ∧ (∀ b ∈ fp, H' b = none) ∧ H' s₂.heap.objs.size = none ∧ s'.heap.get? s₂.heap.objs.size = some { cls := .type "list", data := .seq its nn } ∧ Inv (cxC X NC scope (clOf X.env scope.names []) { s₂ with heap := h3 } H (s₂.heap.objs.size :: fp)) [] σ9 H' s' := fun {s' H'} K => by
        have kp : ∀ b ∈ fp, ∀ o, s8.heap.get? b = some o → s'.heap.get? b = some o ∧ H' b = none := fun b hb o e => by
          have q := K.pin (b, o) (List.mem_append_right _ (List.mem_append_right _ (mem_pinsAt hb e)))
          exact ⟨q.1, q.2.1⟩
        have qD := K.pin (s₂.heap.objs.size, ({ cls := .type "list", data := .seq its nn } : Obj)) (List.mem_append_right _ (List.mem_append_left _ (by simp)))
        refine ⟨T.keep _ _ _ st8 fun b hb o e => (kp b hb o e).1, fun b hb => ?_, qD.2.1, qD.1, K.pins_of fun p hp => absurd hp (by simp)⟩
        obtain ⟨o, e, _⟩ := T.obj _ _ st8 b hb
        exact (kp b hb o e).2
      cases ok with
      | false =>
        obtain ⟨a1, a2, a3, a4, a5⟩ := back I10
        obtain ⟨m', hm', w'⟩ := hNx ys H10 q10
        exact ⟨m', hm', i + 1, ys, its, H10, wk a5, a1, a2, a3, ⟨nn, a4⟩, rv6, w'⟩
      | true =>
        refine wpAny_mono (he _ _ _ _ _ s10 σ9 H10 _ I10 q10) (fun y s11 ⟨v, H11, I11, r11, q11⟩ => ?_) fun _ _ e => e.elim
        obtain ⟨a1, a2, a3, a4, a5⟩ := back I11
        obtain ⟨m', hm', w'⟩ := hNx (ys ++ [v]) H11 q11
        refine wpAny_list_append_plain (hsz := by rw [hsize]; exact hlen) ⟨nn, a4⟩ fun h12 pl12 sb12 => ?_
        have I12 : Inv (cxC X NC scope (clOf X.env scope.names []) { s₂ with heap := h3 } H (s₂.heap.objs.size :: fp)) [] σ9 H11 { s11 with heap := h12 } := a5.turned (t' := s11.toks) (it := s₂.heap.objs.size) (fun b o hb e => (sb12.2 b hb).trans e) a3 DneC (.inl List.mem_cons_self)
          (fun x c e => Nat.ne_of_lt (cellLt x c e)) (fun p hp => absurd (show p ∈ ([] : List (Addr × Obj)) from by simpa [cxC] using hp) (by simp))
        refine ⟨m', hm', i + 1, ys ++ [v], its.push y, H11, wk I12, T.keep _ _ _ a1 fun b hb o e => (sb12.2 b (fun z => hDf (z ▸ hb))).trans e, a2, a3, pl12, ?_, w'⟩
        rw [Array.toList_push]
        exact rv6.append (.cons r11 .nil)
  exact codeAny_compStart_list (loop _ rfl) (T.self _ 0 _ _ _ (T.keep 0 _ _ st0 (fun b hb o e => k31 _ _ (k23 _ _ e))) (loop _ rfl))

/-- [elt for tg in iter ..] -/
theorem pe_comp (hc : X.calm = true) (hsc : X.env.scope = scF) (hN : X.N = NF) (CS : CScope NF scF scope nOwn NC ix) (hi : PI X tg iter wi)
    (hg : ∀ cl s H ex, PG (cxC X NC scope cl s H ex) tg g) (hf : ∀ cl s H ex, PF (cxC X NC scope cl s H ex) ifs tt) (he : ∀ cl s H ex, PE (cxC X NC scope cl s H ex) elt te)
    (hs : ∀ x, foldedSetIterable iter X.env x = pure x := by intro _; rfl) : PE X (.ListComp elt [⟨tg, iter, ifs, 0⟩] scope pos) (tComp nOwn ix wi g tt te) := by
  intro pins s σ H Q I h
  have hfree : ∀ y ∈ scope.names, y.2 = .free → ∃ c, X.env.cells.lookup y.1 = some c := fun y hy e => I.ok.has y.1 (by
    have := CS.free y hy e
    rw [← hsc] at this
    exact this)
  rw [eval_ListComp]
  refine wpAny_comprehension_free (use := none) rfl hs (clos_eq hfree) CS.kind CS.names (thn (hi pins s σ H _ I h) fun xv s₁ h₁ => thn h₁ fun itv s₂ h₂ => ?_)
  obtain ⟨it, fp, tn, J, H2, rfl, I2, T, st2, f2, W, w0, turn⟩ := h₂
  refine comp_block (RR := fun acc C => compPost (model X.prog X.w) X.A X.xe none (EP X pins σ Q) acc C) hc hsc hN CS I2 T st2 f2 hg hf he W w0 turn ?_
  intro C D oC ys H' s' hD hfin hoC IC fC
  obtain ⟨es, ep, hd, hk⟩ := hoC
  have gC := (IC.pin (C, oC) (List.mem_append_right _ (List.mem_append_right _ (by simp)))).1
  refine ⟨_, ⟨oC, es, ep, gC, hd, hk, fun _ => rfl⟩, fun h'' sb => ?_⟩
  have I' : Inv X pins σ (upd H' D (.lst ys)) s' := IC.unpinned
  exact ⟨.ref D, _, I'.turned (t' := s'.toks) (it := C) (fun b o hb e => (sb.2 b hb).trans e) fC.1 fC.2.1 fC.2.2.2.1 fC.2.2.2.2.1 fC.2.2.2.2.2, rfl, hfin D hD⟩

/-- y = [elt for tg in iter ..], on one row -/
theorem ps_comp {i : Nat} {y : Str} {py spos : Pos} (hc : X.calm = true) (hsc : X.env.scope = scF) (hN : X.N = NF) (hNd : X.N.Nodup) (hi' : X.N[i]? = some y) (hy : X.env.scope.names.lookup y = some .local) (CS : CScope NF scF scope nOwn NC ix) (hi : PI X tg iter wi)
    (hg : ∀ cl s H ex, PG (cxC X NC scope cl s H ex) tg g) (hf : ∀ cl s H ex, PF (cxC X NC scope cl s H ex) ifs tt) (he : ∀ cl s H ex, PE (cxC X NC scope cl s H ex) elt te)
    (hsw : swapsWith (.ListComp elt [⟨tg, iter, ifs, 0⟩] scope pos) (some (.Name y py)) spos.line X.env = pure true := by rfl)
    (hs : ∀ x, foldedSetIterable iter X.env x = pure x := by intro _; rfl) : PS X (.Assign [.Name y py] (.ListComp elt [⟨tg, iter, ifs, 0⟩] scope pos) spos) (sComp i nOwn ix wi g tt te) := by
  intro pins s σ H D I h
  have hfree : ∀ y ∈ scope.names, y.2 = .free → ∃ c, X.env.cells.lookup y.1 = some c := fun y hy e => I.ok.has y.1 (by
    have := CS.free y hy e
    rw [← hsc] at this
    exact this)
  rw [exec_Assign_Name_used _ _ _ _ hsw]
  refine wpAny_bind (wpAny_standAt (wpAny_bind ?_))
  show wpAny _ X.A (do let _ ← comprehension (.ListComp elt [⟨tg, iter, ifs, 0⟩] scope pos) scope X.env _ (newList []) false (eval iter X.env) (some (assign (.Name y py) X.env))) _ _ s
  refine wpAny_bind (wpAny_mono (wpAny_comprehension_free (use := some (assign (.Name y py) X.env)) (Q := fun _ s' => SP X pins D .next s') rfl hs (clos_eq hfree) CS.kind CS.names
    (thn (hi pins s σ H _ I h) fun xv s₁ h₁ => thn h₁ fun itv s₂ h₂ => ?_)) (fun _ s' hq => wpAny_pure (wpAny_pure hq)) fun _ _ e => e)
  obtain ⟨it, fp, tn, J, H2, rfl, I2, T, st2, f2, W, w0, turn⟩ := h₂
  refine comp_block (RR := fun acc C => compPost (model X.prog X.w) X.A X.xe (some (assign (.Name y py) X.env)) (fun _ s' => SP X pins D .next s') acc C) hc hsc hN CS I2 T st2 f2 hg hf he W w0 turn ?_
  intro C L oC ys H' s' hL hfin hoC IC fC
  obtain ⟨es, ep, hd, hk⟩ := hoC
  show wpAny _ X.A (assign (.Name y py) X.env (.ref L)) _ _ _
  refine wpAny_assign_Name (store_ok IC hNd hi' (.inl hy) (v := .ref L) rfl (fun s'' I'' => ?_) (.inr hy))
  have gC := (I''.pin (C, oC) (List.mem_append_right _ (List.mem_append_right _ (by simp)))).1
  refine ⟨_, ⟨oC, es, ep, gC, hd, hk, fun _ => rfl⟩, fun h'' sb => ?_⟩
  have I' : Inv X pins (σ.set i (some (.ref L))) (upd H' L (.lst ys)) s'' := I''.unpinned
  exact ⟨_, _, I'.turned (t' := s''.toks) (it := C) (fun b o hb e => (sb.2 b hb).trans e) fC.1 fC.2.1 fC.2.2.2.1 fC.2.2.2.2.1 fC.2.2.2.2.2, hfin L hL⟩
end
end L2
set_option maxHeartbeats 4000000
/-! Calls of Python's own over values; loops by a count; == of lists. -/
namespace L2
open PySem PySem.Spec PyProof.Rows

/-! ### loops by a count -/
structure Cnt (J : It) (n : Nat) (Ok : Hp → Prop) (Y : Nat → Hp → V → Hp → Prop) : Prop where
  go : ∀ i H, i < n → Ok H → J.go i H
  stop : ∀ H, Ok H → J.stop n H
  yld : ∀ i H x H', i < n → Ok H → J.yld i H x H' → Y i H x H'
theorem cnt_list {K : PySem.W.Frag} {a : Addr} {xs : List V} : Cnt (Itl K a) xs.length (fun H => SqL K H a xs) (fun i H x H' => H' = H ∧ xs[i]? = some x) :=
  ⟨fun i H hi h => ⟨xs, xs[i], h, by simp [hi]⟩, fun H h => ⟨xs, h, Nat.le_refl _⟩, fun i H x H' hi h y => ⟨y.1, y.2 xs h⟩⟩
theorem cnt_tup {K : PySem.W.Frag} {a : Addr} {xs : List V} : Cnt (Itt K a) xs.length (fun H => SqT K H a xs) (fun i H x H' => H' = H ∧ xs[i]? = some x) :=
  ⟨fun i H hi h => ⟨xs, xs[i], h, by simp [hi]⟩, fun H h => ⟨xs, h, Nat.le_refl _⟩, fun i H x H' hi h y => ⟨y.1, y.2 xs h⟩⟩
theorem cnt_range {lo : Int} {n : Nat} : Cnt (Itr lo n) n (fun _ => True) (fun i H x H' => H' = H ∧ x = .int (lo + i)) :=
  ⟨fun i H hi h => hi, fun H h => Nat.le_refl n, fun i H x H' hi h y => y⟩
theorem cnt_enum {K : PySem.W.Frag} {a : Addr} {xs : List V} : Cnt (Ite K a) xs.length (fun H => SqL K H a xs) (fun i H x H' => ∃ T y, xs[i]? = some y ∧ H T = none ∧ x = .ref T ∧ H' = upd H T (.tup [.int i, y])) :=
  ⟨fun i H hi h => ⟨xs, xs[i], h, by simp [hi]⟩, fun H h => ⟨xs, h, Nat.le_refl _⟩, fun i H x H' hi h y => by
    obtain ⟨T, h1, h2, h3⟩ := y
    obtain ⟨y, h4, h5⟩ := h3 xs h
    exact ⟨T, y, h4, h1, h2, h5⟩⟩
theorem cnt_zip {K : PySem.W.Frag} {a b : Addr} {xs ys : List V} (hl : xs.length = ys.length) : Cnt (Itz K a b) xs.length (fun H => SqL K H a xs ∧ SqL K H b ys)
    (fun i H x H' => ∃ T u v, xs[i]? = some u ∧ ys[i]? = some v ∧ H T = none ∧ x = .ref T ∧ H' = upd H T (.tup [u, v])) :=
  ⟨fun i H hi h => ⟨xs, ys, xs[i], ys[i]'(by omega), h.1, h.2, by simp [hi], by simp [show i < ys.length by omega]⟩, fun H h => ⟨xs, ys, h.1, h.2, .inl (Nat.le_refl _)⟩, fun i H x H' hi h y => by
    obtain ⟨T, h1, h2, h3⟩ := y
    obtain ⟨u, v, h4, h5, h6⟩ := h3 xs ys h.1 h.2
    exact ⟨T, u, v, h4, h5, h1, h2, h6⟩⟩
theorem for_cnt {J : It} {n : Nat} {Ok : Hp → Prop} {Y : Nat → Hp → V → Hp → Prop} (C : Cnt J n Ok Y) {g : TG} {tb : TS} {D : Ends} {σ : St} {H : Hp} (Pv : Nat → St → Hp → Prop) (h0 : Pv 0 σ H) (hl : ∀ i σ H, i ≤ n → Pv i σ H → Ok H)
    (hs : ∀ i x σ H H', i < n → Pv i σ H → Y i H x H' → g x σ H' fun σ2 H2 => tb { D with nx := Pv (i + 1), ct := Pv (i + 1), bk := D.nx } σ2 H2) (hd : ∀ σ H, Pv n σ H → D.nx σ H) :
    ∃ W : Nat → Nat → St → Hp → Prop, (∃ m, W 0 m σ H) ∧ ∀ i m σ H, W i m σ H →
      (J.stop i H ∧ D.nx σ H) ∨ (J.go i H ∧ ∃ N : St → Hp → Prop, (∀ σ' H', N σ' H' → ∃ m', m' < m ∧ W (i + 1) m' σ' H') ∧ ∀ x H', J.yld i H x H' → g x σ H' fun σ2 H2 => tb { D with nx := N, ct := N, bk := D.nx } σ2 H2) := by
  refine ⟨fun i m σ H => m = n - i ∧ i ≤ n ∧ Pv i σ H, ⟨n, by simp, Nat.zero_le _, h0⟩, ?_⟩
  rintro i m σ H ⟨rfl, hi, p⟩
  have q := hl i σ H hi p
  by_cases hlt : i < n
  · exact .inr ⟨C.go i H hlt q, Pv (i + 1), fun σ' H' p' => ⟨n - (i + 1), by omega, rfl, hlt, p'⟩, fun x H' y => hs i x σ H H' hlt p (C.yld i H x H' hlt q y)⟩
  · have e : i = n := by omega
    subst e
    exact .inl ⟨C.stop H q, hd σ H p⟩
theorem comp_cnt {J : It} {n : Nat} {Ok : Hp → Prop} {Y : Nat → Hp → V → Hp → Prop} (C : Cnt J n Ok Y) {nOwn : Nat} {ix : List Nat} {g : TG} {tt : TT} {te : TE} {fin : List V → Hp → Prop} {σ : St} {H : Hp} (Pv : Nat → List V → Hp → Prop) (h0 : Pv 0 [] H)
    (hl : ∀ i ys H, i ≤ n → Pv i ys H → Ok H ∧ ys.length ≤ sizeLine)
    (hs : ∀ i x ys H H', i < n → Pv i ys H → Y i H x H' → g x (cst nOwn ix σ) H' fun σ2 H3 => (σ2.drop nOwn = (cst nOwn ix σ).drop nOwn ∧ σ2.length = nOwn + ix.length) ∧ tt σ2 H3 fun b H4 => if b = true then te σ2 H4 fun v H5 => Pv (i + 1) (ys ++ [v]) H5 else Pv (i + 1) ys H4)
    (hd : ∀ ys H, Pv n ys H → fin ys H) :
    ∃ W : Nat → Nat → List V → Hp → Prop, (∃ m, W 0 m [] H) ∧ ∀ i m ys H2, W i m ys H2 → ys.length ≤ sizeLine ∧
    ((J.stop i H2 ∧ fin ys H2) ∨ (J.go i H2 ∧ ∃ Nx : List V → Hp → Prop, (∀ ys' H', Nx ys' H' → ∃ m', m' < m ∧ W (i + 1) m' ys' H') ∧
      ∀ x H', J.yld i H2 x H' → g x (cst nOwn ix σ) H' fun σ2 H3 => (σ2.drop nOwn = (cst nOwn ix σ).drop nOwn ∧ σ2.length = nOwn + ix.length) ∧
        tt σ2 H3 fun b H4 => if b = true then te σ2 H4 fun v H5 => Nx (ys ++ [v]) H5 else Nx ys H4)) := by
  refine ⟨fun i m ys H => m = n - i ∧ i ≤ n ∧ Pv i ys H, ⟨n, by simp, Nat.zero_le _, h0⟩, ?_⟩
  rintro i m ys H ⟨rfl, hi, p⟩
  have q := hl i ys H hi p
  refine ⟨q.2, ?_⟩
  by_cases hlt : i < n
  · exact .inr ⟨C.go i H hlt q.1, Pv (i + 1), fun σ' H' p' => ⟨n - (i + 1), by omega, rfl, hlt, p'⟩, fun x H' y => hs i x ys H H' hlt p (C.yld i H x H' hlt q.1 y)⟩
  · have e : i = n := by omega
    subst e
    exact .inl ⟨C.stop H q.1, hd ys H p⟩

/-! ### calls of Python's own -/
section
variable {X : Cx}
theorem call_isi : CallR X (.builtin "isinstance") (fun xs H Q => ∃ x t n b, xs = [x, .ty n] ∧ TyOf X.K H x t ∧ PySem.W.kitOne X.K t (.type n) = some b ∧ Q (.bl b) H) := by
  intro pins s σ H xs us Q I r h
  obtain ⟨x, t, n, b, rfl, ty, e, q⟩ := h
  obtain ⟨u, v, rfl, ru, rv⟩ := vals2 r
  cases (show v = Value.type n from rv)
  exact isinst_ok I ru ty e fun tk => ⟨.bl b, H, I.tok tk, rfl, q⟩
theorem kit_ii {K : PySem.W.Frag} : PySem.W.kitOne K (.type "int") (.type "int") = some true := by rfl
theorem kit_ib {K : PySem.W.Frag} : PySem.W.kitOne K (.type "int") (.type "bool") = some false := by first | rfl | decide +kernel
theorem kit_tt {K : PySem.W.Frag} : PySem.W.kitOne K (.type "tuple") (.type "tuple") = some true := by rfl
theorem kit_ll {K : PySem.W.Frag} : PySem.W.kitOne K (.type "list") (.type "list") = some true := by rfl
theorem call_sum1 (hc : X.calm = true) : CallR X (.builtin "sum") (fun xs H Q => ∃ (p : Addr) (ns : List Int), xs = [.ref p] ∧ SqL X.K H p (ns.map V.int) ∧ Q (.int ns.sum) H) := by
  intro pins s σ H xs us Q I r h
  obtain ⟨p, ns, rfl, hq, q⟩ := h
  obtain ⟨u, rfl, ru⟩ := vals1 r
  cases ru
  obtain ⟨its, rv, pl, hz⟩ := I.list hq
  have hi : IntsAre its ns := intsAre_of rv
  obtain ⟨ys, e⟩ := hi.allInts.items
  have e2 := hi.numsOf
  refine sum_intListG (I.ok.hd hc) (xs := ys) (by rw [← e]; exact pl.isList) fun h' tk t' hk => ⟨.int ns.sum, H, I.kept hk, ⟨t', ?_⟩, q⟩
  have e3 : ys.toList.map (·.1) = ns := by
    rw [← nums_intItems, ← e]
    exact e2
  rw [preSum_eq, List.take_of_length_le (by simp), e3]
theorem bools_get {bs : List Bool} {its : List Value} (r : Vals (bs.map V.bl) its) {i : Nat} {v : Value} (h : its[i]? = some v) : v = .bool (bs.getD i false) := by
  have hl := r.length
  have hi : i < its.length := (List.getElem?_eq_some_iff.mp h).1
  have hb : i < bs.length := by rw [List.length_map] at hl; omega
  obtain ⟨u, hu, ru⟩ := r.get (i := i) (x := V.bl bs[i]) (by rw [List.getElem?_map, List.getElem?_eq_getElem hb]; rfl)
  rw [h] at hu
  cases hu
  have e : v = Value.bool bs[i] := ru
  rw [e, List.getD_eq_getElem?_getD, List.getElem?_eq_getElem hb]
  rfl
theorem all_getD (bs : List Bool) : (List.range bs.length).all (fun i => bs.getD i false) = bs.all id := by
  rw [Bool.eq_iff_iff, List.all_eq_true, List.all_eq_true]
  constructor
  · intro h b hb
    obtain ⟨i, hi, e⟩ := List.mem_iff_getElem.mp hb
    have := h i (List.mem_range.mpr hi)
    rw [List.getD_eq_getElem?_getD, List.getElem?_eq_getElem hi] at this
    rw [← e]
    exact this
  · intro h i hi
    have hi' := List.mem_range.mp hi
    rw [List.getD_eq_getElem?_getD, List.getElem?_eq_getElem hi']
    exact h _ (List.getElem_mem hi')
theorem any_getD (bs : List Bool) : (List.range bs.length).any (fun i => bs.getD i false) = bs.any id := by
  rw [Bool.eq_iff_iff, List.any_eq_true, List.any_eq_true]
  constructor
  · rintro ⟨i, hi, h⟩
    have hi' := List.mem_range.mp hi
    rw [List.getD_eq_getElem?_getD, List.getElem?_eq_getElem hi'] at h
    exact ⟨_, List.getElem_mem hi', h⟩
  · rintro ⟨b, hb, h⟩
    obtain ⟨i, hi, e⟩ := List.mem_iff_getElem.mp hb
    refine ⟨i, List.mem_range.mpr hi, ?_⟩
    rw [List.getD_eq_getElem?_getD, List.getElem?_eq_getElem hi, e]
    exact h
theorem call_all1 (hc : X.calm = true) : CallR X (.builtin "all") (fun xs H Q => ∃ (p : Addr) (bs : List Bool), xs = [.ref p] ∧ SqL X.K H p (bs.map V.bl) ∧ Q (.bl (bs.all id)) H) := by
  intro pins s σ H xs us Q I r h
  obtain ⟨p, bs, rfl, hq, q⟩ := h
  obtain ⟨u, rfl, ru⟩ := vals1 r
  cases ru
  obtain ⟨its, rv, pl, hz⟩ := I.list hq
  have hlt : p < s.heap.objs.size := by obtain ⟨_, e, _⟩ := pl.isList; exact Heap.lt_size e
  have hlen : its.toArray.size = bs.length := by have := rv.length; rw [List.length_map] at this; rw [List.size_toArray]; exact this.symm
  refine call_all_walk (wpAny_pyIter_list pl.isList ?_)
  refine ⟨s.heap.objs.size, _, _, _, _, _, fun i => bs.getD i false, rfl, Walks.list (A := X.A.in1) (I.ok.hd hc) s.heap.objs.size p (Nat.ne_of_lt hlt) its.toArray, ⟨⟨_, Heap.get?_push_size _ rfl, rfl, rfl⟩, pl.isList.push _⟩, ?_, fun h' tk hk => ?_⟩
  · intro i v s' Q' E' hP hQ
    have e := bools_get rv (i := i) (v := v) (by simpa using hP)
    rw [e]
    exact wpAny_truthy_bool hQ
  · refine ⟨.bl (bs.all id), H, I.kept fun b o e => hk b o (fun z => ?_) (Heap.get?_push_of_some _ e), ?_, q⟩
    · have z' : b = s.heap.objs.size := by simpa using z
      exact absurd (Heap.lt_size e) (by rw [z']; exact Nat.lt_irrefl _)
    · show Value.bool _ = Value.bool _
      rw [hlen, all_getD]
theorem call_any1 (hc : X.calm = true) : CallR X (.builtin "any") (fun xs H Q => ∃ (p : Addr) (bs : List Bool), xs = [.ref p] ∧ SqL X.K H p (bs.map V.bl) ∧ Q (.bl (bs.any id)) H) := by
  intro pins s σ H xs us Q I r h
  obtain ⟨p, bs, rfl, hq, q⟩ := h
  obtain ⟨u, rfl, ru⟩ := vals1 r
  cases ru
  obtain ⟨its, rv, pl, hz⟩ := I.list hq
  have hlt : p < s.heap.objs.size := by obtain ⟨_, e, _⟩ := pl.isList; exact Heap.lt_size e
  have hlen : its.toArray.size = bs.length := by have := rv.length; rw [List.length_map] at this; rw [List.size_toArray]; exact this.symm
  refine call_any_walk (wpAny_pyIter_list pl.isList ?_)
  refine ⟨s.heap.objs.size, _, _, _, _, _, fun i => bs.getD i false, rfl, Walks.list (A := X.A.in1) (I.ok.hd hc) s.heap.objs.size p (Nat.ne_of_lt hlt) its.toArray, ⟨⟨_, Heap.get?_push_size _ rfl, rfl, rfl⟩, pl.isList.push _⟩, ?_, fun h' tk hk => ?_⟩
  · intro i v s' Q' E' hP hQ
    have e := bools_get rv (i := i) (v := v) (by simpa using hP)
    rw [e]
    exact wpAny_truthy_bool hQ
  · refine ⟨.bl (bs.any id), H, I.kept fun b o e => hk b o (fun z => ?_) (Heap.get?_push_of_some _ e), ?_, q⟩
    · have z' : b = s.heap.objs.size := by simpa using z
      exact absurd (Heap.lt_size e) (by rw [z']; exact Nat.lt_irrefl _)
    · show Value.bool _ = Value.bool _
      rw [hlen, any_getD]
theorem vals3 {x y z : V} {us : List Value} (r : Vals [x, y, z] us) : ∃ u v w, us = [u, v, w] ∧ RelV x u ∧ RelV y v ∧ RelV z w := by
  cases r with
  | cons a r => cases r with
    | cons b r => cases r with
      | cons c r => cases r; exact ⟨_, _, _, rfl, a, b, c⟩
theorem call_min3 (hc : X.calm = true) : CallR X (.builtin "min") (fun xs H Q => ∃ i j k, xs = [.int i, .int j, .int k] ∧ Q (.int (min (min i j) k)) H) := by
  intro pins s σ H xs us Q I r h
  obtain ⟨i, j, k, rfl, q⟩ := h
  obtain ⟨u, v, w, rfl, ⟨t, rfl⟩, ⟨t', rfl⟩, ⟨t'', rfl⟩⟩ := vals3 r
  refine min_three_ints (I.ok.hd hc) fun h' tk kp => ⟨_, H, I.kept kp, ?_, q⟩
  by_cases h1 : j < i
  · rw [if_pos h1]
    by_cases h2 : k < j
    · rw [if_pos h2]; exact ⟨t'', by congr 1; omega⟩
    · rw [if_neg h2]; exact ⟨t', by congr 1; omega⟩
  · rw [if_neg h1]
    by_cases h2 : k < i
    · rw [if_pos h2]; exact ⟨t'', by congr 1; omega⟩
    · rw [if_neg h2]; exact ⟨t, by congr 1; omega⟩
theorem call_minI (hc : X.calm = true) : CallR X (.builtin "min") (fun xs H Q => ∃ i j, xs = [.int i, .int j] ∧ Q (.int (min i j)) H) := by
  intro pins s σ H xs us Q I r h
  obtain ⟨i, j, rfl, q⟩ := h
  refine call_min2 hc pins s σ H _ us Q I r ⟨i, j, rfl, ?_⟩
  have e : (if j < i then j else i) = min i j := by split <;> omega
  rw [e]; exact q
theorem call_maxI (hc : X.calm = true) : CallR X (.builtin "max") (fun xs H Q => ∃ i j, xs = [.int i, .int j] ∧ Q (.int (max i j)) H) := by
  intro pins s σ H xs us Q I r h
  obtain ⟨i, j, rfl, q⟩ := h
  refine call_max2 hc pins s σ H _ us Q I r ⟨i, j, rfl, ?_⟩
  have e : (if j > i then j else i) = max i j := by split <;> omega
  rw [e]; exact q
/-- a product of two numbers below 2 ^ 1000 -/
def CBig (i j : Int) : Prop := i.natAbs < 2 ^ 1000 ∧ j.natAbs < 2 ^ 1000
theorem bits_le {k : Int} {n : Nat} (h : k.natAbs < 2 ^ n) : Builtin.Int.intBits k ≤ n := by
  unfold Builtin.Int.intBits
  split
  · exact Nat.zero_le _
  · rename_i hk
    have hp : k.natAbs ≠ 0 := by
      intro z
      apply hk
      have : k = 0 := by omega
      rw [this]; rfl
    have := (Nat.log2_lt hp).mpr h
    omega
theorem CBig.ok {i j : Int} (h : CBig i j) : IntMulOk i j := by
  have a := bits_le h.1
  have b := bits_le h.2
  unfold IntMulOk
  intro z
  rw [Bool.and_eq_true] at z
  have z2 := z.2
  unfold Builtin.Int.intTooBig at z2
  have z3 : ((Builtin.Int.intBits i : Int) + (Builtin.Int.intBits j : Int)) > (bitsLine : Int) := by simpa using z2
  have z4 : (2000 : Int) ≤ (bitsLine : Int) := by decide
  omega
theorem op_mulB : OpR X (binaryOp .Mult) (rI CBig fun i j => .int (i * j)) := opI fun _ _ _ _ _ _ _ hc q => mul_int q hc.ok
/-- a written power, reckoned -/
theorem pow_e {a b c : Int} (h : a ^ b.toNat = c) : a ^ b.toNat = c := h
end

/-! ### == -/
section
variable {X : Cx} {pins : List (Addr × Obj)} {σ : St} {H : Hp} {s : Shared}
/-- two values are equal or not, to a depth -/
inductive DEq (K : PySem.W.Frag) (H : Hp) : Nat → V → V → Bool → Prop where
  | int (n : Nat) (i j : Int) : DEq K H n (.int i) (.int j) (i == j)
  | bl (n : Nat) (i j : Bool) : DEq K H n (.bl i) (.bl j) (i == j)
  | same (n : Nat) (a : Addr) : DEq K H n (.ref a) (.ref a) true
  | lsts (n : Nat) {a b : Addr} {xs ys : List V} (ha : SqL K H a xs) (hb : SqL K H b ys) (hl : xs.length = ys.length) (hi : ∀ (j : Nat) (x y : V), xs[j]? = some x → ys[j]? = some y → DEq K H n x y true) : DEq K H (n + 1) (.ref a) (.ref b) true
theorem eqAt_same {A : Around} (v : Value) : SeqAt.EqAt A s v v true := fun prog w E Q hq => by
  unfold eqBool
  refine wpAny_holding ?_
  refine wpAny_ite_split (fun _ => ?_) (fun h => absurd (by simp) h)
  exact wpAny_bind (wpAny_rule (wpAny_pure hq))
theorem items_at (I : Inv X pins σ H s) {A : Around} {xs ys : List V} {its its2 : List Value} {e : Nat → Bool} (r : Vals xs its) (r2 : Vals ys its2)
    (h : ∀ (j : Nat) (x y : V), xs[j]? = some x → ys[j]? = some y → ∀ u v, RelV x u → RelV y v → SeqAt.EqAt A s u v (e j)) :
    ∀ j (h1 : j < its.toArray.size) (h2 : j < its2.toArray.size), SeqAt.EqAt A s its.toArray[j] its2.toArray[j] (e j) := by
  intro j h1 h2
  have l1 := r.length
  have l2 := r2.length
  have j1 : j < xs.length := by rw [List.size_toArray] at h1; omega
  have j2 : j < ys.length := by rw [List.size_toArray] at h2; omega
  obtain ⟨u, hu, ru⟩ := r.get (i := j) (x := xs[j]) (by simp [j1])
  obtain ⟨v, hv, rv⟩ := r2.get (i := j) (x := ys[j]) (by simp [j2])
  have e1 : its.toArray[j] = u := by
    have := (List.getElem?_eq_some_iff.mp hu).2
    simpa using this
  have e2 : its2.toArray[j] = v := by
    have := (List.getElem?_eq_some_iff.mp hv).2
    simpa using this
  rw [e1, e2]
  exact h j _ _ (by simp [j1]) (by simp [j2]) u v ru rv
theorem all_true (n : Nat) : ((List.range n).all fun _ => true) = true := by simp
theorem DEq.at (I : Inv X pins σ H s) {n : Nat} {x y : V} {k : Bool} (d : DEq X.K H n x y k) : ∀ (A : Around), A.units + n < cLine → ∀ u v, RelV x u → RelV y v → SeqAt.EqAt A s u v k := by
  induction d with
  | int n i j =>
    intro A hu u v ru rv
    obtain ⟨t, rfl⟩ := ru
    obtain ⟨t', rfl⟩ := rv
    exact SeqAt.EqAt.int_int i t j t'
  | bl n i j =>
    intro A hu u v ru rv
    cases ru
    cases rv
    exact SeqAt.EqAt.bool_bool i j
  | same n a =>
    intro A hu u v ru rv
    cases ru
    cases rv
    exact eqAt_same _
  | @lsts n a b xs ys ha hb hl hi ih =>
    intro A hu u v ru rv
    cases ru
    cases rv
    by_cases hab : a = b
    · subst hab; exact eqAt_same _
    obtain ⟨its, r, p, hz⟩ := I.list ha
    obtain ⟨its2, r2, p2, hz2⟩ := I.list hb
    have hsz : its.toArray.size = its2.toArray.size := by simp only [List.size_toArray]; rw [← r.length, ← r2.length]; exact hl
    have q := SeqAt.RcAt.lists (A := A) (e := fun _ => true) p.isList p2.isList hsz (by omega) (items_at I r r2 fun j x y hx hy u v ru rv => ih j x y hx hy A.in1 (by show A.units + 1 + n < cLine; omega) u v ru rv)
    rw [all_true] at q
    exact SeqAt.EqAt.of_refs hab q
def LEq (K : PySem.W.Frag) (H : Hp) (n : Nat) (xs ys : List V) (k : Bool) : Prop :=
  (xs.length ≠ ys.length ∧ k = false) ∨ (xs.length = ys.length ∧ ∃ e : Nat → Bool, (∀ (j : Nat) (x y : V), xs[j]? = some x → ys[j]? = some y → DEq K H n x y (e j)) ∧ k = (List.range xs.length).all e)
theorem LEq.yes {K : PySem.W.Frag} {n : Nat} {xs ys : List V} (hl : xs.length = ys.length) (h : ∀ (j : Nat) (x y : V), xs[j]? = some x → ys[j]? = some y → DEq K H n x y true) : LEq K H n xs ys true :=
  .inr ⟨hl, fun _ => true, h, (all_true _).symm⟩
def flat1 : V → Bool
  | .int _ => true
  | .ref _ => true
  | .bl _ => true
  | _ => false
theorem DEq.refl1 {K : PySem.W.Frag} {n : Nat} {x : V} (h : flat1 x = true) : DEq K H n x x true := by
  cases x with
  | int i =>
    have q := DEq.int (K := K) (H := H) n i i
    rw [beq_self_eq_true] at q
    exact q
  | ref a => exact .same n a
  | bl i =>
    have q := DEq.bl (K := K) (H := H) n i i
    rw [beq_self_eq_true] at q
    exact q
  | _ => cases h
theorem LEq.refl1 {K : PySem.W.Frag} {n : Nat} {xs : List V} (h : ∀ x ∈ xs, flat1 x = true) : LEq K H n xs xs true :=
  .yes rfl fun j x y hx hy => by
    rw [hx] at hy
    cases hy
    exact DEq.refl1 (h x (List.mem_of_getElem? hx))
theorem LEq.nums {K : PySem.W.Frag} {n : Nat} (ns ms : List Int) : LEq K H n (ns.map V.int) (ms.map V.int) (decide (ns = ms)) := by
  by_cases hl : ns.length = ms.length
  · refine .inr ⟨by simpa using hl, fun j => (ns.getD j 0) == (ms.getD j 0), fun j x y hx hy => ?_, ?_⟩
    · rw [List.getElem?_map] at hx hy
      cases e1 : ns[j]? with
      | none => rw [e1] at hx; cases hx
      | some i =>
        cases e2 : ms[j]? with
        | none => rw [e2] at hy; cases hy
        | some k =>
          rw [e1] at hx
          rw [e2] at hy
          cases hx
          cases hy
          have f1 : ns.getD j 0 = i := by rw [List.getD_eq_getElem?_getD, e1]; rfl
          have f2 : ms.getD j 0 = k := by rw [List.getD_eq_getElem?_getD, e2]; rfl
          show DEq K H n (V.int i) (V.int k) (ns.getD j 0 == ms.getD j 0)
          rw [f1, f2]
          exact .int n i k
    · rw [Bool.eq_iff_iff, decide_eq_true_iff, List.all_eq_true]
      constructor
      · intro e j _
        rw [e]; simp
      · intro h
        refine List.ext_getElem hl fun j h1 h2 => ?_
        have := h j (List.mem_range.mpr (by rw [List.length_map]; exact h1))
        rw [List.getD_eq_getElem?_getD, List.getD_eq_getElem?_getD, List.getElem?_eq_getElem h1, List.getElem?_eq_getElem h2] at this
        simpa using this
  · refine .inl ⟨by simpa using hl, ?_⟩
    rw [decide_eq_false_iff_not]
    intro e
    exact hl (by rw [e])
def rEqD (K : PySem.W.Frag) (neg : Bool) : R2 := fun x y H Q => ∃ a b xs ys k, x = .ref a ∧ y = .ref b ∧ SqL K H a xs ∧ SqL K H b ys ∧ LEq K H 4 xs ys k ∧ Q (.bl (if neg then !k else k)) H
theorem op_eqD (hu : X.A.units + 8 < cLine) : OpR X (compareOp .Eq) (rEqD X.K false) := by
  intro pins s σ H x y v u Q I rx ry h
  obtain ⟨a, b, xs, ys, k, rfl, rfl, ha, hb, hk, q⟩ := h
  cases rx
  cases ry
  obtain ⟨its, r, p, hz⟩ := I.list ha
  obtain ⟨its2, r2, p2, hz2⟩ := I.list hb
  have l1 := r.length
  have l2 := r2.length
  rcases hk with ⟨hl, rfl⟩ | ⟨hl, e, he, rfl⟩
  · exact SeqAt.eq_list_lengthsAt p.isList p2.isList (by simp only [List.size_toArray, bne_iff_ne, ne_eq]; omega) (by omega) ⟨.bl false, H, I, rfl, q⟩
  · refine SeqAt.eq_listAt (e := e) p.isList p2.isList (by simp only [List.size_toArray]; omega) (by omega) (items_at I r r2 fun j x y hx hy u v ru rv => (he j x y hx hy).at I X.A.in1 (by show X.A.units + 1 + 4 < cLine; omega) u v ru rv) ⟨.bl ((List.range xs.length).all e), H, I, ?_, q⟩
    show Value.bool _ = Value.bool _
    rw [List.size_toArray, l1]
theorem op_neD (hu : X.A.units + 8 < cLine) : OpR X (compareOp .NotEq) (rEqD X.K true) := by
  intro pins s σ H x y v u Q I rx ry h
  obtain ⟨a, b, xs, ys, k, rfl, rfl, ha, hb, hk, q⟩ := h
  cases rx
  cases ry
  obtain ⟨its, r, p, hz⟩ := I.list ha
  obtain ⟨its2, r2, p2, hz2⟩ := I.list hb
  have l1 := r.length
  have l2 := r2.length
  rcases hk with ⟨hl, rfl⟩ | ⟨hl, e, he, rfl⟩
  · exact (SeqAt.RcNeAt.lists_lengths p.isList p2.isList (by simp only [List.size_toArray, bne_iff_ne, ne_eq]; omega) (by omega)) _ _ _ _ ⟨.bl true, H, I, rfl, q⟩
  · refine (SeqAt.RcNeAt.lists (e := e) p.isList p2.isList (by simp only [List.size_toArray]; omega) (by omega) (items_at I r r2 fun j x y hx hy u v ru rv => (he j x y hx hy).at I X.A.in1 (by show X.A.units + 1 + 4 < cLine; omega) u v ru rv)) _ _ _ _ ⟨.bl (!(List.range xs.length).all e), H, I, ?_, q⟩
    show Value.bool _ = Value.bool _
    rw [List.size_toArray, l1]
end
/-! ### the same with the text's part named (within a comprehension) -/
section
variable {X : Cx} {K : PySem.W.Frag} {pos : Pos}
theorem ix_listK (hK : X.K = K) : IxR X (rIxL K) := by subst hK; exact ix_list
theorem ix_tupK (hK : X.K = K) : IxR X (rIxT K) := by subst hK; exact ix_tup
theorem call_lenK (hK : X.K = K) : CallR X (.builtin "len") (fun xs H Q => ∃ p ys, xs = [.ref p] ∧ (SqL K H p ys ∨ SqT K H p ys) ∧ Q (.int ys.length) H) := by subst hK; exact call_len_seq
theorem call_isiK (hK : X.K = K) : CallR X (.builtin "isinstance") (fun xs H Q => ∃ x t n b, xs = [x, .ty n] ∧ TyOf K H x t ∧ PySem.W.kitOne K t (.type n) = some b ∧ Q (.bl b) H) := by subst hK; exact call_isi
theorem pg_tupK {es : List Expr} {k : Nat} {t : TGs} {n : Nat} (hK : X.K = K) (hc : X.calm = true) (h : PGs X es t)
    (hn : (assignEach es X.env).length = n := by rfl) (hst : (assignEach es X.env).findIdx? (·.1) = none := by rfl) : PG X (.Tuple es k pos) (gTup K n t) := by subst hK; exact pg_tup hc h hn hst
end
/-! ### heaps -/
theorem same_new {H : Hp} {p : Addr} (h : H p = none) (o : HO) : Same H (upd H p o) := fun b u q => by rw [upd_ne (ne_of_none q h)]; exact q
theorem Same.tup {K : PySem.W.Frag} {H H' : Hp} {a : Addr} {xs : List V} (e : Same H H') (h : SqT K H a xs) : SqT K H' a xs := by
  rcases h with (h | ⟨o, h⟩) | h
  · exact .inl (.inl (e _ _ h))
  · exact .inl (.inr ⟨o, e _ _ h⟩)
  · exact .inr h
end L2
set_option maxHeartbeats 4000000
/-! Exceptions of own classes over the hand layer: raise, leaving frames, try .. except C as n. -/
namespace L2
open PySem PySem.Spec PyProof.Rows

/-- an exception of an own class lies behind a call -/
def CXr (P : Program) (w : World) : CXT := fun outer H s E e s' =>
  ∃ (a C : Addr) (a0 : Value) (B : Heap) (H' : Hp), e = .ref a ∧ Heap.FlyingW B outer a (.ref C) a0 s'.heap ∧ s'.os = s.os ∧ AllBare s'.gens ∧
    Un (frs outer) [] H H' s.heap s'.heap ∧ HOk P w H' B ∧ (∀ b o, s.heap.get? b = some o → H b = none → b ∉ frs outer → B.get? b = some o) ∧
    (∀ b o, s.heap.get? b = some o → b ∉ frs outer → ∃ o', B.get? b = some o') ∧ E (.ref C) none H'

section
variable {X : Cx} {pins : List (Addr × Obj)} {σ : St} {H1 H' : Hp} {s1 : Shared} {h1 h' B : Heap}
/-- the slots of the frames changed, all else is kept -/
theorem un_here (I : Inv X pins σ H1 s1) (un : Un (frs X.stack) [] H1 H' s1.heap h1) (kB : ∀ b o, s1.heap.get? b = some o → H1 b = none → b ∉ frs X.stack → B.get? b = some o)
    (tB : ∀ b o, s1.heap.get? b = some o → b ∉ frs X.stack → ∃ o', B.get? b = some o') (st : ∀ b o, B.get? b = some o → h'.get? b = some o) (up : h1.UpToSlots h') :
    Un (frs X.stack) [] H1 H' s1.heap h' := by
  have sl : ∀ b o, s1.heap.get? b = some o → b ∈ frs X.stack → ∃ sl, h'.get? b = some { o with slots := sl } := fun b o e hb => by
    obtain ⟨_, o', ho', hd⟩ := I.stack.mem hb
    rw [e] at ho'
    cases ho'
    obtain ⟨s2, e2⟩ := un.any e (I.stkFree b hb) (by simp)
    obtain ⟨s3, e3⟩ := up b _ e2 hd
    exact ⟨s3, e3⟩
  refine ⟨fun b o e n hb _ => st b o (kB b o e n hb), fun b o e _ hb _ => sl b o e hb, un.free, fun b o e _ => ?_, un.tups, un.frzs, un.tbls⟩
  by_cases hb : b ∈ frs X.stack
  · obtain ⟨s2, e2⟩ := sl b o e hb
    exact ⟨_, e2⟩
  · obtain ⟨o', e2⟩ := tB b o e hb
    exact ⟨o', st b o' e2⟩
theorem frs_cons {env : Env} {outer : List Env} {L : Addr} (hf : env.frame = some L) : frs (env :: outer) = L :: frs outer := by
  unfold frs
  rw [List.filterMap_cons, hf]
/-- seen from the entry of the frame that is left -/
theorem un_left (I : Inv X pins σ H1 s1) (hst : X.stack = X.env :: X.outer) (hf : X.env.frame = some X.env.locals) (hex : X.ex = []) (un : Un (frs X.stack) [] H1 H' s1.heap h1)
    (kB : ∀ b o, s1.heap.get? b = some o → H1 b = none → b ∉ frs X.stack → B.get? b = some o)
    (tB : ∀ b o, s1.heap.get? b = some o → b ∉ frs X.stack → ∃ o', B.get? b = some o') (st : ∀ b o, B.get? b = some o → h'.get? b = some o) (up : h1.UpToSlots h') :
    Un X.fs [] X.H₀ H' X.s₀.heap h' ∧ (∀ b o, X.s₀.heap.get? b = some o → X.H₀ b = none → b ∉ X.fs → B.get? b = some o) ∧ (∀ b o, X.s₀.heap.get? b = some o → b ∉ X.fs → ∃ o', B.get? b = some o') := by
  have U := un_here I un kB tB st up
  have nx : ∀ b, b ∉ X.ex := fun b => by rw [hex]; simp
  have ne : ∀ b o, X.s₀.heap.get? b = some o → b ∉ X.fs → b ∉ frs X.stack := fun b o e hb hm => by
    rw [hst, frs_cons hf] at hm
    rcases List.mem_cons.mp hm with z | z
    · exact absurd z (Nat.ne_of_lt (Nat.lt_of_lt_of_le (Heap.lt_size e) I.ok.above))
    · exact hb z
  have sub : ∀ b, b ∈ X.fs → b ∈ frs X.stack := fun b hb => by
    rw [hst, frs_cons hf]
    exact List.mem_cons_of_mem _ hb
  refine ⟨⟨fun b o e n hb _ => ?_, fun b o e n hb _ => ?_, fun b o e n _ => ?_, fun b o e _ => ?_, fun b xs e => U.tups b xs (I.base.tups b xs e), fun b o u e => U.frzs b o u (I.base.frzs b o u e), fun b ps e => ?_⟩, fun b o e n hb => ?_, fun b o e hb => ?_⟩
  · exact U.keep b o (I.base.keep b o e n hb (nx b)) (I.base.free b o e n (nx b)) (ne b o e hb) (by simp)
  · obtain ⟨s2, e2⟩ := I.base.slot b o e n hb (nx b)
    obtain ⟨s3, e3⟩ := U.slot b _ e2 (I.base.free b o e n (nx b)) (sub b hb) (by simp)
    exact ⟨s3, e3⟩
  · obtain ⟨o', e1⟩ := I.base.there b o e (nx b)
    exact U.free b o' e1 (I.base.free b o e n (nx b)) (by simp)
  · obtain ⟨o', e1⟩ := I.base.there b o e (nx b)
    exact U.there b o' e1 (by simp)
  · obtain ⟨m1, e1⟩ := I.base.tbls b ps e
    obtain ⟨m2, e2⟩ := U.tbls b _ e1
    exact ⟨m1 ++ m2, by rw [e2, Array.append_assoc]⟩
  · exact kB b o (I.base.keep b o e n hb (nx b)) (I.base.free b o e n (nx b)) (ne b o e hb)
  · obtain ⟨o', e1⟩ := I.base.there b o e (nx b)
    exact tB b o' e1 (ne b o e hb)
/-- the heap without the frames -/
theorem hid_ok (I : Inv X pins σ H1 s1) : HOk X.prog X.w H1 (PySem.W.hideAll s1.heap (frs X.stack)) := fun a o e => by
  refine (I.hok a o e).stay (fun b u hb q => PySem.W.hideAll_get _ q fun hm => ?_) (fun _ q => q) fun _ _ q => q
  have n := I.stkFree b hm
  rcases hb with z | z
  · rw [z, e] at n
    cases n
  · rw [z] at n
    cases n
end

/-! ### leaving a frame -/
section
variable {P : Program} {w : World} {K : PySem.W.Frag} {mg : Str → Option Value} {base : Heap} {N : List Str} {qual : Str} {scope : Scope} {f : Addr} {cd : Value} {A : Around} {outer : List Env} {s : Shared} {H : Hp} {E : XK}
/-- what a callee's exception becomes in the caller that has no try around the call -/
theorem pass_cx : Passes (CXr P w) (cxOf (CXr P w) P w K mg base N qual scope f cd A outer s H E) E := by
  intro pins σ H1 s1 e s' I h
  obtain ⟨a, C, a0, B, H', rfl, fl, os, bare, un, hok, kB, tB, q⟩ := h
  refine wpAny_leaves_onW (env := envOfC qual scope s.heap.objs.size f cd) (outer := outer) I.ok.frames rfl fl fun h' fl' up => ?_
  obtain ⟨u1, u2, u3⟩ := un_left (h' := h') I rfl rfl rfl un kB tB fl'.1 up
  exact ⟨a, C, a0, B, H', rfl, fl', os.trans I.os, bare, u1, hok, u2, u3, q⟩

/-- an exception that is made here goes where the body's exceptions go -/
def RaisesTo (X : Cx) (E : XK) : Prop := ∀ (pins : List (Addr × Obj)) (σ : St) (H : Hp) (s : Shared) (h' : Heap) (e C : Addr) (vs : List Value), Inv X pins σ H s → Heap.MadeExcOf s.heap h' e (.ref C) vs → E (.ref C) none H → X.xe (.ref e) { s with heap := h' }
theorem raises_cx : RaisesTo (cxOf (CXr P w) P w K mg base N qual scope f cd A outer s H E) E := by
  intro pins σ H1 s1 h' e C vs I hm q
  have hin : ∀ env ∈ envOfC qual scope s.heap.objs.size f cd :: outer, ∀ b, env.frame = some b → b ∈ frs (envOfC qual scope s.heap.objs.size f cd :: outer) := fun env he b hb => List.mem_filterMap.mpr ⟨env, he, hb⟩
  refine wpAny_leaves_madeW (base := PySem.W.hideAll s1.heap (frs (envOfC qual scope s.heap.objs.size f cd :: outer))) (h := s1.heap) (env := envOfC qual scope s.heap.objs.size f cd) (outer := outer) (s := { s1 with heap := h' })
    I.ok.frames rfl (fun b o z => PySem.W.of_hideAll _ z) (PySem.W.funFrames_hide I.stack hin) hm fun h'' t fl tup ht up => ?_
  obtain ⟨u1, u2, u3⟩ := un_left (h' := h'') I rfl rfl rfl (Un.kept (H := H1) hm.keeps) (fun b o e n hb => PySem.W.hideAll_get _ e hb) (fun b o e hb => ⟨o, PySem.W.hideAll_get _ e hb⟩) fl.1 up
  exact ⟨e, C, .ref t, _, H1, rfl, fl, I.os, I.bare, u1, hid_ok I, u2, u3, q⟩
theorem own_cx : PassesOwn (model P w) (cxOf (CXr P w) P w K mg base N qual scope f cd A outer s H E).A (cxOf (CXr P w) P w K mg base N qual scope f cd A outer s H E).env (cxOf (CXr P w) P w K mg base N qual scope f cd A outer s H E).xe := PassesOwn.leaving
end
end L2

set_option maxHeartbeats 4000000
/-! raise C(..), try .. except C as n, for own classes under ValueError. -/
namespace L2
open PySem PySem.Spec PyProof.Rows

abbrev VE : List Value := [.type "ValueError", .type "Exception", .type "BaseException", .type "object"]
/-- an own error class of the text -/
structure ExcC (K : PySem.W.Frag) (mg : Str → Option Value) (x : Str) (C : Addr) : Prop where
  m : mg x = some (.ref C)
  e : PySem.W.excIn K C VE "ValueError.__new__" = true
theorem ExcC.own {K : PySem.W.Frag} {mg : Str → Option Value} {x : Str} {C : Addr} {h : Heap} (c : ExcC K mg x C) (kin : K.In h) : OwnCls x C VE "ValueError.__new__" mg h := by
  have e := c.e
  unfold PySem.W.excIn at e
  split at e
  case h_2 => cases e
  case h_1 od cls slo look =>
  split at e
  case h_2 => cases e
  case h_1 c1 mro1 z0 z1 z2 z3 nid z5 em es =>
  simp only [Bool.and_eq_true, beq_iff_eq, Bool.not_eq_true'] at e
  obtain ⟨⟨⟨⟨⟨y1, y2⟩, y3⟩, y4⟩, y5⟩, y6⟩ := e
  obtain ⟨g1, g2, g3, g4, g5, g6, g7, g8, g9, g10, g11⟩ := cls
  dsimp only at em y3 y5 y6
  subst em y3 y1 y2
  obtain ⟨sll⟩ := slo
  dsimp only at es
  subst es
  refine ⟨c.m, mro1, g4, g1, g5, g2, g6, g7, g8, g9, g10, od, z0, z1, z2, z3, z5, h.nsMap g4, kin _ _ look, ?_, ?_, ?_⟩
  · exact .of_isNs (PySem.W.isNs_of_in kin y5)
  · exact PySem.W.nsMap_none_of_in kin y5 y6
  · exact PySem.W.tail_of_in kin y4

def tRaise (C : Addr) (E : XK) (ta : TA) : TS := fun _ σ H => ta σ H fun vs H1 => vs.length ≤ sizeLine ∧ E (.ref C) none H1
section
variable {X : Cx} {E : XK} {x : Str} {C : Addr} {np cpos pos : Pos} {e : Expr} {es : List Expr} {t : TA}
theorem ps_raise (hR : RaisesTo X E) (hc : X.calm = true) (hg : Gl X x) (c : ExcC X.K X.mg x C) (ha : PA X (e :: es) t) (hdb : (x == ("__debug__" : Str)) = false := by decide)
    (he : starEach (e :: es) X.env = (false, eval e X.env) :: starEach es X.env := by rfl) (hpl : (backTo cpos (starEach es X.env)).any (·.1) = false := by rfl) :
    PS X (.Raise (some (.Call (.Name x np) (e :: es) [] cpos)) none pos) (tRaise C E t) := by
  intro pins s σ H D I h
  have O := c.own I.ok.mod.kin
  obtain ⟨tl, N, nm, q, bs, hdct, sn, sub, ab, col, dd, k0, k1, k2, k3, k5, mN, hC, hN, hni, T⟩ := O.obj
  have hplain : (backTo cpos (starEach (e :: es) X.env)).any (·.1) = false := by
    rw [he]
    show (false || (backTo cpos (starEach es X.env)).any (·.1)) = false
    rw [hpl]
    rfl
  refine wpAny_Raise_call_subT (C := C) (nm := nm) (q := q) (N := N) (bs := bs) (bm := tl) (hdct := hdct) (sn := sn) (sub := sub) (ab := ab) (col := col) (dd := dd) (k0 := k0) (k1 := k1) (k2 := k2) (k3 := k3) (k5 := k5) (mN := mN)
    PySem.F.excBase_ValueError (T.hasType PySem.F.excBase_ValueError.hasBase) (I.ok.hd hc) hplain hni (ld_glob I hg c.m ⟨rfl, ?_⟩ hdb)
  have go := ha cpos pins s σ H _ I h
  rw [he] at go ⊢
  refine Calls.evalArgs_plain (wpAny_mono go (fun us s2 z => ?_) fun _ _ y => y)
  obtain ⟨vs, H1, I1, r, hl, w1⟩ := z
  exact ⟨rfl, by rw [← r.length]; exact hl, I1.bk _ _ hC, hN.keeps I1.bk, T.keeps I1.bk, fun h' e' hm => hR pins σ H1 s2 h' e' C us I1 hm w1⟩
end

/-! ### try .. except C as n -/
abbrev Cx.pin (X : Cx) (pins : List (Addr × Obj)) : Cx := { X with pn := X.pn ++ pins }
abbrev Cx.tryC (X : Cx) (pins : List (Addr × Obj)) (E : XK) : Cx :=
  (X.pin pins).wish fun e s' => ∃ (pins' : List (Addr × Obj)) (σ' : St) (H1 : Hp) (s1 : Shared), Inv (X.pin pins) pins' σ' H1 s1 ∧ CXr X.prog X.w X.stack H1 s1 E e s'
/-- the suite's context: the exception is handled, and stays as it is -/
abbrev Cx.sui (X : Cx) (a : Addr) (ob : Obj) : Cx := { X with A := X.A.mark (some (.ref a)), calm := false, pn := X.pn ++ [(a, ob)], xe := fun _ _ => False }
section
variable {X : Cx} {pins ps : List (Addr × Obj)} {σ : St} {H : Hp} {s : Shared}
theorem Cx.Ok.pin (ok : X.Ok) (ps : List (Addr × Obj)) : (X.pin ps).Ok := ⟨ok.mod, ok.kind, ok.glob, ok.blt, ok.above, ok.inj, ok.has, ok.cab, ok.hd, ok.frames, ok.stk, ok.exf, ok.bs, ok.bsz, ok.noex, ok.exfs, ok.funs, ok.frf⟩
theorem Cx.Ok.unpin (ok : (X.pin ps).Ok) : X.Ok := ⟨ok.mod, ok.kind, ok.glob, ok.blt, ok.above, ok.inj, ok.has, ok.cab, ok.hd, ok.frames, ok.stk, ok.exf, ok.bs, ok.bsz, ok.noex, ok.exfs, ok.funs, ok.frf⟩
theorem Cx.Ok.sui (ok : X.Ok) (a : Addr) (ob : Obj) : (X.sui a ob).Ok := ⟨ok.mod, ok.kind, ok.glob, ok.blt, ok.above, ok.inj, ok.has, ok.cab, fun z => (nomatch z), ok.frames, ok.stk, ok.exf, ok.bs, ok.bsz, ok.noex, ok.exfs, ok.funs, ok.frf⟩
theorem Inv.pinIn (I : Inv X pins σ H s) : Inv (X.pin pins) [] σ H s :=
  ⟨I.ok.pin pins, I.os, I.bare, I.base, I.loc, I.cell, I.free, I.freeC, fun p hp => I.pin p (by rw [List.append_nil] at hp; exact hp), I.hok, I.len⟩
theorem Inv.pinOut (I : Inv (X.pin pins) ps σ H s) : Inv X pins σ H s :=
  ⟨I.ok.unpin, I.os, I.bare, I.base, I.loc, I.cell, I.free, I.freeC, fun p hp => I.pin p (List.mem_append_left _ hp), I.hok, I.len⟩
theorem pass_try {E : XK} : Passes (CXr X.prog X.w) (X.tryC pins E) E := fun ps σ H s e s' I h => ⟨ps, σ, H, s, I.unwish, h⟩
theorem ObjOk.is {P : Program} {w : World} {H : Hp} {h : Heap} {a : Addr} {o : HO} (x : ObjOk P w H h a o) : ∃ u, h.get? a = some u := by
  cases o with
  | lst xs => obtain ⟨_, _, _, _, e⟩ := x; exact ⟨_, e⟩
  | tup xs => obtain ⟨_, _, _, o, e, _⟩ := x; exact ⟨_, e⟩
  | dK kvs => obtain ⟨_, _, _, _, o, _, _, e, _⟩ := x; exact ⟨_, e⟩
  | dT kvs => obtain ⟨_, _, _, _, o, _, _, e, _⟩ := x; exact ⟨_, e⟩
  | set S n => obtain ⟨o, _, _, _, e, _⟩ := x; exact ⟨_, e⟩
  | ins C dx fs => obtain ⟨_, _, _, e, _⟩ := x; exact ⟨_, e⟩
  | own y => exact x
  | xd fs => obtain ⟨_, ⟨_, _, _, e, _⟩, _⟩ := x; exact ⟨_, e⟩
  | rng lo hi => obtain ⟨_, _, _, e⟩ := x; exact ⟨_, e⟩
  | frz ob u => exact ⟨_, x.1⟩
  | tbl ps => exact ⟨_, (show h.get? a = some _ from x)⟩
  | met f y => exact ⟨_, (show h.get? a = some _ from x)⟩
  | ext φ => exact x.2.1
/-- the exception's name goes: every name of the frame is forgotten -/
theorem Inv.goes {h' : Heap} {m' : Str → Option Value} {t' : Nat} {a : Addr} {ob : Obj} (I : Inv (X.sui a ob) pins σ H s) (hc : X.calm = true → X.A.handled = none) (hn : h'.Ns X.env.locals m') (hs : Heap.SameBut X.env.locals s.heap h') :
    Inv X pins (List.replicate X.N.length none) H { s with heap := h', toks := t' } := by
  have ok := I.ok
  have k : ∀ b o, b ≠ X.env.locals → s.heap.get? b = some o → h'.get? b = some o := fun b o ne e => (hs.2 b ne).trans e
  have neL : ∀ b o, X.s₀.heap.get? b = some o → b ≠ X.env.locals := fun b o e => Nat.ne_of_lt (Nat.lt_of_lt_of_le (Heap.lt_size e) I.ok.above)
  refine ⟨⟨ok.mod, ok.kind, ok.glob, ok.blt, ok.above, ok.inj, ok.has, ok.cab, hc, ok.frames, ok.stk, ok.exf, ok.bs, ok.bsz, ok.noex, ok.exfs, ok.funs, ok.frf⟩, I.os, I.bare,
    ⟨fun b o e n hb hx => k b o (neL b o e) (I.base.keep b o e n hb hx), fun b o e n hb hx => ?_, I.base.free, fun b o e hx => ?_, I.base.tups, I.base.frzs, I.base.tbls⟩, ⟨m', hn, fun i x v _ hv _ => ?_⟩, fun x c e => ?_, I.free, I.freeC, fun p hp => ?_, fun b o e => ?_, List.length_replicate⟩
  · obtain ⟨sl, e2⟩ := I.base.slot b o e n hb hx
    exact ⟨sl, k b _ (neL b o e) e2⟩
  · obtain ⟨o', e2⟩ := I.base.there b o e hx
    exact ⟨o', k b _ (neL b o e) e2⟩
  · rw [List.getElem?_replicate] at hv
    split at hv <;> cases hv
  · obtain ⟨v, o, ho, hd⟩ := I.cell x c e
    exact ⟨v, o, k c o (I.cne x c e) ho, hd⟩
  · obtain ⟨e1, e2, e3, e4, e5⟩ := I.pin p (by
      rcases List.mem_append.mp hp with z | z
      · exact List.mem_append_left _ (List.mem_append_left _ z)
      · exact List.mem_append_right _ z)
    exact ⟨k _ _ e3 e1, e2, e3, e4, e5⟩
  · refine (I.hok b o e).stay (fun c u hc q => k c u ?_ q) (fun _ q => q) fun _ _ q => q
    intro z
    have fr := I.free
    rcases hc with y | y
    · rw [← y, z] at e
      exact absurd (e.symm.trans fr) (by simp)
    · rw [z] at y
      exact absurd (y.symm.trans fr) (by simp)
end

def tTry (K : PySem.W.Frag) (D0 : Addr) (len i : Nat) (E : XK) (tb : TS) (ts : Addr → Obj → TS) : TS := fun D σ H => tb D σ H ∧
  ∀ a ob C H', ob.cls = .ref C → H' a = none → E (.ref C) none H' → PySem.W.mroIn K C (.ref D0) = some true ∧ ts a ob { nx := fun _ _ => False, rt := D.rt } ((List.replicate len none).set i (some (.ref a))) H'

theorem exc_matches {M : Model} {A : Around} {E : Value → Shared → Prop} {h : Heap} {g : Array GenState} {d : Drawn} {t : Nat} {os : OsState} {K : PySem.W.Frag} {mg : Str → Option Value} {x : Str} {D C a : Addr} {ob : Obj} {Q : Bool → Shared → Prop} (kin : K.In h)
    (O : OwnCls x D VE "ValueError.__new__" mg h) (he : h.get? a = some ob) (hcls : ob.cls = .ref C) (hm : PySem.W.mroIn K C (.ref D) = some true) (hq : Q true ⟨h, g, d, t, os⟩) :
    wpAny M A (excMatches (.ref a) (.ref D)) Q E ⟨h, g, d, t, os⟩ := by
  obtain ⟨tl, N, nm, q, bs, hdct, sn, sub, ab, col, dd, k0, k1, k2, k3, k5, mN, hC, hN, hni, T⟩ := O.obj
  have hcB : (Value.ref D :: tl).contains (.type "BaseException") = true := by
    rw [List.contains_cons, T.hasType PySem.F.excBase_ValueError.hasBase, Bool.or_true]
  have f := tc_notTuple
  have L := PySem.W.looks_mroIn (M := M) kin hm
  unfold excMatches
  repeat (first | (with_reducible refine wpAny_loadPart_at he ?_; rw [hcls]) | with_reducible refine wpAny_loadPart_at hC ?_ | (with_reducible refine wpAny_isSubtype_exc hC ?_; rw [hcB]) | with_reducible refine L.at ?_ | wp_step)
  exact hq

section
variable {X : Cx} {E : XK} {tb : TS} {ts : Addr → Obj → TS} {x n : Str} {D0 : Addr} {i : Nat} {body suite : List Stmt} {b₀ : Stmt} {np hpos pos : Pos}
theorem ps_try (hst : X.stack = X.env :: X.outer) (hf : X.env.frame = some X.env.locals) (hg : Gl X x) (c : ExcC X.K X.mg x D0) (hN : X.N.Nodup) (hi : X.N[i]? = some n) (hn : X.env.scope.names.lookup n = some .local)
    (hb : ∀ pins, PSs (X.tryC pins E) body tb) (hs : ∀ a ob, PSs (X.sui a ob) (b₀ :: suite) (ts a ob)) (hdb : (x == ("__debug__" : Str)) = false := by decide) :
    PS X (.Try body [.ExceptHandler (some (.Name x np)) (some n) (b₀ :: suite) hpos] [] [] pos) (tTry X.K D0 X.N.length i E tb ts) := by
  intro pins s σ H D I ⟨h1, h2⟩
  refine wpAny_Try_except (wpAny_mono (hb pins [] s σ H D (I.pinIn.wish _) h1) (fun fl s1 q => ?_) fun e s1 q => ?_)
  · cases fl with
    | next =>
      obtain ⟨σ', H', J, q⟩ := q
      exact wpAny_execs_nil ⟨σ', H', J.unwish.pinOut, q⟩
    | brk =>
      obtain ⟨σ', H', J, q⟩ := q
      exact ⟨σ', H', J.unwish.pinOut, q⟩
    | cont =>
      obtain ⟨σ', H', J, q⟩ := q
      exact ⟨σ', H', J.unwish.pinOut, q⟩
    | ret u =>
      obtain ⟨v, σ', H', J, r, q⟩ := q
      exact ⟨v, σ', H', J.unwish.pinOut, r, q⟩
  · obtain ⟨pins', σ', H1, s2, J, a, C, a0, B, H', rfl, fl, os, bare, un, hok, kB, tB, q⟩ := q
    have fr : X.A.frames = some (X.env :: X.outer) := by rw [← hst]; exact I.ok.frames
    rw [hst] at fl
    refine wpAny_looks_onW fr hf fl fun h4 held up4 => ?_
    refine wpAny_landsW held fun h5 fl5 up5 => ?_
    have up45 := up4.trans up5
    obtain ⟨ob, hob, hcls⟩ := fl5.there
    have noH : H' a = none := by
      cases z : H' a with
      | none => rfl
      | some u =>
        obtain ⟨o, e⟩ := (hok a u z).is
        rw [fl.2.1] at e
        cases e
    obtain ⟨hm, hts⟩ := h2 a ob C H' hcls noH q
    -- the state as the handlers find it
    have inv : ∀ (A' : Prop) (h' : Heap) (t' : Nat), s1.heap.UpToSlots h' → (∀ b o, B.get? b = some o → h'.get? b = some o) → Inv X pins (List.replicate X.N.length none) H' { s1 with heap := h', toks := t' } := fun _ h' t' up st => by
      have U := un_here J un kB tB st up
      have J' : Inv (X.pin pins) pins' σ' H' { s1 with heap := h', toks := t' } := J.call' (ch := []) os U (hok.kept st) bare (fun b z => absurd z (by simp))
      refine J'.pinOut.weak ?_ fun i v z => ?_
      · rw [List.length_replicate]
        exact J.len.symm
      · rw [List.getElem?_replicate] at z
        split at z <;> cases z
    have notF : ∀ h' : Heap, h'.FunFrames B (X.env :: X.outer) → ∀ o : Obj, h'.get? a = some o → (∃ vs, o.data = .fields vs) → a ∉ frs X.stack := fun h' ff o e ⟨vs, ed⟩ z => by
      rw [hst] at z
      obtain ⟨_, o', ho', hd⟩ := ff.mem z
      rw [e] at ho'
      cases ho'
      exact hd vs ed
    have sui : ∀ (h' : Heap) (t' : Nat) (o : Obj), s1.heap.UpToSlots h' → Heap.FlyingW B (X.env :: X.outer) a (.ref C) a0 h' → h'.get? a = some o → Inv (X.sui a o) pins (List.replicate X.N.length none) H' { s1 with heap := h', toks := t' } := fun h' t' o up fl' eo => by
      have K := inv True h' t' up fl'.1
      obtain ⟨oe, vs, e1, _, e3, _⟩ := fl'.first
      rw [eo] at e1
      cases e1
      have nf := notF h' fl'.2.2.1 _ eo ⟨vs, e3⟩
      rw [hst, frs_cons hf] at nf
      refine ⟨K.ok.sui a _, K.os, K.bare, K.base, K.loc, K.cell, K.free, K.freeC, fun p hp => ?_, K.hok, K.len⟩
      rcases List.mem_append.mp hp with z | z
      · rcases List.mem_append.mp z with z | z
        · exact K.pin p (List.mem_append_left _ z)
        · have e : p = (a, o) := by simpa using z
          subst e
          exact ⟨eo, noH, fun y => nf (by rw [show a = X.env.locals from y]; exact List.mem_cons_self), fun y => nf (List.mem_cons_of_mem _ y), fun v y => by
            have y' : o.data = Data.cell v := y
            rw [e3] at y'
            cases y'⟩
      · exact K.pin p (List.mem_append_right _ z)
    have S5 := sui h5 s1.toks ob up45 fl5 hob
    refine wpAny_handleBy_cons (codeAny_handlers_test ?_) (by intro z; cases z)
    refine ld_glob (X := X.sui a ob) S5 hg c.m ?_ hdb
    refine exc_matches S5.kIn (c.own S5.kIn) hob hcls hm ?_
    refine codeAny_handlers_suite_as ?_
    refine lands_againW fl5 fun h6 fl6 up6 => ?_
    obtain ⟨ob6, hob6, hcls6⟩ := fl6.there
    obtain ⟨hm6, hts6⟩ := h2 a ob6 C H' hcls6 noH q
    have S6 := sui h6 s1.toks ob6 (up45.trans up6) fl6 hob6
    refine store_ok (X := X.sui a ob6) S6 hN hi (Or.inl hn) (v := .ref a) rfl (fun s7 S7 => ?_) (Or.inr hn)
    refine wpAny_mono (hs a ob6 pins s7 _ H' _ S7 hts6) (fun f s8 q8 => ?_) fun _ _ z => False.elim z
    cases f with
    | next =>
      obtain ⟨_, _, _, z⟩ := q8
      exact False.elim z
    | brk =>
      obtain ⟨_, _, _, z⟩ := q8
      exact False.elim z
    | cont =>
      obtain ⟨_, _, _, z⟩ := q8
      exact False.elim z
    | ret u =>
      obtain ⟨v, σ8, H8, S8, r8, q8⟩ := q8
      obtain ⟨m8, hn8, _⟩ := S8.loc
      refine wpAny_nameGoes (m := m8) hn hn8 (by rw [show X.env.scope.kind = .function from I.ok.kind]; rfl) fun h9 m9 hn9 hs9 => ?_
      exact ⟨v, _, H8, S8.goes I.ok.hd hn9 hs9, r8, q8⟩
end
end L2
set_option maxHeartbeats 4000000
/-! isinstance of a caught exception; f-strings; a new dict. -/
namespace L2
open PySem PySem.Spec PyProof.Rows PySem.W

/-- what is asked of an own error class for isinstance -/
structure ExcI (K : PySem.W.Frag) (C : Addr) : Prop where
  ga : PySem.W.findIn K (.ref C) "__getattribute__" = some (some (.builtin "BaseException.__getattribute__"))
  gh : PySem.W.findIn K (.ref C) "__getattr__" = some none
  ca : PySem.W.findIn K (.ref C) "__class__" = some (some (.builtin "object.__class__"))
  be : PySem.W.mroIn K C (.type "BaseException") = some true
  ob : PySem.W.mroIn K C (.type "object") = some true
  cl : (PySem.W.clsIn K C).isSome = true

section
variable {prog : Program} {w : World} {A : Around} {E : Value → Shared → Prop} {h : Heap} {g : Array GenState} {d : Drawn} {t : Nat} {os : OsState} {K : PySem.W.Frag} {a C : Addr} {o : Obj}
theorem looks_ty {M : Model} (hx : h.get? a = some o) (hc : o.cls = .ref C) : Looks M h (typeOf (.ref a)) (.ref C) := by
  intro A Q E s k q
  unfold typeOf
  refine wpAny_bind (wpAny_loadPart (k _ _ hx) ?_)
  rw [hc]
  exact wpAny_pure q
theorem xc_get {R : Result → Shared → Prop} (kin : K.In h) (x : ExcI K C) (hx : h.get? a = some o) (hc : o.cls = .ref C) (hq : R (.ok (.ret (.ref C))) ⟨h, g, d, t, os⟩) :
    codeAny (model prog w) A (.call (.builtin "getset_descriptor.__get__") ⟨[.builtin "object.__class__", .ref a, .ref C], []⟩) R ⟨h, g, d, t, os⟩ := by
  have L0 := looks_ty (M := model prog w) hx hc
  have ho : PySem.W.mroIn K C (.type (".".intercalate ("object.__class__".cutAt '.').dropLast)) = some true := by
    rw [F.owner_object_class]
    exact x.ob
  have L1 := looks_mroIn (M := model prog w) kin ho
  have hT5 : (⟨h, g, d, t, os⟩ : Shared).TypeIs (.builtin "object.__class__") "getset_descriptor" := F.typeOf_object_class
  refine codeAny_call_builtin F.slot_gs_get.plain F.entry_gs_get (F.slot_gs_get.check _ _ _ _ _ _ _ _ hT5 (F.args_gs_get _ _ _) ?_)
  repeat (any_goals (first | assumption | with_reducible refine L0.at ?_ | with_reducible refine L1.at ?_ | wp_step))
  refine ⟨Code.quiet_builtin _ (by decide +kernel), codeAny_builtin F.entry_object_class ?_⟩
  repeat (any_goals (first | assumption | with_reducible refine L0.at ?_ | wp_step))
theorem xc_check {M : Model} {nameV : Value} {Q : Unit → Shared → Prop} (kin : K.In h) (x : ExcI K C) (hx : h.get? a = some o) (hc : o.cls = .ref C) (hq : Q () ⟨h, g, d, t, os⟩) :
    wpAny M A (checkBuiltinCall "BaseException.__getattribute__" ⟨[.ref a, nameV], []⟩) Q E ⟨h, g, d, t, os⟩ := by
  have hk : builtinKind "BaseException.__getattribute__" = some .slot := by decide +kernel
  have hsplit : splitId "BaseException.__getattribute__" = some ("BaseException", "__getattribute__") := by decide +kernel
  have L0 := looks_ty (M := M) hx hc
  have L1 := looks_mroIn (M := M) kin x.be
  have ha := F.args_bexc_ga (.ref a) nameV
  simp only [checkBuiltinCall, hk, hsplit]
  refine wpAny_bind ?_
  unfold isInstance
  refine wpAny_bind (L0.at (L1.at ?_))
  repeat wp_step
  exact hq
theorem xc_entry {tk : Tok} {Q : Fin → Shared → Prop} (kin : K.In h) (x : ExcI K C) (hx : h.get? a = some o) (hc : o.cls = .ref C) (hq : Q (.done (.ret (.ref C))) ⟨h, g, d, t, os⟩) :
    wpAny (model prog w) A (Builtin.«object.__getattribute__» ⟨[.ref a, .str "__class__" tk], []⟩) Q E ⟨h, g, d, t, os⟩ := by
  have L0 := looks_ty (M := model prog w) hx hc
  have L1 := looks_findIn (M := model prog w) kin x.ca
  have f5 := F.typeOf_object_class
  have f6 := F.slot_gs_get.lookup
  have f7 := F.slot_gs_set.lookup
  repeat (any_goals (first | assumption | with_reducible refine L0.at ?_ | with_reducible refine L1.at ?_ | wp_step))
  refine xc_get kin x hx hc ?_
  repeat (any_goals (first | assumption | wp_step))
theorem xc_call {tk : Tok} {R : Result → Shared → Prop} (kin : K.In h) (x : ExcI K C) (hx : h.get? a = some o) (hc : o.cls = .ref C) (hq : R (.ok (.ret (.ref C))) ⟨h, g, d, t, os⟩) :
    codeAny (model prog w) A (.call (.builtin "BaseException.__getattribute__") ⟨[.ref a, .str "__class__" tk], []⟩) R ⟨h, g, d, t, os⟩ :=
  codeAny_call_builtin F.excAttr_ValueError.ga.plain F.entry_bexc_ga (xc_check kin x hx hc (xc_entry kin x hx hc hq))
theorem xc_by {tk : Tok} {Q : Value → Shared → Prop} (kin : K.In h) (x : ExcI K C) (hx : h.get? a = some o) (hc : o.cls = .ref C) (hq : Q (.ref C) ⟨h, g, d, t, os⟩) :
    wpAny (model prog w) A (getAttrBy (.ref a) (.str "__class__" tk) false) Q E ⟨h, g, d, t, os⟩ := by
  have L0 := looks_ty (M := model prog w) hx hc
  have L1 := looks_findIn (M := model prog w) kin x.ga
  have L2 := looks_findIn (M := model prog w) kin x.gh
  have f3 := F.excAttr_ValueError.ga.bind (.ref a)
  have hx2 : (Value.builtin "BaseException.__getattribute__" == Value.builtin "object.__getattribute__") = false := by decide +kernel
  have hx1 : (onTheHeap (Value.ref C) && Value.builtin "BaseException.__getattribute__" == Value.builtin "object.__getattribute__") = false := by rw [hx2]; rfl
  repeat (any_goals (first | assumption | with_reducible refine L0.at ?_ | with_reducible refine L1.at ?_ | with_reducible refine L2.at ?_ | wp_step))
  refine xc_call kin x hx hc ?_
  repeat (any_goals (first | assumption | wp_step))
theorem xc_attr {Q : Option Value → Shared → Prop} (kin : K.In h) (x : ExcI K C) (hx : h.get? a = some o) (hc : o.cls = .ref C) (hq : Q (some (.ref C)) ⟨h, g, d, t + 1, os⟩) :
    wpAny (model prog w) A (getAttr? (.ref a) "__class__") Q E ⟨h, g, d, t, os⟩ := by
  unfold getAttr? getAttrBy?
  repeat (any_goals (first | assumption | with_reducible apply xc_by kin x hx hc | wp_step))
theorem kitx_exc (x : ExcI K C) (hc : o.cls = .ref C) : KitX K (.ref a) (.ref C) (fun h => h.get? a = some o) where
  ty := fun _ _ _ hx => looks_ty hx hc
  it := fun _ _ kin _ => by
    have z := x.cl
    unfold clsIn at z
    split at z
    · rename_i c' d' cd' sl' look
      intro A' Q' E' s' k q
      unfold isType loadHead
      exact wpAny_bind (wpAny_loadPart (k _ _ (kin _ _ look)) (wpAny_pure q))
    · cases z
  ne := fun h tp dd its n sl kin htp => by
    have z := x.cl
    refine Bool.eq_false_iff.mpr fun q => ?_
    have e : C = tp := Value.ref.inj (beq_iff_eq.mp q)
    subst e
    unfold clsIn at z
    split at z
    · rename_i c' d' cd' sl' look
      have y := (kin _ _ look).symm.trans htp
      cases y
    · cases z
  ca := fun {_ _ _ _ _ s} kin hx q => by
    obtain ⟨h0, g0, d0, t0, os0⟩ := s
    exact xc_attr kin x hx hc q
end
section
variable {X : Cx}
/-- isinstance(e, c): e the exception that is handled, c a class, own or built in -/
theorem call_isiX {a C : Addr} {ob : Obj} {x : ExcI X.K C} (hp : (a, ob) ∈ X.pn) (hc : ob.cls = .ref C) :
    CallR X (.builtin "isinstance") (fun xs H Q => ∃ y c b, xs = [.ref a, y] ∧ (y = .ref c ∧ PySem.W.kitOne X.K (.ref C) (.ref c) = some b ∨ ∃ n, y = .ty n ∧ PySem.W.kitOne X.K (.ref C) (.type n) = some b) ∧ Q (.bl b) H) := by
  intro pins s σ H xs us Q I r h
  obtain ⟨y, c, b, rfl, e, q⟩ := h
  obtain ⟨u, v, rfl, ru, rv⟩ := vals2 r
  cases (show u = Value.ref a from ru)
  have ha : s.heap.get? a = some ob := (I.pin (a, ob) (List.mem_append_left _ hp)).1
  rcases e with ⟨rfl, e⟩ | ⟨n, rfl, e⟩
  · cases (show v = Value.ref c from rv)
    exact kia_one (kitx_exc x hc) I.kIn ha e (fun z => nomatch z) fun tk => ⟨.bl b, H, I.tok tk, rfl, q⟩
  · cases (show v = Value.type n from rv)
    exact kia_one (kitx_exc x hc) I.kIn ha e (fun z => nomatch z) fun tk => ⟨.bl b, H, I.tok tk, rfl, q⟩
end
end L2
set_option maxHeartbeats 4000000
/-! A text with a number in it; a new dict; defs that may raise. -/
namespace L2
open PySem PySem.Spec PyProof.Rows

section
variable {X : Cx} {pos p1 p2 p3 : Pos} {e : Expr} {te : TE} {a b : Str}
/-- a text, a number, a text -/
def tF3 (te : TE) : TE := fun σ H Q => te σ H fun x H1 => ∃ i : Int, x = .int i ∧ i.natAbs.log2 < 1920 ∧ ∀ z, Q (.str z) H1
theorem len_app (x y : Str) : (x ++ y).length = x.length + y.length := strLen_append x y
theorem pe_f3 {j1 j3} (he : PE X e te) (ha : a.length ≤ 1000) (hb : b.length ≤ 1000) :
    PE X (.JoinedStr [.Constant (.str a) j1 p1, .FormattedValue e (-1) none p2, .Constant (.str b) j3 p3] pos) (tF3 te) := by
  intro pins s σ H Q I h
  refine JoinedStr_many (joinParts_cons (Calls.Constant_str ?_))
  have hz : (Str.empty ++ a).length ≤ 1000 := by
    rw [len_app]
    show 0 + a.length ≤ 1000
    omega
  refine ⟨Nat.le_trans hz (by decide), joinParts_cons (FormattedValue_plain (thn (he pins _ σ H _ (I.tok _) h) fun u s1 q => ?_))⟩
  obtain ⟨x, H1, I1, r, i, rfl, hl, q⟩ := q
  obtain ⟨t, rfl⟩ := r
  refine formatField_int_small hl ?_
  have hi : (Str.ofString (toString i)).length ≤ 2000 := by
    have := int_text_length_le (by decide : 0 < 1920) hl
    have e : (Str.ofString (toString i)).length = (toString i).length := PySem.ofString_length _
    omega
  have hz2 : (Str.empty ++ a ++ Str.ofString (toString i)).length ≤ 3000 := by
    rw [len_app]
    omega
  refine ⟨Nat.le_trans hz2 (by decide), joinParts_cons (Calls.Constant_str ?_)⟩
  have hz3 : (Str.empty ++ a ++ Str.ofString (toString i) ++ b).length ≤ 4000 := by
    rw [len_app]
    omega
  refine ⟨Nat.le_trans hz3 (by decide), joinParts_nil ?_ (Nat.le_trans hz3 (by decide))⟩
  exact ⟨.str _, H1, ((I1.tok _).tok _).tok _, ⟨_, rfl⟩, q _⟩
theorem Inv.bigg {pins : List (Addr × Obj)} {σ : St} {H : Hp} {s : Shared} (I : Inv X pins σ H s) : sysModules < s.heap.objs.size :=
  Nat.lt_trans (by decide : sysModules < mainGlobals) (I.mod.glob.keeps I.bk).lt
def tD0 : TE := fun _ H Q => ∀ p, H p = none → Q (.ref p) (upd H p (.dK []))
theorem pe_d0 : PE X (.Dict [] [] pos) tD0 := by
  intro pins s σ H Q I h
  have hf : H s.heap.objs.size = none := I.hok.fresh (Nat.le_refl _)
  have ok : ObjOk X.prog X.w (upd H s.heap.objs.size (.dK [])) (s.heap.push { cls := .type "dict", data := .dict #[] }) s.heap.objs.size (.dK []) :=
    ⟨Nat.zero_le _, beq_eq_false_iff_ne.mpr (Nat.ne_of_gt I.bigg), [], .nil, Heap.DictOf.new s.heap⟩
  exact wpAny_Dict_empty ⟨.ref s.heap.objs.size, _, I.laid (t' := s.toks) (fun _ _ z => Heap.get?_push_of_some _ z) (Nat.le_refl _) ok, rfl, h _ hf⟩
end

/-! ### defs that may raise -/
section
variable {P : Program} {w : World} {K : PySem.W.Frag} {mg : Str → Option Value} {base : Heap}
theorem Fun.okX {x qual : Str} {st : Stmt} {f : Addr} {fd : FuncData} {N ps : List Str} {k : Nat} {sp : Sp} (F : Fun K x qual st f fd) (S : FnScope N ps (defScope st)) (len : ∀ vs H Q E, sp vs H Q E → vs.length = ps.length)
    (hbody : ∀ (cdv : Value) (A : Around) (outer : List Env) (s : Shared) (H : Hp) (vs : List V) (Q : VK) (E : XK), Room k (A.deeper (envOfC qual (defScope st) s.heap.objs.size f cdv)) → sp vs H Q E →
      ∃ t, PSs (cxOf (CXr P w) P w K mg base N qual (defScope st) f cdv A outer s H E) (defBody st) t ∧ t { nx := fun _ H' => Q .non H', rt := Q } (start N vs) H) : FnOk P w K mg base (CXr P w) (k + 1) f fd ps sp := by
  obtain ⟨oc, od, kV, doc, pm, an, cdv, ct, osl, rfl, lk, hcd⟩ := F.ex
  exact fn_of lk hcd S len fun A outer s H vs Q E hr hsp => hbody cdv A outer s H vs Q E hr hsp
/-- a def that never raises -/
theorem FnOk.up {CX : CXT} {k : Nat} {f : Addr} {fd : FuncData} {ps : List Str} {sp : Sp} (G : FnOk P w K mg base CX0 k f fd ps sp) : FnOk P w K mg base CX k f fd ps sp := by
  refine ⟨G.len, fun A outer s H args us vs Q E hr he hb hv hs => codeAny_mono (G.run A outer s H args us vs Q E hr he hb hv hs) fun r s' q => ?_⟩
  cases r with
  | error e => exact False.elim q
  | ok fl => cases fl <;> exact q
/-- from here on no exception leaves: the promise is asked with an exception that can't be -/
theorem FnOk.down {k : Nat} {f : Addr} {fd : FuncData} {ps : List Str} {sp : Sp} (G : FnOk P w K mg base (CXr P w) k f fd ps sp) : FnOk P w K mg base CX0 k f fd ps (fun vs H Q _ => sp vs H Q E0) := by
  refine ⟨fun vs H Q E h => G.len vs H Q E0 h, fun A outer s H args us vs Q E hr he hb hv hs => codeAny_mono (G.run A outer s H args us vs Q E0 hr he hb hv hs) fun r s' q => ?_⟩
  cases r with
  | error e =>
    obtain ⟨_, _, _, _, _, _, _, _, _, _, _, _, _, z⟩ := q
    exact z.elim
  | ok fl => cases fl <;> exact q
end

/-! ### argument lists without a star, by their heads alone -/
def nst : Expr → Bool
  | .Starred .. => false
  | _ => true
theorem st_cons {e : Expr} {es : List Expr} {env : Env} (h : nst e = true) : starEach (e :: es) env = (false, eval e env) :: starEach es env := by
  cases e <;> first | rfl | cases h
theorem st_any {env : Env} {pos : Pos} : ∀ {es : List Expr}, es.all nst = true → (backTo pos (starEach es env)).any (·.1) = false
  | [], _ => rfl
  | e :: es, h => by
    rw [List.all_cons, Bool.and_eq_true] at h
    rw [st_cons h.1]
    show (false || (backTo pos (starEach es env)).any (·.1)) = false
    rw [st_any h.2]
    rfl
section
variable {X : Cx} {CX : CXT} {k : Nat} {f C : Addr} {fd : FuncData} {ps : List Str} {sp : Sp} {dvs : List V} {ds : List Value} {E : XK} {x : Str} {p pos np cpos : Pos} {e : Expr} {es : List Expr} {te : TE} {t : TA} {id T : String} {r : List V → Hp → VK → Prop}
theorem pa_c (ha : PE X e te) (hr : PA X es t) (hn : nst e = true := by rfl) : PA X (e :: es) (tCons te t) := pa_cons ha hr (st_cons hn)
theorem pe_callC (F : FnOk X.prog X.w X.K X.mg X.base CX k f fd ps sp) (hr : Room k X.A) (hg : Gl X x) (hm : X.mg x = some (.ref f)) (hk : PySem.W.keepIn X.K (.ref f) = true) (hb : Binds X.K fd ps ds) (hd : Vals dvs ds) (hx : Passes CX X E)
    (ha : PA X (e :: es) t) (hdb : (x == ("__debug__" : Str)) = false := by decide) (hn : nst e = true := by rfl) (hns : es.all nst = true := by rfl) : PE X (.Call (.Name x p) (e :: es) [] pos) (tCall sp dvs E t) :=
  pe_call F hr hg hm hk hb hd hx ha hdb (st_cons hn) (st_any hns)
theorem pe_callBC (hc : CallR X (.builtin id) r) (hg : Gl X x) (hm : X.mg x = none) (hv : bootBuiltins x = some (.builtin id)) (ha : PA X (e :: es) t) (hn : x ≠ "__name__" := by decide) (hdb : (x == ("__debug__" : Str)) = false := by decide)
    (hn1 : nst e = true := by rfl) (hns : es.all nst = true := by rfl) : PE X (.Call (.Name x p) (e :: es) [] pos) (tCB r t) := pe_callB hc hg hm hv ha hn hdb (st_cons hn1) (st_any hns)
theorem pe_callTyC (hc : CallR X (.type T) r) (hg : Gl X x) (hm : X.mg x = none) (hv : bootBuiltins x = some (.type T)) (ha : PA X (e :: es) t) (hn : x ≠ "__name__" := by decide) (hdb : (x == ("__debug__" : Str)) = false := by decide)
    (hn1 : nst e = true := by rfl) (hns : es.all nst = true := by rfl) : PE X (.Call (.Name x p) (e :: es) [] pos) (tCB r t) := pe_callTy hc hg hm hv ha hn hdb (st_cons hn1) (st_any hns)
theorem ps_raiseC (hR : RaisesTo X E) (hc : X.calm = true) (hg : Gl X x) (c : ExcC X.K X.mg x C) (ha : PA X (e :: es) t) (hdb : (x == ("__debug__" : Str)) = false := by decide) (hn : nst e = true := by rfl) (hns : es.all nst = true := by rfl) :
    PS X (.Raise (some (.Call (.Name x np) (e :: es) [] cpos)) none pos) (tRaise C E t) := ps_raise hR hc hg c ha hdb (st_cons hn) (st_any hns)
end
end L2
set_option maxHeartbeats 4000000
/-! New objects by their facts alone: the heap behind one stands as a letter. -/
namespace L2
open PySem PySem.Spec PyProof.Rows
theorem samed {H : Hp} {p : Addr} (h : H p = none) (o : HO) : Same H (upd H p o) := fun b u q => by rw [upd_ne (ne_of_none q h)]; exact q
/-- a new object o: what is wanted of its address and of any heap that has it beside all else -/
def NewO (H : Hp) (o : HO) (Q : VK) : Prop := ∀ p H2, Same H H2 → H2 p = some o → H p = none → Q (.ref p) H2
theorem NewO.at {H : Hp} {o : HO} {Q : VK} (h : NewO H o Q) {p : Addr} (hp : H p = none) : Q (.ref p) (upd H p o) := h p _ (samed hp o) upd_same hp
section
variable {X : Cx} {e : Expr} {es : List Expr} {te : TE} {t : TA} {pos : Pos}
def tTupW (t : TA) : TE := fun σ H Q => t σ H fun xs H1 => xs.length ≤ sizeLine ∧ NewO H1 (.tup xs) Q
def tLstW (t : TA) : TE := fun σ H Q => t σ H fun xs H1 => xs.length ≤ sizeLine ∧ NewO H1 (.lst xs) Q
theorem pe_tupW {x1} (h : PA X es t) : PE X (.Tuple es x1 pos) (tTupW t) := by
  intro pins s σ H Q I hq
  refine wpAny_Tuple_spliced (thn (h pos pins s σ H _ I hq) fun us s1 ⟨xs, H1, I1, r, z, q⟩ => ⟨by rw [← r.length]; exact z, ?_⟩)
  have hf : H1 s1.heap.objs.size = none := I1.hok.fresh (Nat.le_refl _)
  exact ⟨.ref s1.heap.objs.size, upd H1 s1.heap.objs.size (.tup xs), I1.laid (t' := s1.toks) (fun b u e => Heap.get?_push_of_some _ e) (Nat.le_refl _) ⟨z, us, r, ⟨_, Heap.get?_push_size _ rfl, rfl, _, rfl⟩⟩, rfl, q.at hf⟩
theorem pe_lstW (h : PA X es t) : PE X (.List es pos) (tLstW t) := by
  intro pins s σ H Q I hq
  refine wpAny_List_spliced (thn (h pos pins s σ H _ I hq) fun us s1 ⟨xs, H1, I1, r, z, q⟩ => ⟨by rw [← r.length]; exact z, ?_⟩)
  have hf : H1 s1.heap.objs.size = none := I1.hok.fresh (Nat.le_refl _)
  exact ⟨.ref s1.heap.objs.size, upd H1 s1.heap.objs.size (.lst xs), I1.laid (t' := s1.toks) (fun b u e => Heap.get?_push_of_some _ e) (Nat.le_refl _) ⟨z, us, 0, r, Heap.get?_push_size _ rfl⟩, rfl, q.at hf⟩
theorem OpR.mono {f : Value → Value → Sem Value} {r r' : R2} (h : OpR X f r) (i : ∀ x y H Q, r' x y H Q → r x y H Q) : OpR X f r' := fun pins s σ H x y v u Q I rx ry q => h pins s σ H x y v u Q I rx ry (i x y H Q q)
theorem CallR.mono {f : Value} {r r' : List V → Hp → VK → Prop} (h : CallR X f r) (i : ∀ xs H Q, r' xs H Q → r xs H Q) : CallR X f r' := fun pins s σ H xs us Q I rx q => h pins s σ H xs us Q I rx (i xs H Q q)
def rCatW : R2 := fun x y H Q => ∃ l b xs zs, x = .ref l ∧ y = .ref b ∧ H l = some (.lst xs) ∧ H b = some (.lst zs) ∧ xs.length + zs.length ≤ sizeLine ∧ NewO H (.lst (xs ++ zs)) Q
theorem op_catW : OpR X (binaryOp .Add) rCatW := op_cat.mono fun x y H Q ⟨l, b, xs, zs, h1, h2, h3, h4, h5, h6⟩ => ⟨l, b, xs, zs, h1, h2, h3, h4, h5, fun p hp => h6.at hp⟩
def rRepW : R2 := fun x y H Q => ∃ l k xs, x = .ref l ∧ y = .int k ∧ H l = some (.lst xs) ∧ -(2 ^ 63) ≤ k ∧ k < 2 ^ 63 ∧ xs.length * k.toNat ≤ sizeLine ∧ NewO H (.lst (List.replicate k.toNat xs).flatten) Q
theorem op_repW : OpR X (binaryOp .Mult) rRepW := op_rep.mono fun x y H Q ⟨l, k, xs, h1, h2, h3, h4, h5, h6, h7⟩ => ⟨l, k, xs, h1, h2, h3, h4, h5, h6, fun p hp => h7.at hp⟩
def rSlW (K : PySem.W.Frag) : V → Option Int → Option Int → Hp → VK → Prop := fun x lo hi H Q => ∃ a xs, x = .ref a ∧ SqL K H a xs ∧ NewO H (.lst (cutV xs lo hi)) Q
theorem SlR.mono {r r' : V → Option Int → Option Int → Hp → VK → Prop} (h : SlR X r) (i : ∀ x lo hi H Q, r' x lo hi H Q → r x lo hi H Q) : SlR X r' := fun pins s σ H x v vl vu lo hi sl Q I rx hs pl pu q => h pins s σ H x v vl vu lo hi sl Q I rx hs pl pu (i _ _ _ _ _ q)
theorem sl_listW : SlR X (rSlW X.K) := sl_list.mono fun x lo hi H Q ⟨a, xs, h1, h2, h3⟩ => ⟨a, xs, h1, h2, fun p hp => h3.at hp⟩
def tD0W : TE := fun _ H Q => NewO H (.dK []) Q
theorem pe_d0W : PE X (.Dict [] [] pos) tD0W := fun pins s σ H Q I h => pe_d0 pins s σ H Q I fun p hp => h.at hp
theorem call_list_ofW : CallR X (.type "list") (fun xs H Q => ∃ p ys, xs = [.ref p] ∧ (SqL X.K H p ys ∨ SqT X.K H p ys) ∧ NewO H (.lst ys) Q) := call_list_of.mono fun xs H Q ⟨p, ys, h1, h2, h3⟩ => ⟨p, ys, h1, h2, fun l hl => h3.at hl⟩
end
end L2
/-! The mathematics of the store, over plain lists of numbers. -/
namespace Gs
abbrev Row := List Int
def net (r : Row) : Int := r.getD 0 0 - r.getD 1 0
def tot (rs : List Row) : Int := (rs.map net).sum
def gainOn (d r : Row) : Int := d.getD 2 0 * r.getD 1 0 - d.getD 0 0 * r.getD 0 0
def gain (ds rs : List Row) : Int := (List.zipWith gainOn ds rs).sum
def badAt (room : Int) (d r : Row) (b : Int) : Bool := (decide (r.getD 0 0 > d.getD 1 0) || decide (r.getD 1 0 > d.getD 3 0)) || (decide (b < 0) || decide (b > room))
/-- n numbers, 0 or more -/
def Good (n : Nat) (r : Row) : Prop := r.length = n ∧ ∀ k ∈ r, 0 ≤ k
theorem Good.two {r : Row} (h : Good 2 r) : ∃ a b, r = [a, b] ∧ 0 ≤ a ∧ 0 ≤ b := by
  obtain ⟨hl, hn⟩ := h
  match r, hl with
  | [a, b], _ => exact ⟨a, b, rfl, hn a (by simp), hn b (by simp)⟩
theorem Good.four {r : Row} (h : Good 4 r) : ∃ a b c d, r = [a, b, c, d] ∧ 0 ≤ a ∧ 0 ≤ b ∧ 0 ≤ c ∧ 0 ≤ d := by
  obtain ⟨hl, hn⟩ := h
  match r, hl with
  | [a, b, c, d], _ => exact ⟨a, b, c, d, rfl, hn a (by simp), hn b (by simp), hn c (by simp), hn d (by simp)⟩

/-- a dealing that can be, from b stored on -/
def CanA (room b : Int) : List Row → List Row → Prop
  | [], [] => True
  | d :: ds, r :: rs => Good 2 r ∧ r.getD 0 0 ≤ d.getD 1 0 ∧ r.getD 1 0 ≤ d.getD 3 0 ∧ 0 ≤ b + net r ∧ b + net r ≤ room ∧ CanA room (b + net r) ds rs
  | _, _ => False
def Can (room : Int) (ds rs : List Row) : Prop := CanA room 0 ds rs
def dayBound (d : Row) (w : Int) : Int := max 0 (d.getD 1 0 * (w - d.getD 0 0)) + max 0 (d.getD 3 0 * (d.getD 2 0 - w))
/-- what the days behind one of the worth v gain at the most -/
def boundA (room v : Int) : List Row → List Int → Int
  | d :: ds, w :: ws => dayBound d w + max 0 (room * (w - v)) + boundA room w ds ws
  | _, _ => 0
def bound (room : Int) : List Row → List Int → Int
  | d :: ds, w :: ws => dayBound d w + boundA room w ds ws
  | _, _ => 0

theorem mul_max {c x m : Int} (h0 : 0 ≤ x) (h1 : x ≤ m) : c * x ≤ max 0 (m * c) := by
  rcases Int.le_total 0 c with hc | hc
  · have : c * x ≤ c * m := Int.mul_le_mul_of_nonneg_left h1 hc
    rw [Int.mul_comm m c]
    omega
  · have : c * x ≤ 0 := Int.mul_nonpos_of_nonpos_of_nonneg hc h0
    omega
theorem gain_cons (d r : Row) (ds rs : List Row) : gain (d :: ds) (r :: rs) = gainOn d r + gain ds rs := by
  unfold gain
  rw [List.zipWith_cons_cons, List.sum_cons]
/-- one day: what it gains, and what is stored behind it at its worth -/
theorem day_le {d r : Row} {w b : Int} (hr : Good 2 r) (h1 : r.getD 0 0 ≤ d.getD 1 0) (h2 : r.getD 1 0 ≤ d.getD 3 0) : gainOn d r + w * (b + net r) ≤ dayBound d w + w * b := by
  obtain ⟨x, y, rfl, hx, hy⟩ := hr.two
  have e1 := mul_max (c := w - d.getD 0 0) hx h1
  have e2 := mul_max (c := d.getD 2 0 - w) hy h2
  unfold gainOn net dayBound
  simp only [List.getD_cons_zero, List.getD_cons_succ] at *
  have e3 : (w - d.getD 0 0) * x = w * x - d.getD 0 0 * x := Int.sub_mul ..
  have e4 : (d.getD 2 0 - w) * y = d.getD 2 0 * y - w * y := Int.sub_mul ..
  have e5 : w * (b + (x - y)) = w * b + w * x - w * y := by
    rw [Int.mul_add, Int.mul_sub]
    omega
  rw [e5]
  omega
theorem weakA {room : Int} : ∀ {ds rs : List Row} {ws : List Int} {b v : Int}, CanA room b ds rs → ws.length = ds.length → (∀ w ∈ ws, 0 ≤ w) → 0 ≤ v → 0 ≤ b → b ≤ room → gain ds rs ≤ v * b + boundA room v ds ws
  | [], [], ws, b, v, _, _, _, hv, hb, _ => by
    have : 0 ≤ v * b := Int.mul_nonneg hv hb
    show (0 : Int) ≤ v * b + boundA room v [] ws
    unfold boundA
    omega
  | [], r :: rs, ws, b, v, h, _, _, _, _, _ => h.elim
  | d :: ds, [], ws, b, v, h, _, _, _, _, _ => h.elim
  | d :: ds, r :: rs, [], b, v, _, hl, _, _, _, _ => by simp at hl
  | d :: ds, r :: rs, w :: ws, b, v, h, hl, hw, hv, hb, hb2 => by
    obtain ⟨g, h1, h2, h3, h4, h5⟩ := h
    have hw0 : 0 ≤ w := hw w (by simp)
    have ih := weakA (ws := ws) (v := w) h5 (by simpa using hl) (fun x hx => hw x (by simp [hx])) hw0 h3 h4
    have e1 := day_le (w := w) (b := b) g h1 h2
    have e2 := mul_max (c := w - v) hb hb2
    have e3 : (w - v) * b = w * b - v * b := Int.sub_mul ..
    rw [gain_cons]
    show gainOn d r + gain ds rs ≤ v * b + (dayBound d w + max 0 (room * (w - v)) + boundA room w ds ws)
    omega
/-- no dealing that can be gains more than the sum at any worths -/
theorem weak {room : Int} {ds rs : List Row} {ws : List Int} (h : Can room ds rs) (hl : ws.length = ds.length) (hw : ∀ w ∈ ws, 0 ≤ w) (h0 : 0 ≤ room) : gain ds rs ≤ bound room ds ws := by
  match ds, rs, ws with
  | [], [], ws => exact Int.le_refl 0
  | [], r :: rs, ws => exact h.elim
  | d :: ds, [], ws => exact h.elim
  | d :: ds, r :: rs, [] => simp at hl
  | d :: ds, r :: rs, w :: ws =>
    obtain ⟨g, h1, h2, h3, h4, h5⟩ := h
    have hw0 : 0 ≤ w := hw w (by simp)
    have ih := weakA (ws := ws) (v := w) h5 (by simpa using hl) (fun x hx => hw x (by simp [hx])) hw0 h3 h4
    have e1 := day_le (w := w) (b := 0) g h1 h2
    rw [gain_cons]
    show gainOn d r + gain ds rs ≤ dayBound d w + boundA room w ds ws
    simp only [Int.mul_zero] at e1
    omega

/-! ### by more room -/
def slopeA (v : Int) : List Row → List Int → Int
  | _ :: ds, w :: ws => max 0 (w - v) + slopeA w ds ws
  | _, _ => 0
def slope : List Row → List Int → Int
  | _ :: ds, w :: ws => slopeA w ds ws
  | _, _ => 0
theorem slopeA_nn : ∀ (ds : List Row) (ws : List Int) (v : Int), 0 ≤ slopeA v ds ws
  | [], _, _ => by unfold slopeA; omega
  | _ :: _, [], _ => by unfold slopeA; omega
  | _ :: ds, w :: ws, v => by
    have := slopeA_nn ds ws w
    unfold slopeA
    omega
theorem slope_nn (ds : List Row) (ws : List Int) : 0 ≤ slope ds ws := by
  match ds, ws with
  | [], _ => exact Int.le_refl 0
  | _ :: _, [] => exact Int.le_refl 0
  | _ :: ds, w :: ws => exact slopeA_nn ds ws w
theorem max_mul {a c : Int} (h : 0 ≤ a) : max 0 (a * c) = a * max 0 c := by
  rcases Int.le_total 0 c with hc | hc
  · have := Int.mul_nonneg h hc
    rw [Int.max_eq_right this, Int.max_eq_right hc]
  · have := Int.mul_nonpos_of_nonneg_of_nonpos h hc
    rw [Int.max_eq_left this, Int.max_eq_left hc, Int.mul_zero]
theorem boundA_add {room k : Int} (h0 : 0 ≤ room) (hk : 0 ≤ room + k) : ∀ (ds : List Row) (ws : List Int) (v : Int), boundA (room + k) v ds ws = boundA room v ds ws + k * slopeA v ds ws
  | [], _, _ => by unfold boundA slopeA; omega
  | _ :: _, [], _ => by unfold boundA slopeA; omega
  | d :: ds, w :: ws, v => by
    unfold boundA slopeA
    rw [boundA_add h0 hk ds ws w, max_mul h0, max_mul hk, Int.add_mul, Int.mul_add]
    omega
theorem bound_add {room k : Int} (h0 : 0 ≤ room) (hk : 0 ≤ room + k) (ds : List Row) (ws : List Int) : bound (room + k) ds ws = bound room ds ws + k * slope ds ws := by
  match ds, ws with
  | [], _ => show (0 : Int) = 0 + k * 0; omega
  | _ :: _, [] => show (0 : Int) = 0 + k * 0; omega
  | d :: ds, w :: ws =>
    show dayBound d w + boundA (room + k) w ds ws = dayBound d w + boundA room w ds ws + k * slopeA w ds ws
    rw [boundA_add h0 hk]
    omega
/-- a dealing and worths as promised -/
structure IsBest (room : Int) (ds rs : List Row) (ws : List Int) : Prop where
  can : Can room ds rs
  len : ws.length = ds.length
  nn : ∀ w ∈ ws, 0 ≤ w
  eq : gain ds rs = bound room ds ws
/-- the most gain -/
def Most (room : Int) (ds : List Row) (g : Int) : Prop := ∃ rs ws, IsBest room ds rs ws ∧ g = gain ds rs
theorem Most.ge {room : Int} {ds rs : List Row} {g : Int} (m : Most room ds g) (h0 : 0 ≤ room) (h : Can room ds rs) : gain ds rs ≤ g := by
  obtain ⟨rs', ws, b, rfl⟩ := m
  rw [b.eq]
  exact weak h b.len b.nn h0
theorem Most.uniq {room : Int} {ds : List Row} {g g' : Int} (m : Most room ds g) (m' : Most room ds g') (h0 : 0 ≤ room) : g = g' := by
  obtain ⟨rs, ws, b, e⟩ := id m
  obtain ⟨rs', ws', b', e'⟩ := id m'
  have h1 := m.ge h0 b'.can
  have h2 := m'.ge h0 b.can
  omega
theorem Most.mono {room : Int} {ds : List Row} {g g' : Int} (h0 : 0 ≤ room) (m : Most room ds g) (m' : Most (room + 1) ds g') : g ≤ g' := by
  obtain ⟨rs, ws, b, e⟩ := m
  obtain ⟨rs', ws', b', e'⟩ := m'
  have h1 := weak b.can b'.len b'.nn h0
  have h2 := bound_add (k := 1) h0 (by omega) ds ws'
  have h3 := slope_nn ds ws'
  have h4 := b'.eq
  omega
theorem Most.conc {room : Int} {ds : List Row} {g g1 g2 : Int} (h0 : 0 ≤ room) (m : Most room ds g) (m1 : Most (room + 1) ds g1) (m2 : Most (room + 2) ds g2) : g2 - g1 ≤ g1 - g := by
  obtain ⟨rs, ws, b, e⟩ := m
  obtain ⟨rs1, ws1, b1, e1⟩ := m1
  obtain ⟨rs2, ws2, b2, e2⟩ := m2
  have h1 := weak b.can b1.len b1.nn h0
  have h2 := weak b2.can b1.len b1.nn (by omega)
  have h3 := bound_add (k := 1) h0 (by omega) ds ws1
  have h4 := bound_add (k := 2) h0 (by omega) ds ws1
  have h5 := b1.eq
  omega
/-- nothing bought, nothing sold -/
theorem can_zero {room : Int} (h0 : 0 ≤ room) : ∀ {ds : List Row}, (∀ d ∈ ds, Good 4 d) → Can room ds (ds.map fun _ => [0, 0]) ∧ gain ds (ds.map fun _ => [0, 0]) = 0
  | [], _ => ⟨trivial, rfl⟩
  | d :: ds, h => by
    obtain ⟨h1, h2⟩ := can_zero h0 (ds := ds) fun x hx => h x (by simp [hx])
    obtain ⟨a, b, c, e, rfl, p0, p1, p2, p3⟩ := (h d (by simp)).four
    refine ⟨⟨⟨rfl, by simp⟩, p1, p3, by show (0 : Int) ≤ 0 + (0 - 0); decide, h0, h1⟩, ?_⟩
    rw [List.map_cons, gain_cons, h2]
    show c * 0 - a * 0 + 0 = 0
    simp
theorem Most.nn {room : Int} {ds : List Row} {g : Int} (h0 : 0 ≤ room) (hd : ∀ d ∈ ds, Good 4 d) (m : Most room ds g) : 0 ≤ g := by
  obtain ⟨h1, h2⟩ := can_zero h0 hd
  have := m.ge h0 h1
  omega

/-! ### no room: each day by itself -/
def eachOn (d : Row) : Int := min (d.getD 1 0) (d.getD 3 0) * max 0 (d.getD 2 0 - d.getD 0 0)
def each (ds : List Row) : Int := (ds.map eachOn).sum
def alone (d : Row) : Row := if d.getD 0 0 < d.getD 2 0 then [min (d.getD 1 0) (d.getD 3 0), min (d.getD 1 0) (d.getD 3 0)] else [0, 0]
theorem alone_gain (d : Row) : gainOn d (alone d) = eachOn d := by
  unfold alone eachOn gainOn
  split
  · rename_i h
    rw [Int.max_eq_right (by omega)]
    show d.getD 2 0 * min (d.getD 1 0) (d.getD 3 0) - d.getD 0 0 * min (d.getD 1 0) (d.getD 3 0) = _
    rw [← Int.sub_mul, Int.mul_comm]
  · rename_i h
    rw [Int.max_eq_left (by omega)]
    show d.getD 2 0 * 0 - d.getD 0 0 * 0 = _
    simp
theorem can_alone : ∀ {ds : List Row}, (∀ d ∈ ds, Good 4 d) → Can 0 ds (ds.map alone) ∧ gain ds (ds.map alone) = each ds
  | [], _ => ⟨trivial, rfl⟩
  | d :: ds, h => by
    obtain ⟨h1, h2⟩ := can_alone (ds := ds) fun x hx => h x (by simp [hx])
    obtain ⟨a, b, c, e, rfl, p0, p1, p2, p3⟩ := (h d (by simp)).four
    refine ⟨?_, ?_⟩
    · show CanA 0 0 ([a, b, c, e] :: ds) (alone [a, b, c, e] :: ds.map alone)
      unfold alone
      split
      · refine ⟨⟨rfl, by simp; omega⟩, ?_, ?_, ?_, ?_, ?_⟩
        · show min b e ≤ b
          omega
        · show min b e ≤ e
          omega
        · show 0 ≤ 0 + (min b e - min b e)
          omega
        · show 0 + (min b e - min b e) ≤ 0
          omega
        · have z : (0 : Int) + net [List.getD [a, b, c, e] 1 0 |> fun x => min x (List.getD [a, b, c, e] 3 0), min (List.getD [a, b, c, e] 1 0) (List.getD [a, b, c, e] 3 0)] = 0 := by
            show 0 + (min b e - min b e) = 0
            omega
          rw [z]
          exact h1
      · exact ⟨⟨rfl, by simp⟩, p1, p3, by decide, by decide, h1⟩
    · rw [List.map_cons, gain_cons, h2, alone_gain]
      rfl
theorem gain_each : ∀ {ds rs : List Row}, Can 0 ds rs → gain ds rs ≤ each ds
  | [], [], _ => Int.le_refl 0
  | [], _ :: _, h => h.elim
  | _ :: _, [], h => h.elim
  | d :: ds, r :: rs, h => by
    obtain ⟨g, h1, h2, h3, h4, h5⟩ := h
    have z : (0 : Int) + net r = 0 := by omega
    rw [z] at h5
    have ih := gain_each h5
    obtain ⟨x, y, rfl, hx, hy⟩ := g.two
    rw [gain_cons]
    have exy : x = y := by
      have : (0 : Int) + (x - y) = 0 := z
      omega
    subst exy
    have e1 : gainOn d [x, x] ≤ eachOn d := by
      show d.getD 2 0 * x - d.getD 0 0 * x ≤ min (d.getD 1 0) (d.getD 3 0) * max 0 (d.getD 2 0 - d.getD 0 0)
      have h1' : x ≤ d.getD 1 0 := h1
      have h2' : x ≤ d.getD 3 0 := h2
      have := mul_max (c := d.getD 2 0 - d.getD 0 0) (m := min (d.getD 1 0) (d.getD 3 0)) hx (by omega)
      rw [max_mul (by omega)] at this
      rw [← Int.sub_mul]
      exact this
    show gainOn d [x, x] + gain ds rs ≤ eachOn d + each ds
    omega
theorem Most.zero {ds : List Row} {g : Int} (hd : ∀ d ∈ ds, Good 4 d) (m : Most 0 ds g) : g = each ds := by
  obtain ⟨h1, h2⟩ := can_alone hd
  have h3 := m.ge (by decide) h1
  obtain ⟨rs, ws, b, rfl⟩ := m
  have h4 := gain_each b.can
  omega

/-! ### another day -/
/-- the prices are no worse, the mosts no less -/
def Better (d d' : Row) : Prop := d'.getD 0 0 ≤ d.getD 0 0 ∧ d.getD 1 0 ≤ d'.getD 1 0 ∧ d.getD 2 0 ≤ d'.getD 2 0 ∧ d.getD 3 0 ≤ d'.getD 3 0
theorem can_better {room : Int} : ∀ {ds ds' rs : List Row} {b : Int}, CanA room b ds rs → ds'.length = ds.length → (∀ (i : Nat) d d', ds[i]? = some d → ds'[i]? = some d' → Better d d') → CanA room b ds' rs ∧ gain ds rs ≤ gain ds' rs
  | [], [], [], _, _, _, _ => ⟨trivial, Int.le_refl _⟩
  | [], [], _ :: _, _, h, _, _ => h.elim
  | [], _ :: _, _, _, _, hl, _ => by simp at hl
  | _ :: _, [], _, _, _, hl, _ => by simp at hl
  | _ :: _, _ :: _, [], _, h, _, _ => h.elim
  | d :: ds, d' :: ds', r :: rs, b, h, hl, hb => by
    obtain ⟨g, h1, h2, h3, h4, h5⟩ := h
    obtain ⟨b0, b1, b2, b3⟩ := hb 0 d d' rfl rfl
    obtain ⟨i1, i2⟩ := can_better (ds' := ds') h5 (by simpa using hl) fun i x x' e e' => hb (i + 1) x x' (by simpa using e) (by simpa using e')
    refine ⟨⟨g, by omega, by omega, h3, h4, i1⟩, ?_⟩
    obtain ⟨x, y, rfl, hx, hy⟩ := g.two
    rw [gain_cons, gain_cons]
    have e1 : d.getD 2 0 * y ≤ d'.getD 2 0 * y := Int.mul_le_mul_of_nonneg_right b2 hy
    have e2 : d'.getD 0 0 * x ≤ d.getD 0 0 * x := Int.mul_le_mul_of_nonneg_right b0 hx
    have e3 : gainOn d [x, y] ≤ gainOn d' [x, y] := by
      show d.getD 2 0 * y - d.getD 0 0 * x ≤ d'.getD 2 0 * y - d'.getD 0 0 * x
      omega
    omega
theorem Most.better {room : Int} {ds ds' : List Row} {g g' : Int} (h0 : 0 ≤ room) (hl : ds'.length = ds.length) (hb : ∀ (i : Nat) d d', ds[i]? = some d → ds'[i]? = some d' → Better d d') (m : Most room ds g) (m' : Most room ds' g') : g ≤ g' := by
  obtain ⟨rs, ws, b, rfl⟩ := m
  obtain ⟨h1, h2⟩ := can_better b.can hl hb
  have := m'.ge h0 h1
  omega
/-- with a day of nothing a dealing gains as much on any day in its place -/
def ZeroOr (d d' : Row) : Prop := d' = d ∨ (d = [0, 0, 0, 0] ∧ Good 4 d')
theorem can_zeroOr {room : Int} : ∀ {ds ds' rs : List Row} {b : Int}, CanA room b ds rs → ds'.length = ds.length → (∀ (i : Nat) d d', ds[i]? = some d → ds'[i]? = some d' → ZeroOr d d') → CanA room b ds' rs ∧ gain ds rs = gain ds' rs
  | [], [], [], _, _, _, _ => ⟨trivial, rfl⟩
  | [], [], _ :: _, _, h, _, _ => h.elim
  | [], _ :: _, _, _, _, hl, _ => by simp at hl
  | _ :: _, [], _, _, _, hl, _ => by simp at hl
  | _ :: _, _ :: _, [], _, h, _, _ => h.elim
  | d :: ds, d' :: ds', r :: rs, b, h, hl, hb => by
    obtain ⟨g, h1, h2, h3, h4, h5⟩ := h
    have z := hb 0 d d' rfl rfl
    obtain ⟨i1, i2⟩ := can_zeroOr (ds' := ds') h5 (by simpa using hl) fun i x x' e e' => hb (i + 1) x x' (by simpa using e) (by simpa using e')
    rw [gain_cons, gain_cons, i2]
    rcases z with rfl | ⟨rfl, g4⟩
    · exact ⟨⟨g, h1, h2, h3, h4, i1⟩, rfl⟩
    · obtain ⟨a, m, c, k, rfl, p0, p1, p2, p3⟩ := g4.four
      obtain ⟨x, y, rfl, hx, hy⟩ := g.two
      have h1' : x ≤ 0 := h1
      have h2' : y ≤ 0 := h2
      have ex : x = 0 := by omega
      have ey : y = 0 := by omega
      subst ex ey
      refine ⟨⟨g, p1, p3, h3, h4, i1⟩, ?_⟩
      show (0 : Int) * 0 - 0 * 0 + gain ds' rs = c * 0 - a * 0 + gain ds' rs
      simp
theorem Most.zeroOr {room : Int} {ds ds' : List Row} {g g' : Int} (h0 : 0 ≤ room) (hl : ds'.length = ds.length) (hb : ∀ (i : Nat) d d', ds[i]? = some d → ds'[i]? = some d' → ZeroOr d d') (m : Most room ds g) (m' : Most room ds' g') : g ≤ g' := by
  obtain ⟨rs, ws, b, rfl⟩ := m
  obtain ⟨h1, h2⟩ := can_zeroOr b.can hl hb
  have := m'.ge h0 h1
  omega
end Gs
/-! All that can be stored night by night: the table of the most gains, by what is stored. -/
namespace Gs
theorem tot_nil : tot [] = 0 := rfl
theorem tot_cons' (r : Row) (rs : List Row) : tot (r :: rs) = net r + tot rs := by unfold tot; rw [List.map_cons, List.sum_cons]
theorem canA_len {room : Int} : ∀ {ds rs : List Row} {b : Int}, CanA room b ds rs → ds.length = rs.length
  | [], [], _, _ => rfl
  | [], _ :: _, _, h => h.elim
  | _ :: _, [], _, h => h.elim
  | d :: ds, r :: rs, b, h => by
    obtain ⟨_, _, _, _, _, h5⟩ := h
    rw [List.length_cons, List.length_cons, canA_len h5]
theorem canA_snoc {room : Int} {d r : Row} : ∀ {ds rs : List Row} {b : Int}, CanA room b ds rs → Good 2 r → r.getD 0 0 ≤ d.getD 1 0 → r.getD 1 0 ≤ d.getD 3 0 → 0 ≤ b + tot rs + net r → b + tot rs + net r ≤ room → CanA room b (ds ++ [d]) (rs ++ [r])
  | [], [], b, _, g, h1, h2, h3, h4 => by
    rw [tot_nil, Int.add_zero] at h3 h4
    exact ⟨g, h1, h2, h3, h4, trivial⟩
  | [], _ :: _, _, h, _, _, _, _, _ => h.elim
  | _ :: _, [], _, h, _, _, _, _, _ => h.elim
  | d0 :: ds, r0 :: rs, b, h, g, h1, h2, h3, h4 => by
    obtain ⟨g0, k1, k2, k3, k4, k5⟩ := h
    rw [tot_cons'] at h3 h4
    exact ⟨g0, k1, k2, k3, k4, canA_snoc k5 g h1 h2 (by omega) (by omega)⟩
theorem canA_split {room : Int} {d : Row} : ∀ {ds rs : List Row} {b : Int}, CanA room b (ds ++ [d]) rs → ∃ rs0 r, rs = rs0 ++ [r] ∧ CanA room b ds rs0 ∧ Good 2 r ∧ r.getD 0 0 ≤ d.getD 1 0 ∧ r.getD 1 0 ≤ d.getD 3 0 ∧ 0 ≤ b + tot rs0 + net r ∧ b + tot rs0 + net r ≤ room
  | [], [], _, h => h.elim
  | [], [r], b, h => by
    obtain ⟨g, k1, k2, k3, k4, _⟩ := h
    exact ⟨[], r, rfl, trivial, g, k1, k2, by rw [tot_nil]; omega, by rw [tot_nil]; omega⟩
  | [], _ :: _ :: _, _, h => by
    obtain ⟨_, _, _, _, _, z⟩ := h
    exact z.elim
  | _ :: _, [], _, h => h.elim
  | d0 :: ds, r0 :: rs, b, h => by
    obtain ⟨g0, k1, k2, k3, k4, k5⟩ := h
    obtain ⟨rs0, r, rfl, i1, i2, i3, i4, i5, i6⟩ := canA_split k5
    exact ⟨r0 :: rs0, r, rfl, ⟨g0, k1, k2, k3, k4, i1⟩, i2, i3, i4, by rw [tot_cons']; omega, by rw [tot_cons']; omega⟩
theorem gain_snoc : ∀ {ds rs : List Row} {d r : Row}, ds.length = rs.length → gain (ds ++ [d]) (rs ++ [r]) = gain ds rs + gainOn d r
  | [], [], d, r, _ => by show gainOn d r + 0 = 0 + gainOn d r; omega
  | [], _ :: _, _, _, h => by simp at h
  | _ :: _, [], _, _, h => by simp at h
  | d0 :: ds, r0 :: rs, d, r, h => by
    rw [List.cons_append, List.cons_append, gain_cons, gain_cons, gain_snoc (by simpa using h)]
    omega
theorem tot_snoc' (rs : List Row) (r : Row) : tot (rs ++ [r]) = tot rs + net r := by unfold tot; rw [List.map_append, List.sum_append]; simp

/-- a gain g by a dealing that can be with left stored behind it -/
def Reach (room : Int) (ds : List Row) (left g : Int) : Prop := ∃ rs, Can room ds rs ∧ tot rs = left ∧ gain ds rs = g
theorem reach_nil {room : Int} : Reach room [] 0 0 := ⟨[], trivial, rfl, rfl⟩
theorem reach_nil_only {room left g : Int} (h : Reach room [] left g) : left = 0 ∧ g = 0 := by
  obtain ⟨rs, h1, h2, h3⟩ := h
  cases rs with
  | nil => exact ⟨h2.symm, h3.symm⟩
  | cons r rs => exact h1.elim
theorem Reach.step {room left g x y : Int} {ds : List Row} {d : Row} (h : Reach room ds left g) (hx : 0 ≤ x) (hy : 0 ≤ y) (h1 : x ≤ d.getD 1 0) (h2 : y ≤ d.getD 3 0) (h3 : 0 ≤ left + x - y) (h4 : left + x - y ≤ room) :
    Reach room (ds ++ [d]) (left + x - y) (g + y * d.getD 2 0 - x * d.getD 0 0) := by
  obtain ⟨rs, k1, rfl, rfl⟩ := h
  have en : net [x, y] = x - y := rfl
  refine ⟨rs ++ [[x, y]], canA_snoc k1 ⟨rfl, by simp; omega⟩ h1 h2 (by rw [en]; omega) (by rw [en]; omega), ?_, ?_⟩
  · rw [tot_snoc', en]
    omega
  · rw [gain_snoc (canA_len k1)]
    show gain ds rs + (d.getD 2 0 * y - d.getD 0 0 * x) = _
    rw [Int.mul_comm (d.getD 2 0), Int.mul_comm (d.getD 0 0)]
    omega
theorem Reach.split {room b g : Int} {ds : List Row} {d : Row} (h : Reach room (ds ++ [d]) b g) : ∃ left g0 x y, Reach room ds left g0 ∧ 0 ≤ x ∧ 0 ≤ y ∧ x ≤ d.getD 1 0 ∧ y ≤ d.getD 3 0 ∧ b = left + x - y ∧ 0 ≤ b ∧ b ≤ room ∧ g = g0 + y * d.getD 2 0 - x * d.getD 0 0 := by
  obtain ⟨rs, k1, rfl, rfl⟩ := h
  obtain ⟨rs0, r, rfl, i1, i2, i3, i4, i5, i6⟩ := canA_split k1
  obtain ⟨x, y, rfl, hx, hy⟩ := i2.two
  have en : net [x, y] = x - y := rfl
  rw [en] at i5 i6
  refine ⟨tot rs0, gain ds rs0, x, y, ⟨rs0, i1, rfl, rfl⟩, hx, hy, i3, i4, by rw [tot_snoc', en]; omega, by rw [tot_snoc', en]; omega, by rw [tot_snoc', en]; omega, ?_⟩
  rw [gain_snoc (canA_len i1)]
  show gain ds rs0 + (d.getD 2 0 * y - d.getD 0 0 * x) = _
  rw [Int.mul_comm (d.getD 2 0), Int.mul_comm (d.getD 0 0)]
  omega
theorem canA_last {room : Int} : ∀ {ds rs : List Row} {b : Int}, 0 ≤ b → b ≤ room → CanA room b ds rs → 0 ≤ b + tot rs ∧ b + tot rs ≤ room
  | [], [], b, h0, h1, _ => by rw [tot_nil]; omega
  | [], _ :: _, _, _, _, h => h.elim
  | _ :: _, [], _, _, _, h => h.elim
  | d :: ds, r :: rs, b, h0, h1, h => by
    obtain ⟨_, _, _, k3, k4, k5⟩ := h
    have := canA_last k3 k4 k5
    rw [tot_cons']
    omega
theorem Reach.range {room left g : Int} {ds : List Row} (h0 : 0 ≤ room) (h : Reach room ds left g) : 0 ≤ left ∧ left ≤ room := by
  obtain ⟨rs, k1, rfl, rfl⟩ := h
  have := canA_last (Int.le_refl 0) h0 k1
  omega

/-- the table behind some days -/
structure Now (room : Nat) (ds : List Row) (now : List (Option Int)) : Prop where
  len : now.length = room + 1
  sound : ∀ (i : Nat) g, now[i]? = some (some g) → Reach room ds i g
  full : ∀ left g, Reach room ds left g → ∃ g', now[left.toNat]? = some (some g') ∧ g ≤ g'
theorem now_start (room : Nat) : Now room [] (some 0 :: List.replicate room none) := by
  refine ⟨by simp, fun i g h => ?_, fun left g h => ?_⟩
  · cases i with
    | zero =>
      simp at h
      subst h
      exact reach_nil
    | succ i =>
      simp at h
      rw [List.getElem?_replicate] at h
      split at h <;> cases h
  · obtain ⟨rfl, rfl⟩ := reach_nil_only h
    exact ⟨0, rfl, Int.le_refl 0⟩
/-- the table of the next day, under way -/
structure Later (room : Nat) (ds : List Row) (d : Row) (now later : List (Option Int)) (Done : Nat → Int → Int → Prop) : Prop where
  len : later.length = room + 1
  sound : ∀ (i : Nat) g, later[i]? = some (some g) → Reach room (ds ++ [d]) i g
  full : ∀ (i : Nat) x y g, Done i x y → now[i]? = some (some g) → 0 ≤ (i : Int) + x - y → (i : Int) + x - y ≤ room → ∃ g', later[((i : Int) + x - y).toNat]? = some (some g') ∧ g + y * d.getD 2 0 - x * d.getD 0 0 ≤ g'
theorem later_start {room : Nat} {ds : List Row} {d : Row} {now : List (Option Int)} : Later room ds d now (List.replicate (room + 1) none) (fun _ _ _ => False) :=
  ⟨by simp, fun i g h => (by rw [List.getElem?_replicate] at h; split at h <;> cases h), fun _ _ _ _ h => h.elim⟩
theorem Later.weaken {room : Nat} {ds : List Row} {d : Row} {now later : List (Option Int)} {Done Done' : Nat → Int → Int → Prop} (L : Later room ds d now later Done)
    (h : ∀ (i : Nat) x y g, Done' i x y → now[i]? = some (some g) → 0 ≤ (i : Int) + x - y → (i : Int) + x - y ≤ room → Done i x y) : Later room ds d now later Done' :=
  ⟨L.len, L.sound, fun i x y g hd hn h1 h2 => L.full i x y g (h i x y g hd hn h1 h2) hn h1 h2⟩
/-- one more deed, kept in the table -/
theorem Later.hit {room : Nat} {ds : List Row} {d : Row} {now later : List (Option Int)} {Done : Nat → Int → Int → Prop} {i : Nat} {x y g : Int} (N : Now room ds now) (L : Later room ds d now later Done) (hn : now[i]? = some (some g))
    (hx : 0 ≤ x) (hy : 0 ≤ y) (h1 : x ≤ d.getD 1 0) (h2 : y ≤ d.getD 3 0) (c1 : 0 ≤ (i : Int) + x - y) (c2 : (i : Int) + x - y ≤ room)
    (c3 : ∀ g', later[((i : Int) + x - y).toNat]? = some (some g') → g' < g + y * d.getD 2 0 - x * d.getD 0 0) :
    Later room ds d now (later.set ((i : Int) + x - y).toNat (some (g + y * d.getD 2 0 - x * d.getD 0 0))) (fun i' x' y' => Done i' x' y' ∨ (i' = i ∧ x' = x ∧ y' = y)) := by
  have hlt : ((i : Int) + x - y).toNat < later.length := by rw [L.len]; omega
  refine ⟨by rw [List.length_set]; exact L.len, fun k g' e => ?_, fun k x' y' g0 hd hn' e1 e2 => ?_⟩
  · by_cases z : k = ((i : Int) + x - y).toNat
    · rw [z, List.getElem?_set_self hlt] at e
      cases e
      rw [z, Int.toNat_of_nonneg c1]
      exact (N.sound i g hn).step hx hy h1 h2 c1 c2
    · rw [List.getElem?_set_ne (fun q => z q.symm)] at e
      exact L.sound k g' e
  · by_cases z : ((k : Int) + x' - y').toNat = ((i : Int) + x - y).toNat
    · rw [z, List.getElem?_set_self hlt]
      refine ⟨_, rfl, ?_⟩
      rcases hd with hd | ⟨rfl, rfl, rfl⟩
      · obtain ⟨g', e3, e4⟩ := L.full k x' y' g0 hd hn' e1 e2
        rw [z] at e3
        have := c3 g' e3
        omega
      · rw [hn] at hn'
        cases hn'
        exact Int.le_refl _
    · rw [List.getElem?_set_ne (fun q => z q.symm)]
      rcases hd with hd | ⟨rfl, rfl, rfl⟩
      · exact L.full k x' y' g0 hd hn' e1 e2
      · exact absurd rfl z
/-- one more deed, passed over -/
theorem Later.miss {room : Nat} {ds : List Row} {d : Row} {now later : List (Option Int)} {Done : Nat → Int → Int → Prop} {i : Nat} {x y g : Int} (L : Later room ds d now later Done) (hn : now[i]? = some (some g))
    (c : 0 ≤ (i : Int) + x - y → (i : Int) + x - y ≤ room → ∃ g', later[((i : Int) + x - y).toNat]? = some (some g') ∧ g + y * d.getD 2 0 - x * d.getD 0 0 ≤ g') :
    Later room ds d now later (fun i' x' y' => Done i' x' y' ∨ (i' = i ∧ x' = x ∧ y' = y)) := by
  refine ⟨L.len, L.sound, fun k x' y' g0 hd hn' e1 e2 => ?_⟩
  rcases hd with hd | ⟨rfl, rfl, rfl⟩
  · exact L.full k x' y' g0 hd hn' e1 e2
  · rw [hn] at hn'
    cases hn'
    exact c e1 e2
theorem Later.now {room : Nat} {ds : List Row} {d : Row} {now later : List (Option Int)} {Done : Nat → Int → Int → Prop} (N : Now room ds now) (L : Later room ds d now later Done)
    (all : ∀ (i : Nat) x y, i ≤ room → 0 ≤ x → x ≤ d.getD 1 0 → 0 ≤ y → y ≤ d.getD 3 0 → Done i x y) : Now room (ds ++ [d]) later := by
  refine ⟨L.len, L.sound, fun b g h => ?_⟩
  obtain ⟨left, g0, x, y, k1, k2, k3, k4, k5, rfl, k7, k8, rfl⟩ := h.split
  obtain ⟨g1, e1, e2⟩ := N.full left g0 k1
  have hr := k1.range (by omega)
  have hi : ((left.toNat : Nat) : Int) = left := Int.toNat_of_nonneg hr.1
  obtain ⟨g2, e3, e4⟩ := L.full left.toNat x y g1 (all _ x y (by omega) k2 k4 k3 k5) e1 (by rw [hi]; exact k7) (by rw [hi]; exact k8)
  rw [hi] at e3
  exact ⟨g2, e3, by omega⟩
/-- the most of the table is the most gain -/
theorem Now.most {room : Nat} {ds : List Row} {now : List (Option Int)} {g m : Int} (N : Now room ds now) (M : Most room ds g) (hm : some m ∈ now) (hmax : ∀ k, some k ∈ now → k ≤ m) : m = g := by
  have h1 : m ≤ g := by
    obtain ⟨i, hi⟩ := List.getElem?_of_mem hm
    obtain ⟨rs, k1, _, rfl⟩ := N.sound i m hi
    exact M.ge (by omega) k1
  have h2 : g ≤ m := by
    obtain ⟨rs, ws, b, rfl⟩ := M
    obtain ⟨g', e1, e2⟩ := N.full _ _ ⟨rs, b.can, rfl, rfl⟩
    have := hmax g' (List.mem_of_getElem? e1)
    omega
  omega
/-- something stands in the table -/
theorem Now.some_in {room : Nat} {ds : List Row} {now : List (Option Int)} {g : Int} (N : Now room ds now) (M : Most room ds g) : ∃ m, some m ∈ now := by
  obtain ⟨rs, ws, b, rfl⟩ := M
  obtain ⟨g', e1, _⟩ := N.full _ _ ⟨rs, b.can, rfl, rfl⟩
  exact ⟨g', List.mem_of_getElem? e1⟩
end Gs
set_option maxHeartbeats 4000000
/-! The program's own defs: checks and days. -/
namespace Gs
open PySem PySem.Spec PyProof.Rows L2
def top (i : Nat) : Stmt := PySem.Challenge.pw_grainstore_k06_refused.main.body.getD i (.Pass ⟨0, 0, 0, 0⟩)

/-! ### the mirror -/
def behindA (b : Int) : List Row → List Int
  | [] => []
  | r :: rs => (b + net r) :: behindA (b + net r) rs
def behind (rs : List Row) : List Int := behindA 0 rs
def faultA (room i b : Int) : List Row → List Row → Int
  | d :: ds, r :: rs => if badAt room d r (b + net r) = true then i else faultA room (i + 1) (b + net r) ds rs
  | _, _ => -1
def fault (room : Int) (ds rs : List Row) : Int := faultA room 0 0 ds rs
theorem behindA_length (b : Int) : ∀ rs : List Row, (behindA b rs).length = rs.length
  | [] => rfl
  | r :: rs => by unfold behindA; rw [List.length_cons, List.length_cons, behindA_length _ rs]
theorem tot_cons (r : Row) (rs : List Row) : tot (r :: rs) = net r + tot rs := by unfold tot; rw [List.map_cons, List.sum_cons]
theorem tot_snoc (rs : List Row) (r : Row) : tot (rs ++ [r]) = tot rs + net r := by unfold tot; rw [List.map_append, List.sum_append]; simp
theorem behindA_snoc (r : Row) : ∀ (rs : List Row) (b : Int), behindA b (rs ++ [r]) = behindA b rs ++ [b + tot rs + net r]
  | [], b => by show [b + net r] = [] ++ [b + tot [] + net r]; simp [tot]
  | x :: rs, b => by
    show (b + net x) :: behindA (b + net x) (rs ++ [r]) = ((b + net x) :: behindA (b + net x) rs) ++ [b + tot (x :: rs) + net r]
    rw [behindA_snoc r rs, tot_cons, List.cons_append]
    congr 3
    omega
theorem behindA_get {i : Nat} {r : Row} : ∀ {rs : List Row} {b : Int}, rs[i]? = some r → (behindA b rs)[i]? = some (b + tot (rs.take i) + net r) := by
  induction i with
  | zero =>
    intro rs b h
    cases rs with
    | nil => cases h
    | cons x rs =>
      cases h
      show some (b + net r) = some (b + tot [] + net r)
      simp [tot]
  | succ i ih =>
    intro rs b h
    cases rs with
    | nil => cases h
    | cons x rs =>
      show (behindA (b + net x) rs)[i]? = _
      rw [ih (by simpa using h), List.take_succ_cons, tot_cons]
      congr 1
      omega
theorem take_snoc {α : Type} {xs : List α} {i : Nat} {x : α} (h : xs[i]? = some x) : xs.take (i + 1) = xs.take i ++ [x] := by
  rw [List.take_succ, h]; rfl
/-- one turn of a search for the first fault -/
theorem fault_step {room i b : Int} {ds rs : List Row} {k : Nat} {d r : Row} (hd : ds[k]? = some d) (hr : rs[k]? = some r) :
    faultA room i b (ds.drop k) (rs.drop k) = if badAt room d r (b + net r) = true then i else faultA room (i + 1) (b + net r) (ds.drop (k + 1)) (rs.drop (k + 1)) := by
  have h1 := (List.getElem?_eq_some_iff.mp hd)
  have h2 := (List.getElem?_eq_some_iff.mp hr)
  obtain ⟨l1, e1⟩ := h1
  obtain ⟨l2, e2⟩ := h2
  rw [List.drop_eq_getElem_cons l1, List.drop_eq_getElem_cons l2, e1, e2]
  rfl
theorem fault_end {room i b : Int} {ds rs : List Row} {k : Nat} (h : rs.length ≤ k) : faultA room i b (ds.drop k) (rs.drop k) = -1 := by
  rw [List.drop_eq_nil_of_le h]
  cases ds.drop k <;> rfl

/-! ### tuples of numbers, lists of them -/
def TupAt (H : Hp) (v : V) (r : Row) : Prop := ∃ t, v = .ref t ∧ H t = some (.tup (r.map V.int))
def RowsV (H : Hp) (vs : List V) (rows : List Row) : Prop := vs.length = rows.length ∧ ∀ (i : Nat) v r, vs[i]? = some v → rows[i]? = some r → TupAt H v r
def RowsAt (H : Hp) (a : Addr) (rows : List Row) : Prop := ∃ vs, H a = some (.lst vs) ∧ RowsV H vs rows
theorem TupAt.mono {H H' : Hp} {v : V} {r : Row} (e : Same H H') (h : TupAt H v r) : TupAt H' v r := by
  obtain ⟨t, h1, h2⟩ := h
  exact ⟨t, h1, e _ _ h2⟩
theorem RowsV.mono {H H' : Hp} {vs : List V} {rows : List Row} (e : Same H H') (h : RowsV H vs rows) : RowsV H' vs rows := ⟨h.1, fun i v r h1 h2 => (h.2 i v r h1 h2).mono e⟩
theorem RowsAt.mono {H H' : Hp} {a : Addr} {rows : List Row} (e : Same H H') (h : RowsAt H a rows) : RowsAt H' a rows := by
  obtain ⟨vs, h1, h2⟩ := h
  exact ⟨vs, e _ _ h1, h2.mono e⟩
theorem RowsV.row {H : Hp} {vs : List V} {rows : List Row} (h : RowsV H vs rows) {i : Nat} {v : V} (hv : vs[i]? = some v) : ∃ r, rows[i]? = some r ∧ TupAt H v r := by
  have hi := (List.getElem?_eq_some_iff.mp hv).1
  have hi' : i < rows.length := by rw [← h.1]; exact hi
  exact ⟨rows[i], by simp [hi'], h.2 i v _ hv (by simp [hi'])⟩
theorem RowsV.val {H : Hp} {vs : List V} {rows : List Row} (h : RowsV H vs rows) {i : Nat} {r : Row} (hr : rows[i]? = some r) : ∃ v, vs[i]? = some v ∧ TupAt H v r := by
  have hi := (List.getElem?_eq_some_iff.mp hr).1
  have hi' : i < vs.length := by rw [h.1]; exact hi
  exact ⟨vs[i], by simp [hi'], h.2 i _ r (by simp [hi']) hr⟩
theorem RowsV.nil {H : Hp} : RowsV H [] [] := ⟨rfl, fun i v r h => by simp at h⟩
theorem RowsV.snoc {H : Hp} {vs : List V} {rows : List Row} {v : V} {r : Row} (h : RowsV H vs rows) (t : TupAt H v r) : RowsV H (vs ++ [v]) (rows ++ [r]) := by
  refine ⟨by rw [List.length_append, List.length_append, h.1]; rfl, fun i u q hu hq => ?_⟩
  by_cases hi : i < vs.length
  · rw [List.getElem?_append_left hi] at hu
    rw [List.getElem?_append_left (by rw [← h.1]; exact hi)] at hq
    exact h.2 i u q hu hq
  · rw [List.getElem?_append_right (by omega)] at hu
    rw [List.getElem?_append_right (by rw [← h.1]; omega)] at hq
    rw [← h.1] at hq
    cases e : i - vs.length with
    | zero =>
      rw [e] at hu hq
      cases hu
      cases hq
      exact t
    | succ n =>
      rw [e] at hu
      simp at hu
theorem RowsV.flat {H : Hp} {vs : List V} {rows : List Row} (h : RowsV H vs rows) : ∀ x ∈ vs, flat1 x = true := by
  intro x hx
  obtain ⟨i, hi⟩ := List.getElem?_of_mem hx
  obtain ⟨r, _, t, rfl, _⟩ := h.row hi
  rfl
theorem Good.all {n : Nat} {r : Row} (h : Good n r) : (decide ((r.length : Int) = (n : Int)) && r.all fun k => decide (0 ≤ k)) = true := by
  rw [Bool.and_eq_true, decide_eq_true_iff, List.all_eq_true]
  refine ⟨by rw [h.1], fun k hk => decide_eq_true (h.2 k hk)⟩

/-! ### what the text's top has written -/
structure Txt (mg : Str → Option Value) : Prop where
  n_len : mg "len" = none
  n_isinstance : mg "isinstance" = none
  n_int : mg "int" = none
  n_bool : mg "bool" = none
  n_tuple : mg "tuple" = none
  n_list : mg "list" = none
  n_all : mg "all" = none
  n_sum : mg "sum" = none
  n_zip : mg "zip" = none
  n_enumerate : mg "enumerate" = none
  n_range : mg "range" = none
  n_min : mg "min" = none
  n_max : mg "max" = none
  g_BUY_PRICE : ∃ t, mg "BUY_PRICE" = some (.int 0 t)
  g_BUY_MOST : ∃ t, mg "BUY_MOST" = some (.int 1 t)
  g_SELL_PRICE : ∃ t, mg "SELL_PRICE" = some (.int 2 t)
  g_SELL_MOST : ∃ t, mg "SELL_MOST" = some (.int 3 t)
  g_BOUGHT : ∃ t, mg "BOUGHT" = some (.int 0 t)
  g_SOLD : ∃ t, mg "SOLD" = some (.int 1 t)
/-- a def of the text, ready to be called -/
structure Def (K : PySem.W.Frag) (mg : Str → Option Value) (x : Str) (ps : List Str) (f : Addr) (fd : FuncData) : Prop where
  m : mg x = some (.ref f)
  k : PySem.W.keepIn K (.ref f) = true
  b : Binds K fd ps []

/-! ### the promises -/
def sp_amount : Sp := fun vs H Q _ => ∃ n : Int, vs = [.int n] ∧ Q (.bl (decide (0 ≤ n))) H
def sp_tuple : Sp := fun vs H Q _ => ∃ (t : Addr) (ns : Row) (c : Int), vs = [.ref t, .int c] ∧ H t = some (.tup (ns.map V.int)) ∧ ns.length ≤ 1000 ∧ ∀ H', Same H H' → Q (.bl (decide ((ns.length : Int) = c) && ns.all fun n => decide (0 ≤ n))) H'
def sp_row (c : Int) : Sp := fun vs H Q _ => ∃ (t : Addr) (ns : Row), vs = [.ref t] ∧ H t = some (.tup (ns.map V.int)) ∧ ns.length ≤ 1000 ∧ ∀ H', Same H H' → Q (.bl (decide ((ns.length : Int) = c) && ns.all fun n => decide (0 ≤ n))) H'
def sp_check_days : Sp := fun vs H Q _ => ∃ (a : Addr) (ds : List Row), vs = [.ref a] ∧ RowsAt H a ds ∧ (∀ d ∈ ds, Good 4 d) ∧ ∀ H', Same H H' → Q .non H'
def sp_check_room : Sp := fun vs H Q _ => ∃ n : Int, vs = [.int n] ∧ 0 ≤ n ∧ Q .non H
def sp_check_dealing : Sp := fun vs H Q _ => ∃ (a b : Addr) (ds rs : List Row), vs = [.ref a, .ref b] ∧ RowsAt H a ds ∧ RowsAt H b rs ∧ rs.length = ds.length ∧ (∀ r ∈ rs, Good 2 r) ∧ ∀ H', Same H H' → Q .non H'
def sp_behind : Sp := fun vs H Q _ => ∃ (b : Addr) (rs : List Row), vs = [.ref b] ∧ RowsAt H b rs ∧ (∀ r ∈ rs, Good 2 r) ∧ rs.length ≤ 1000 ∧ ∀ p H', H p = none → Same H H' → H' p = some (.lst ((behind rs).map V.int)) → Q (.ref p) H'
def small (r : Row) : Prop := ∀ k ∈ r, k < 2 ^ 900
def sp_gained_on : Sp := fun vs H Q _ => ∃ (t u : Addr) (d r : Row), vs = [.ref t, .ref u] ∧ H t = some (.tup (d.map V.int)) ∧ H u = some (.tup (r.map V.int)) ∧ Good 4 d ∧ Good 2 r ∧ small d ∧ small r ∧ Q (.int (gainOn d r)) H
def sp_beyond : Sp := fun vs H Q _ => ∃ (t u : Addr) (d r : Row), vs = [.ref t, .ref u] ∧ H t = some (.tup (d.map V.int)) ∧ H u = some (.tup (r.map V.int)) ∧ Good 4 d ∧ Good 2 r ∧ Q (.bl (decide (r.getD 0 0 > d.getD 1 0) || decide (r.getD 1 0 > d.getD 3 0))) H
def sp_stored : Sp := fun vs H Q _ => ∃ (a b : Addr) (ds rs : List Row), vs = [.ref a, .ref b] ∧ RowsAt H a ds ∧ RowsAt H b rs ∧ rs.length = ds.length ∧ (∀ d ∈ ds, Good 4 d) ∧ (∀ r ∈ rs, Good 2 r) ∧ rs.length ≤ 1000 ∧
  ∀ p H', H p = none → Same H H' → H' p = some (.lst ((behind rs).map V.int)) → Q (.ref p) H'
def sp_gained : Sp := fun vs H Q _ => ∃ (a b : Addr) (ds rs : List Row), vs = [.ref a, .ref b] ∧ RowsAt H a ds ∧ RowsAt H b rs ∧ rs.length = ds.length ∧ (∀ d ∈ ds, Good 4 d) ∧ (∀ r ∈ rs, Good 2 r) ∧ (∀ d ∈ ds, small d) ∧ (∀ r ∈ rs, small r) ∧ rs.length ≤ 1000 ∧
  ∀ H', Same H H' → Q (.int (gain ds rs)) H'
def sp_barred : Sp := fun vs H Q _ => ∃ (a b : Addr) (room : Int) (ds rs : List Row), vs = [.ref a, .int room, .ref b] ∧ RowsAt H a ds ∧ RowsAt H b rs ∧ rs.length = ds.length ∧ (∀ d ∈ ds, Good 4 d) ∧ (∀ r ∈ rs, Good 2 r) ∧ 0 ≤ room ∧ rs.length ≤ 1000 ∧
  ∀ H', Same H H' → Q (.int (fault room ds rs)) H'

section
variable {P : Program} {w : World} {K : PySem.W.Frag} {mg : Str → Option Value} {base : Heap} {f : Addr} {fd : FuncData}
theorem small1 {n : Nat} (h : n ≤ 1000) : n ≤ sizeLine := Nat.le_of_lt (small1000 h)

abbrev s_is_amount : Stmt := top 8
theorem sc_is_amount : FnScope ["value"] ["value"] (defScope s_is_amount) := ⟨rfl, rfl, rfl, by decide +kernel, rfl, by decide +kernel, by decide +kernel⟩
theorem ok_is_amount (F : Fun K "is_amount" "is_amount" s_is_amount f fd) (T : Txt mg) : FnOk P w K mg base CX0 1 f fd ["value"] sp_amount := by
  refine F.ok sc_is_amount (fun vs H Q E h => ?_) (fun cdv A outer s H vs Q E hr h => ?_)
  · obtain ⟨n, rfl, _⟩ := h
    rfl
  · obtain ⟨n, rfl, q⟩ := h
    refine ⟨_, (pss_one (ps_ret (pe_and (pe_callB call_isi rfl T.n_isinstance boot_isinstance (pa_cons (pv 0) (pa_cons (pe_bltn (v := .ty "int") rfl T.n_int boot_int rfl) pa_nil))) (pe_and (pe_not (pe_callB call_isi rfl T.n_isinstance boot_isinstance (pa_cons (pv 0) (pa_cons (pe_bltn (v := .ty "bool") rfl T.n_bool boot_bool rfl) pa_nil)))) (pe_one (pe_cmpR op_ge (pv 0) pe_int (nomark _))))))), ?_⟩
    refine ⟨_, rfl, _, _, _, _, rfl, .int n, kit_ii, true, rfl, iteT ?_⟩
    refine ⟨_, rfl, _, _, _, _, rfl, .int n, kit_ib, false, rfl, true, rfl, iteT ?_⟩
    exact ⟨_, rfl, _, _, rfl, rfl, q⟩

abbrev s_is_tuple_of_amounts : Stmt := top 9
theorem sc_is_tuple_of_amounts : FnScope ["value", "count"] ["value", "count"] (defScope s_is_tuple_of_amounts) := ⟨rfl, rfl, rfl, by decide +kernel, rfl, by decide +kernel, by decide +kernel⟩
theorem ok_is_tuple_of_amounts {f1 : Addr} {fd1 : FuncData} (F : Fun K "is_tuple_of_amounts" "is_tuple_of_amounts" s_is_tuple_of_amounts f fd) (T : Txt mg) (D1 : Def K mg "is_amount" ["value"] f1 fd1) (G1 : FnOk P w K mg base CX0 1 f1 fd1 ["value"] sp_amount) :
    FnOk P w K mg base CX0 2 f fd ["value", "count"] sp_tuple := by
  refine F.ok sc_is_tuple_of_amounts (fun vs H Q E h => ?_) (fun cdv A outer s H vs Q E hr h => ?_)
  · obtain ⟨t, ns, c, rfl, _⟩ := h
    rfl
  · obtain ⟨t, ns, c, rfl, ht, hlen, q⟩ := h
    refine ⟨_, (pss_one (ps_ret (pe_and (pe_callB call_isi rfl T.n_isinstance boot_isinstance (pa_cons (pv 0) (pa_cons (pe_bltn (v := .ty "tuple") rfl T.n_tuple boot_tuple rfl) pa_nil))) (pe_and (pe_cmpR op_eq (pe_callB call_len_seq rfl T.n_len boot_len (pa_cons (pv 0) pa_nil)) (pv 1) (nomark _)) (pe_one (pe_callB (call_all1 rfl) rfl T.n_all boot_all (pa_cons (pe_comp (NF := ["value", "count"]) (scF := defScope s_is_tuple_of_amounts) (nOwn := 1) (NC := ["part"]) (ix := []) rfl rfl rfl ⟨rfl, by decide +kernel, by decide +kernel, by decide +kernel, by decide +kernel, rfl⟩ (pi_tup (pv 0)) (fun _ _ _ _ => (pg_name (i := 0) (show List.Nodup (["part"] : List Str) by decide +kernel) rfl (Or.inl rfl) (by exact Or.inr rfl))) (fun _ _ _ _ => pf_nil) (fun _ _ _ _ => (pe_call G1 hr rfl D1.m D1.k D1.b .nil pass0 (pa_cons (pv 0) pa_nil)))) pa_nil))))))), ?_⟩
    refine ⟨_, rfl, _, _, _, _, rfl, .tup ht, kit_tt, true, rfl, iteT ?_⟩
    refine ⟨_, rfl, t, _, rfl, .inr (SqT.of ht), _, rfl, rfl, _, rfl, ite2 (fun hc => ?_) (fun hc => ?_)⟩
    · have hc' : ((ns.length : Nat) : Int) = c := by
        have := of_decide_eq_true hc
        rw [List.length_map] at this
        injection this
      refine ⟨_, rfl, t, rfl, ⟨_, SqT.of ht⟩, comp_cnt (cnt_tup (xs := ns.map V.int)) (fun i ys H2 => Same H H2 ∧ ys = (ns.take i).map fun n => V.bl (decide (0 ≤ n))) ⟨Same.refl H, rfl⟩ ?_ ?_ ?_⟩
      · rintro i ys H2 hi ⟨s2, e⟩
        refine ⟨s2.tup (SqT.of ht), ?_⟩
        rw [e, List.length_map, List.length_take]
        exact small1 (by omega)
      · rintro i x ys H2 H3 hi ⟨s2, e⟩ ⟨rfl, hx⟩
        rw [List.length_map] at hi
        have ex : x = V.int ns[i] := by
          rw [List.getElem?_map, List.getElem?_eq_getElem hi] at hx
          exact (Option.some.inj hx).symm
        subst ex
        refine ⟨⟨rfl, rfl⟩, ?_⟩
        refine ⟨_, rfl, ns[i], rfl, s2, ?_⟩
        rw [take_snoc (List.getElem?_eq_getElem hi), List.map_append, e]
        rfl
      · rintro ys H2 ⟨s2, e⟩ p hp
        refine ⟨p, ns.map fun n => decide (0 ≤ n), rfl, SqL.of ?_, ?_⟩
        · rw [upd_same, e, List.length_map, List.take_length, List.map_map]
          rfl
        · have := q (upd H2 p (.lst ys)) (s2.trans (same_new hp _))
          rw [decide_eq_true hc', Bool.true_and] at this
          rw [List.all_map]
          exact this
    · have hc' : ¬ ((ns.length : Nat) : Int) = c := by
        intro z
        apply hc
        rw [List.length_map, z]
        exact decide_eq_true rfl
      have e : decide (V.int (((ns.map V.int).length : Nat) : Int) = V.int c) = false := Bool.eq_false_iff.mpr hc
      have := q H (Same.refl H)
      rw [decide_eq_false hc', Bool.false_and] at this
      exact this

abbrev s_is_day : Stmt := top 10
theorem sc_is_day : FnScope ["value"] ["value"] (defScope s_is_day) := ⟨rfl, rfl, rfl, by decide +kernel, rfl, by decide +kernel, by decide +kernel⟩
theorem ok_is_day {f1 : Addr} {fd1 : FuncData} (F : Fun K "is_day" "is_day" s_is_day f fd) (D1 : Def K mg "is_tuple_of_amounts" ["value", "count"] f1 fd1) (G1 : FnOk P w K mg base CX0 2 f1 fd1 ["value", "count"] sp_tuple) :
    FnOk P w K mg base CX0 3 f fd ["value"] (sp_row 4) := by
  refine F.ok sc_is_day (fun vs H Q E h => ?_) (fun cdv A outer s H vs Q E hr h => ?_)
  · obtain ⟨t, ns, rfl, _⟩ := h
    rfl
  · obtain ⟨t, ns, rfl, ht, hlen, q⟩ := h
    refine ⟨_, (pss_one (ps_ret (pe_call G1 hr rfl D1.m D1.k D1.b .nil pass0 (pa_cons (pv 0) (pa_cons pe_int pa_nil))))), ?_⟩
    exact ⟨_, rfl, t, ns, 4, rfl, ht, hlen, q⟩
abbrev s_is_deed : Stmt := top 11
theorem sc_is_deed : FnScope ["value"] ["value"] (defScope s_is_deed) := ⟨rfl, rfl, rfl, by decide +kernel, rfl, by decide +kernel, by decide +kernel⟩
theorem ok_is_deed {f1 : Addr} {fd1 : FuncData} (F : Fun K "is_deed" "is_deed" s_is_deed f fd) (D1 : Def K mg "is_tuple_of_amounts" ["value", "count"] f1 fd1) (G1 : FnOk P w K mg base CX0 2 f1 fd1 ["value", "count"] sp_tuple) :
    FnOk P w K mg base CX0 3 f fd ["value"] (sp_row 2) := by
  refine F.ok sc_is_deed (fun vs H Q E h => ?_) (fun cdv A outer s H vs Q E hr h => ?_)
  · obtain ⟨t, ns, rfl, _⟩ := h
    rfl
  · obtain ⟨t, ns, rfl, ht, hlen, q⟩ := h
    refine ⟨_, (pss_one (ps_ret (pe_call G1 hr rfl D1.m D1.k D1.b .nil pass0 (pa_cons (pv 0) (pa_cons pe_int pa_nil))))), ?_⟩
    exact ⟨_, rfl, t, ns, 2, rfl, ht, hlen, q⟩

abbrev s_check_days : Stmt := top 12
theorem sc_check_days : FnScope ["days", "at", "day"] ["days"] (defScope s_check_days) := ⟨rfl, rfl, rfl, by decide +kernel, rfl, by decide +kernel, by decide +kernel⟩
theorem ok_check_days {f1 : Addr} {fd1 : FuncData} (F : Fun K "check_days" "check_days" s_check_days f fd) (T : Txt mg) (D1 : Def K mg "is_day" ["value"] f1 fd1) (G1 : FnOk P w K mg base CX0 3 f1 fd1 ["value"] (sp_row 4)) :
    FnOk P w K mg base CX0 4 f fd ["days"] sp_check_days := by
  refine F.ok sc_check_days (fun vs H Q E h => ?_) (fun cdv A outer s H vs Q E hr h => ?_)
  · obtain ⟨a, ds, rfl, _⟩ := h
    rfl
  · obtain ⟨a, ds, rfl, ⟨vs, ha, hv⟩, hg, q⟩ := h
    refine ⟨_, (pss_cons (ps_if (pt_not (pt_val (pe_callB call_isi rfl T.n_isinstance boot_isinstance (pa_cons (pv 0) (pa_cons (pe_bltn (v := .ty "list") rfl T.n_list boot_list rfl) pa_nil)))))
      pss_never
      pss_nil)
    (pss_one (ps_for PassesOwn.never rfl (pi_enum rfl T.n_enumerate (pa_cons (pv 0) pa_nil)) (pg_tup (n := 2) rfl (pgs_cons (pg_name (i := 1) sc_check_days.nd rfl (Or.inl rfl)) (pgs_cons (pg_name (i := 2) sc_check_days.nd rfl (Or.inl rfl)) pgs_nil)))
      (pss_one (ps_if (pt_not (pt_val (pe_call G1 hr rfl D1.m D1.k D1.b .nil pass0 (pa_cons (pv 2) pa_nil))))
        pss_never
        pss_nil))))), ?_⟩
    refine ⟨_, rfl, _, _, _, _, rfl, .lst ha, kit_ll, true, rfl, iteF ?_⟩
    refine ⟨_, rfl, a, rfl, ⟨vs, SqL.of ha⟩, for_cnt (cnt_enum (xs := vs)) (fun i σ H2 => Same H H2 ∧ ∃ o1 o2, σ = [some (.ref a), o1, o2]) ⟨Same.refl H, _, _, rfl⟩ (fun i σ H2 _ p => SqL.of (p.1 _ _ ha)) ?_ (fun σ H2 p => q H2 p.1)⟩
    rintro i x σ H2 H3 hi ⟨s2, o1, o2, rfl⟩ ⟨T', y, hy, hT, rfl, rfl⟩
    have s3 : Same H2 (upd H2 T' (.tup [.int i, y])) := same_new hT _
    refine ⟨T', _, rfl, SqT.of upd_same, rfl, _, _, rfl, _, _, rfl, rfl, ?_⟩
    obtain ⟨d, hd, t, rfl, ht⟩ := hv.row hy
    have gd := hg d (List.mem_of_getElem? hd)
    refine ⟨_, rfl, t, d, rfl, s3 _ _ (s2 _ _ ht), by rw [gd.1]; decide, fun H4 s4 => ⟨_, rfl, ?_⟩⟩
    rw [show (decide ((d.length : Int) = (4 : Int)) && d.all fun k => decide (0 ≤ k)) = true from gd.all]
    exact iteF ⟨s2.trans (s3.trans s4), _, _, rfl⟩

abbrev s_check_room : Stmt := top 14
theorem sc_check_room : FnScope ["room"] ["room"] (defScope s_check_room) := ⟨rfl, rfl, rfl, by decide +kernel, rfl, by decide +kernel, by decide +kernel⟩
theorem ok_check_room {f1 : Addr} {fd1 : FuncData} (F : Fun K "check_room" "check_room" s_check_room f fd) (D1 : Def K mg "is_amount" ["value"] f1 fd1) (G1 : FnOk P w K mg base CX0 1 f1 fd1 ["value"] sp_amount) :
    FnOk P w K mg base CX0 2 f fd ["room"] sp_check_room := by
  refine F.ok sc_check_room (fun vs H Q E h => ?_) (fun cdv A outer s H vs Q E hr h => ?_)
  · obtain ⟨n, rfl, _⟩ := h
    rfl
  · obtain ⟨n, rfl, hn, q⟩ := h
    refine ⟨_, (pss_one (ps_if (pt_not (pt_val (pe_call G1 hr rfl D1.m D1.k D1.b .nil pass0 (pa_cons (pv 0) pa_nil))))
      pss_never
      pss_nil)), ?_⟩
    exact ⟨_, rfl, n, rfl, _, rfl, iteNS hn q⟩

abbrev s_check_dealing : Stmt := top 16
theorem sc_check_dealing : FnScope ["days", "dealing", "at", "deed"] ["days", "dealing"] (defScope s_check_dealing) := ⟨rfl, rfl, rfl, by decide +kernel, rfl, by decide +kernel, by decide +kernel⟩
theorem ok_check_dealing {f1 : Addr} {fd1 : FuncData} (F : Fun K "check_dealing" "check_dealing" s_check_dealing f fd) (T : Txt mg) (D1 : Def K mg "is_deed" ["value"] f1 fd1) (G1 : FnOk P w K mg base CX0 3 f1 fd1 ["value"] (sp_row 2)) :
    FnOk P w K mg base CX0 4 f fd ["days", "dealing"] sp_check_dealing := by
  refine F.ok sc_check_dealing (fun vs H Q E h => ?_) (fun cdv A outer s H vs Q E hr h => ?_)
  · obtain ⟨a, b, ds, rs, rfl, _⟩ := h
    rfl
  · obtain ⟨a, b, ds, rs, rfl, ⟨us, ha, hu⟩, ⟨vs, hb, hv⟩, hl, hg, q⟩ := h
    refine ⟨_, (pss_cons (ps_if (pt_not (pt_val (pe_callB call_isi rfl T.n_isinstance boot_isinstance (pa_cons (pv 1) (pa_cons (pe_bltn (v := .ty "list") rfl T.n_list boot_list rfl) pa_nil)))))
      pss_never
      pss_nil)
    (pss_cons (ps_if (pt_cmpR op_ne (pe_callB call_len_seq rfl T.n_len boot_len (pa_cons (pv 1) pa_nil)) (pe_callB call_len_seq rfl T.n_len boot_len (pa_cons (pv 0) pa_nil)) (nomark _))
      pss_never
      pss_nil)
    (pss_one (ps_for PassesOwn.never rfl (pi_enum rfl T.n_enumerate (pa_cons (pv 1) pa_nil)) (pg_tup (n := 2) rfl (pgs_cons (pg_name (i := 2) sc_check_dealing.nd rfl (Or.inl rfl)) (pgs_cons (pg_name (i := 3) sc_check_dealing.nd rfl (Or.inl rfl)) pgs_nil)))
      (pss_one (ps_if (pt_not (pt_val (pe_call G1 hr rfl D1.m D1.k D1.b .nil pass0 (pa_cons (pv 3) pa_nil))))
        pss_never
        pss_nil)))))), ?_⟩
    refine ⟨_, rfl, _, _, _, _, rfl, .lst hb, kit_ll, true, rfl, iteF ?_⟩
    have hvu : vs.length = us.length := by rw [hv.1, hu.1]; exact hl
    refine ⟨_, rfl, b, _, rfl, .inl (SqL.of hb), _, rfl, a, _, rfl, .inl (SqL.of ha), rfl, _, rfl, ?_⟩
    rw [hvu]
    refine iteNS rfl ?_
    refine ⟨_, rfl, b, rfl, ⟨vs, SqL.of hb⟩, for_cnt (cnt_enum (xs := vs)) (fun i σ H2 => Same H H2 ∧ ∃ o1 o2, σ = [some (.ref a), some (.ref b), o1, o2]) ⟨Same.refl H, _, _, rfl⟩ (fun i σ H2 _ p => SqL.of (p.1 _ _ hb)) ?_ (fun σ H2 p => q H2 p.1)⟩
    rintro i x σ H2 H3 hi ⟨s2, o1, o2, rfl⟩ ⟨T', y, hy, hT, rfl, rfl⟩
    have s3 : Same H2 (upd H2 T' (.tup [.int i, y])) := same_new hT _
    refine ⟨T', _, rfl, SqT.of upd_same, rfl, _, _, rfl, _, _, rfl, rfl, ?_⟩
    obtain ⟨d, hd, t, rfl, ht⟩ := hv.row hy
    have gd := hg d (List.mem_of_getElem? hd)
    refine ⟨_, rfl, t, d, rfl, s3 _ _ (s2 _ _ ht), by rw [gd.1]; decide, fun H4 s4 => ⟨_, rfl, ?_⟩⟩
    rw [show (decide ((d.length : Int) = (2 : Int)) && d.all fun k => decide (0 ≤ k)) = true from gd.all]
    exact iteF ⟨s2.trans (s3.trans s4), _, _, rfl⟩

abbrev s_stored_behind_each : Stmt := top 27
theorem sc_stored_behind_each : FnScope ["dealing", "bushels", "behind", "deed"] ["dealing"] (defScope s_stored_behind_each) := ⟨rfl, rfl, rfl, by decide +kernel, rfl, by decide +kernel, by decide +kernel⟩
theorem ok_stored_behind_each (F : Fun K "stored_behind_each" "stored_behind_each" s_stored_behind_each f fd) (T : Txt mg) : FnOk P w K mg base CX0 1 f fd ["dealing"] sp_behind := by
  obtain ⟨t1, h_BOUGHT⟩ := T.g_BOUGHT
  obtain ⟨t2, h_SOLD⟩ := T.g_SOLD
  refine F.ok sc_stored_behind_each (fun vs H Q E h => ?_) (fun cdv A outer s H vs Q E hr h => ?_)
  · obtain ⟨b, rs, rfl, _⟩ := h
    rfl
  · obtain ⟨b, rs, rfl, ⟨vs, hb, hv⟩, hg, hlen, q⟩ := h
    refine ⟨_, (pss_cons (ps_set (i := 1) sc_stored_behind_each.nd rfl (Or.inl rfl) pe_int)
    (pss_cons (ps_set (i := 2) sc_stored_behind_each.nd rfl (Or.inl rfl) (pe_lst pa_nil))
    (pss_cons (ps_for PassesOwn.never rfl (pi_list (pv 0)) (pg_name (i := 3) sc_stored_behind_each.nd rfl (Or.inl rfl))
      (pss_cons (ps_aug (i := 1) sc_stored_behind_each.nd rfl (Or.inl rfl) (pe_op op_sub (pe_ix ix_tup (pv 3) (pe_glob (v := .int 0) rfl h_BOUGHT ⟨_, rfl⟩) (fun _ _ => rfl)) (pe_ix ix_tup (pv 3) (pe_glob (v := .int 1) rfl h_SOLD ⟨_, rfl⟩) (fun _ _ => rfl))) ip_add)
      (pss_one (ps_expr (pe_bm PySem.F.plainAttrs_list PySem.F.slot_list_append PySem.F.type_list_append mt_append (pv 2) (pa_cons (pv 1) pa_nil))))))
    (pss_one (ps_ret (pv 2)))))), ?_⟩
    refine ⟨(by show 0 ≤ sizeLine; decide), fun p hp => ?_⟩
    have s1 : Same H (upd H p (.lst [])) := same_new hp _
    refine ⟨_, rfl, b, rfl, ⟨vs, SqL.of (s1 _ _ hb)⟩, for_cnt (cnt_list (xs := vs)) (fun i σ H2 => Same H H2 ∧ H2 p = some (.lst ((behind (rs.take i)).map V.int)) ∧ ∃ o, σ = [some (.ref b), some (.int (tot (rs.take i))), some (.ref p), o])
      ⟨s1, upd_same, _, rfl⟩ (fun i σ H2 _ pv => SqL.of (pv.1 _ _ hb)) ?_ ?_⟩
    · rintro i x σ H2 H3 hi ⟨s2, hp2, o, rfl⟩ ⟨rfl, hx⟩
      obtain ⟨r, hr', t, rfl, ht⟩ := hv.row hx
      obtain ⟨u, v, rfl, _, _⟩ := (hg r (List.mem_of_getElem? hr')).two
      have ht2 := s2 _ _ ht
      refine ⟨_, rfl, _, rfl, t, _, _, _, rfl, rfl, SqT.of ht2, rfl, _, rfl, t, _, _, _, rfl, rfl, SqT.of ht2, rfl, _, _, rfl, rfl, _, _, rfl, rfl, ?_⟩
      refine ⟨_, rfl, .inl ⟨rfl, _, SqL.of hp2⟩, _, rfl, p, _, _, rfl, rfl, hp2, ?_, ?_⟩
      · rw [List.length_map]
        show (behindA 0 (rs.take i)).length < sizeLine
        rw [behindA_length, List.length_take]
        exact small1000 (by omega)
      · have npb : ∀ c o, H c = some o → c ≠ p := fun c o e => ne_of_none e hp
        have e1 : tot (rs.take (i + 1)) = tot (rs.take i) + (u - v) := by
          rw [take_snoc hr', tot_snoc]
          rfl
        refine ⟨fun c o e => by rw [upd_ne (npb c o e)]; exact s2 c o e, ?_, some (.ref t), ?_⟩
        · rw [upd_same]
          unfold behind
          rw [take_snoc hr', behindA_snoc, List.map_append]
          show some (HO.lst _) = some (HO.lst _)
          congr 3
          show [V.int (tot (rs.take i) + (u - v))] = [V.int (0 + tot (rs.take i) + (u - v))]
          rw [Int.zero_add]
        · rw [e1]
          rfl
    · rintro σ H2 ⟨s2, hp2, o, rfl⟩
      refine ⟨_, rfl, q p H2 hp s2 ?_⟩
      rw [hv.1, List.take_length] at hp2
      exact hp2

abbrev s_gained_on : Stmt := top 28
theorem sc_gained_on : FnScope ["day", "deed"] ["day", "deed"] (defScope s_gained_on) := ⟨rfl, rfl, rfl, by decide +kernel, rfl, by decide +kernel, by decide +kernel⟩
theorem big_of {a : Int} (h0 : 0 ≤ a) (h : a < 2 ^ 900) : a.natAbs < 2 ^ 1000 := by
  have e : (2 : Nat) ^ 900 ≤ 2 ^ 1000 := Nat.pow_le_pow_right (by decide) (by decide)
  have e2 : ((2 ^ 900 : Nat) : Int) = (2 : Int) ^ 900 := by simp
  have : a < ((2 ^ 900 : Nat) : Int) := by rw [e2]; exact h
  omega
theorem ok_gained_on (F : Fun K "gained_on" "gained_on" s_gained_on f fd) (T : Txt mg) : FnOk P w K mg base CX0 1 f fd ["day", "deed"] sp_gained_on := by
  obtain ⟨t1, h_BOUGHT⟩ := T.g_BOUGHT
  obtain ⟨t2, h_SOLD⟩ := T.g_SOLD
  obtain ⟨t3, h_BUY_PRICE⟩ := T.g_BUY_PRICE
  obtain ⟨t4, h_SELL_PRICE⟩ := T.g_SELL_PRICE
  refine F.ok sc_gained_on (fun vs H Q E h => ?_) (fun cdv A outer s H vs Q E hr h => ?_)
  · obtain ⟨t, u, d, r, rfl, _⟩ := h
    rfl
  · obtain ⟨t, u, d, r, rfl, ht, hu, gd, gr, sd, sr, q⟩ := h
    obtain ⟨d0, d1, d2, d3, rfl, p0, p1, p2, p3⟩ := gd.four
    obtain ⟨r0, r1, rfl, q0, q1⟩ := gr.two
    refine ⟨_, (pss_one (ps_ret (pe_op op_sub (pe_op op_mulB (pe_ix ix_tup (pv 0) (pe_glob (v := .int 2) rfl h_SELL_PRICE ⟨_, rfl⟩) (fun _ _ => rfl)) (pe_ix ix_tup (pv 1) (pe_glob (v := .int 1) rfl h_SOLD ⟨_, rfl⟩) (fun _ _ => rfl))) (pe_op op_mulB (pe_ix ix_tup (pv 0) (pe_glob (v := .int 0) rfl h_BUY_PRICE ⟨_, rfl⟩) (fun _ _ => rfl)) (pe_ix ix_tup (pv 1) (pe_glob (v := .int 0) rfl h_BOUGHT ⟨_, rfl⟩) (fun _ _ => rfl)))))), ?_⟩
    refine ⟨_, rfl, t, _, _, _, rfl, rfl, SqT.of ht, rfl, _, rfl, u, _, _, _, rfl, rfl, SqT.of hu, rfl, _, _, rfl, rfl, ⟨big_of p2 (sd d2 (by simp)), big_of q1 (sr r1 (by simp))⟩, ?_⟩
    refine ⟨_, rfl, t, _, _, _, rfl, rfl, SqT.of ht, rfl, _, rfl, u, _, _, _, rfl, rfl, SqT.of hu, rfl, _, _, rfl, rfl, ⟨big_of p0 (sd d0 (by simp)), big_of q0 (sr r0 (by simp))⟩, ?_⟩
    exact ⟨_, _, rfl, rfl, q⟩

abbrev s_goes_beyond_most : Stmt := top 29
theorem sc_goes_beyond_most : FnScope ["day", "deed"] ["day", "deed"] (defScope s_goes_beyond_most) := ⟨rfl, rfl, rfl, by decide +kernel, rfl, by decide +kernel, by decide +kernel⟩
theorem ok_goes_beyond_most (F : Fun K "goes_beyond_most" "goes_beyond_most" s_goes_beyond_most f fd) (T : Txt mg) : FnOk P w K mg base CX0 1 f fd ["day", "deed"] sp_beyond := by
  obtain ⟨t1, h_BOUGHT⟩ := T.g_BOUGHT
  obtain ⟨t2, h_SOLD⟩ := T.g_SOLD
  obtain ⟨t3, h_BUY_MOST⟩ := T.g_BUY_MOST
  obtain ⟨t4, h_SELL_MOST⟩ := T.g_SELL_MOST
  refine F.ok sc_goes_beyond_most (fun vs H Q E h => ?_) (fun cdv A outer s H vs Q E hr h => ?_)
  · obtain ⟨t, u, d, r, rfl, _⟩ := h
    rfl
  · obtain ⟨t, u, d, r, rfl, ht, hu, gd, gr, q⟩ := h
    obtain ⟨d0, d1, d2, d3, rfl, p0, p1, p2, p3⟩ := gd.four
    obtain ⟨r0, r1, rfl, q0, q1⟩ := gr.two
    refine ⟨_, (pss_one (ps_ret (pe_or (pe_cmpR op_gt (pe_ix ix_tup (pv 1) (pe_glob (v := .int 0) rfl h_BOUGHT ⟨_, rfl⟩) (fun _ _ => rfl)) (pe_ix ix_tup (pv 0) (pe_glob (v := .int 1) rfl h_BUY_MOST ⟨_, rfl⟩) (fun _ _ => rfl)) (nomark _)) (pe_one (pe_cmpR op_gt (pe_ix ix_tup (pv 1) (pe_glob (v := .int 1) rfl h_SOLD ⟨_, rfl⟩) (fun _ _ => rfl)) (pe_ix ix_tup (pv 0) (pe_glob (v := .int 3) rfl h_SELL_MOST ⟨_, rfl⟩) (fun _ _ => rfl)) (nomark _)))))), ?_⟩
    refine ⟨_, rfl, u, _, _, _, rfl, rfl, SqT.of hu, rfl, _, rfl, t, _, _, _, rfl, rfl, SqT.of ht, rfl, _, _, rfl, rfl, _, rfl, ?_⟩
    have q' : Q (.bl (decide (r0 > d1) || decide (r1 > d3))) H := q
    refine ite2 (fun hc => ?_) (fun hc => ?_)
    · rw [show decide (r0 > d1) = true from hc, Bool.true_or] at q'
      exact q'
    · rw [show decide (r0 > d1) = false from Bool.eq_false_iff.mpr hc, Bool.false_or] at q'
      exact ⟨_, rfl, u, _, _, _, rfl, rfl, SqT.of hu, rfl, _, rfl, t, _, _, _, rfl, rfl, SqT.of ht, rfl, _, _, rfl, rfl, q'⟩

abbrev s_stored : Stmt := top 24
theorem sc_stored : FnScope ["days", "dealing"] ["days", "dealing"] (defScope s_stored) := ⟨rfl, rfl, rfl, by decide +kernel, rfl, by decide +kernel, by decide +kernel⟩
theorem ok_stored {f1 f2 f3 : Addr} {fd1 fd2 fd3 : FuncData} (F : Fun K "stored" "stored" s_stored f fd) (D1 : Def K mg "check_days" ["days"] f1 fd1) (G1 : FnOk P w K mg base CX0 4 f1 fd1 ["days"] sp_check_days)
    (D2 : Def K mg "check_dealing" ["days", "dealing"] f2 fd2) (G2 : FnOk P w K mg base CX0 4 f2 fd2 ["days", "dealing"] sp_check_dealing) (D3 : Def K mg "stored_behind_each" ["dealing"] f3 fd3) (G3 : FnOk P w K mg base CX0 1 f3 fd3 ["dealing"] sp_behind) :
    FnOk P w K mg base CX0 5 f fd ["days", "dealing"] sp_stored := by
  have G3' := G3.mono (show 1 ≤ 4 by decide)
  refine F.ok sc_stored (fun vs H Q E h => ?_) (fun cdv A outer s H vs Q E hr h => ?_)
  · obtain ⟨a, b, ds, rs, rfl, _⟩ := h
    rfl
  · obtain ⟨a, b, ds, rs, rfl, ha, hb, hl, gd, gr, hlen, q⟩ := h
    refine ⟨_, (pss_cons (ps_expr (pe_call G1 hr rfl D1.m D1.k D1.b .nil pass0 (pa_cons (pv 0) pa_nil)))
    (pss_cons (ps_expr (pe_call G2 hr rfl D2.m D2.k D2.b .nil pass0 (pa_cons (pv 0) (pa_cons (pv 1) pa_nil))))
    (pss_one (ps_ret (pe_call G3' hr rfl D3.m D3.k D3.b .nil pass0 (pa_cons (pv 1) pa_nil)))))), ?_⟩
    refine ⟨_, rfl, a, ds, rfl, ha, gd, fun H1 s1 => ?_⟩
    refine ⟨_, rfl, _, rfl, a, b, ds, rs, rfl, ha.mono s1, hb.mono s1, hl, gr, fun H2 s2 => ?_⟩
    refine ⟨_, rfl, b, rs, rfl, hb.mono (s1.trans s2), gr, hlen, fun p H3 hp s3 e => ?_⟩
    exact q p H3 ((s1.trans s2).free hp) (s1.trans (s2.trans s3)) e

abbrev s_gained : Stmt := top 25
theorem sc_gained : FnScope ["days", "dealing"] ["days", "dealing"] (defScope s_gained) := ⟨rfl, rfl, rfl, by decide +kernel, rfl, by decide +kernel, by decide +kernel⟩
theorem ok_gained {f1 f2 f3 : Addr} {fd1 fd2 fd3 : FuncData} (F : Fun K "gained" "gained" s_gained f fd) (T : Txt mg) (D1 : Def K mg "check_days" ["days"] f1 fd1) (G1 : FnOk P w K mg base CX0 4 f1 fd1 ["days"] sp_check_days)
    (D2 : Def K mg "check_dealing" ["days", "dealing"] f2 fd2) (G2 : FnOk P w K mg base CX0 4 f2 fd2 ["days", "dealing"] sp_check_dealing) (D3 : Def K mg "gained_on" ["day", "deed"] f3 fd3) (G3 : FnOk P w K mg base CX0 1 f3 fd3 ["day", "deed"] sp_gained_on) :
    FnOk P w K mg base CX0 5 f fd ["days", "dealing"] sp_gained := by
  have G3' := G3.mono (show 1 ≤ 4 by decide)
  refine F.ok sc_gained (fun vs H Q E h => ?_) (fun cdv A outer s H vs Q E hr h => ?_)
  · obtain ⟨a, b, ds, rs, rfl, _⟩ := h
    rfl
  · obtain ⟨a, b, ds, rs, rfl, ha, hb, hl, gd, gr, sd, sr, hlen, q⟩ := h
    refine' ⟨_, (pss_cons (ps_expr (pe_call G1 hr rfl D1.m D1.k D1.b .nil pass0 (pa_cons (pv 0) pa_nil)))
    (pss_cons (ps_expr (pe_call G2 hr rfl D2.m D2.k D2.b .nil pass0 (pa_cons (pv 0) (pa_cons (pv 1) pa_nil))))
    (pss_one (ps_ret (pe_callB (call_sum1 rfl) rfl T.n_sum boot_sum (pa_cons ?c1 pa_nil)))))), ?_⟩
    case c1 => exact pe_comp (NF := ["days", "dealing"]) (scF := defScope s_gained) (nOwn := 2) (NC := ["day", "deed"]) (ix := []) rfl rfl rfl ⟨rfl, by decide +kernel, by decide +kernel, by decide +kernel, by decide +kernel, rfl⟩ (pi_zip rfl T.n_zip (pa_cons (pv 0) (pa_cons (pv 1) pa_nil))) (fun _ _ _ _ => (pg_tupK (K := K) (n := 2) rfl rfl (pgs_cons (pg_name (i := 0) (show List.Nodup (["day", "deed"] : List Str) by decide +kernel) rfl (Or.inl rfl) (Or.inr rfl)) (pgs_cons (pg_name (i := 1) (show List.Nodup (["day", "deed"] : List Str) by decide +kernel) rfl (Or.inl rfl) (Or.inr rfl)) pgs_nil)))) (fun _ _ _ _ => pf_nil) (fun _ _ _ _ => (pe_call G3' hr rfl D3.m D3.k D3.b .nil pass0 (pa_cons (pv 0) (pa_cons (pv 1) pa_nil))))
    refine ⟨_, rfl, a, ds, rfl, ha, gd, fun H1 s1 => ?_⟩
    refine ⟨_, rfl, _, rfl, a, b, ds, rs, rfl, ha.mono s1, hb.mono s1, hl, gr, fun H2 s2 => ?_⟩
    obtain ⟨us, ha2, hu⟩ := ha.mono (s1.trans s2)
    obtain ⟨vs, hb2, hv⟩ := hb.mono (s1.trans s2)
    have huv : us.length = vs.length := by rw [hu.1, hv.1, hl]
    have hz : (List.zipWith gainOn ds rs).length = us.length := by rw [List.length_zipWith, hl, Nat.min_self, ← hu.1]
    refine ⟨_, rfl, _, rfl, a, b, rfl, ⟨us, SqL.of ha2⟩, ⟨vs, SqL.of hb2⟩, comp_cnt (cnt_zip (xs := us) (ys := vs) huv) (fun i ys H3 => Same H2 H3 ∧ ys = ((List.zipWith gainOn ds rs).take i).map V.int) ⟨Same.refl H2, rfl⟩ ?_ ?_ ?_⟩
    · rintro i ys H3 hi ⟨s3, e⟩
      refine ⟨⟨SqL.of (s3 _ _ ha2), SqL.of (s3 _ _ hb2)⟩, ?_⟩
      rw [e, List.length_map, List.length_take, hz, hu.1, ← hl]
      exact small1 (by omega)
    · rintro i x ys H3 H4 hi ⟨s3, e⟩ ⟨T', y, z, hy, hzz, hT, rfl, rfl⟩
      have s4 : Same H3 (upd H3 T' (.tup [y, z])) := same_new hT _
      refine ⟨T', _, rfl, SqT.of upd_same, rfl, _, _, rfl, _, _, rfl, rfl, ⟨rfl, rfl⟩, ?_⟩
      obtain ⟨d, hd, t, rfl, ht⟩ := hu.row hy
      obtain ⟨r, hr', u, rfl, hu'⟩ := hv.row hzz
      have md := List.mem_of_getElem? hd
      have mr := List.mem_of_getElem? hr'
      refine ⟨_, rfl, _, rfl, t, u, d, r, rfl, s4 _ _ (s3 _ _ ht), s4 _ _ (s3 _ _ hu'), gd d md, gr r mr, sd d md, sr r mr, s3.trans s4, ?_⟩
      have hzi : (List.zipWith gainOn ds rs)[i]? = some (gainOn d r) := by
        rw [List.getElem?_zipWith, hd, hr']
      rw [take_snoc hzi, List.map_append, e]
      rfl
    · rintro ys H3 ⟨s3, e⟩ p hp
      refine ⟨p, List.zipWith gainOn ds rs, rfl, SqL.of ?_, ?_⟩
      · rw [upd_same, e, ← hz, List.take_length]
      · exact q _ (s1.trans (s2.trans (s3.trans (same_new hp _))))

abbrev s_barred : Stmt := top 26
theorem sc_barred : FnScope ["days", "room", "dealing", "at", "bushels"] ["days", "room", "dealing"] (defScope s_barred) := ⟨rfl, rfl, rfl, by decide +kernel, rfl, by decide +kernel, by decide +kernel⟩
theorem ok_barred {f1 f2 f3 f4 f5 : Addr} {fd1 fd2 fd3 fd4 fd5 : FuncData} (F : Fun K "barred" "barred" s_barred f fd) (T : Txt mg) (D1 : Def K mg "check_days" ["days"] f1 fd1) (G1 : FnOk P w K mg base CX0 4 f1 fd1 ["days"] sp_check_days)
    (D2 : Def K mg "check_dealing" ["days", "dealing"] f2 fd2) (G2 : FnOk P w K mg base CX0 4 f2 fd2 ["days", "dealing"] sp_check_dealing) (D3 : Def K mg "stored_behind_each" ["dealing"] f3 fd3) (G3 : FnOk P w K mg base CX0 1 f3 fd3 ["dealing"] sp_behind)
    (D4 : Def K mg "check_room" ["room"] f4 fd4) (G4 : FnOk P w K mg base CX0 2 f4 fd4 ["room"] sp_check_room) (D5 : Def K mg "goes_beyond_most" ["day", "deed"] f5 fd5) (G5 : FnOk P w K mg base CX0 1 f5 fd5 ["day", "deed"] sp_beyond) :
    FnOk P w K mg base CX0 5 f fd ["days", "room", "dealing"] sp_barred := by
  have G3' := G3.mono (show 1 ≤ 4 by decide)
  have G4' := G4.mono (show 2 ≤ 4 by decide)
  have G5' := G5.mono (show 1 ≤ 4 by decide)
  refine F.ok sc_barred (fun vs H Q E h => ?_) (fun cdv A outer s H vs Q E hr h => ?_)
  · obtain ⟨a, b, room, ds, rs, rfl, _⟩ := h
    rfl
  · obtain ⟨a, b, room, ds, rs, rfl, ha, hb, hl, gd, gr, hroom, hlen, q⟩ := h
    refine ⟨_, (pss_cons (ps_expr (pe_call G1 hr rfl D1.m D1.k D1.b .nil pass0 (pa_cons (pv 0) pa_nil)))
    (pss_cons (ps_expr (pe_call G4' hr rfl D4.m D4.k D4.b .nil pass0 (pa_cons (pv 1) pa_nil)))
    (pss_cons (ps_expr (pe_call G2 hr rfl D2.m D2.k D2.b .nil pass0 (pa_cons (pv 0) (pa_cons (pv 2) pa_nil))))
    (pss_cons (ps_for PassesOwn.never rfl (pi_enum rfl T.n_enumerate (pa_cons (pe_call G3' hr rfl D3.m D3.k D3.b .nil pass0 (pa_cons (pv 2) pa_nil)) pa_nil)) (pg_tup (n := 2) rfl (pgs_cons (pg_name (i := 3) sc_barred.nd rfl (Or.inl rfl)) (pgs_cons (pg_name (i := 4) sc_barred.nd rfl (Or.inl rfl)) pgs_nil)))
      (pss_one (ps_if (PW.pt (pw_or (pt_val (pe_call G5' hr rfl D5.m D5.k D5.b .nil pass0 (pa_cons (pe_ix ix_list (pv 0) (pv 3) (fun _ _ => rfl)) (pa_cons (pe_ix ix_list (pv 2) (pv 3) (fun _ _ => rfl)) pa_nil)))) (pw_or (pt_cmpR op_lt (pv 4) pe_int (nomark _)) (pw_or1 (pt_cmpR op_gt (pv 4) (pv 1) (nomark _))))))
        (pss_one (ps_ret (pv 3)))
        pss_nil)))
    (pss_one (ps_ret (pe_un un_neg pe_int))))))), ?_⟩
    refine ⟨_, rfl, a, ds, rfl, ha, gd, fun H1 s1 => ?_⟩
    refine ⟨_, rfl, room, rfl, hroom, ?_⟩
    refine ⟨_, rfl, _, rfl, a, b, ds, rs, rfl, ha.mono s1, hb.mono s1, hl, gr, fun H2 s2 => ?_⟩
    have s12 := s1.trans s2
    refine ⟨_, rfl, b, rs, rfl, hb.mono s12, gr, hlen, fun p H3 hp s3 hp3 => ?_⟩
    have s13 := s12.trans s3
    obtain ⟨us, ha3, hu⟩ := ha.mono s13
    obtain ⟨vs, hb3, hv⟩ := hb.mono s13
    have hbl : ((behind rs).map V.int).length = rs.length := by rw [List.length_map]; exact behindA_length 0 rs
    refine ⟨p, rfl, ⟨_, SqL.of hp3⟩, for_cnt (cnt_enum (xs := (behind rs).map V.int)) (fun i σ H4 => Same H3 H4 ∧ fault room ds rs = faultA room (i : Int) (tot (rs.take i)) (ds.drop i) (rs.drop i) ∧ ∃ o1 o2, σ = [some (.ref a), some (.int room), some (.ref b), o1, o2])
      ⟨Same.refl H3, rfl, _, _, rfl⟩ (fun i σ H4 _ pv => SqL.of (pv.1 _ _ hp3)) ?_ ?_⟩
    · rintro i x σ H4 H5 hi ⟨s4, hf, o1, o2, rfl⟩ ⟨T', y, hy, hT, rfl, rfl⟩
      rw [hbl] at hi
      have s5 : Same H4 (upd H4 T' (.tup [.int i, y])) := same_new hT _
      have s35 := s4.trans s5
      have hr' : rs[i]? = some rs[i] := List.getElem?_eq_getElem hi
      have hi2 : i < ds.length := by omega
      have hd' : ds[i]? = some ds[i] := List.getElem?_eq_getElem hi2
      generalize rs[i] = r at hr'
      generalize ds[i] = d at hd'
      have ey : y = V.int (tot (rs.take i) + net r) := by
        rw [List.getElem?_map] at hy
        unfold behind at hy
        rw [behindA_get hr'] at hy
        have := (Option.some.inj hy).symm
        rw [Int.zero_add] at this
        exact this
      subst ey
      rw [fault_step hd' hr'] at hf
      have gdd := gd d (List.mem_of_getElem? hd')
      have grr := gr r (List.mem_of_getElem? hr')
      obtain ⟨v1, hv1, t1, rfl, ht1⟩ := hu.val hd'
      obtain ⟨v2, hv2, t2, rfl, ht2⟩ := hv.val hr'
      refine ⟨T', _, rfl, SqT.of upd_same, rfl, _, _, rfl, _, _, rfl, rfl, ?_⟩
      refine ⟨_, rfl, _, rfl, a, us, _, _, rfl, rfl, SqL.of (s35 _ _ ha3), atI_nat hv1, _, rfl, _, rfl, b, vs, _, _, rfl, rfl, SqL.of (s35 _ _ hb3), atI_nat hv2, t1, t2, d, r, rfl, s35 _ _ ht1, s35 _ _ ht2, gdd, grr, _, rfl, ?_⟩
      have fin1 : badAt room d r (tot (rs.take i) + net r) = true → Q (.int (i : Int)) (upd H4 T' (.tup [.int i, .int (tot (rs.take i) + net r)])) := fun hbad => by
        rw [if_pos hbad] at hf
        have := q _ (s13.trans s35)
        rw [hf] at this
        exact this
      unfold badAt at fin1 hf
      refine ite2 (fun h1 => iteT ?_) (fun h1 => ?_)
      · exact ⟨_, rfl, fin1 (by rw [h1]; rfl)⟩
      have h1' := Bool.eq_false_iff.mpr h1
      refine ⟨_, rfl, _, _, rfl, rfl, _, rfl, ?_⟩
      refine ite2 (fun h2 => iteT ?_) (fun h2 => ?_)
      · exact ⟨_, rfl, fin1 (by rw [h1', h2]; rfl)⟩
      have h2' := Bool.eq_false_iff.mpr h2
      refine ⟨_, rfl, _, rfl, _, _, rfl, rfl, _, rfl, ?_⟩
      refine ite2 (fun h3 => ?_) (fun h3 => ?_)
      · exact ⟨_, rfl, fin1 (by rw [h1', h2']; exact h3)⟩
      have h3' := Bool.eq_false_iff.mpr h3
      refine ⟨s35, ?_, _, _, rfl⟩
      rw [h1', h2', show decide (tot (rs.take i) + net r > room) = false from h3'] at hf
      rw [hf, take_snoc hr', tot_snoc]
      rfl
    · rintro σ H4 ⟨s4, hf, o1, o2, rfl⟩
      rw [hbl, fault_end (Nat.le_refl _)] at hf
      refine ⟨_, rfl, ?_⟩
      have := q H4 (s13.trans s4)
      rw [hf] at this
      exact this
end
end Gs
set_option maxHeartbeats 4000000
/-! The checks over values of every kind, with their refusals. -/
namespace Gs
open PySem PySem.Spec PyProof.Rows L2

/-! ### values of the kinds that are handed in -/
def Plain (H : Hp) : V → Prop
  | .non => True
  | .bl _ => True
  | .int _ => True
  | .str _ => True
  | .ref a => (∃ xs, H a = some (.lst xs)) ∨ (∃ xs, H a = some (.tup xs)) ∨ (∃ kvs, H a = some (.dK kvs))
  | _ => False
theorem Plain.mono {H H' : Hp} {v : V} (s : Same H H') (h : Plain H v) : Plain H' v := by
  cases v with
  | ref a =>
    rcases h with ⟨xs, e⟩ | ⟨xs, e⟩ | ⟨kvs, e⟩
    · exact .inl ⟨xs, s _ _ e⟩
    · exact .inr (.inl ⟨xs, s _ _ e⟩)
    · exact .inr (.inr ⟨kvs, s _ _ e⟩)
  | _ => exact h
def isInt : V → Bool
  | .int _ => true
  | .bl _ => true
  | _ => false
def isBool : V → Bool
  | .bl _ => true
  | _ => false
def isTup (H : Hp) : V → Bool
  | .ref a => (match H a with | some (.tup _) => true | _ => false)
  | _ => false
def isLst (H : Hp) : V → Bool
  | .ref a => (match H a with | some (.lst _) => true | _ => false)
  | _ => false
section
variable {K : PySem.W.Frag} {H : Hp} {v : V}
theorem plain_ty (h : Plain H v) : ∃ t, TyOf K H v t ∧ PySem.W.kitOne K t (.type "int") = some (isInt v) ∧ PySem.W.kitOne K t (.type "bool") = some (isBool v) ∧ PySem.W.kitOne K t (.type "tuple") = some (isTup H v) ∧
    PySem.W.kitOne K t (.type "list") = some (isLst H v) := by
  cases v with
  | non => exact ⟨_, .non, by rfl, by rfl, by rfl, by rfl⟩
  | bl b => exact ⟨_, .bl b, by rfl, by rfl, by rfl, by rfl⟩
  | int n => exact ⟨_, .int n, by rfl, by rfl, by rfl, by rfl⟩
  | str x => exact ⟨_, .str x, by rfl, by rfl, by rfl, by rfl⟩
  | ref a =>
    rcases h with ⟨xs, e⟩ | ⟨xs, e⟩ | ⟨kvs, e⟩ <;> simp only [isTup, isLst, e]
    · exact ⟨_, .lst e, by rfl, by rfl, by rfl, by rfl⟩
    · exact ⟨_, .tup e, by rfl, by rfl, by rfl, by rfl⟩
    · exact ⟨_, .dK e, by rfl, by rfl, by rfl, by rfl⟩
  | byt b => exact h.elim
  | flt b => exact h.elim
  | ty n => exact h.elim
end
/-- a whole number, 0 or more -/
def amt : V → Bool
  | .int n => decide (0 ≤ n)
  | _ => false
/-- a tuple of c of these -/
def rowB (c : Nat) (H : Hp) : V → Bool
  | .ref a => (match H a with | some (.tup xs) => decide (xs.length = c) && xs.all amt | _ => false)
  | _ => false
structure Row1 (H : Hp) (v : V) : Prop where
  pl : Plain H v
  el : ∀ a xs, v = .ref a → H a = some (.tup xs) → xs.length ≤ 1000 ∧ ∀ x ∈ xs, Plain H x
theorem Plain.un {H H' : Hp} {a : Addr} {o : HO} (s : Same H H') (h : Plain H (.ref a)) (e : H' a = some o) : H a = some o := by
  rcases h with ⟨xs, z⟩ | ⟨xs, z⟩ | ⟨kvs, z⟩ <;> (have y := s _ _ z; rw [e] at y; rw [z, y])
theorem Row1.mono {H H' : Hp} {v : V} (s : Same H H') (h : Row1 H v) : Row1 H' v := by
  refine ⟨h.pl.mono s, fun a xs e q => ?_⟩
  subst e
  obtain ⟨h1, h2⟩ := h.el a xs rfl (h.pl.un s q)
  exact ⟨h1, fun x hx => (h2 x hx).mono s⟩
theorem rowB_mono {H H' : Hp} {v : V} {c : Nat} (s : Same H H') (h : Plain H v) : rowB c H' v = rowB c H v := by
  cases v with
  | ref a =>
    rcases h with ⟨xs, z⟩ | ⟨xs, z⟩ | ⟨kvs, z⟩ <;> simp only [rowB, z, s _ _ z]
  | _ => rfl
theorem rowB_at {H : Hp} {a : Addr} {xs : List V} {c : Nat} (h : H a = some (.tup xs)) : rowB c H (.ref a) = (decide (xs.length = c) && xs.all amt) := by simp only [rowB, h]
theorem isTup_at {H : Hp} {v : V} (h : isTup H v = true) : ∃ a xs, v = .ref a ∧ H a = some (.tup xs) := by
  cases v with
  | ref a =>
    simp only [isTup] at h
    split at h
    · rename_i xs e
      exact ⟨a, xs, rfl, e⟩
    · cases h
  | _ => cases h
theorem isTup_no {H : Hp} {v : V} {c : Nat} (h : isTup H v = false) : rowB c H v = false := by
  cases v with
  | ref a =>
    simp only [isTup] at h
    simp only [rowB]
    split
    · rename_i xs e
      rw [e] at h
      cases h
    · rfl
  | _ => rfl
/-- a list of rows -/
def rowsB (c : Nat) (H : Hp) : V → Bool
  | .ref a => (match H a with | some (.lst xs) => xs.all (rowB c H) | _ => false)
  | _ => false
def lenIs (n : Nat) (H : Hp) : V → Bool
  | .ref a => (match H a with | some (.lst xs) => decide (xs.length = n) | _ => false)
  | _ => false
structure Rows1 (H : Hp) (v : V) : Prop where
  pl : Plain H v
  el : ∀ a xs, v = .ref a → H a = some (.lst xs) → xs.length ≤ 1000 ∧ ∀ x ∈ xs, Row1 H x
theorem Rows1.mono {H H' : Hp} {v : V} (s : Same H H') (h : Rows1 H v) : Rows1 H' v := by
  refine ⟨h.pl.mono s, fun a xs e q => ?_⟩
  subst e
  obtain ⟨h1, h2⟩ := h.el a xs rfl (h.pl.un s q)
  exact ⟨h1, fun x hx => (h2 x hx).mono s⟩
theorem all_congr {α : Type} {p q : α → Bool} : ∀ {xs : List α}, (∀ x ∈ xs, p x = q x) → xs.all p = xs.all q
  | [], _ => rfl
  | x :: xs, h => by rw [List.all_cons, List.all_cons, h x (by simp), all_congr fun y hy => h y (by simp [hy])]
theorem rowsB_mono {H H' : Hp} {v : V} {c : Nat} (s : Same H H') (h : Rows1 H v) : rowsB c H' v = rowsB c H v := by
  cases v with
  | ref a =>
    rcases h.pl with ⟨xs, z⟩ | ⟨xs, z⟩ | ⟨kvs, z⟩ <;> simp only [rowsB, z, s _ _ z]
    exact all_congr fun x hx => rowB_mono s ((h.el a xs rfl z).2 x hx).pl
  | _ => rfl
theorem lenIs_mono {H H' : Hp} {v : V} {n : Nat} (s : Same H H') (h : Plain H v) : lenIs n H' v = lenIs n H v := by
  cases v with
  | ref a =>
    rcases h with ⟨xs, z⟩ | ⟨xs, z⟩ | ⟨kvs, z⟩ <;> simp only [lenIs, z, s _ _ z]
  | _ => rfl
theorem rowsB_at {H : Hp} {a : Addr} {xs : List V} {c : Nat} (h : H a = some (.lst xs)) : rowsB c H (.ref a) = xs.all (rowB c H) := by simp only [rowsB, h]
theorem lenIs_at {H : Hp} {a : Addr} {xs : List V} {n : Nat} (h : H a = some (.lst xs)) : lenIs n H (.ref a) = decide (xs.length = n) := by simp only [lenIs, h]
theorem isLst_at {H : Hp} {v : V} (h : isLst H v = true) : ∃ a xs, v = .ref a ∧ H a = some (.lst xs) := by
  cases v with
  | ref a =>
    simp only [isLst] at h
    split at h
    · rename_i xs e
      exact ⟨a, xs, rfl, e⟩
    · cases h
  | _ => cases h
theorem isLst_no {H : Hp} {v : V} {c : Nat} (h : isLst H v = false) : rowsB c H v = false := by
  cases v with
  | ref a =>
    simp only [isLst] at h
    simp only [rowsB]
    split
    · rename_i xs e
      rw [e] at h
      cases h
    · rfl
  | _ => rfl

/-! ### the promises -/
def sx_amount : Sp := fun vs H Q _ => ∃ v, vs = [v] ∧ Plain H v ∧ Q (.bl (amt v)) H
def sx_tuple : Sp := fun vs H Q _ => ∃ v, ∃ c : Nat, vs = [v, .int c] ∧ Row1 H v ∧ ∀ H', Same H H' → Q (.bl (rowB c H v)) H'
def sx_row (c : Nat) : Sp := fun vs H Q _ => ∃ v, vs = [v] ∧ Row1 H v ∧ ∀ H', Same H H' → Q (.bl (rowB c H v)) H'
def sx_days (C : Addr) : Sp := fun vs H Q E => ∃ v, vs = [v] ∧ Rows1 H v ∧ (rowsB 4 H v = true → ∀ H', Same H H' → Q .non H') ∧ (rowsB 4 H v = false → ∀ H', Same H H' → E (.ref C) none H')
def sx_room (C : Addr) : Sp := fun vs H Q E => ∃ v, vs = [v] ∧ Plain H v ∧ (amt v = true → Q .non H) ∧ (amt v = false → E (.ref C) none H)
def sx_dealing (C : Addr) : Sp := fun vs H Q E => ∃ a us v, vs = [.ref a, v] ∧ H a = some (.lst us) ∧ Rows1 H v ∧ ((lenIs us.length H v && rowsB 2 H v) = true → ∀ H', Same H H' → Q .non H') ∧
  ((lenIs us.length H v && rowsB 2 H v) = false → ∀ H', Same H H' → E (.ref C) none H')

section
variable {P : Program} {w : World} {K : PySem.W.Frag} {mg : Str → Option Value} {base : Heap} {f : Addr} {fd : FuncData}
theorem okx_is_amount (F : Fun K "is_amount" "is_amount" s_is_amount f fd) (T : Txt mg) : FnOk P w K mg base CX0 1 f fd ["value"] sx_amount := by
  refine F.ok sc_is_amount (fun vs H Q E h => ?_) (fun cdv A outer s H vs Q E hr h => ?_)
  · obtain ⟨v, rfl, _⟩ := h
    rfl
  · obtain ⟨v, rfl, pl, q⟩ := h
    obtain ⟨t, ty, k1, k2, _, _⟩ := plain_ty (K := K) pl
    refine ⟨_, (pss_one (ps_ret (pe_and (pe_callBC call_isi rfl T.n_isinstance boot_isinstance (pa_c (pv 0) (pa_c (pe_bltn (v := .ty "int") rfl T.n_int boot_int rfl) pa_nil))) (pe_and (pe_not (pe_callBC call_isi rfl T.n_isinstance boot_isinstance (pa_c (pv 0) (pa_c (pe_bltn (v := .ty "bool") rfl T.n_bool boot_bool rfl) pa_nil)))) (pe_one (pe_cmpR op_ge (pv 0) pe_int (nomark _))))))), ?_⟩
    refine ⟨_, rfl, _, _, _, _, rfl, ty, k1, _, rfl, ?_⟩
    cases e : isInt v with
    | false =>
      have ea : amt v = false := by cases v <;> first | rfl | cases e
      rw [ea] at q
      exact iteF q
    | true =>
      refine iteT ⟨_, rfl, _, _, _, _, rfl, ty, k2, _, rfl, _, rfl, ?_⟩
      cases v with
      | bl b => exact iteF q
      | int n => exact iteT ⟨_, rfl, _, _, rfl, rfl, q⟩
      | _ => cases e

theorem okx_is_tuple_of_amounts {f1 : Addr} {fd1 : FuncData} (F : Fun K "is_tuple_of_amounts" "is_tuple_of_amounts" s_is_tuple_of_amounts f fd) (T : Txt mg) (D1 : Def K mg "is_amount" ["value"] f1 fd1) (G1 : FnOk P w K mg base CX0 1 f1 fd1 ["value"] sx_amount) :
    FnOk P w K mg base CX0 2 f fd ["value", "count"] sx_tuple := by
  refine F.ok sc_is_tuple_of_amounts (fun vs H Q E h => ?_) (fun cdv A outer s H vs Q E hr h => ?_)
  · obtain ⟨v, c, rfl, _⟩ := h
    rfl
  · obtain ⟨v, c, rfl, r1, q⟩ := h
    obtain ⟨t, ty, _, _, k3, _⟩ := plain_ty (K := K) r1.pl
    refine' ⟨_, (pss_one (ps_ret (pe_and (pe_callBC call_isi rfl T.n_isinstance boot_isinstance (pa_c (pv 0) (pa_c (pe_bltn (v := .ty "tuple") rfl T.n_tuple boot_tuple rfl) pa_nil))) (pe_and (pe_cmpR op_eq (pe_callBC call_len_seq rfl T.n_len boot_len (pa_c (pv 0) pa_nil)) (pv 1) (nomark _)) (pe_one (pe_callBC (call_all1 rfl) rfl T.n_all boot_all (pa_c ?c1 pa_nil))))))), ?_⟩
    case c1 => exact pe_comp (NF := ["value", "count"]) (scF := defScope s_is_tuple_of_amounts) (nOwn := 1) (NC := ["part"]) (ix := []) rfl rfl rfl ⟨rfl, by decide +kernel, by decide +kernel, by decide +kernel, by decide +kernel, rfl⟩ (pi_tup (pv 0)) (fun _ _ _ _ => (pg_name (i := 0) (show List.Nodup (["part"] : List Str) by decide +kernel) rfl (Or.inl rfl) (Or.inr rfl))) (fun _ _ _ _ => pf_nil) (fun _ _ _ _ => (pe_callC G1 hr rfl D1.m D1.k D1.b .nil pass0 (pa_c (pv 0) pa_nil)))
    refine ⟨_, rfl, _, _, _, _, rfl, ty, k3, _, rfl, ?_⟩
    cases e : isTup H v with
    | false =>
      have ea : rowB c H v = false := isTup_no e
      have := q H (Same.refl H)
      rw [ea] at this
      exact iteF this
    | true =>
        obtain ⟨a, xs, rfl, ht⟩ := isTup_at e
        obtain ⟨hl, hp⟩ := r1.el a xs rfl ht
        have eb := rowB_at (c := c) ht
        refine iteT ⟨_, rfl, a, _, rfl, .inr (SqT.of ht), _, rfl, rfl, _, rfl, ite2 (fun hc => ?_) (fun hc => ?_)⟩
        · have hc' : xs.length = c := by
            have := of_decide_eq_true hc
            injection this with this
            omega
          refine ⟨_, rfl, a, rfl, ⟨_, SqT.of ht⟩, comp_cnt (cnt_tup (xs := xs)) (fun i ys H2 => Same H H2 ∧ ys = (xs.take i).map fun x => V.bl (amt x)) ⟨Same.refl H, rfl⟩ ?_ ?_ ?_⟩
          · rintro i ys H2 hi ⟨s2, e⟩
            refine ⟨s2.tup (SqT.of ht), ?_⟩
            rw [e, List.length_map, List.length_take]
            exact small1 (by omega)
          · rintro i x ys H2 H3 hi ⟨s2, e⟩ ⟨rfl, hx⟩
            refine ⟨⟨rfl, rfl⟩, ?_⟩
            refine ⟨_, rfl, x, rfl, (hp x (List.mem_of_getElem? hx)).mono s2, s2, ?_⟩
            rw [take_snoc hx, List.map_append, e]
            rfl
          · rintro ys H2 ⟨s2, e⟩ p hp2
            refine ⟨p, xs.map amt, rfl, SqL.of ?_, ?_⟩
            · rw [upd_same, e, List.take_length, List.map_map]
              rfl
            · have := q (upd H2 p (.lst ys)) (s2.trans (same_new hp2 _))
              rw [eb, decide_eq_true hc', Bool.true_and] at this
              rw [List.all_map]
              exact this
        · have hc' : ¬ xs.length = c := by
            intro z
            apply hc
            rw [z]
            exact decide_eq_true rfl
          have e : decide (V.int ((xs.length : Nat) : Int) = V.int c) = false := Bool.eq_false_iff.mpr hc
          have := q H (Same.refl H)
          rw [eb, decide_eq_false hc', Bool.false_and] at this
          exact this

theorem okx_is_day {f1 : Addr} {fd1 : FuncData} (F : Fun K "is_day" "is_day" s_is_day f fd) (D1 : Def K mg "is_tuple_of_amounts" ["value", "count"] f1 fd1) (G1 : FnOk P w K mg base CX0 2 f1 fd1 ["value", "count"] sx_tuple) :
    FnOk P w K mg base CX0 3 f fd ["value"] (sx_row 4) := by
  refine F.ok sc_is_day (fun vs H Q E h => ?_) (fun cdv A outer s H vs Q E hr h => ?_)
  · obtain ⟨v, rfl, _⟩ := h
    rfl
  · obtain ⟨v, rfl, r1, q⟩ := h
    refine ⟨_, (pss_one (ps_ret (pe_callC G1 hr rfl D1.m D1.k D1.b .nil pass0 (pa_c (pv 0) (pa_c pe_int pa_nil))))), ?_⟩
    exact ⟨_, rfl, v, 4, rfl, r1, q⟩
theorem okx_is_deed {f1 : Addr} {fd1 : FuncData} (F : Fun K "is_deed" "is_deed" s_is_deed f fd) (D1 : Def K mg "is_tuple_of_amounts" ["value", "count"] f1 fd1) (G1 : FnOk P w K mg base CX0 2 f1 fd1 ["value", "count"] sx_tuple) :
    FnOk P w K mg base CX0 3 f fd ["value"] (sx_row 2) := by
  refine F.ok sc_is_deed (fun vs H Q E h => ?_) (fun cdv A outer s H vs Q E hr h => ?_)
  · obtain ⟨v, rfl, _⟩ := h
    rfl
  · obtain ⟨v, rfl, r1, q⟩ := h
    refine ⟨_, (pss_one (ps_ret (pe_callC G1 hr rfl D1.m D1.k D1.b .nil pass0 (pa_c (pv 0) (pa_c pe_int pa_nil))))), ?_⟩
    exact ⟨_, rfl, v, 2, rfl, r1, q⟩

theorem okx_check_days {f1 C : Addr} {fd1 : FuncData} (F : Fun K "check_days" "check_days" s_check_days f fd) (T : Txt mg) (X_BadDays : ExcC K mg "BadDays" C) (D1 : Def K mg "is_day" ["value"] f1 fd1) (G1 : FnOk P w K mg base CX0 3 f1 fd1 ["value"] (sx_row 4)) :
    FnOk P w K mg base (CXr P w) 4 f fd ["days"] (sx_days C) := by
  refine F.okX sc_check_days (fun vs H Q E h => ?_) (fun cdv A outer s H vs Q E hr h => ?_)
  · obtain ⟨v, rfl, _⟩ := h
    rfl
  · obtain ⟨v, rfl, r1, q1, q2⟩ := h
    obtain ⟨t, ty, _, _, _, k4⟩ := plain_ty (K := K) r1.pl
    refine ⟨_, (pss_cons (ps_if (pt_not (pt_val (pe_callBC call_isi rfl T.n_isinstance boot_isinstance (pa_c (pv 0) (pa_c (pe_bltn (v := .ty "list") rfl T.n_list boot_list rfl) pa_nil)))))
      (pss_one (ps_raiseC raises_cx rfl rfl X_BadDays (pa_c pe_str pa_nil)))
      pss_nil)
    (pss_one (ps_for own_cx rfl (pi_enum rfl T.n_enumerate (pa_c (pv 0) pa_nil)) (pg_tup (n := 2) rfl (pgs_cons (pg_name (i := 1) sc_check_days.nd rfl (Or.inl rfl)) (pgs_cons (pg_name (i := 2) sc_check_days.nd rfl (Or.inl rfl)) pgs_nil)))
      (pss_one (ps_if (pt_not (pt_val (pe_callC G1 hr rfl D1.m D1.k D1.b .nil pass0 (pa_c (pv 2) pa_nil))))
        (pss_one (ps_raiseC raises_cx rfl rfl X_BadDays (pa_c (pe_f3 (pv 1) (by decide) (by decide)) pa_nil)))
        pss_nil))))), ?_⟩
    refine ⟨_, rfl, _, _, _, _, rfl, ty, k4, _, rfl, ?_⟩
    cases e : isLst H v with
    | false =>
      have ea : rowsB 4 H v = false := isLst_no e
      exact iteT ⟨by show 1 ≤ sizeLine; decide, q2 ea H (Same.refl H)⟩
    | true =>
        obtain ⟨a, xs, rfl, ha⟩ := isLst_at e
        obtain ⟨hl, hp⟩ := r1.el a xs rfl ha
        have eb := rowsB_at (c := 4) ha
        rw [eb] at q1 q2
        refine iteF ⟨_, rfl, a, rfl, ⟨xs, SqL.of ha⟩, for_cnt (cnt_enum (xs := xs)) (fun i σ H2 => Same H H2 ∧ (xs.take i).all (rowB 4 H) = true ∧ ∃ o1 o2, σ = [some (.ref a), o1, o2]) ⟨Same.refl H, rfl, _, _, rfl⟩ (fun i σ H2 _ p => SqL.of (p.1 _ _ ha)) ?_ (fun σ H2 p => ?_)⟩
        · rintro i x σ H2 H3 hi ⟨s2, hall, o1, o2, rfl⟩ ⟨T', y, hy, hT, rfl, rfl⟩
          have s3 : Same H2 (upd H2 T' (.tup [.int i, y])) := same_new hT _
          refine ⟨T', _, rfl, SqT.of upd_same, rfl, _, _, rfl, _, _, rfl, rfl, ?_⟩
          have ry := hp y (List.mem_of_getElem? hy)
          refine ⟨_, rfl, y, rfl, (ry.mono s2).mono s3, fun H4 s4 => ?_⟩
          rw [rowB_mono (s2.trans s3) ry.pl]
          refine ⟨_, rfl, ?_⟩
          cases e2 : rowB 4 H y with
          | true =>
            refine iteF ⟨s2.trans (s3.trans s4), ?_, _, _, rfl⟩
            rw [take_snoc hy, List.all_append, hall]
            simp [e2]
          | false =>
            refine iteT ⟨_, rfl, (i : Int), rfl, ?_, fun z => ⟨by show 1 ≤ sizeLine; decide, q2 ?_ H4 (s2.trans (s3.trans s4))⟩⟩
            · have : (i : Int).natAbs = i := Int.natAbs_natCast i
              rw [this]
              have h1 : i < 2 ^ 1920 := Nat.lt_of_lt_of_le (show i < 1024 by omega) (Nat.pow_le_pow_right (n := 2) (by decide) (show 10 ≤ 1920 by decide))
              by_cases h0 : i = 0
              · subst h0
                decide
              · exact (Nat.log2_lt h0).mpr h1
            · rw [List.all_eq_false]
              exact ⟨y, List.mem_of_getElem? hy, by rw [e2]; exact Bool.false_ne_true⟩
        · obtain ⟨s2, hall, _⟩ := p
          rw [List.take_length] at hall
          exact q1 hall H2 s2

theorem okx_check_room {f1 C : Addr} {fd1 : FuncData} (F : Fun K "check_room" "check_room" s_check_room f fd) (X_BadRoom : ExcC K mg "BadRoom" C) (D1 : Def K mg "is_amount" ["value"] f1 fd1) (G1 : FnOk P w K mg base CX0 1 f1 fd1 ["value"] sx_amount) :
    FnOk P w K mg base (CXr P w) 2 f fd ["room"] (sx_room C) := by
  refine F.okX sc_check_room (fun vs H Q E h => ?_) (fun cdv A outer s H vs Q E hr h => ?_)
  · obtain ⟨v, rfl, _⟩ := h
    rfl
  · obtain ⟨v, rfl, pl, q1, q2⟩ := h
    refine ⟨_, (pss_one (ps_if (pt_not (pt_val (pe_callC G1 hr rfl D1.m D1.k D1.b .nil pass0 (pa_c (pv 0) pa_nil))))
      (pss_one (ps_raiseC raises_cx rfl rfl X_BadRoom (pa_c pe_str pa_nil)))
      pss_nil)), ?_⟩
    refine ⟨_, rfl, v, rfl, pl, _, rfl, ?_⟩
    cases e : amt v with
    | true => exact iteF (q1 e)
    | false => exact iteT ⟨by show 1 ≤ sizeLine; decide, q2 e⟩
end
end Gs
set_option maxHeartbeats 4000000
/-! More checks, and the doors where they refuse. -/
namespace Gs
open PySem PySem.Spec PyProof.Rows L2
theorem int_log {i : Nat} (h : i < 1024) : (i : Int).natAbs.log2 < 1920 := by
  have e : (i : Int).natAbs = i := Int.natAbs_natCast i
  rw [e]
  by_cases h0 : i = 0
  · subst h0
    decide
  · exact (Nat.log2_lt h0).mpr (Nat.lt_of_lt_of_le h (Nat.pow_le_pow_right (n := 2) (by decide) (show 10 ≤ 1920 by decide)))
section
variable {P : Program} {w : World} {K : PySem.W.Frag} {mg : Str → Option Value} {base : Heap} {f : Addr} {fd : FuncData}
theorem okx_check_dealing {f1 C : Addr} {fd1 : FuncData} (F : Fun K "check_dealing" "check_dealing" s_check_dealing f fd) (T : Txt mg) (X_BadDealing : ExcC K mg "BadDealing" C) (D1 : Def K mg "is_deed" ["value"] f1 fd1) (G1 : FnOk P w K mg base CX0 3 f1 fd1 ["value"] (sx_row 2)) :
    FnOk P w K mg base (CXr P w) 4 f fd ["days", "dealing"] (sx_dealing C) := by
  refine F.okX sc_check_dealing (fun vs H Q E h => ?_) (fun cdv A outer s H vs Q E hr h => ?_)
  · obtain ⟨a, us, v, rfl, _⟩ := h
    rfl
  · obtain ⟨a, us, v, rfl, ha, r1, q1, q2⟩ := h
    obtain ⟨t, ty, _, _, _, k4⟩ := plain_ty (K := K) r1.pl
    refine ⟨_, (pss_cons (ps_if (pt_not (pt_val (pe_callBC call_isi rfl T.n_isinstance boot_isinstance (pa_c (pv 1) (pa_c (pe_bltn (v := .ty "list") rfl T.n_list boot_list rfl) pa_nil)))))
      (pss_one (ps_raiseC raises_cx rfl rfl X_BadDealing (pa_c pe_str pa_nil)))
      pss_nil)
    (pss_cons (ps_if (pt_cmpR op_ne (pe_callBC call_len_seq rfl T.n_len boot_len (pa_c (pv 1) pa_nil)) (pe_callBC call_len_seq rfl T.n_len boot_len (pa_c (pv 0) pa_nil)) (nomark _))
      (pss_one (ps_raiseC raises_cx rfl rfl X_BadDealing (pa_c pe_str pa_nil)))
      pss_nil)
    (pss_one (ps_for own_cx rfl (pi_enum rfl T.n_enumerate (pa_c (pv 1) pa_nil)) (pg_tup (n := 2) rfl (pgs_cons (pg_name (i := 2) sc_check_dealing.nd rfl (Or.inl rfl)) (pgs_cons (pg_name (i := 3) sc_check_dealing.nd rfl (Or.inl rfl)) pgs_nil)))
      (pss_one (ps_if (pt_not (pt_val (pe_callC G1 hr rfl D1.m D1.k D1.b .nil pass0 (pa_c (pv 3) pa_nil))))
        (pss_one (ps_raiseC raises_cx rfl rfl X_BadDealing (pa_c (pe_f3 (pv 2) (by decide) (by decide)) pa_nil)))
        pss_nil)))))), ?_⟩
    refine ⟨_, rfl, _, _, _, _, rfl, ty, k4, _, rfl, ?_⟩
    cases e : isLst H v with
    | false =>
      have ea : rowsB 2 H v = false := isLst_no e
      exact iteT ⟨by show 1 ≤ sizeLine; decide, q2 (by rw [ea, Bool.and_false]) H (Same.refl H)⟩
    | true =>
      obtain ⟨b, xs, rfl, hb⟩ := isLst_at e
      obtain ⟨hl, hp⟩ := r1.el b xs rfl hb
      have eb := rowsB_at (c := 2) hb
      have el := lenIs_at (n := us.length) hb
      rw [eb, el] at q1 q2
      refine iteF ⟨_, rfl, b, _, rfl, .inl (SqL.of hb), _, rfl, a, _, rfl, .inl (SqL.of ha), rfl, _, rfl, ?_⟩
      by_cases hc : xs.length = us.length
      · rw [decide_eq_true hc, Bool.true_and] at q1 q2
        rw [hc]
        refine iteNS rfl ?_
        refine ⟨_, rfl, b, rfl, ⟨xs, SqL.of hb⟩, for_cnt (cnt_enum (xs := xs)) (fun i σ H2 => Same H H2 ∧ (xs.take i).all (rowB 2 H) = true ∧ ∃ o1 o2, σ = [some (.ref a), some (.ref b), o1, o2]) ⟨Same.refl H, rfl, _, _, rfl⟩ (fun i σ H2 _ p => SqL.of (p.1 _ _ hb)) ?_ (fun σ H2 p => ?_)⟩
        · rintro i x σ H2 H3 hi ⟨s2, hall, o1, o2, rfl⟩ ⟨T', y, hy, hT, rfl, rfl⟩
          have s3 : Same H2 (upd H2 T' (.tup [.int i, y])) := same_new hT _
          refine ⟨T', _, rfl, SqT.of upd_same, rfl, _, _, rfl, _, _, rfl, rfl, ?_⟩
          have ry := hp y (List.mem_of_getElem? hy)
          refine ⟨_, rfl, y, rfl, (ry.mono s2).mono s3, fun H4 s4 => ?_⟩
          rw [rowB_mono (s2.trans s3) ry.pl]
          refine ⟨_, rfl, ?_⟩
          cases e2 : rowB 2 H y with
          | true =>
            refine iteF ⟨s2.trans (s3.trans s4), ?_, _, _, rfl⟩
            rw [take_snoc hy, List.all_append, hall]
            simp [e2]
          | false =>
            refine iteT ⟨_, rfl, (i : Int), rfl, int_log (by omega), fun z => ⟨by show 1 ≤ sizeLine; decide, q2 ?_ H4 (s2.trans (s3.trans s4))⟩⟩
            rw [List.all_eq_false]
            exact ⟨y, List.mem_of_getElem? hy, by rw [e2]; exact Bool.false_ne_true⟩
        · obtain ⟨s2, hall, _⟩ := p
          rw [List.take_length] at hall
          exact q1 hall H2 s2
      · rw [decide_eq_false hc, Bool.false_and] at q2
        have e3 : decide (V.int ((xs.length : Nat) : Int) = V.int ((us.length : Nat) : Int)) = false := by
          refine decide_eq_false fun z => hc ?_
          injection z with z
          omega
        rw [e3]
        exact iteT ⟨by show 1 ≤ sizeLine; decide, q2 rfl H (Same.refl H)⟩

/-! ### where the doors refuse -/
/-- the days are none -/
def Bad1 (CD : Addr) (H : Hp) (E : XK) (v : V) : Prop := rowsB 4 H v = false ∧ ∀ H', Same H H' → E (.ref CD) none H'
/-- the days are days, the room is none -/
def Bad2 (CR : Addr) (H : Hp) (E : XK) (v r : V) : Prop := rowsB 4 H v = true ∧ Plain H r ∧ amt r = false ∧ ∀ H', Same H H' → E (.ref CR) none H'
/-- the dealing is none -/
def BadL (CL : Addr) (H : Hp) (E : XK) (v d : V) : Prop := rowsB 4 H v = true ∧ ∃ a us, v = .ref a ∧ H a = some (.lst us) ∧ Rows1 H d ∧ (lenIs us.length H d && rowsB 2 H d) = false ∧ ∀ H', Same H H' → E (.ref CL) none H'
def sb_two (CD CL : Addr) : Sp := fun vs H Q E => ∃ v d, vs = [v, d] ∧ Rows1 H v ∧ (Bad1 CD H E v ∨ BadL CL H E v d)
def sb_barred (CD CR CL : Addr) : Sp := fun vs H Q E => ∃ v r d, vs = [v, r, d] ∧ Rows1 H v ∧ (Bad1 CD H E v ∨ Bad2 CR H E v r ∨ (Plain H r ∧ amt r = true ∧ BadL CL H E v d))
def sb_best (CD CR : Addr) : Sp := fun vs H Q E => ∃ v r, vs = [v, r] ∧ Rows1 H v ∧ (Bad1 CD H E v ∨ Bad2 CR H E v r)
theorem nott {b : Bool} {p : Prop} (h : b = false) : b = true → p := fun z => by rw [h] at z; cases z
theorem notf {b : Bool} {p : Prop} (h : b = true) : b = false → p := fun z => by rw [h] at z; cases z

abbrev s_best : Stmt := top 50
theorem sc_best : FnScope ["days", "room", "worths"] ["days", "room"] (defScope s_best) := ⟨rfl, rfl, rfl, by decide +kernel, rfl, by decide +kernel, by decide +kernel⟩
abbrev s_most_gain : Stmt := top 51
theorem sc_most_gain : FnScope ["days", "room"] ["days", "room"] (defScope s_most_gain) := ⟨rfl, rfl, rfl, by decide +kernel, rfl, by decide +kernel, by decide +kernel⟩
abbrev s_changed : Stmt := top 52
theorem sc_changed : FnScope ["days", "room", "at", "day", "other_days"] ["days", "room", "at", "day"] (defScope s_changed) := ⟨rfl, rfl, rfl, by decide +kernel, rfl, by decide +kernel, by decide +kernel⟩
abbrev s_check_count : Stmt := top 15
theorem sc_check_count : FnScope ["days", "at"] ["days", "at"] (defScope s_check_count) := ⟨rfl, rfl, rfl, by decide +kernel, rfl, by decide +kernel, by decide +kernel⟩
abbrev s_check_day : Stmt := top 13
theorem sc_check_day : FnScope ["day"] ["day"] (defScope s_check_day) := ⟨rfl, rfl, rfl, by decide +kernel, rfl, by decide +kernel, by decide +kernel⟩
/-- a day's count -/
def cntB (n : Nat) : V → Bool
  | .int i => decide (0 ≤ i) && decide (i < n)
  | _ => false
def sx_count (C : Addr) : Sp := fun vs H Q E => ∃ a us v, vs = [.ref a, v] ∧ H a = some (.lst us) ∧ Plain H v ∧ (cntB us.length v = true → Q .non H) ∧ (cntB us.length v = false → E (.ref C) none H)
def sx_other (C : Addr) : Sp := fun vs H Q E => ∃ v, vs = [v] ∧ Row1 H v ∧ (rowB 4 H v = true → ∀ H', Same H H' → Q .non H') ∧ (rowB 4 H v = false → ∀ H', Same H H' → E (.ref C) none H')
theorem okx_check_count {f1 C : Addr} {fd1 : FuncData} (F : Fun K "check_count" "check_count" s_check_count f fd) (T : Txt mg) (X_BadDay : ExcC K mg "BadDay" C) (D1 : Def K mg "is_amount" ["value"] f1 fd1) (G1 : FnOk P w K mg base CX0 1 f1 fd1 ["value"] sx_amount) :
    FnOk P w K mg base (CXr P w) 2 f fd ["days", "at"] (sx_count C) := by
  refine F.okX sc_check_count (fun vs H Q E h => ?_) (fun cdv A outer s H vs Q E hr h => ?_)
  · obtain ⟨a, us, v, rfl, _⟩ := h
    rfl
  · obtain ⟨a, us, v, rfl, ha, pl, q1, q2⟩ := h
    refine ⟨_, (pss_one (ps_if (PW.pt (pw_or (pt_not (pt_val (pe_callC G1 hr rfl D1.m D1.k D1.b .nil pass0 (pa_c (pv 1) pa_nil)))) (pw_or1 (pt_cmpR op_ge (pv 1) (pe_callBC call_len_seq rfl T.n_len boot_len (pa_c (pv 0) pa_nil)) (nomark _)))))
      (pss_one (ps_raiseC raises_cx rfl rfl X_BadDay (pa_c pe_str pa_nil)))
      pss_nil)), ?_⟩
    refine ⟨_, rfl, v, rfl, pl, _, rfl, ?_⟩
    cases e : amt v with
    | false =>
      refine iteT (iteT ⟨by show 1 ≤ sizeLine; decide, q2 ?_⟩)
      cases v with
      | int n =>
        have e' : decide (0 ≤ n) = false := e
        show (decide (0 ≤ n) && decide (n < us.length)) = false
        rw [e']
        rfl
      | _ => rfl
    | true =>
      cases v with
      | int n =>
        have e' : decide (0 ≤ n) = true := e
        refine iteF ⟨_, rfl, _, rfl, a, _, rfl, .inl (SqL.of ha), _, _, rfl, rfl, _, rfl, ite2 (fun hc => ?_) (fun hc => ?_)⟩
        · refine ⟨by show 1 ≤ sizeLine; decide, q2 ?_⟩
          have hc' := of_decide_eq_true hc
          show (decide (0 ≤ n) && decide (n < us.length)) = false
          rw [show decide (n < (us.length : Int)) = false from decide_eq_false (by omega), Bool.and_false]
        · refine q1 ?_
          show (decide (0 ≤ n) && decide (n < us.length)) = true
          have hc' : ¬ ((us.length : Nat) : Int) ≤ n := fun z => hc (decide_eq_true z)
          rw [e', decide_eq_true (by omega)]
          rfl
      | _ => cases e
theorem okx_check_day {f1 C : Addr} {fd1 : FuncData} (F : Fun K "check_day" "check_day" s_check_day f fd) (X_BadDays : ExcC K mg "BadDays" C) (D1 : Def K mg "is_day" ["value"] f1 fd1) (G1 : FnOk P w K mg base CX0 3 f1 fd1 ["value"] (sx_row 4)) :
    FnOk P w K mg base (CXr P w) 4 f fd ["day"] (sx_other C) := by
  refine F.okX sc_check_day (fun vs H Q E h => ?_) (fun cdv A outer s H vs Q E hr h => ?_)
  · obtain ⟨v, rfl, _⟩ := h
    rfl
  · obtain ⟨v, rfl, r1, q1, q2⟩ := h
    refine ⟨_, (pss_one (ps_if (pt_not (pt_val (pe_callC G1 hr rfl D1.m D1.k D1.b .nil pass0 (pa_c (pv 0) pa_nil))))
      (pss_one (ps_raiseC raises_cx rfl rfl X_BadDays (pa_c pe_str pa_nil)))
      pss_nil)), ?_⟩
    refine ⟨_, rfl, v, rfl, r1, fun H1 s1 => ⟨_, rfl, ?_⟩⟩
    cases e : rowB 4 H v with
    | true => exact iteF (q1 e H1 s1)
    | false => exact iteT ⟨by show 1 ≤ sizeLine; decide, q2 e H1 s1⟩
def BadC (CB : Addr) (H : Hp) (E : XK) (v i : V) : Prop := rowsB 4 H v = true ∧ ∃ a us, v = .ref a ∧ H a = some (.lst us) ∧ Plain H i ∧ cntB us.length i = false ∧ ∀ H', Same H H' → E (.ref CB) none H'
def BadO (CD : Addr) (H : Hp) (E : XK) (v i o : V) : Prop := rowsB 4 H v = true ∧ ∃ a us, v = .ref a ∧ H a = some (.lst us) ∧ Plain H i ∧ cntB us.length i = true ∧ Row1 H o ∧ rowB 4 H o = false ∧ ∀ H', Same H H' → E (.ref CD) none H'
def sb_changed (CD CR CB : Addr) : Sp := fun vs H Q E => ∃ v r i o, vs = [v, r, i, o] ∧ Rows1 H v ∧ (Bad1 CD H E v ∨ Bad2 CR H E v r ∨ (Plain H r ∧ amt r = true ∧ (BadC CB H E v i ∨ BadO CD H E v i o)))
theorem okb_stored {CD CL f1 f2 : Addr} {fd1 fd2 : FuncData} (F : Fun K "stored" "stored" s_stored f fd) (D1 : Def K mg "check_days" ["days"] f1 fd1) (G1 : FnOk P w K mg base (CXr P w) 4 f1 fd1 ["days"] (sx_days CD))
    (D2 : Def K mg "check_dealing" ["days", "dealing"] f2 fd2) (G2 : FnOk P w K mg base (CXr P w) 4 f2 fd2 ["days", "dealing"] (sx_dealing CL)) :
    FnOk P w K mg base (CXr P w) 5 f fd ["days", "dealing"] (sb_two CD CL) := by
  have G2' := G2
  refine F.okX sc_stored (fun vs H Q E h => ?_) (fun cdv A outer s H vs Q E hr h => ?_)
  · obtain ⟨v, d, rfl, _⟩ := h
    rfl
  · obtain ⟨v, d, rfl, r1, h⟩ := h
    refine ⟨_, (pss_cons (ps_expr (pe_call G1 hr rfl D1.m D1.k D1.b .nil pass_cx (pa_cons (pv 0) pa_nil)))
    (pss_cons (ps_expr (pe_call G2' hr rfl D2.m D2.k D2.b .nil pass_cx (pa_cons (pv 0) (pa_cons (pv 1) pa_nil))))
    pss_never)), ?_⟩
    rcases h with ⟨e1, q⟩ | ⟨e1, a, us, rfl, ha, r2, e2, q⟩
    · exact ⟨_, rfl, v, rfl, r1, nott e1, fun _ H1 s1 => q H1 s1⟩
    · refine ⟨_, rfl, _, rfl, r1, fun _ H1 s1 => ?_, notf e1⟩
      exact ⟨_, rfl, _, rfl, a, us, d, rfl, s1 _ _ ha, r2.mono s1, nott (by rw [lenIs_mono s1 r2.pl, rowsB_mono s1 r2]; exact e2), fun _ H2 s2 => q H2 (s1.trans s2)⟩

theorem okb_gained {CD CL f1 f2 : Addr} {fd1 fd2 : FuncData} (F : Fun K "gained" "gained" s_gained f fd) (D1 : Def K mg "check_days" ["days"] f1 fd1) (G1 : FnOk P w K mg base (CXr P w) 4 f1 fd1 ["days"] (sx_days CD))
    (D2 : Def K mg "check_dealing" ["days", "dealing"] f2 fd2) (G2 : FnOk P w K mg base (CXr P w) 4 f2 fd2 ["days", "dealing"] (sx_dealing CL)) :
    FnOk P w K mg base (CXr P w) 5 f fd ["days", "dealing"] (sb_two CD CL) := by
  have G2' := G2
  refine F.okX sc_gained (fun vs H Q E h => ?_) (fun cdv A outer s H vs Q E hr h => ?_)
  · obtain ⟨v, d, rfl, _⟩ := h
    rfl
  · obtain ⟨v, d, rfl, r1, h⟩ := h
    refine ⟨_, (pss_cons (ps_expr (pe_call G1 hr rfl D1.m D1.k D1.b .nil pass_cx (pa_cons (pv 0) pa_nil)))
    (pss_cons (ps_expr (pe_call G2' hr rfl D2.m D2.k D2.b .nil pass_cx (pa_cons (pv 0) (pa_cons (pv 1) pa_nil))))
    pss_never)), ?_⟩
    rcases h with ⟨e1, q⟩ | ⟨e1, a, us, rfl, ha, r2, e2, q⟩
    · exact ⟨_, rfl, v, rfl, r1, nott e1, fun _ H1 s1 => q H1 s1⟩
    · refine ⟨_, rfl, _, rfl, r1, fun _ H1 s1 => ?_, notf e1⟩
      exact ⟨_, rfl, _, rfl, a, us, d, rfl, s1 _ _ ha, r2.mono s1, nott (by rw [lenIs_mono s1 r2.pl, rowsB_mono s1 r2]; exact e2), fun _ H2 s2 => q H2 (s1.trans s2)⟩

theorem okb_best {CD CR f1 f2 : Addr} {fd1 fd2 : FuncData} (F : Fun K "best" "best" s_best f fd) (D1 : Def K mg "check_days" ["days"] f1 fd1) (G1 : FnOk P w K mg base (CXr P w) 4 f1 fd1 ["days"] (sx_days CD))
    (D2 : Def K mg "check_room" ["room"] f2 fd2) (G2 : FnOk P w K mg base (CXr P w) 2 f2 fd2 ["room"] (sx_room CR)) :
    FnOk P w K mg base (CXr P w) 5 f fd ["days", "room"] (sb_best CD CR) := by
  have G2' := G2.mono (show 2 ≤ 4 by decide)
  refine F.okX sc_best (fun vs H Q E h => ?_) (fun cdv A outer s H vs Q E hr h => ?_)
  · obtain ⟨v, d, rfl, _⟩ := h
    rfl
  · obtain ⟨v, r, rfl, r1, h⟩ := h
    refine ⟨_, (pss_cons (ps_expr (pe_call G1 hr rfl D1.m D1.k D1.b .nil pass_cx (pa_cons (pv 0) pa_nil)))
    (pss_cons (ps_expr (pe_call G2' hr rfl D2.m D2.k D2.b .nil pass_cx (pa_cons (pv 1) pa_nil)))
    pss_never)), ?_⟩
    rcases h with ⟨e1, q⟩ | ⟨e1, pr, e2, q⟩
    · exact ⟨_, rfl, v, rfl, r1, nott e1, fun _ H1 s1 => q H1 s1⟩
    · refine ⟨_, rfl, _, rfl, r1, fun _ H1 s1 => ?_, notf e1⟩
      exact ⟨_, rfl, r, rfl, pr.mono s1, nott e2, fun _ => q H1 s1⟩

theorem okb_most_gain {CD CR CL f1 f2 : Addr} {fd1 fd2 : FuncData} (F : Fun K "most_gain" "most_gain" s_most_gain f fd) (D1 : Def K mg "gained" ["days", "dealing"] f1 fd1) (G1 : FnOk P w K mg base (CXr P w) 5 f1 fd1 ["days", "dealing"] (sb_two CD CL))
    (D2 : Def K mg "best" ["days", "room"] f2 fd2) (G2 : FnOk P w K mg base (CXr P w) 5 f2 fd2 ["days", "room"] (sb_best CD CR)) :
    FnOk P w K mg base (CXr P w) 6 f fd ["days", "room"] (sb_best CD CR) := by
  refine F.okX sc_most_gain (fun vs H Q E h => ?_) (fun cdv A outer s H vs Q E hr h => ?_)
  · obtain ⟨v, d, rfl, _⟩ := h
    rfl
  · obtain ⟨v, r, rfl, r1, h⟩ := h
    refine ⟨_, (pss_one (ps_ret (pe_callC G1 hr rfl D1.m D1.k D1.b .nil pass_cx (pa_c (pv 0) (pa_c (pe_fld (pe_callC G2 hr rfl D2.m D2.k D2.b .nil pass_cx (pa_c (pv 0) (pa_c (pv 1) pa_nil))) rfl) pa_nil))))), ?_⟩
    exact ⟨_, rfl, _, rfl, _, rfl, v, r, rfl, r1, h⟩

theorem okb_barred {CD CR CL f1 f2 f3 : Addr} {fd1 fd2 fd3 : FuncData} (F : Fun K "barred" "barred" s_barred f fd) (D1 : Def K mg "check_days" ["days"] f1 fd1) (G1 : FnOk P w K mg base (CXr P w) 4 f1 fd1 ["days"] (sx_days CD))
    (D2 : Def K mg "check_room" ["room"] f2 fd2) (G2 : FnOk P w K mg base (CXr P w) 2 f2 fd2 ["room"] (sx_room CR))
    (D3 : Def K mg "check_dealing" ["days", "dealing"] f3 fd3) (G3 : FnOk P w K mg base (CXr P w) 4 f3 fd3 ["days", "dealing"] (sx_dealing CL)) :
    FnOk P w K mg base (CXr P w) 5 f fd ["days", "room", "dealing"] (sb_barred CD CR CL) := by
  have G2' := G2.mono (show 2 ≤ 4 by decide)
  have G3' := G3
  refine F.okX sc_barred (fun vs H Q E h => ?_) (fun cdv A outer s H vs Q E hr h => ?_)
  · obtain ⟨v, r, d, rfl, _⟩ := h
    rfl
  · obtain ⟨v, r, d, rfl, r1, h⟩ := h
    refine ⟨_, (pss_cons (ps_expr (pe_call G1 hr rfl D1.m D1.k D1.b .nil pass_cx (pa_cons (pv 0) pa_nil)))
    (pss_cons (ps_expr (pe_call G2' hr rfl D2.m D2.k D2.b .nil pass_cx (pa_cons (pv 1) pa_nil)))
    (pss_cons (ps_expr (pe_call G3' hr rfl D3.m D3.k D3.b .nil pass_cx (pa_cons (pv 0) (pa_cons (pv 2) pa_nil))))
    pss_never))), ?_⟩
    rcases h with ⟨e1, q⟩ | ⟨e1, pr, e2, q⟩ | ⟨pr, er, e1, a, us, rfl, ha, r2, e2, q⟩
    · exact ⟨_, rfl, v, rfl, r1, nott e1, fun _ H1 s1 => q H1 s1⟩
    · refine ⟨_, rfl, _, rfl, r1, fun _ H1 s1 => ?_, notf e1⟩
      exact ⟨_, rfl, r, rfl, pr.mono s1, nott e2, fun _ => q H1 s1⟩
    · refine ⟨_, rfl, _, rfl, r1, fun _ H1 s1 => ?_, notf e1⟩
      refine ⟨_, rfl, r, rfl, pr.mono s1, fun _ => ?_, notf er⟩
      exact ⟨_, rfl, _, rfl, a, us, d, rfl, s1 _ _ ha, r2.mono s1, nott (by rw [lenIs_mono s1 r2.pl, rowsB_mono s1 r2]; exact e2), fun _ H2 s2 => q H2 (s1.trans s2)⟩

theorem okb_changed {CD CR CB f1 f2 f3 f4 : Addr} {fd1 fd2 fd3 fd4 : FuncData} (F : Fun K "changed" "changed" s_changed f fd) (D1 : Def K mg "check_days" ["days"] f1 fd1) (G1 : FnOk P w K mg base (CXr P w) 4 f1 fd1 ["days"] (sx_days CD))
    (D2 : Def K mg "check_room" ["room"] f2 fd2) (G2 : FnOk P w K mg base (CXr P w) 2 f2 fd2 ["room"] (sx_room CR))
    (D3 : Def K mg "check_count" ["days", "at"] f3 fd3) (G3 : FnOk P w K mg base (CXr P w) 2 f3 fd3 ["days", "at"] (sx_count CB)) (D4 : Def K mg "check_day" ["day"] f4 fd4) (G4 : FnOk P w K mg base (CXr P w) 4 f4 fd4 ["day"] (sx_other CD)) :
    FnOk P w K mg base (CXr P w) 5 f fd ["days", "room", "at", "day"] (sb_changed CD CR CB) := by
  have G2' := G2.mono (show 2 ≤ 4 by decide)
  have G3' := G3.mono (show 2 ≤ 4 by decide)
  have G4' := G4
  refine F.okX sc_changed (fun vs H Q E h => ?_) (fun cdv A outer s H vs Q E hr h => ?_)
  · obtain ⟨v, r, i, o, rfl, _⟩ := h
    rfl
  · obtain ⟨v, r, i, o, rfl, r1, h⟩ := h
    refine ⟨_, (pss_cons (ps_expr (pe_call G1 hr rfl D1.m D1.k D1.b .nil pass_cx (pa_cons (pv 0) pa_nil)))
    (pss_cons (ps_expr (pe_call G2' hr rfl D2.m D2.k D2.b .nil pass_cx (pa_cons (pv 1) pa_nil)))
    (pss_cons (ps_expr (pe_call G3' hr rfl D3.m D3.k D3.b .nil pass_cx (pa_cons (pv 0) (pa_cons (pv 2) pa_nil))))
    (pss_cons (ps_expr (pe_call G4' hr rfl D4.m D4.k D4.b .nil pass_cx (pa_cons (pv 3) pa_nil)))
    pss_never)))), ?_⟩
    rcases h with ⟨e1, q⟩ | ⟨e1, pr, e2, q⟩ | ⟨pr, er, ⟨e1, a, us, rfl, ha, pi, e2, q⟩ | ⟨e1, a, us, rfl, ha, pi, e2, ro, e3, q⟩⟩
    · exact ⟨_, rfl, v, rfl, r1, nott e1, fun _ H1 s1 => q H1 s1⟩
    · refine ⟨_, rfl, _, rfl, r1, fun _ H1 s1 => ?_, notf e1⟩
      exact ⟨_, rfl, r, rfl, pr.mono s1, nott e2, fun _ => q H1 s1⟩
    · refine ⟨_, rfl, _, rfl, r1, fun _ H1 s1 => ?_, notf e1⟩
      refine ⟨_, rfl, r, rfl, pr.mono s1, fun _ => ?_, notf er⟩
      exact ⟨_, rfl, _, rfl, a, us, i, rfl, s1 _ _ ha, pi.mono s1, nott e2, fun _ => q H1 s1⟩
    · refine ⟨_, rfl, _, rfl, r1, fun _ H1 s1 => ?_, notf e1⟩
      refine ⟨_, rfl, r, rfl, pr.mono s1, fun _ => ?_, notf er⟩
      refine ⟨_, rfl, _, rfl, a, us, i, rfl, s1 _ _ ha, pi.mono s1, fun _ => ?_, notf e2⟩
      exact ⟨_, rfl, o, rfl, ro.mono s1, nott (by rw [rowB_mono s1 ro.pl]; exact e3), fun _ H2 s2 => q H2 (s1.trans s2)⟩
end
end Gs
/-! What is no day, no room, no dealing. -/
namespace Gs
open PySem PySem.Spec PyProof.Rows L2
theorem atmod {α : Type} {xs : List α} (k : Int) (h : xs ≠ []) : ∃ (j : Nat) (v : α), atI xs (k % (xs.length : Int)) = some v ∧ xs[j]? = some v := by
  have hl : 0 < xs.length := List.length_pos_iff.mpr h
  have h0 : 0 ≤ k % (xs.length : Int) := Int.emod_nonneg _ (by omega)
  have h1 : k % (xs.length : Int) < (xs.length : Int) := Int.emod_lt_of_pos _ (by omega)
  obtain ⟨j, hj⟩ : ∃ j : Nat, k % (xs.length : Int) = (j : Int) := ⟨(k % (xs.length : Int)).toNat, by omega⟩
  have hlt : j < xs.length := by omega
  refine ⟨j, xs[j], ?_, List.getElem?_eq_getElem hlt⟩
  rw [hj]
  exact atI_nat (List.getElem?_eq_getElem hlt)
section
variable {H : Hp} {c : Nat}
theorem bad_non : Row1 H .non ∧ rowB c H .non = false := ⟨⟨trivial, fun a xs e => by cases e⟩, rfl⟩
theorem bad_int {n : Int} : Row1 H (.int n) ∧ rowB c H (.int n) = false := ⟨⟨trivial, fun a xs e => by cases e⟩, rfl⟩
theorem bad_lst {t : Addr} {xs : List V} (h : H t = some (.lst xs)) : Row1 H (.ref t) ∧ rowB c H (.ref t) = false := by
  refine ⟨⟨.inl ⟨xs, h⟩, fun a ys e q => ?_⟩, ?_⟩
  · cases e
    rw [h] at q
    cases q
  · simp only [rowB, h]
theorem row_tup {t : Addr} {xs : List V} (h : H t = some (.tup xs)) (hl : xs.length ≤ 1000) (hp : ∀ x ∈ xs, Plain H x) : Row1 H (.ref t) := by
  refine ⟨.inr (.inl ⟨xs, h⟩), fun a ys e q => ?_⟩
  cases e
  rw [h] at q
  cases q
  exact ⟨hl, hp⟩
theorem bad_tup {t : Addr} {xs : List V} (h : H t = some (.tup xs)) (hl : xs.length ≤ 1000) (hp : ∀ x ∈ xs, Plain H x) (hb : (decide (xs.length = c) && xs.all amt) = false) : Row1 H (.ref t) ∧ rowB c H (.ref t) = false :=
  ⟨row_tup h hl hp, by rw [rowB_at h]; exact hb⟩
end
end Gs
set_option maxHeartbeats 8000000
/-! What is no day. -/
seal PySem.wpAny
namespace Gs
open PySem PySem.Spec PyProof.Rows L2
abbrev s__law_day : Stmt := top 54
theorem sc__law_day : FnScope ["_law_which", "_law_more", "_law_bad"] ["_law_which", "_law_more"] (defScope s__law_day) := ⟨rfl, rfl, rfl, by decide +kernel, rfl, by decide +kernel, by decide +kernel⟩
def sd_day : Sp := fun vs H Q _ => ∃ wh mo : Int, vs = [.int wh, .int mo] ∧ 0 ≤ mo ∧ ∀ v H', Same H H' → Row1 H' v → rowB 4 H' v = false → Q v H'
section
variable {P : Program} {w : World} {K : PySem.W.Frag} {mg : Str → Option Value} {base : Heap} {f : Addr} {fd : FuncData}
theorem ok__law_day (F : Fun K "_law_day" "_law_day" s__law_day f fd) : FnOk P w K mg base CX0 1 f fd ["_law_which", "_law_more"] sd_day := by
  refine F.ok sc__law_day (fun vs H Q E h => ?_) (fun cdv A outer s H vs Q E hr h => ?_)
  · obtain ⟨wh, mo, rfl, _⟩ := h
    rfl
  · obtain ⟨wh, mo, rfl, h0, q⟩ := h
    refine ⟨_, (pss_cons (ps_set (i := 2) sc__law_day.nd rfl (Or.inl rfl) (pe_lstW (pa_c pe_non (pa_c pe_int (pa_c (pe_tupW (pa_c pe_int (pa_c pe_int (pa_c pe_int pa_nil)))) (pa_c (pe_tupW (pa_c pe_int (pa_c pe_int (pa_c pe_int (pa_c pe_int (pa_c pe_int pa_nil)))))) (pa_c (pe_lstW (pa_c pe_int (pa_c pe_int (pa_c pe_int (pa_c pe_int pa_nil))))) (pa_c (pe_tupW (pa_c pe_int (pa_c (pe_op op_sub (pe_un un_neg pe_int) (pv 1)) (pa_c pe_int (pa_c pe_int pa_nil))))) (pa_c (pe_tupW (pa_c (pe_un un_neg pe_int) (pa_c pe_int (pa_c pe_int (pa_c pe_int pa_nil))))) (pa_c (pe_tupW (pa_c pe_int (pa_c pe_int (pa_c (pe_op op_sub (pe_un un_neg pe_int) (pv 1)) (pa_c pe_int pa_nil))))) pa_nil))))))))))
    (pss_one (ps_ret (pe_ix ix_list (pe_op op_catW (pv 2) (pe_lstW (pa_c (pe_tupW (pa_c pe_int (pa_c pe_int (pa_c pe_int (pa_c (pe_un un_neg pe_int) pa_nil))))) (pa_c (pe_tupW (pa_c pe_bl (pa_c pe_int (pa_c pe_int (pa_c pe_int pa_nil))))) (pa_c (pe_tupW (pa_c pe_int (pa_c pe_str (pa_c pe_int (pa_c pe_int pa_nil))))) (pa_c (pe_tupW (pa_c pe_int (pa_c pe_int (pa_c pe_non (pa_c pe_int pa_nil))))) pa_nil)))))) (pe_op op_mod (pv 0) pe_int) (fun _ _ => rfl))))), ?_⟩
    refine ⟨by simp only [List.length_cons, List.length_nil]; decide, fun t1 H_t1 s_t1 e_t1 n_t1 => ?_⟩
    refine ⟨by simp only [List.length_cons, List.length_nil]; decide, fun t2 H_t2 s_t2 e_t2 n_t2 => ?_⟩
    refine ⟨by simp only [List.length_cons, List.length_nil]; decide, fun t3 H_t3 s_t3 e_t3 n_t3 => ?_⟩
    refine ⟨_, rfl, _, rfl, _, _, rfl, rfl, by simp only [List.length_cons, List.length_nil]; decide, fun t4 H_t4 s_t4 e_t4 n_t4 => ?_⟩
    refine ⟨_, rfl, by simp only [List.length_cons, List.length_nil]; decide, fun t5 H_t5 s_t5 e_t5 n_t5 => ?_⟩
    refine ⟨_, rfl, _, rfl, _, _, rfl, rfl, by simp only [List.length_cons, List.length_nil]; decide, fun t6 H_t6 s_t6 e_t6 n_t6 => ?_⟩
    refine ⟨by simp only [List.length_cons, List.length_nil]; decide, fun p H_p s_p e_p n_p => ?_⟩
    refine ⟨_, rfl, ?_⟩
    refine ⟨_, rfl, by simp only [List.length_cons, List.length_nil]; decide, fun t7 H_t7 s_t7 e_t7 n_t7 => ?_⟩
    refine ⟨by simp only [List.length_cons, List.length_nil]; decide, fun t8 H_t8 s_t8 e_t8 n_t8 => ?_⟩
    refine ⟨by simp only [List.length_cons, List.length_nil]; decide, fun t9 H_t9 s_t9 e_t9 n_t9 => ?_⟩
    refine ⟨by simp only [List.length_cons, List.length_nil]; decide, fun t10 H_t10 s_t10 e_t10 n_t10 => ?_⟩
    refine ⟨by simp only [List.length_cons, List.length_nil]; decide, fun p2 H_p2 s_p2 e_p2 n_p2 => ?_⟩
    refine ⟨p, p2, _, _, rfl, rfl, s_p2 _ _ (s_t10 _ _ (s_t9 _ _ (s_t8 _ _ (s_t7 _ _ e_p)))), e_p2, by simp only [List.length_cons, List.length_nil]; decide, fun p3 H_p3 s_p3 e_p3 n_p3 => ?_⟩
    refine ⟨_, rfl, _, _, rfl, rfl, (by show (0 : Int) < 12; decide), ?_⟩
    have S_p2 := s_p3
    replace e_p2 := S_p2 _ _ e_p2
    have S_t10 := s_p2.trans S_p2
    replace e_t10 := S_t10 _ _ e_t10
    have S_t9 := s_t10.trans S_t10
    replace e_t9 := S_t9 _ _ e_t9
    have S_t8 := s_t9.trans S_t9
    replace e_t8 := S_t8 _ _ e_t8
    have S_t7 := s_t8.trans S_t8
    replace e_t7 := S_t7 _ _ e_t7
    have S_p := s_t7.trans S_t7
    replace e_p := S_p _ _ e_p
    have S_t6 := s_p.trans S_p
    replace e_t6 := S_t6 _ _ e_t6
    have S_t5 := s_t6.trans S_t6
    replace e_t5 := S_t5 _ _ e_t5
    have S_t4 := s_t5.trans S_t5
    replace e_t4 := S_t4 _ _ e_t4
    have S_t3 := s_t4.trans S_t4
    replace e_t3 := S_t3 _ _ e_t3
    have S_t2 := s_t3.trans S_t3
    replace e_t2 := S_t2 _ _ e_t2
    have S_t1 := s_t2.trans S_t2
    replace e_t1 := S_t1 _ _ e_t1
    have sAll := s_t1.trans S_t1
    obtain ⟨j, v, hat, hj⟩ := atmod (xs := [(.non : V), .int 5, .ref t1, .ref t2, .ref t3, .ref t4, .ref t5, .ref t6, .ref t7, .ref t8, .ref t9, .ref t10]) wh (by simp)
    have hv := List.mem_of_getElem? hj
    refine ⟨p3, _, _, v, rfl, rfl, SqL.of e_p3, hat, ?_⟩
    suffices z : Row1 _ v ∧ rowB 4 _ v = false from q v _ sAll z.1 z.2
    have neg : amt (.int (-1 - mo)) = false := decide_eq_false (by omega)
    simp only [List.mem_cons, List.not_mem_nil, or_false] at hv
    rcases hv with rfl | rfl | rfl | rfl | rfl | rfl | rfl | rfl | rfl | rfl | rfl | rfl
    · exact bad_non
    · exact bad_int
    · exact bad_tup e_t1 (by decide) (by simp [Plain]) rfl
    · exact bad_tup e_t2 (by decide) (by simp [Plain]) rfl
    · exact bad_lst e_t3
    · exact bad_tup e_t4 (by simp) (by simp [Plain]) (by simp [neg])
    · exact bad_tup e_t5 (by decide) (by simp [Plain]) rfl
    · exact bad_tup e_t6 (by simp) (by simp [Plain]) (by simp [neg])
    · exact bad_tup e_t7 (by decide) (by simp [Plain]) rfl
    · exact bad_tup e_t8 (by decide) (by simp [Plain]) rfl
    · exact bad_tup e_t9 (by decide) (by simp [Plain]) rfl
    · exact bad_tup e_t10 (by decide) (by simp [Plain]) rfl
end
end Gs
unseal PySem.wpAny
set_option maxHeartbeats 8000000
/-! What is no days, at each door. -/
seal PySem.wpAny
namespace Gs
open PySem PySem.Spec PyProof.Rows L2
abbrev s__law_days_asked : Stmt := top 55
theorem sc__law_days_asked : FnScope ["_law_which", "_law_more", "_law_good", "_law_bad", "_law_door"] ["_law_which", "_law_more"] (defScope s__law_days_asked) := ⟨rfl, rfl, rfl, by decide +kernel, rfl, by decide +kernel, by decide +kernel⟩
def sd_days (CD : Addr) : Sp := fun vs H _ E => ∃ wh mo : Int, vs = [.int wh, .int mo] ∧ 0 ≤ mo ∧ ∀ H', Same H H' → E (.ref CD) none H'
theorem at_in {α : Type} {xs : List α} {k : Int} (h0 : 0 ≤ k) (h1 : k < (xs.length : Int)) : ∃ v, atI xs k = some v ∧ v ∈ xs := by
  obtain ⟨j, hj⟩ : ∃ j : Nat, k = (j : Int) := ⟨k.toNat, by omega⟩
  subst hj
  have hlt : j < xs.length := by omega
  exact ⟨xs[j], atI_nat (List.getElem?_eq_getElem hlt), List.getElem_mem hlt⟩
theorem cutV_mem {xs : List V} {lo hi : Option Int} {x : V} (h : x ∈ cutV xs lo hi) : x ∈ xs := List.mem_of_mem_drop (List.mem_of_mem_take h)
section
variable {H : Hp} {c : Nat} {v : V}
theorem rows_no (pl : Plain H v) (h : ∀ a xs, v = .ref a → H a ≠ some (.lst xs)) : Rows1 H v ∧ rowsB c H v = false := by
  refine ⟨⟨pl, fun a xs e q => absurd q (h a xs e)⟩, ?_⟩
  cases v with
  | ref a =>
    simp only [rowsB]
    split
    · rename_i xs e
      exact absurd e (h a xs rfl)
    · rfl
  | _ => rfl
theorem rows_lst {a : Addr} {xs : List V} (h : H a = some (.lst xs)) (hl : xs.length ≤ 1000) (hr : ∀ x ∈ xs, Row1 H x) : Rows1 H (.ref a) := by
  refine ⟨.inl ⟨xs, h⟩, fun b ys e q => ?_⟩
  cases e
  rw [h] at q
  cases q
  exact ⟨hl, hr⟩
theorem rows_bad {a : Addr} {xs : List V} {x : V} (h : H a = some (.lst xs)) (hx : x ∈ xs) (hb : rowB c H x = false) : rowsB c H (.ref a) = false := by
  rw [rowsB_at h, List.all_eq_false]
  exact ⟨x, hx, by rw [hb]; exact Bool.false_ne_true⟩
end
/-- a good day -/
def GoodDay (H : Hp) (v : V) : Prop := ∃ t, v = .ref t ∧ H t = some (.tup [.int 1, .int 2, .int 3, .int 4])
theorem GoodDay.mono {H H' : Hp} {v : V} (s : Same H H') (h : GoodDay H v) : GoodDay H' v := by
  obtain ⟨t, h1, h2⟩ := h
  exact ⟨t, h1, s _ _ h2⟩
theorem GoodDay.row {H : Hp} {v : V} (h : GoodDay H v) : Row1 H v := by
  obtain ⟨t, rfl, e⟩ := h
  exact row_tup e (by decide) (by simp [Plain])
section
variable {P : Program} {w : World} {K : PySem.W.Frag} {mg : Str → Option Value} {base : Heap} {f : Addr} {fd : FuncData}
theorem ok__law_days_asked {CD CR CL CB f1 f2 f3 f4 f5 f6 f7 : Addr} {fd1 fd2 fd3 fd4 fd5 fd6 fd7 : FuncData} (F : Fun K "_law_days_asked" "_law_days_asked" s__law_days_asked f fd) (T : Txt mg)
    (D1 : Def K mg "_law_day" ["_law_which", "_law_more"] f1 fd1) (G1 : FnOk P w K mg base CX0 1 f1 fd1 ["_law_which", "_law_more"] sd_day)
    (D2 : Def K mg "stored" ["days", "dealing"] f2 fd2) (G2 : FnOk P w K mg base (CXr P w) 6 f2 fd2 ["days", "dealing"] (sb_two CD CL))
    (D3 : Def K mg "gained" ["days", "dealing"] f3 fd3) (G3 : FnOk P w K mg base (CXr P w) 6 f3 fd3 ["days", "dealing"] (sb_two CD CL))
    (D4 : Def K mg "barred" ["days", "room", "dealing"] f4 fd4) (G4 : FnOk P w K mg base (CXr P w) 6 f4 fd4 ["days", "room", "dealing"] (sb_barred CD CR CL))
    (D5 : Def K mg "best" ["days", "room"] f5 fd5) (G5 : FnOk P w K mg base (CXr P w) 6 f5 fd5 ["days", "room"] (sb_best CD CR))
    (D6 : Def K mg "most_gain" ["days", "room"] f6 fd6) (G6 : FnOk P w K mg base (CXr P w) 6 f6 fd6 ["days", "room"] (sb_best CD CR))
    (D7 : Def K mg "changed" ["days", "room", "at", "day"] f7 fd7) (G7 : FnOk P w K mg base (CXr P w) 6 f7 fd7 ["days", "room", "at", "day"] (sb_changed CD CR CB)) :
    FnOk P w K mg base (CXr P w) 7 f fd ["_law_which", "_law_more"] (sd_days CD) := by
  replace G1 := G1.mono (show 1 ≤ 6 by decide)
  refine F.okX sc__law_days_asked (fun vs H Q E h => ?_) (fun cdv A outer s H vs Q E hr h => ?_)
  · obtain ⟨wh, mo, rfl, _⟩ := h
    rfl
  · obtain ⟨wh, mo, rfl, h0, q⟩ := h
    refine ⟨_, (pss_cons (ps_comp (i := 2) (NF := ["_law_which", "_law_more", "_law_good", "_law_bad", "_law_door"]) (scF := defScope s__law_days_asked) (nOwn := 1) (NC := ["_law_day_here"]) (ix := []) rfl rfl rfl sc__law_days_asked.nd rfl rfl ⟨rfl, by decide +kernel, by decide +kernel, by decide +kernel, by decide +kernel, rfl⟩ (pi_range1 rfl T.n_range (pa_c (pe_op op_mod (pv 1) pe_int) pa_nil)) (fun _ _ _ _ => (pg_name (i := 0) (show List.Nodup (["_law_day_here"] : List Str) by decide +kernel) rfl (Or.inl rfl) (Or.inr rfl))) (fun _ _ _ _ => pf_nil) (fun _ _ _ _ => (pe_tupW (pa_c pe_int (pa_c pe_int (pa_c pe_int (pa_c pe_int pa_nil)))))))
    (pss_cons (ps_set (i := 3) sc__law_days_asked.nd rfl (Or.inl rfl) (pe_ix ix_list (pe_lstW (pa_c (pe_op op_catW (pe_op op_catW (pv 2) (pe_lstW (pa_c (pe_callC G1 hr rfl D1.m D1.k D1.b .nil pass0 (pa_c (pe_op op_fdiv (pv 0) pe_int) (pa_c (pv 1) pa_nil))) pa_nil))) (pe_slice sl_listW (pv 2) po_none (po_some pe_int))) (pa_c pe_non (pa_c (pe_tupW (pa_c (pe_tupW (pa_c pe_int (pa_c pe_int (pa_c pe_int (pa_c pe_int pa_nil))))) pa_nil)) (pa_c pe_str (pa_c pe_d0W pa_nil)))))) (pe_callBC (call_maxI rfl) rfl T.n_max boot_max (pa_c pe_int (pa_c (pe_op op_sub (pe_op op_mod (pv 0) pe_int) pe_int) pa_nil))) (fun _ _ => rfl)))
    (pss_cons (ps_set (i := 4) sc__law_days_asked.nd rfl (Or.inl rfl) (pe_op op_mod (pe_op op_fdiv (pv 0) pe_int) pe_int))
    (pss_cons (ps_if (pt_cmpR op_lt (pv 4) pe_int (nomark _))
      (pss_one (ps_ret (pe_ifExp (pt_cmpR op_eq (pv 4) pe_int (nomark _)) (pe_callC G2 hr rfl D2.m D2.k D2.b .nil pass_cx (pa_c (pv 3) (pa_c pe_non pa_nil))) (pe_ifExp (pt_cmpR op_eq (pv 4) pe_int (nomark _)) (pe_callC G3 hr rfl D3.m D3.k D3.b .nil pass_cx (pa_c (pv 3) (pa_c pe_non pa_nil))) (pe_callC G4 hr rfl D4.m D4.k D4.b .nil pass_cx (pa_c (pv 3) (pa_c (pe_un un_neg pe_int) (pa_c pe_non pa_nil))))))))
      pss_nil)
    (pss_one (ps_ret (pe_ifExp (pt_cmpR op_eq (pv 4) pe_int (nomark _)) (pe_callC G5 hr rfl D5.m D5.k D5.b .nil pass_cx (pa_c (pv 3) (pa_c (pe_un un_neg pe_int) pa_nil))) (pe_ifExp (pt_cmpR op_eq (pv 4) pe_int (nomark _)) (pe_callC G6 hr rfl D6.m D6.k D6.b .nil pass_cx (pa_c (pv 3) (pa_c pe_non pa_nil))) (pe_callC G7 hr rfl D7.m D7.k D7.b .nil pass_cx (pa_c (pv 3) (pa_c (pe_un un_neg pe_int) (pa_c (pe_un un_neg pe_int) (pa_c pe_non pa_nil))))))))))))), ?_⟩
    have hm : 0 ≤ mo % 7 ∧ mo % 7 < 7 := by omega
    refine ⟨_, rfl, _, _, rfl, rfl, (by show (0 : Int) < 7; decide), _, rfl, by omega, by omega, comp_cnt cnt_range (fun i ys H2 => Same H H2 ∧ ys.length = i ∧ ∀ y ∈ ys, GoodDay H2 y) ⟨Same.refl H, rfl, by simp⟩ ?_ ?_ ?_⟩
    · rintro i ys H2 hi ⟨s2, hl, hy⟩
      exact ⟨trivial, small1 (by omega)⟩
    · rintro i x ys H2 H3 hi ⟨s2, hl, hy⟩ ⟨rfl, rfl⟩
      refine ⟨⟨rfl, rfl⟩, by simp only [List.length_cons, List.length_nil]; decide, fun t H_t s_t e_t n_t => ⟨s2.trans s_t, by simp [hl], fun y hy' => ?_⟩⟩
      rcases List.mem_append.mp hy' with z | z
      · exact (hy y z).mono s_t
      · have e : y = .ref t := by simpa using z
        subst e
        exact ⟨t, rfl, e_t⟩
    rintro ys H2 ⟨s2, hl, hy⟩ p hp
    have hl7 : ys.length ≤ 7 := by omega
    have s3 : Same H2 (upd H2 p (.lst ys)) := same_new hp _
    have e_p : upd H2 p (.lst ys) p = some (.lst ys) := upd_same
    have s23 := s2.trans s3
    replace hy : ∀ y ∈ ys, GoodDay (upd H2 p (.lst ys)) y := fun y z => (hy y z).mono s3
    refine ⟨_, rfl, _, rfl, _, _, rfl, rfl, ⟨by decide, by decide⟩, _, rfl, wh / 14, mo, rfl, h0, fun v Hv s_v r1 rb => ?_⟩
    refine ⟨by simp only [List.length_cons, List.length_nil]; decide, fun l1 H1 s_1 e_1 n_1 => ?_⟩
    refine ⟨p, l1, ys, [v], rfl, rfl, s_1 _ _ (s_v _ _ e_p), e_1, small1 (by simp only [List.length_cons, List.length_nil]; omega), fun c1 H3 s_3 e_3 n_3 => ?_⟩
    have s_p3 := s_v.trans (s_1.trans s_3)
    refine ⟨_, rfl, _, rfl, p, ys, rfl, SqL.of (s_p3 _ _ e_p), fun sl H4 s_4 e_4 n_4 => ?_⟩
    have hcut : (cutV ys none (some 2)).length ≤ ys.length := cutV_length ys none (some 2)
    refine ⟨c1, sl, ys ++ [v], _, rfl, rfl, s_4 _ _ e_3, e_4, small1 (by simp only [List.length_append, List.length_cons, List.length_nil]; omega), fun cc H5 s_5 e_5 n_5 => ?_⟩
    refine ⟨by simp only [List.length_cons, List.length_nil]; decide, fun t1 H6 s_6 e_6 n_6 => ⟨by simp only [List.length_cons, List.length_nil]; decide, fun t2 H7 s_7 e_7 n_7 => ?_⟩⟩
    refine fun d H8 s_8 e_8 n_8 => ⟨by simp only [List.length_cons, List.length_nil]; decide, fun L5 H9 s_9 e_9 n_9 => ?_⟩
    have s_v9 : Same Hv H9 := s_1.trans (s_3.trans (s_4.trans (s_5.trans (s_6.trans (s_7.trans (s_8.trans s_9))))))
    have sAll : Same H H9 := s23.trans (s_v.trans s_v9)
    have k0 : 0 ≤ max 0 (wh % 14 - 9) := by omega
    have k1 : max 0 (wh % 14 - 9) < 5 := by omega
    obtain ⟨u, hat, hu⟩ := at_in (xs := [(.ref cc : V), .non, .ref t2, .str "1", .ref d]) k0 k1
    refine ⟨_, rfl, _, _, rfl, rfl, (by show (0 : Int) < 14; decide), _, _, rfl, rfl, _, _, rfl, ?_⟩
    refine ⟨L5, _, _, u, rfl, rfl, SqL.of e_9, hat, ?_⟩
    have bad : Rows1 H9 u ∧ rowsB 4 H9 u = false := by
      simp only [List.mem_cons, List.not_mem_nil, or_false] at hu
      rcases hu with rfl | rfl | rfl | rfl | rfl
      · have s_59 : Same H5 H9 := s_6.trans (s_7.trans (s_8.trans s_9))
        have e := s_59 _ _ e_5
        have rv := r1.mono s_v9
        refine ⟨rows_lst e ?_ fun x hx => ?_, rows_bad (x := v) e (by simp) (by rw [rowB_mono s_v9 r1.pl]; exact rb)⟩
        · simp only [List.length_append, List.length_cons, List.length_nil]
          omega
        · rcases List.mem_append.mp hx with z | z
          · rcases List.mem_append.mp z with z | z
            · exact ((hy x z).mono (s_v.trans s_v9)).row
            · have e : x = v := by simpa using z
              subst e
              exact rv
          · exact ((hy x (cutV_mem z)).mono (s_v.trans s_v9)).row
      · exact rows_no trivial (fun a xs e => by cases e)
      · have e := s_9 _ _ (s_8 _ _ e_7)
        refine rows_no (.inr (.inl ⟨_, e⟩)) (fun a xs z y => ?_)
        cases z
        rw [e] at y
        cases y
      · exact rows_no trivial (fun a xs e => by cases e)
      · have e := s_9 _ _ e_8
        refine rows_no (.inr (.inr ⟨_, e⟩)) (fun a xs z y => ?_)
        cases z
        rw [e] at y
        cases y
    obtain ⟨b1, b2⟩ := bad
    have B : Bad1 CD H9 E u := ⟨b2, fun H' s' => q H' (sAll.trans s')⟩
    refine ⟨_, rfl, _, _, rfl, rfl, ⟨by decide, by decide⟩, _, _, rfl, rfl, (by show (0 : Int) < 6; decide), ?_⟩
    refine ⟨_, rfl, _, _, rfl, rfl, _, rfl, ite2 (fun _ => ?_) (fun _ => ?_)⟩
    · refine ⟨_, rfl, rfl, _, rfl, ite2 (fun _ => ?_) (fun _ => ?_)⟩
      · exact ⟨_, rfl, u, .non, rfl, b1, .inl B⟩
      · refine ⟨_, rfl, rfl, _, rfl, ite2 (fun _ => ?_) (fun _ => ?_)⟩
        · exact ⟨_, rfl, u, .non, rfl, b1, .inl B⟩
        · exact ⟨_, rfl, _, rfl, u, _, .non, rfl, b1, .inl B⟩
    · refine ⟨_, rfl, rfl, _, rfl, ite2 (fun _ => ?_) (fun _ => ?_)⟩
      · exact ⟨_, rfl, _, rfl, u, _, rfl, b1, .inl B⟩
      · refine ⟨_, rfl, rfl, _, rfl, ite2 (fun _ => ?_) (fun _ => ?_)⟩
        · exact ⟨_, rfl, u, .non, rfl, b1, .inl B⟩
        · exact ⟨_, rfl, _, rfl, _, rfl, u, _, _, .non, rfl, b1, .inl B⟩
end
end Gs
unseal PySem.wpAny
set_option maxHeartbeats 8000000
/-! What is no room, no dealing, no day's count, no other day. -/
seal PySem.wpAny
namespace Gs
open PySem PySem.Spec PyProof.Rows L2
abbrev s__law_others_asked : Stmt := top 56
theorem sc__law_others_asked : FnScope ["_law_kind", "_law_which", "_law_more", "_law_days", "_law_bad", "_law_door"] ["_law_kind", "_law_which", "_law_more"] (defScope s__law_others_asked) := ⟨rfl, rfl, rfl, by decide +kernel, rfl, by decide +kernel, by decide +kernel⟩
def so_others (CD CR CL CB : Addr) : Sp := fun vs H _ E => ∃ k wh mo : Int, vs = [.int k, .int wh, .int mo] ∧ 0 ≤ mo ∧
  ((k = 1 ∧ ∀ H', Same H H' → E (.ref CR) none H') ∨ (k = 2 ∧ ∀ H', Same H H' → E (.ref CL) none H') ∨ (k = 3 ∧ ∀ H', Same H H' → E (.ref CB) none H') ∨ (k = 4 ∧ ∀ H', Same H H' → E (.ref CD) none H'))
theorem ite_is {k c : Int} {A B : Prop} (e : k = c) (h : A) : if decide (V.int k = V.int c) = true then A else B := by
  subst e
  rw [if_pos (decide_eq_true rfl)]
  exact h
theorem ite_ne {k c : Int} {A B : Prop} (e : k ≠ c) (h : B) : if decide (V.int k = V.int c) = true then A else B := by
  rw [if_neg (fun z => e (by injection (of_decide_eq_true z)))]
  exact h
theorem deal_no {H : Hp} {v : V} {n c : Nat} (pl : Plain H v) (h : ∀ a xs, v = .ref a → H a ≠ some (.lst xs)) : Rows1 H v ∧ (lenIs n H v && rowsB c H v) = false := by
  obtain ⟨h1, h2⟩ := rows_no (c := c) pl h
  exact ⟨h1, by rw [h2, Bool.and_false]⟩
theorem deal_len {H : Hp} {a : Addr} {xs : List V} {n c : Nat} (h : H a = some (.lst xs)) (hl : xs.length ≤ 1000) (hr : ∀ x ∈ xs, Row1 H x) (hn : xs.length ≠ n) : Rows1 H (.ref a) ∧ (lenIs n H (.ref a) && rowsB c H (.ref a)) = false :=
  ⟨rows_lst h hl hr, by rw [lenIs_at h, decide_eq_false hn, Bool.false_and]⟩
theorem deal_bad {H : Hp} {a : Addr} {xs : List V} {x : V} {n c : Nat} (h : H a = some (.lst xs)) (hl : xs.length ≤ 1000) (hr : ∀ x ∈ xs, Row1 H x) (hx : x ∈ xs) (hb : rowB c H x = false) : Rows1 H (.ref a) ∧ (lenIs n H (.ref a) && rowsB c H (.ref a)) = false :=
  ⟨rows_lst h hl hr, by rw [rows_bad h hx hb, Bool.and_false]⟩
section
variable {P : Program} {w : World} {K : PySem.W.Frag} {mg : Str → Option Value} {base : Heap} {f : Addr} {fd : FuncData}
theorem ok__law_others_asked {CD CR CL CB f1 f2 f3 f4 f5 f6 f7 : Addr} {fd1 fd2 fd3 fd4 fd5 fd6 fd7 : FuncData} (F : Fun K "_law_others_asked" "_law_others_asked" s__law_others_asked f fd)
    (D1 : Def K mg "_law_day" ["_law_which", "_law_more"] f1 fd1) (G1 : FnOk P w K mg base CX0 1 f1 fd1 ["_law_which", "_law_more"] sd_day)
    (D2 : Def K mg "stored" ["days", "dealing"] f2 fd2) (G2 : FnOk P w K mg base (CXr P w) 6 f2 fd2 ["days", "dealing"] (sb_two CD CL))
    (D3 : Def K mg "gained" ["days", "dealing"] f3 fd3) (G3 : FnOk P w K mg base (CXr P w) 6 f3 fd3 ["days", "dealing"] (sb_two CD CL))
    (D4 : Def K mg "barred" ["days", "room", "dealing"] f4 fd4) (G4 : FnOk P w K mg base (CXr P w) 6 f4 fd4 ["days", "room", "dealing"] (sb_barred CD CR CL))
    (D5 : Def K mg "best" ["days", "room"] f5 fd5) (G5 : FnOk P w K mg base (CXr P w) 6 f5 fd5 ["days", "room"] (sb_best CD CR))
    (D6 : Def K mg "most_gain" ["days", "room"] f6 fd6) (G6 : FnOk P w K mg base (CXr P w) 6 f6 fd6 ["days", "room"] (sb_best CD CR))
    (D7 : Def K mg "changed" ["days", "room", "at", "day"] f7 fd7) (G7 : FnOk P w K mg base (CXr P w) 6 f7 fd7 ["days", "room", "at", "day"] (sb_changed CD CR CB)) :
    FnOk P w K mg base (CXr P w) 7 f fd ["_law_kind", "_law_which", "_law_more"] (so_others CD CR CL CB) := by
  replace G1 := G1.mono (show 1 ≤ 6 by decide)
  refine F.okX sc__law_others_asked (fun vs H Q E h => ?_) (fun cdv A outer s H vs Q E hr h => ?_)
  · obtain ⟨k, wh, mo, rfl, _⟩ := h
    rfl
  · obtain ⟨k, wh, mo, rfl, h0, q⟩ := h
    have neg : amt (.int (-1 - mo)) = false := decide_eq_false (by omega)
    refine ⟨_, (pss_cons (ps_set (i := 3) sc__law_others_asked.nd rfl (Or.inl rfl) (pe_lstW (pa_c (pe_tupW (pa_c pe_int (pa_c pe_int (pa_c pe_int (pa_c pe_int pa_nil))))) (pa_c (pe_tupW (pa_c pe_int (pa_c pe_int (pa_c pe_int (pa_c pe_int pa_nil))))) pa_nil))))
    (pss_cons (ps_if (pt_cmpR op_eq (pv 0) pe_int (nomark _))
      (pss_cons (ps_set (i := 4) sc__law_others_asked.nd rfl (Or.inl rfl) (pe_ix ix_list (pe_lstW (pa_c pe_non (pa_c pe_str (pa_c pe_bl (pa_c (pe_lstW (pa_c pe_int pa_nil)) (pa_c (pe_op op_sub (pe_un un_neg pe_int) (pv 2)) (pa_c (pe_tupW (pa_c pe_int pa_nil)) pa_nil))))))) (pe_op op_mod (pv 1) pe_int) (fun _ _ => rfl)))
      (pss_cons (ps_set (i := 5) sc__law_others_asked.nd rfl (Or.inl rfl) (pe_op op_mod (pe_op op_fdiv (pv 1) pe_int) pe_int))
      (pss_cons (ps_if (pt_cmpR op_lt (pv 5) pe_int (nomark _))
        (pss_one (ps_ret (pe_ifExp (pt_cmpR op_eq (pv 5) pe_int (nomark _)) (pe_callC G4 hr rfl D4.m D4.k D4.b .nil pass_cx (pa_c (pv 3) (pa_c (pv 4) (pa_c pe_non pa_nil)))) (pe_callC G5 hr rfl D5.m D5.k D5.b .nil pass_cx (pa_c (pv 3) (pa_c (pv 4) pa_nil))))))
        pss_nil)
      (pss_one (ps_ret (pe_ifExp (pt_cmpR op_eq (pv 5) pe_int (nomark _)) (pe_callC G6 hr rfl D6.m D6.k D6.b .nil pass_cx (pa_c (pv 3) (pa_c (pv 4) pa_nil))) (pe_callC G7 hr rfl D7.m D7.k D7.b .nil pass_cx (pa_c (pv 3) (pa_c (pv 4) (pa_c (pe_un un_neg pe_int) (pa_c pe_non pa_nil)))))))))))
      pss_nil)
    (pss_cons (ps_if (pt_cmpR op_eq (pv 0) pe_int (nomark _))
      (pss_cons (ps_set (i := 4) sc__law_others_asked.nd rfl (Or.inl rfl) (pe_lstW (pa_c pe_non (pa_c (pe_tupW (pa_c (pe_tupW (pa_c pe_int (pa_c pe_int pa_nil))) (pa_c (pe_tupW (pa_c pe_int (pa_c pe_int pa_nil))) pa_nil))) (pa_c pe_str (pa_c (pe_lstW (pa_c (pe_tupW (pa_c pe_int (pa_c pe_int pa_nil))) pa_nil)) (pa_c (pe_op op_repW (pe_lstW (pa_c (pe_tupW (pa_c pe_int (pa_c pe_int pa_nil))) pa_nil)) (pe_op op_add pe_int (pe_op op_mod (pv 2) pe_int))) (pa_c (pe_lstW (pa_c (pe_tupW (pa_c pe_int (pa_c pe_int pa_nil))) (pa_c (pe_tupW (pa_c pe_int pa_nil)) pa_nil))) (pa_c (pe_lstW (pa_c (pe_tupW (pa_c pe_int (pa_c pe_int pa_nil))) (pa_c (pe_lstW (pa_c pe_int (pa_c pe_int pa_nil))) pa_nil))) (pa_c (pe_lstW pa_nil) pa_nil))))))))))
      (pss_cons (ps_set (i := 4) sc__law_others_asked.nd rfl (Or.inl rfl) (pe_op op_catW (pv 4) (pe_lstW (pa_c (pe_lstW (pa_c (pe_tupW (pa_c pe_int (pa_c pe_int pa_nil))) (pa_c (pe_tupW (pa_c (pe_op op_sub (pe_un un_neg pe_int) (pv 2)) (pa_c pe_int pa_nil))) pa_nil))) (pa_c (pe_lstW (pa_c (pe_tupW (pa_c pe_int (pa_c pe_bl pa_nil))) (pa_c (pe_tupW (pa_c pe_int (pa_c pe_int pa_nil))) pa_nil))) (pa_c (pe_lstW (pa_c (pe_tupW (pa_c pe_int (pa_c pe_int pa_nil))) (pa_c (pe_tupW (pa_c pe_int (pa_c pe_str pa_nil))) pa_nil))) (pa_c (pe_lstW (pa_c pe_non (pa_c (pe_tupW (pa_c pe_int (pa_c pe_int pa_nil))) pa_nil))) pa_nil)))))))
      (pss_cons (ps_set (i := 5) sc__law_others_asked.nd rfl (Or.inl rfl) (pe_op op_mod (pe_op op_fdiv (pv 1) pe_int) pe_int))
      (pss_cons (ps_if (pt_cmpR op_lt (pv 5) pe_int (nomark _))
        (pss_one (ps_ret (pe_ifExp (pt_cmpR op_eq (pv 5) pe_int (nomark _)) (pe_callC G2 hr rfl D2.m D2.k D2.b .nil pass_cx (pa_c (pv 3) (pa_c (pe_ix ix_list (pv 4) (pe_op op_mod (pv 1) pe_int) (fun _ _ => rfl)) pa_nil))) (pe_callC G3 hr rfl D3.m D3.k D3.b .nil pass_cx (pa_c (pv 3) (pa_c (pe_ix ix_list (pv 4) (pe_op op_mod (pv 1) pe_int) (fun _ _ => rfl)) pa_nil))))))
        pss_nil)
      (pss_one (ps_ret (pe_callC G4 hr rfl D4.m D4.k D4.b .nil pass_cx (pa_c (pv 3) (pa_c pe_int (pa_c (pe_ix ix_list (pv 4) (pe_op op_mod (pv 1) pe_int) (fun _ _ => rfl)) pa_nil))))))))))
      pss_nil)
    (pss_cons (ps_if (pt_cmpR op_eq (pv 0) pe_int (nomark _))
      (pss_one (ps_ret (pe_callC G7 hr rfl D7.m D7.k D7.b .nil pass_cx (pa_c (pv 3) (pa_c pe_int (pa_c (pe_ix ix_list (pe_lstW (pa_c pe_non (pa_c pe_str (pa_c pe_bl (pa_c (pe_lstW (pa_c pe_int pa_nil)) (pa_c (pe_op op_sub (pe_un un_neg pe_int) (pv 2)) (pa_c (pe_op op_add pe_int (pv 2)) (pa_c (pe_tupW (pa_c pe_int pa_nil)) pa_nil)))))))) (pe_op op_mod (pv 1) pe_int) (fun _ _ => rfl)) (pa_c pe_non pa_nil)))))))
      pss_nil)
    (pss_one (ps_ret (pe_callC G7 hr rfl D7.m D7.k D7.b .nil pass_cx (pa_c (pv 3) (pa_c pe_int (pa_c (pe_op op_mod (pv 1) pe_int) (pa_c (pe_callC G1 hr rfl D1.m D1.k D1.b .nil pass0 (pa_c (pe_op op_fdiv (pv 1) pe_int) (pa_c (pv 2) pa_nil))) pa_nil))))))))))), ?_⟩
    refine ⟨by simp only [List.length_cons, List.length_nil]; decide, fun d1 H_d1 s_d1 e_d1 n_d1 => ?_⟩
    refine ⟨by simp only [List.length_cons, List.length_nil]; decide, fun d2 H_d2 s_d2 e_d2 n_d2 => ?_⟩
    refine ⟨by simp only [List.length_cons, List.length_nil]; decide, fun a H_a s_a e_a n_a => ?_⟩
    have s_0 : Same H H_a := s_d1.trans (s_d2.trans s_a)
    have e_1 := s_a _ _ (s_d2 _ _ e_d1)
    have e_2 := s_a _ _ e_d2
    have rd : Rows1 H_a (.ref a) := rows_lst e_a (by simp) (fun x hx => by
      simp only [List.mem_cons, List.not_mem_nil, or_false] at hx
      rcases hx with rfl | rfl
      · exact row_tup e_1 (by simp) (by simp [Plain])
      · exact row_tup e_2 (by simp) (by simp [Plain]))
    have gd : rowsB 4 H_a (.ref a) = true := by
      rw [rowsB_at e_a]
      simp only [List.all_cons, List.all_nil, rowB_at e_1, rowB_at e_2]
      rfl
    clear e_1 e_2 e_d1 e_d2
    rcases q with ⟨rfl, q⟩ | ⟨rfl, q⟩ | ⟨rfl, q⟩ | ⟨rfl, q⟩
    · refine ⟨_, rfl, rfl, _, rfl, ite_is rfl ?_⟩
      refine ⟨by simp only [List.length_cons, List.length_nil]; decide, fun l1 H_l1 s_l1 e_l1 n_l1 => ?_⟩
      refine ⟨_, rfl, _, rfl, _, _, rfl, rfl, by simp only [List.length_cons, List.length_nil]; decide, fun t1 H_t1 s_t1 e_t1 n_t1 => ?_⟩
      refine ⟨by simp only [List.length_cons, List.length_nil]; decide, fun L6 H_L6 s_L6 e_L6 n_L6 => ?_⟩
      have S_t1 := s_L6
      replace e_t1 := S_t1 _ _ e_t1
      have S_l1 := s_t1.trans S_t1
      replace e_l1 := S_l1 _ _ e_l1
      have sAll := s_l1.trans S_l1
      obtain ⟨j, u, hat, hj⟩ := atmod (xs := [(.non : V), .str "1", .bl true, .ref l1, .int (-1 - mo), .ref t1]) wh (by simp)
      have hu := List.mem_of_getElem? hj
      refine ⟨_, rfl, _, _, rfl, rfl, (by show (0 : Int) < 6; decide), L6, _, _, u, rfl, rfl, SqL.of e_L6, hat, ?_⟩
      have bad : Plain H_L6 u ∧ amt u = false := by
        simp only [List.mem_cons, List.not_mem_nil, or_false] at hu
        rcases hu with rfl | rfl | rfl | rfl | rfl | rfl
        · exact ⟨trivial, rfl⟩
        · exact ⟨trivial, rfl⟩
        · exact ⟨trivial, rfl⟩
        · exact ⟨.inl ⟨_, e_l1⟩, rfl⟩
        · exact ⟨trivial, neg⟩
        · exact ⟨.inr (.inl ⟨_, e_t1⟩), rfl⟩
      have B : Bad2 CR H_L6 E (.ref a) u := ⟨by rw [rowsB_mono sAll rd]; exact gd, bad.1, bad.2, fun H' s' => q H' (s_0.trans (sAll.trans s'))⟩
      have r9 := rd.mono sAll
      refine ⟨_, rfl, _, _, rfl, rfl, ⟨by decide, by decide⟩, _, _, rfl, rfl, (by show (0 : Int) < 4; decide), ?_⟩
      refine ⟨_, rfl, _, _, rfl, rfl, _, rfl, ite2 (fun _ => ?_) (fun _ => ?_)⟩
      · refine ⟨_, rfl, rfl, _, rfl, ite2 (fun _ => ?_) (fun _ => ?_)⟩
        · exact ⟨_, rfl, _, rfl, _, u, .non, rfl, r9, .inr (.inl B)⟩
        · exact ⟨_, rfl, _, rfl, _, u, rfl, r9, .inr B⟩
      · refine ⟨_, rfl, rfl, _, rfl, ite2 (fun _ => ?_) (fun _ => ?_)⟩
        · exact ⟨_, rfl, _, rfl, _, u, rfl, r9, .inr B⟩
        · exact ⟨_, rfl, _, rfl, _, rfl, _, u, _, .non, rfl, r9, .inr (.inl B)⟩
    · refine ⟨_, rfl, rfl, _, rfl, ite_ne (by decide) ?_⟩
      refine ⟨_, rfl, rfl, _, rfl, ite_is rfl ?_⟩
      refine ⟨by simp only [List.length_cons, List.length_nil]; decide, fun b1 H_b1 s_b1 e_b1 n_b1 => ?_⟩
      refine ⟨by simp only [List.length_cons, List.length_nil]; decide, fun b2 H_b2 s_b2 e_b2 n_b2 => ?_⟩
      refine ⟨by simp only [List.length_cons, List.length_nil]; decide, fun b3 H_b3 s_b3 e_b3 n_b3 => ?_⟩
      refine ⟨by simp only [List.length_cons, List.length_nil]; decide, fun b4 H_b4 s_b4 e_b4 n_b4 => ?_⟩
      refine ⟨by simp only [List.length_cons, List.length_nil]; decide, fun b5 H_b5 s_b5 e_b5 n_b5 => ?_⟩
      refine ⟨by simp only [List.length_cons, List.length_nil]; decide, fun b6 H_b6 s_b6 e_b6 n_b6 => ?_⟩
      refine ⟨by simp only [List.length_cons, List.length_nil]; decide, fun b7 H_b7 s_b7 e_b7 n_b7 => ?_⟩
      have hm : 0 ≤ mo % 5 ∧ mo % 5 < 5 := by omega
      refine ⟨_, rfl, _, _, rfl, rfl, (by show (0 : Int) < 5; decide), _, _, rfl, rfl, b7, 3 + mo % 5, _, rfl, rfl, e_b7, by omega, by omega, small1 (by simp only [List.length_cons, List.length_nil]; omega), fun b8 H_b8 s_b8 e_b8 n_b8 => ?_⟩
      refine ⟨by simp only [List.length_cons, List.length_nil]; decide, fun b9 H_b9 s_b9 e_b9 n_b9 => ?_⟩
      refine ⟨by simp only [List.length_cons, List.length_nil]; decide, fun b10 H_b10 s_b10 e_b10 n_b10 => ?_⟩
      refine ⟨by simp only [List.length_cons, List.length_nil]; decide, fun b11 H_b11 s_b11 e_b11 n_b11 => ?_⟩
      refine ⟨by simp only [List.length_cons, List.length_nil]; decide, fun b12 H_b12 s_b12 e_b12 n_b12 => ?_⟩
      refine ⟨by simp only [List.length_cons, List.length_nil]; decide, fun b13 H_b13 s_b13 e_b13 n_b13 => ?_⟩
      refine ⟨by simp only [List.length_cons, List.length_nil]; decide, fun b14 H_b14 s_b14 e_b14 n_b14 => ?_⟩
      refine ⟨by simp only [List.length_cons, List.length_nil]; decide, fun b15 H_b15 s_b15 e_b15 n_b15 => ?_⟩
      refine ⟨by simp only [List.length_cons, List.length_nil]; decide, fun L8 H_L8 s_L8 e_L8 n_L8 => ?_⟩
      refine ⟨_, rfl, ?_⟩
      refine ⟨by simp only [List.length_cons, List.length_nil]; decide, fun g1 H_g1 s_g1 e_g1 n_g1 => ?_⟩
      refine ⟨_, rfl, _, rfl, _, _, rfl, rfl, by simp only [List.length_cons, List.length_nil]; decide, fun g2 H_g2 s_g2 e_g2 n_g2 => ?_⟩
      refine ⟨by simp only [List.length_cons, List.length_nil]; decide, fun g3 H_g3 s_g3 e_g3 n_g3 => ?_⟩
      refine ⟨by simp only [List.length_cons, List.length_nil]; decide, fun g4 H_g4 s_g4 e_g4 n_g4 => ?_⟩
      refine ⟨by simp only [List.length_cons, List.length_nil]; decide, fun g5 H_g5 s_g5 e_g5 n_g5 => ?_⟩
      refine ⟨by simp only [List.length_cons, List.length_nil]; decide, fun g6 H_g6 s_g6 e_g6 n_g6 => ?_⟩
      refine ⟨by simp only [List.length_cons, List.length_nil]; decide, fun g7 H_g7 s_g7 e_g7 n_g7 => ?_⟩
      refine ⟨by simp only [List.length_cons, List.length_nil]; decide, fun g8 H_g8 s_g8 e_g8 n_g8 => ?_⟩
      refine ⟨by simp only [List.length_cons, List.length_nil]; decide, fun g9 H_g9 s_g9 e_g9 n_g9 => ?_⟩
      refine ⟨by simp only [List.length_cons, List.length_nil]; decide, fun g10 H_g10 s_g10 e_g10 n_g10 => ?_⟩
      refine ⟨by simp only [List.length_cons, List.length_nil]; decide, fun g11 H_g11 s_g11 e_g11 n_g11 => ?_⟩
      refine ⟨by simp only [List.length_cons, List.length_nil]; decide, fun L4 H_L4 s_L4 e_L4 n_L4 => ?_⟩
      have eL8 : H_L4 L8 = some _ := s_L4 _ _ (s_g11 _ _ (s_g10 _ _ (s_g9 _ _ (s_g8 _ _ (s_g7 _ _ (s_g6 _ _ (s_g5 _ _ (s_g4 _ _ (s_g3 _ _ (s_g2 _ _ (s_g1 _ _ e_L8)))))))))))
      refine ⟨L8, L4, _, _, rfl, rfl, eL8, e_L4, (by simp only [List.length_cons, List.length_nil]; decide), fun L12 H_L12 s_L12 e_L12 n_L12 => ?_⟩
      have S_L4 := s_L12
      replace e_L4 := S_L4 _ _ e_L4
      have S_g11 := s_L4.trans S_L4
      replace e_g11 := S_g11 _ _ e_g11
      have S_g10 := s_g11.trans S_g11
      replace e_g10 := S_g10 _ _ e_g10
      have S_g9 := s_g10.trans S_g10
      replace e_g9 := S_g9 _ _ e_g9
      have S_g8 := s_g9.trans S_g9
      replace e_g8 := S_g8 _ _ e_g8
      have S_g7 := s_g8.trans S_g8
      replace e_g7 := S_g7 _ _ e_g7
      have S_g6 := s_g7.trans S_g7
      replace e_g6 := S_g6 _ _ e_g6
      have S_g5 := s_g6.trans S_g6
      replace e_g5 := S_g5 _ _ e_g5
      have S_g4 := s_g5.trans S_g5
      replace e_g4 := S_g4 _ _ e_g4
      have S_g3 := s_g4.trans S_g4
      replace e_g3 := S_g3 _ _ e_g3
      have S_g2 := s_g3.trans S_g3
      replace e_g2 := S_g2 _ _ e_g2
      have S_g1 := s_g2.trans S_g2
      replace e_g1 := S_g1 _ _ e_g1
      have S_L8 := s_g1.trans S_g1
      replace e_L8 := S_L8 _ _ e_L8
      have S_b15 := s_L8.trans S_L8
      replace e_b15 := S_b15 _ _ e_b15
      have S_b14 := s_b15.trans S_b15
      replace e_b14 := S_b14 _ _ e_b14
      have S_b13 := s_b14.trans S_b14
      replace e_b13 := S_b13 _ _ e_b13
      have S_b12 := s_b13.trans S_b13
      replace e_b12 := S_b12 _ _ e_b12
      have S_b11 := s_b12.trans S_b12
      replace e_b11 := S_b11 _ _ e_b11
      have S_b10 := s_b11.trans S_b11
      replace e_b10 := S_b10 _ _ e_b10
      have S_b9 := s_b10.trans S_b10
      replace e_b9 := S_b9 _ _ e_b9
      have S_b8 := s_b9.trans S_b9
      replace e_b8 := S_b8 _ _ e_b8
      have S_b7 := s_b8.trans S_b8
      replace e_b7 := S_b7 _ _ e_b7
      have S_b6 := s_b7.trans S_b7
      replace e_b6 := S_b6 _ _ e_b6
      have S_b5 := s_b6.trans S_b6
      replace e_b5 := S_b5 _ _ e_b5
      have S_b4 := s_b5.trans S_b5
      replace e_b4 := S_b4 _ _ e_b4
      have S_b3 := s_b4.trans S_b4
      replace e_b3 := S_b3 _ _ e_b3
      have S_b2 := s_b3.trans S_b3
      replace e_b2 := S_b2 _ _ e_b2
      have S_b1 := s_b2.trans S_b2
      replace e_b1 := S_b1 _ _ e_b1
      have sAll := s_b1.trans S_b1
      clear eL8
      obtain ⟨j, u, hat, hj⟩ := atmod (xs := [(.non : V), .ref b3, .str "0", .ref b5, .ref b8, .ref b11, .ref b14, .ref b15, .ref g3, .ref g6, .ref g9, .ref g11]) wh (by simp)
      have hu := List.mem_of_getElem? hj
      have Z : ∀ {t : Addr}, H_L12 t = some (.tup [.int 0, .int 0]) → Row1 H_L12 (.ref t) := fun e => row_tup e (by simp) (by simp [Plain])
      have bad : Rows1 H_L12 u ∧ (lenIs 2 H_L12 u && rowsB 2 H_L12 u) = false := by
        simp only [List.mem_cons, List.not_mem_nil, or_false] at hu
        rcases hu with rfl | rfl | rfl | rfl | rfl | rfl | rfl | rfl | rfl | rfl | rfl | rfl
        · exact deal_no trivial (fun a xs e => by cases e)
        · refine deal_no (.inr (.inl ⟨_, e_b3⟩)) (fun a xs z y => ?_)
          cases z
          rw [e_b3] at y
          cases y
        · exact deal_no trivial (fun a xs e => by cases e)
        · exact deal_len e_b5 (by simp) (by simp; exact Z e_b4) (by simp)
        · refine deal_len e_b8 ?_ (fun x hx => ?_) ?_
          · rw [len_rep]
            simp only [List.length_cons, List.length_nil]
            omega
          · have e : x = .ref b6 := by
              simp only [List.mem_flatten, List.mem_replicate] at hx
              obtain ⟨l, ⟨_, rfl⟩, hx⟩ := hx
              simpa using hx
            subst e
            exact Z e_b6
          · rw [len_rep]
            simp only [List.length_cons, List.length_nil]
            omega
        · have r : Row1 H_L12 (.ref b10) ∧ rowB 2 H_L12 (.ref b10) = false := bad_tup e_b10 (by simp) (by simp [Plain]) rfl
          exact deal_bad (x := .ref b10) e_b11 (by simp) (by simp; exact ⟨Z e_b9, r.1⟩) (by simp) r.2
        · have r : Row1 H_L12 (.ref b13) ∧ rowB 2 H_L12 (.ref b13) = false := bad_lst e_b13
          exact deal_bad (x := .ref b13) e_b14 (by simp) (by simp; exact ⟨Z e_b12, r.1⟩) (by simp) r.2
        · exact deal_len e_b15 (by simp) (by simp) (by simp)
        · have r : Row1 H_L12 (.ref g2) ∧ rowB 2 H_L12 (.ref g2) = false := bad_tup e_g2 (by simp) (by simp [Plain]) (by simp [neg])
          exact deal_bad (x := .ref g2) e_g3 (by simp) (by simp; exact ⟨Z e_g1, r.1⟩) (by simp) r.2
        · have r : Row1 H_L12 (.ref g4) ∧ rowB 2 H_L12 (.ref g4) = false := bad_tup e_g4 (by simp) (by simp [Plain]) rfl
          exact deal_bad (x := .ref g4) e_g6 (by simp) (by simp; exact ⟨r.1, Z e_g5⟩) (by simp) r.2
        · have r : Row1 H_L12 (.ref g8) ∧ rowB 2 H_L12 (.ref g8) = false := bad_tup e_g8 (by simp) (by simp [Plain]) rfl
          exact deal_bad (x := .ref g8) e_g9 (by simp) (by simp; exact ⟨Z e_g7, r.1⟩) (by simp) r.2
        · have r : Row1 H_L12 .non ∧ rowB 2 H_L12 .non = false := bad_non
          exact deal_bad (x := .non) e_g11 (by simp) (by simp; exact ⟨r.1, Z e_g10⟩) (by simp) r.2
      have B : BadL CL H_L12 E (.ref a) u := ⟨by rw [rowsB_mono sAll rd]; exact gd, a, _, rfl, sAll _ _ e_a, bad.1, bad.2, fun H' s' => q H' (s_0.trans (sAll.trans s'))⟩
      have r9 := rd.mono sAll
      refine ⟨_, rfl, _, _, rfl, rfl, ⟨by decide, by decide⟩, _, _, rfl, rfl, (by show (0 : Int) < 3; decide), ?_⟩
      refine ⟨_, rfl, _, _, rfl, rfl, _, rfl, ite2 (fun _ => ?_) (fun _ => ?_)⟩
      · refine ⟨_, rfl, rfl, _, rfl, ite2 (fun _ => ?_) (fun _ => ?_)⟩
        · exact ⟨_, rfl, _, rfl, _, rfl, _, _, rfl, rfl, (by show (0 : Int) < 12; decide), L12, _, _, u, rfl, rfl, SqL.of e_L12, hat, _, u, rfl, r9, .inr B⟩
        · exact ⟨_, rfl, _, rfl, _, rfl, _, _, rfl, rfl, (by show (0 : Int) < 12; decide), L12, _, _, u, rfl, rfl, SqL.of e_L12, hat, _, u, rfl, r9, .inr B⟩
      · exact ⟨_, rfl, _, rfl, _, rfl, _, _, rfl, rfl, (by show (0 : Int) < 12; decide), L12, _, _, u, rfl, rfl, SqL.of e_L12, hat, _, _, u, rfl, r9, .inr (.inr ⟨trivial, rfl, B⟩)⟩
    · refine ⟨_, rfl, rfl, _, rfl, ite_ne (by decide) ?_⟩
      refine ⟨_, rfl, rfl, _, rfl, ite_ne (by decide) ?_⟩
      refine ⟨_, rfl, rfl, _, rfl, ite_is rfl ?_⟩
      refine ⟨_, rfl, ?_⟩
      refine ⟨by simp only [List.length_cons, List.length_nil]; decide, fun l1 H_l1 s_l1 e_l1 n_l1 => ?_⟩
      refine ⟨_, rfl, _, rfl, _, _, rfl, rfl, _, rfl, _, _, rfl, rfl, by simp only [List.length_cons, List.length_nil]; decide, fun t1 H_t1 s_t1 e_t1 n_t1 => ?_⟩
      refine ⟨by simp only [List.length_cons, List.length_nil]; decide, fun L7 H_L7 s_L7 e_L7 n_L7 => ?_⟩
      have S_t1 := s_L7
      replace e_t1 := S_t1 _ _ e_t1
      have S_l1 := s_t1.trans S_t1
      replace e_l1 := S_l1 _ _ e_l1
      have sAll := s_l1.trans S_l1
      obtain ⟨j, u, hat, hj⟩ := atmod (xs := [(.non : V), .str "0", .bl true, .ref l1, .int (-1 - mo), .int (2 + mo), .ref t1]) wh (by simp)
      have hu := List.mem_of_getElem? hj
      have bad : Plain H_L7 u ∧ cntB 2 u = false := by
        simp only [List.mem_cons, List.not_mem_nil, or_false] at hu
        rcases hu with rfl | rfl | rfl | rfl | rfl | rfl | rfl
        · exact ⟨trivial, rfl⟩
        · exact ⟨trivial, rfl⟩
        · exact ⟨trivial, rfl⟩
        · exact ⟨.inl ⟨_, e_l1⟩, rfl⟩
        · refine ⟨trivial, ?_⟩
          show (decide (0 ≤ -1 - mo) && decide (-1 - mo < 2)) = false
          rw [decide_eq_false (by omega), Bool.false_and]
        · refine ⟨trivial, ?_⟩
          show (decide (0 ≤ 2 + mo) && decide (2 + mo < 2)) = false
          rw [show decide (2 + mo < 2) = false from decide_eq_false (by omega), Bool.and_false]
        · exact ⟨.inr (.inl ⟨_, e_t1⟩), rfl⟩
      have B : BadC CB H_L7 E (.ref a) u := ⟨by rw [rowsB_mono sAll rd]; exact gd, a, _, rfl, sAll _ _ e_a, bad.1, bad.2, fun H' s' => q H' (s_0.trans (sAll.trans s'))⟩
      exact ⟨_, rfl, _, _, rfl, rfl, (by show (0 : Int) < 7; decide), L7, _, _, u, rfl, rfl, SqL.of e_L7, hat, _, _, u, .non, rfl, rd.mono sAll, .inr (.inr ⟨trivial, rfl, .inl B⟩)⟩
    · refine ⟨_, rfl, rfl, _, rfl, ite_ne (by decide) ?_⟩
      refine ⟨_, rfl, rfl, _, rfl, ite_ne (by decide) ?_⟩
      refine ⟨_, rfl, rfl, _, rfl, ite_ne (by decide) ?_⟩
      refine ⟨_, rfl, _, rfl, _, _, rfl, rfl, (by show (0 : Int) < 2; decide), ?_⟩
      refine ⟨_, rfl, _, _, rfl, rfl, ⟨by decide, by decide⟩, _, rfl, wh / 2, mo, rfl, h0, fun v Hv s_v r1 rb => ?_⟩
      have hm : 0 ≤ wh % 2 ∧ wh % 2 < 2 := by omega
      have B : BadO CD Hv E (.ref a) (.int (wh % 2)) v := ⟨by rw [rowsB_mono s_v rd]; exact gd, a, _, rfl, s_v _ _ e_a, trivial, by
        show (decide (0 ≤ wh % 2) && decide (wh % 2 < 2)) = true
        rw [decide_eq_true hm.1, decide_eq_true hm.2]
        rfl, r1, rb, fun H' s' => q H' (s_0.trans (s_v.trans s'))⟩
      exact ⟨_, _, _, v, rfl, rd.mono s_v, .inr (.inr ⟨trivial, rfl, .inr B⟩)⟩
end
end Gs
unseal PySem.wpAny
set_option maxHeartbeats 8000000
/-! Of which classes a refusal is. -/
seal PySem.wpAny
namespace Gs
open PySem PySem.Spec PyProof.Rows L2
/-- isinstance(e, c), e the exception that is handled -/
theorem call_isiE {X : Cx} {a : Addr} {ob : Obj} (hp : (a, ob) ∈ X.pn) :
    CallR X (.builtin "isinstance") (fun xs H Q => ∃ C y b, ob.cls = .ref C ∧ ExcI X.K C ∧ xs = [.ref a, y] ∧ ((∃ c, y = .ref c ∧ PySem.W.kitOne X.K (.ref C) (.ref c) = some b) ∨ ∃ n, y = .ty n ∧ PySem.W.kitOne X.K (.ref C) (.type n) = some b) ∧ Q (.bl b) H) := by
  intro pins s σ H xs us Q I r h
  obtain ⟨C, y, b, hc, x, rfl, e, q⟩ := h
  rcases e with ⟨c, rfl, e⟩ | ⟨n, rfl, e⟩
  · exact call_isiX (x := x) hp hc pins s σ H _ us Q I r ⟨_, c, b, rfl, .inl ⟨rfl, e⟩, q⟩
  · exact call_isiX (x := x) hp hc pins s σ H _ us Q I r ⟨_, 0, b, rfl, .inr ⟨n, rfl, e⟩, q⟩
/-- the error classes of the text, and what isinstance answers of them -/
structure Kit (K : PySem.W.Frag) (CG CD CR CL CB : Addr) : Prop where
  iD : ExcI K CD
  iR : ExcI K CR
  iL : ExcI K CL
  iB : ExcI K CB
  gD : PySem.W.mroIn K CD (.ref CG) = some true
  gR : PySem.W.mroIn K CR (.ref CG) = some true
  gL : PySem.W.mroIn K CL (.ref CG) = some true
  gB : PySem.W.mroIn K CB (.ref CG) = some true
  dd : PySem.W.kitOne K (.ref CD) (.ref CD) = some true
  dr : PySem.W.kitOne K (.ref CD) (.ref CR) = some false
  dl : PySem.W.kitOne K (.ref CD) (.ref CL) = some false
  db : PySem.W.kitOne K (.ref CD) (.ref CB) = some false
  rd : PySem.W.kitOne K (.ref CR) (.ref CD) = some false
  rr : PySem.W.kitOne K (.ref CR) (.ref CR) = some true
  rl : PySem.W.kitOne K (.ref CR) (.ref CL) = some false
  rb : PySem.W.kitOne K (.ref CR) (.ref CB) = some false
  ld : PySem.W.kitOne K (.ref CL) (.ref CD) = some false
  lr : PySem.W.kitOne K (.ref CL) (.ref CR) = some false
  ll : PySem.W.kitOne K (.ref CL) (.ref CL) = some true
  lb : PySem.W.kitOne K (.ref CL) (.ref CB) = some false
  bd : PySem.W.kitOne K (.ref CB) (.ref CD) = some false
  br : PySem.W.kitOne K (.ref CB) (.ref CR) = some false
  bl : PySem.W.kitOne K (.ref CB) (.ref CL) = some false
  bb : PySem.W.kitOne K (.ref CB) (.ref CB) = some true
  vd : PySem.W.kitOne K (.ref CD) (.type "ValueError") = some true
  vr : PySem.W.kitOne K (.ref CR) (.type "ValueError") = some true
  vl : PySem.W.kitOne K (.ref CL) (.type "ValueError") = some true
  vb : PySem.W.kitOne K (.ref CB) (.type "ValueError") = some true
/-- the class that is due, and the row of answers -/
def clsOf (CD CR CL CB : Addr) (k : Int) : Addr := if k = 1 then CR else if k = 2 then CL else if k = 3 then CB else CD
def dueOf (k : Int) : List V := [.bl (decide (k = 0) || decide (k = 4)), .bl (decide (k = 1)), .bl (decide (k = 2)), .bl (decide (k = 3)), .bl true]
structure Ans (K : PySem.W.Frag) (CG CD CR CL CB C : Addr) (k : Int) : Prop where
  i : ExcI K C
  g : PySem.W.mroIn K C (.ref CG) = some true
  d : PySem.W.kitOne K (.ref C) (.ref CD) = some (decide (k = 0) || decide (k = 4))
  r : PySem.W.kitOne K (.ref C) (.ref CR) = some (decide (k = 1))
  l : PySem.W.kitOne K (.ref C) (.ref CL) = some (decide (k = 2))
  b : PySem.W.kitOne K (.ref C) (.ref CB) = some (decide (k = 3))
  v : PySem.W.kitOne K (.ref C) (.type "ValueError") = some true
theorem Kit.ans {K : PySem.W.Frag} {CG CD CR CL CB : Addr} (t : Kit K CG CD CR CL CB) {k : Int} (h0 : 0 ≤ k) (h5 : k < 5) : Ans K CG CD CR CL CB (clsOf CD CR CL CB k) k := by
  have h : k = 0 ∨ k = 1 ∨ k = 2 ∨ k = 3 ∨ k = 4 := by omega
  rcases h with rfl | rfl | rfl | rfl | rfl
  · exact ⟨t.iD, t.gD, t.dd, t.dr, t.dl, t.db, t.vd⟩
  · exact ⟨t.iR, t.gR, t.rd, t.rr, t.rl, t.rb, t.vr⟩
  · exact ⟨t.iL, t.gL, t.ld, t.lr, t.ll, t.lb, t.vl⟩
  · exact ⟨t.iB, t.gB, t.bd, t.br, t.bl, t.bb, t.vb⟩
  · exact ⟨t.iD, t.gD, t.dd, t.dr, t.dl, t.db, t.vd⟩
abbrev s__law_told : Stmt := top 57
theorem sc__law_told : FnScope ["_law_kind", "_law_which", "_law_more", "error", "_law_found"] ["_law_kind", "_law_which", "_law_more"] (defScope s__law_told) := ⟨rfl, rfl, rfl, by decide +kernel, rfl, by decide +kernel, by decide +kernel⟩
def st_told : Sp := fun vs H Q _ => ∃ k wh mo : Int, vs = [.int k, .int wh, .int mo] ∧ 0 ≤ k ∧ k < 5 ∧ 0 ≤ mo ∧ ∀ p H', Same H H' → H' p = some (.lst (dueOf k)) → Q (.ref p) H'
theorem boot_VE : bootBuiltins "ValueError" = some (.type "ValueError") := by decide +kernel
section
variable {P : Program} {w : World} {K : PySem.W.Frag} {mg : Str → Option Value} {base : Heap} {f : Addr} {fd : FuncData}
theorem ok__law_told {CG CD CR CL CB f1 f2 : Addr} {fd1 fd2 : FuncData} (F : Fun K "_law_told" "_law_told" s__law_told f fd) (T : Txt mg) (nVE : mg "ValueError" = none)
    (XG : ExcC K mg "GrainError" CG) (XD : ExcC K mg "BadDays" CD) (XR : ExcC K mg "BadRoom" CR) (XL : ExcC K mg "BadDealing" CL) (XB : ExcC K mg "BadDay" CB) (t : Kit K CG CD CR CL CB)
    (D1 : Def K mg "_law_days_asked" ["_law_which", "_law_more"] f1 fd1) (G1 : FnOk P w K mg base (CXr P w) 7 f1 fd1 ["_law_which", "_law_more"] (sd_days CD))
    (D2 : Def K mg "_law_others_asked" ["_law_kind", "_law_which", "_law_more"] f2 fd2) (G2 : FnOk P w K mg base (CXr P w) 7 f2 fd2 ["_law_kind", "_law_which", "_law_more"] (so_others CD CR CL CB)) :
    FnOk P w K mg base CX0 8 f fd ["_law_kind", "_law_which", "_law_more"] st_told := by
  refine F.ok sc__law_told (fun vs H Q E h => ?_) (fun cdv A outer s H vs Q E hr h => ?_)
  · obtain ⟨k, wh, mo, rfl, _⟩ := h
    rfl
  · obtain ⟨k, wh, mo, rfl, k0, k5, h0, q⟩ := h
    have an := t.ans k0 k5
    refine' ⟨_, (pss_cons (ps_try (i := 3) (E := fun c _ H' => Same H H' ∧ c = .ref (clsOf CD CR CL CB k)) rfl rfl rfl XG sc__law_told.nd rfl rfl ?body ?suite)
    (pss_one (ps_ret (pe_lstW pa_nil)))), ?_⟩
    case body =>
      exact fun pins => (pss_one (ps_if (pt_cmpR op_eq (pv 0) pe_int (nomark _))
        (pss_one (ps_expr (pe_callC G1 hr rfl D1.m D1.k D1.b .nil pass_try (pa_c (pv 1) (pa_c (pv 2) pa_nil)))))
        (pss_one (ps_expr (pe_callC G2 hr rfl D2.m D2.k D2.b .nil pass_try (pa_c (pv 0) (pa_c (pv 1) (pa_c (pv 2) pa_nil))))))))
    case suite =>
      exact fun a ob => (pss_cons (ps_set (i := 4) sc__law_told.nd rfl (Or.inl rfl) (pe_lstW
          (pa_c (pe_callBC (call_isiE (a := a) (ob := ob) (List.mem_append_right _ (List.mem_singleton.mpr rfl))) rfl T.n_isinstance boot_isinstance (pa_c (pv 3) (pa_c (pe_glob (v := .ref CD) rfl XD.m rfl) pa_nil)))
          (pa_c (pe_callBC (call_isiE (a := a) (ob := ob) (List.mem_append_right _ (List.mem_singleton.mpr rfl))) rfl T.n_isinstance boot_isinstance (pa_c (pv 3) (pa_c (pe_glob (v := .ref CR) rfl XR.m rfl) pa_nil)))
          (pa_c (pe_callBC (call_isiE (a := a) (ob := ob) (List.mem_append_right _ (List.mem_singleton.mpr rfl))) rfl T.n_isinstance boot_isinstance (pa_c (pv 3) (pa_c (pe_glob (v := .ref CL) rfl XL.m rfl) pa_nil))) pa_nil)))))
        (pss_one (ps_ret (pe_op op_catW (pv 4) (pe_lstW
          (pa_c (pe_callBC (call_isiE (a := a) (ob := ob) (List.mem_append_right _ (List.mem_singleton.mpr rfl))) rfl T.n_isinstance boot_isinstance (pa_c (pv 3) (pa_c (pe_glob (v := .ref CB) rfl XB.m rfl) pa_nil)))
          (pa_c (pe_callBC (call_isiE (a := a) (ob := ob) (List.mem_append_right _ (List.mem_singleton.mpr rfl))) rfl T.n_isinstance boot_isinstance (pa_c (pv 3) (pa_c (pe_bltn (v := .ty "ValueError") rfl nVE boot_VE rfl) pa_nil))) pa_nil)))))))
    refine ⟨?_, fun a ob C H' hc hn he => ?_⟩
    · refine ⟨_, rfl, rfl, _, rfl, ite2 (fun hk => ?_) (fun hk => ?_)⟩
      · have e : k = 0 := by injection (of_decide_eq_true hk)
        subst e
        exact ⟨_, rfl, _, rfl, wh, mo, rfl, h0, fun H' s' => ⟨s', rfl⟩⟩
      · have e : k ≠ 0 := fun z => hk (by rw [z]; exact decide_eq_true rfl)
        refine ⟨_, rfl, _, rfl, _, rfl, k, wh, mo, rfl, h0, ?_⟩
        have h : k = 1 ∨ k = 2 ∨ k = 3 ∨ k = 4 := by omega
        rcases h with rfl | rfl | rfl | rfl
        · exact .inl ⟨rfl, fun H' s' => ⟨s', rfl⟩⟩
        · exact .inr (.inl ⟨rfl, fun H' s' => ⟨s', rfl⟩⟩)
        · exact .inr (.inr (.inl ⟨rfl, fun H' s' => ⟨s', rfl⟩⟩))
        · exact .inr (.inr (.inr ⟨rfl, fun H' s' => ⟨s', rfl⟩⟩))
    · obtain ⟨s1, e⟩ := he
      have eC : C = clsOf CD CR CL CB k := by injection e
      rw [← eC] at an
      refine ⟨an.g, ?_⟩
      refine ⟨_, rfl, C, _, _, hc, an.i, rfl, .inl ⟨_, rfl, an.d⟩, ?_⟩
      refine ⟨_, rfl, C, _, _, hc, an.i, rfl, .inl ⟨_, rfl, an.r⟩, ?_⟩
      refine ⟨_, rfl, C, _, _, hc, an.i, rfl, .inl ⟨_, rfl, an.l⟩, ?_⟩
      refine ⟨by simp only [List.length_cons, List.length_nil]; decide, fun p1 H1 s_1 e_1 n_1 => ?_⟩
      refine ⟨_, rfl, ?_⟩
      refine ⟨_, rfl, C, _, _, hc, an.i, rfl, .inl ⟨_, rfl, an.b⟩, ?_⟩
      refine ⟨_, rfl, C, _, _, hc, an.i, rfl, .inr ⟨_, rfl, an.v⟩, ?_⟩
      refine ⟨by simp only [List.length_cons, List.length_nil]; decide, fun p2 H2 s_2 e_2 n_2 => ?_⟩
      refine ⟨p1, p2, _, _, rfl, rfl, s_2 _ _ e_1, e_2, (by simp only [List.length_cons, List.length_nil]; decide), fun p3 H3 s_3 e_3 n_3 => ?_⟩
      exact q p3 H3 (s1.trans (s_1.trans (s_2.trans s_3))) e_3
end
end Gs
unseal PySem.wpAny
set_option maxHeartbeats 8000000
/-! The law of refusals. -/
seal PySem.wpAny
namespace Gs
open PySem PySem.Spec PyProof.Rows L2
abbrev s_law : Stmt := top 58
theorem sc_law : FnScope ["_law_script", "_law_cell", "_law_kind", "_law_due"] ["_law_script"] (defScope s_law) := ⟨rfl, rfl, rfl, by decide +kernel, rfl, by decide +kernel, by decide +kernel⟩
def sp_law (K : PySem.W.Frag) : Sp := fun vs H Q _ => ∃ (a : Addr) (ns : List Int), vs = [.ref a] ∧ SqL K H a (ns.map V.int) ∧ ns.length ≤ 63 ∧ ∀ H', Q (.bl true) H'
theorem due_eq {k : Int} (h0 : 0 ≤ k) (h5 : k < 5) : [V.bl (inV (.int k) [.int 0, .int 4]), .bl (decide (V.int k = V.int 1)), .bl (decide (V.int k = V.int 2)), .bl (decide (V.int k = V.int 3)), .bl true] = dueOf k := by
  have h : k = 0 ∨ k = 1 ∨ k = 2 ∨ k = 3 ∨ k = 4 := by omega
  rcases h with rfl | rfl | rfl | rfl | rfl <;> decide
theorem row1 {H : Hp} {l t : Addr} {r : Row} {vs : List V} (e : r.map V.int = vs) (hl : H l = some (.lst [.ref t])) (ht : H t = some (.tup vs)) : RowsAt H l [r] := by
  subst e
  refine ⟨[.ref t], hl, rfl, fun i v q h1 h2 => ?_⟩
  cases i with
  | zero =>
    cases h1
    cases h2
    exact ⟨t, rfl, ht⟩
  | succ i => simp at h1
theorem gone {n : Nat} {r : Row} (h : Good n r) : ∀ x ∈ [r], Good n x := fun x hx => by
  have e : x = r := by simpa using hx
  subst e
  exact h
section
variable {P : Program} {w : World} {K : PySem.W.Frag} {mg : Str → Option Value} {base : Heap} {f : Addr} {fd : FuncData}
theorem ok_law {f1 f2 f3 : Addr} {fd1 fd2 fd3 : FuncData} (F : Fun K "law" "law" s_law f fd)
    (D1 : Def K mg "_law_told" ["_law_kind", "_law_which", "_law_more"] f1 fd1) (G1 : FnOk P w K mg base CX0 8 f1 fd1 ["_law_kind", "_law_which", "_law_more"] st_told)
    (D2 : Def K mg "barred" ["days", "room", "dealing"] f2 fd2) (G2 : FnOk P w K mg base CX0 5 f2 fd2 ["days", "room", "dealing"] sp_barred)
    (D3 : Def K mg "stored" ["days", "dealing"] f3 fd3) (G3 : FnOk P w K mg base CX0 5 f3 fd3 ["days", "dealing"] sp_stored) :
    FnOk P w K mg base CX0 9 f fd ["_law_script"] (sp_law K) := by
  replace G2 := G2.mono (show 5 ≤ 8 by decide)
  replace G3 := G3.mono (show 5 ≤ 8 by decide)
  refine F.ok sc_law (fun vs H Q E h => ?_) (fun cdv A outer s H vs Q E hr h => ?_)
  · obtain ⟨a, ns, rfl, _⟩ := h
    rfl
  · obtain ⟨a, ns, rfl, hS, h63, q⟩ := h
    have hu8 : (A.deeper (envOfC "law" (defScope s_law) s.heap.objs.size f cdv)).units + 8 < cLine := by have := hr.units; omega
    refine ⟨_, (pss_cons (ps_for PassesOwn.never rfl (pi_list (pv 0)) (pg_name (i := 1) sc_law.nd rfl (Or.inl rfl))
      (pss_cons (ps_set (i := 2) sc_law.nd rfl (Or.inl rfl) (pe_op op_mod (pv 1) pe_int))
      (pss_cons (ps_set (i := 3) sc_law.nd rfl (Or.inl rfl) (pe_lstW (pa_c (pe_cmpR op_in_seq (pv 2) (pe_lstW (pa_c pe_int (pa_c pe_int pa_nil))) (by with_unfolding_all rfl)) (pa_c (pe_cmpR op_eq (pv 2) pe_int (nomark _)) (pa_c (pe_cmpR op_eq (pv 2) pe_int (nomark _)) (pa_c (pe_cmpR op_eq (pv 2) pe_int (nomark _)) (pa_c pe_bl pa_nil)))))))
      (pss_one (ps_if (pt_cmpR (op_neD hu8) (pe_callC G1 hr rfl D1.m D1.k D1.b .nil pass0 (pa_c (pv 2) (pa_c (pe_op op_mod (pe_op op_fdiv (pv 1) pe_int) pe_int) (pa_c (pe_op op_mod (pe_op op_fdiv (pv 1) pe_int) pe_int) pa_nil)))) (pv 3) (nomark _))
        (pss_one (ps_ret pe_bl))
        pss_nil)))))
    (pss_cons (ps_if (PW.pt (pw_or (pt_cmpR op_ne (pe_callC G2 hr rfl D2.m D2.k D2.b .nil pass0 (pa_c (pe_lstW (pa_c (pe_tupW (pa_c pe_int (pa_c pe_int (pa_c pe_int (pa_c pe_int pa_nil))))) pa_nil)) (pa_c pe_int (pa_c (pe_lstW (pa_c (pe_tupW (pa_c pe_int (pa_c pe_int pa_nil))) pa_nil)) pa_nil)))) pe_int (nomark _)) (pw_or1 (pt_cmpR op_ne (pe_callC G2 hr rfl D2.m D2.k D2.b .nil pass0 (pa_c (pe_lstW (pa_c (pe_tupW (pa_c pe_int (pa_c pe_int (pa_c pe_int (pa_c pe_int pa_nil))))) pa_nil)) (pa_c pe_int (pa_c (pe_lstW (pa_c (pe_tupW (pa_c pe_int (pa_c pe_int pa_nil))) pa_nil)) pa_nil)))) (pe_un un_neg pe_int) (nomark _)))))
      (pss_one (ps_ret pe_bl))
      pss_nil)
    (pss_one (ps_ret (pe_and (pe_cmpR (op_eqD hu8) (pe_callC G3 hr rfl D3.m D3.k D3.b .nil pass0 (pa_c (pe_lstW (pa_c (pe_tupW (pa_c pe_int (pa_c pe_int (pa_c pe_int (pa_c pe_int pa_nil))))) pa_nil)) (pa_c (pe_lstW (pa_c (pe_tupW (pa_c pe_int (pa_c pe_int pa_nil))) pa_nil)) pa_nil))) (pe_lstW (pa_c pe_int pa_nil)) (nomark _)) (pe_one (pe_cmpR op_eq (pe_callC G2 hr rfl D2.m D2.k D2.b .nil pass0 (pa_c (pe_lstW (pa_c (pe_tupW (pa_c pe_int (pa_c pe_int (pa_c pe_int (pa_c pe_int pa_nil))))) pa_nil)) (pa_c pe_int (pa_c (pe_lstW (pa_c (pe_tupW (pa_c pe_int (pa_c pe_int pa_nil))) pa_nil)) pa_nil)))) pe_int (nomark _)))))))), ?_⟩
    refine ⟨_, rfl, a, rfl, ⟨_, hS⟩, for_cnt (cnt_list (xs := ns.map V.int)) (fun i σ H2 => Same H H2 ∧ ∃ o1 o2 o3, σ = [some (.ref a), o1, o2, o3]) ⟨Same.refl H, _, _, _, rfl⟩ (fun i σ H2 _ p => p.1.seq hS) ?_ ?_⟩
    · rintro i x σ H2 H3 hi ⟨s2, o1, o2, o3, rfl⟩ ⟨rfl, hx⟩
      obtain ⟨n, rfl⟩ : ∃ n, x = V.int n := by
        rw [List.getElem?_map] at hx
        cases e : ns[i]? with
        | none => rw [e] at hx; cases hx
        | some n => rw [e] at hx; exact ⟨n, (Option.some.inj hx).symm⟩
      have k0 : 0 ≤ n % 5 := by omega
      have k5 : n % 5 < 5 := by omega
      have m0 : 0 ≤ n / 500000 % 1000 := by omega
      refine ⟨_, rfl, _, _, rfl, rfl, (by show (0 : Int) < 5; decide), ?_⟩
      refine ⟨_, rfl, by simp only [List.length_cons, List.length_nil]; decide, fun l H4 s_4 e_4 n_4 => ⟨l, _, rfl, .inl (SqL.of e_4), rfl, rfl, ?_⟩⟩
      refine ⟨_, rfl, rfl, _, rfl, rfl, _, rfl, rfl, by simp only [List.length_cons, List.length_nil]; decide, fun d H5 s_5 e_5 n_5 => ?_⟩
      refine ⟨_, rfl, _, rfl, _, _, rfl, rfl, ⟨by decide, by decide⟩, _, _, rfl, rfl, (by show (0 : Int) < 100000; decide), ?_⟩
      refine ⟨_, rfl, _, _, rfl, rfl, ⟨by decide, by decide⟩, _, _, rfl, rfl, (by show (0 : Int) < 1000; decide), ?_⟩
      refine ⟨n % 5, n / 5 % 100000, n / 500000 % 1000, rfl, k0, k5, m0, fun p H6 s_6 e_6 => ?_⟩
      have e_d := s_6 _ _ e_5
      rw [show (if false = true then !inV (V.int (n % 5)) [V.int 0, V.int 4] else inV (V.int (n % 5)) [V.int 0, V.int 4]) = inV (V.int (n % 5)) [V.int 0, V.int 4] from rfl, due_eq k0 k5] at e_d
      refine ⟨_, rfl, p, d, _, _, true, rfl, rfl, SqL.of e_6, SqL.of e_d, LEq.refl1 (fun x hx => ?_), _, rfl, iteF ?_⟩
      · simp only [dueOf, List.mem_cons, List.not_mem_nil, or_false] at hx
        rcases hx with rfl | rfl | rfl | rfl | rfl <;> rfl
      · exact ⟨s2.trans (s_4.trans (s_5.trans s_6)), _, _, _, rfl⟩
    · rintro σ H2 ⟨s2, o1, o2, o3, rfl⟩
      refine ⟨by simp only [List.length_cons, List.length_nil]; decide, fun t1 H3 s_3 e_3 n_3 => ⟨by simp only [List.length_cons, List.length_nil]; decide, fun l1 H4 s_4 e_4 n_4 => ?_⟩⟩
      refine ⟨by simp only [List.length_cons, List.length_nil]; decide, fun t2 H5 s_5 e_5 n_5 => ⟨by simp only [List.length_cons, List.length_nil]; decide, fun l2 H6 s_6 e_6 n_6 => ?_⟩⟩
      refine ⟨l1, l2, 9, [[0, 2, 0, 9]], [[3, 0]], rfl, row1 rfl (s_6 _ _ (s_5 _ _ e_4)) (s_6 _ _ (s_5 _ _ (s_4 _ _ e_3))), row1 rfl e_6 (s_6 _ _ e_5), rfl, gone ⟨rfl, by decide⟩, gone ⟨rfl, by decide⟩, by decide, by decide, fun H7 s_7 => ?_⟩
      refine ⟨rfl, _, rfl, ?_⟩
      refine iteF ?_
      refine ⟨by simp only [List.length_cons, List.length_nil]; decide, fun t3 H8 s_8 e_8 n_8 => ⟨by simp only [List.length_cons, List.length_nil]; decide, fun l3 H9 s_9 e_9 n_9 => ?_⟩⟩
      refine ⟨by simp only [List.length_cons, List.length_nil]; decide, fun t4 Ha s_a e_a n_a => ⟨by simp only [List.length_cons, List.length_nil]; decide, fun l4 Hb s_b e_b n_b => ?_⟩⟩
      refine ⟨l3, l4, 9, [[0, 2, 0, 9]], [[2, 0]], rfl, row1 rfl (s_b _ _ (s_a _ _ e_9)) (s_b _ _ (s_a _ _ (s_9 _ _ e_8))), row1 rfl e_b (s_b _ _ e_a), rfl, gone ⟨rfl, by decide⟩, gone ⟨rfl, by decide⟩, by decide, by decide, fun Hc s_c => ?_⟩
      refine ⟨_, rfl, rfl, _, rfl, iteF ?_⟩
      refine ⟨by simp only [List.length_cons, List.length_nil]; decide, fun t5 Hd s_d e_d n_d => ⟨by simp only [List.length_cons, List.length_nil]; decide, fun l5 He s_e e_e n_e => ?_⟩⟩
      refine ⟨by simp only [List.length_cons, List.length_nil]; decide, fun t6 Hf s_f e_f n_f => ⟨by simp only [List.length_cons, List.length_nil]; decide, fun l6 Hg s_g e_g n_g => ?_⟩⟩
      refine ⟨l5, l6, [[0, 0, 0, 0]], [[9, 4]], rfl, row1 rfl (s_g _ _ (s_f _ _ e_e)) (s_g _ _ (s_f _ _ (s_e _ _ e_d))), row1 rfl e_g (s_g _ _ e_f), rfl, gone ⟨rfl, by decide⟩, gone ⟨rfl, by decide⟩, by decide, fun p Hh n_p s_h e_p => ?_⟩
      refine ⟨by simp only [List.length_cons, List.length_nil]; decide, fun m Hi s_i e_i n_i => ?_⟩
      refine ⟨p, m, ([5] : List Int).map V.int, ([5] : List Int).map V.int, _, rfl, rfl, SqL.of (s_i _ _ e_p), SqL.of e_i, LEq.nums [5] [5], true, rfl, iteT ?_⟩
      refine ⟨by simp only [List.length_cons, List.length_nil]; decide, fun t7 Hj s_j e_j n_j => ⟨by simp only [List.length_cons, List.length_nil]; decide, fun l7 Hk s_k e_k n_k => ?_⟩⟩
      refine ⟨by simp only [List.length_cons, List.length_nil]; decide, fun t8 Hl s_l e_l n_l => ⟨by simp only [List.length_cons, List.length_nil]; decide, fun l8 Hm s_m e_m n_m => ?_⟩⟩
      refine ⟨l7, l8, 4, [[0, 9, 0, 9]], [[9, 4]], rfl, row1 rfl (s_m _ _ (s_l _ _ e_k)) (s_m _ _ (s_l _ _ (s_k _ _ e_j))), row1 rfl e_m (s_m _ _ e_l), rfl, gone ⟨rfl, by decide⟩, gone ⟨rfl, by decide⟩, by decide, by decide, fun Hn s_n => ?_⟩
      exact ⟨rfl, q Hn⟩
end
end Gs
unseal PySem.wpAny
namespace Gs
open PySem L2
theorem all_mk {l : PySem.W.OpenLaw} {w : World} {K : PySem.W.Frag} {h : Heap} {mg : Str → Option Value} {fa f1 f2 f3 f4 f5 f6 f7 f8 f9 f10 f11 f12 f13 f14 f15 f16 f17 f18 f19 f20 f21 f22 cG cD cR cL cB : Addr} (X : K.In h) (G : h.Ns mainGlobals mg) (hfa : mg "law" = some (.ref fa))
    {od1 an1 od2 an2 od3 an3 od4 an4 od5 an5 od6 an6 od7 an7 od8 an8 od9 an9 od10 an10 od11 an11 od12 an12 od13 an13 od14 an14 od15 an15 od16 an16 od17 an17 od18 an18 od19 an19 od20 an20 od21 an21 od22 an22 : Option Addr} {sl1 sl2 sl3 sl4 sl5 sl6 sl7 sl8 sl9 sl10 sl11 sl12 sl13 sl14 sl15 sl16 sl17 sl18 sl19 sl20 sl21 sl22 : Array (Option Value)} {oc1 kV1 dc1 pm1 cd1 ct1 oc2 kV2 dc2 pm2 cd2 ct2 oc3 kV3 dc3 pm3 cd3 ct3 oc4 kV4 dc4 pm4 cd4 ct4 oc5 kV5 dc5 pm5 cd5 ct5 oc6 kV6 dc6 pm6 cd6 ct6 oc7 kV7 dc7 pm7 cd7 ct7 oc8 kV8 dc8 pm8 cd8 ct8 oc9 kV9 dc9 pm9 cd9 ct9 oc10 kV10 dc10 pm10 cd10 ct10 oc11 kV11 dc11 pm11 cd11 ct11 oc12 kV12 dc12 pm12 cd12 ct12 oc13 kV13 dc13 pm13 cd13 ct13 oc14 kV14 dc14 pm14 cd14 ct14 oc15 kV15 dc15 pm15 cd15 ct15 oc16 kV16 dc16 pm16 cd16 ct16 oc17 kV17 dc17 pm17 cd17 ct17 oc18 kV18 dc18 pm18 cd18 ct18 oc19 kV19 dc19 pm19 cd19 ct19 oc20 kV20 dc20 pm20 cd20 ct20 oc21 kV21 dc21 pm21 cd21 ct21 oc22 kV22 dc22 pm22 cd22 ct22 : Value} {tk1 tk2 tk3 tk4 tk5 tk6 : Tok}
    (a1 : PySem.W.nsIn K mainGlobals "is_amount" = some (some (.ref f1))) (l1 : K.lookup f1 = some ⟨oc1, od1, .func (PySem.W.fnOf "is_amount" "is_amount" (defArgs s_is_amount) (defBody s_is_amount) (defScope s_is_amount) .none kV1 dc1 pm1 an1 cd1 ct1), sl1⟩) (c1 : PySem.W.codeIn K cd1 "is_amount" = true) (k1 : PySem.W.keepIn K (.ref f1) = true)
    (a2 : PySem.W.nsIn K mainGlobals "is_tuple_of_amounts" = some (some (.ref f2))) (l2 : K.lookup f2 = some ⟨oc2, od2, .func (PySem.W.fnOf "is_tuple_of_amounts" "is_tuple_of_amounts" (defArgs s_is_tuple_of_amounts) (defBody s_is_tuple_of_amounts) (defScope s_is_tuple_of_amounts) .none kV2 dc2 pm2 an2 cd2 ct2), sl2⟩) (c2 : PySem.W.codeIn K cd2 "is_tuple_of_amounts" = true) (k2 : PySem.W.keepIn K (.ref f2) = true)
    (a3 : PySem.W.nsIn K mainGlobals "is_day" = some (some (.ref f3))) (l3 : K.lookup f3 = some ⟨oc3, od3, .func (PySem.W.fnOf "is_day" "is_day" (defArgs s_is_day) (defBody s_is_day) (defScope s_is_day) .none kV3 dc3 pm3 an3 cd3 ct3), sl3⟩) (c3 : PySem.W.codeIn K cd3 "is_day" = true) (k3 : PySem.W.keepIn K (.ref f3) = true)
    (a4 : PySem.W.nsIn K mainGlobals "is_deed" = some (some (.ref f4))) (l4 : K.lookup f4 = some ⟨oc4, od4, .func (PySem.W.fnOf "is_deed" "is_deed" (defArgs s_is_deed) (defBody s_is_deed) (defScope s_is_deed) .none kV4 dc4 pm4 an4 cd4 ct4), sl4⟩) (c4 : PySem.W.codeIn K cd4 "is_deed" = true) (k4 : PySem.W.keepIn K (.ref f4) = true)
    (a5 : PySem.W.nsIn K mainGlobals "check_days" = some (some (.ref f5))) (l5 : K.lookup f5 = some ⟨oc5, od5, .func (PySem.W.fnOf "check_days" "check_days" (defArgs s_check_days) (defBody s_check_days) (defScope s_check_days) .none kV5 dc5 pm5 an5 cd5 ct5), sl5⟩) (c5 : PySem.W.codeIn K cd5 "check_days" = true) (k5 : PySem.W.keepIn K (.ref f5) = true)
    (a6 : PySem.W.nsIn K mainGlobals "check_room" = some (some (.ref f6))) (l6 : K.lookup f6 = some ⟨oc6, od6, .func (PySem.W.fnOf "check_room" "check_room" (defArgs s_check_room) (defBody s_check_room) (defScope s_check_room) .none kV6 dc6 pm6 an6 cd6 ct6), sl6⟩) (c6 : PySem.W.codeIn K cd6 "check_room" = true) (k6 : PySem.W.keepIn K (.ref f6) = true)
    (a7 : PySem.W.nsIn K mainGlobals "check_dealing" = some (some (.ref f7))) (l7 : K.lookup f7 = some ⟨oc7, od7, .func (PySem.W.fnOf "check_dealing" "check_dealing" (defArgs s_check_dealing) (defBody s_check_dealing) (defScope s_check_dealing) .none kV7 dc7 pm7 an7 cd7 ct7), sl7⟩) (c7 : PySem.W.codeIn K cd7 "check_dealing" = true) (k7 : PySem.W.keepIn K (.ref f7) = true)
    (a8 : PySem.W.nsIn K mainGlobals "stored_behind_each" = some (some (.ref f8))) (l8 : K.lookup f8 = some ⟨oc8, od8, .func (PySem.W.fnOf "stored_behind_each" "stored_behind_each" (defArgs s_stored_behind_each) (defBody s_stored_behind_each) (defScope s_stored_behind_each) .none kV8 dc8 pm8 an8 cd8 ct8), sl8⟩) (c8 : PySem.W.codeIn K cd8 "stored_behind_each" = true) (k8 : PySem.W.keepIn K (.ref f8) = true)
    (a9 : PySem.W.nsIn K mainGlobals "goes_beyond_most" = some (some (.ref f9))) (l9 : K.lookup f9 = some ⟨oc9, od9, .func (PySem.W.fnOf "goes_beyond_most" "goes_beyond_most" (defArgs s_goes_beyond_most) (defBody s_goes_beyond_most) (defScope s_goes_beyond_most) .none kV9 dc9 pm9 an9 cd9 ct9), sl9⟩) (c9 : PySem.W.codeIn K cd9 "goes_beyond_most" = true) (k9 : PySem.W.keepIn K (.ref f9) = true)
    (a10 : PySem.W.nsIn K mainGlobals "stored" = some (some (.ref f10))) (l10 : K.lookup f10 = some ⟨oc10, od10, .func (PySem.W.fnOf "stored" "stored" (defArgs s_stored) (defBody s_stored) (defScope s_stored) .none kV10 dc10 pm10 an10 cd10 ct10), sl10⟩) (c10 : PySem.W.codeIn K cd10 "stored" = true) (k10 : PySem.W.keepIn K (.ref f10) = true)
    (a11 : PySem.W.nsIn K mainGlobals "barred" = some (some (.ref f11))) (l11 : K.lookup f11 = some ⟨oc11, od11, .func (PySem.W.fnOf "barred" "barred" (defArgs s_barred) (defBody s_barred) (defScope s_barred) .none kV11 dc11 pm11 an11 cd11 ct11), sl11⟩) (c11 : PySem.W.codeIn K cd11 "barred" = true) (k11 : PySem.W.keepIn K (.ref f11) = true)
    (a12 : PySem.W.nsIn K mainGlobals "gained" = some (some (.ref f12))) (l12 : K.lookup f12 = some ⟨oc12, od12, .func (PySem.W.fnOf "gained" "gained" (defArgs s_gained) (defBody s_gained) (defScope s_gained) .none kV12 dc12 pm12 an12 cd12 ct12), sl12⟩) (c12 : PySem.W.codeIn K cd12 "gained" = true) (k12 : PySem.W.keepIn K (.ref f12) = true)
    (a13 : PySem.W.nsIn K mainGlobals "best" = some (some (.ref f13))) (l13 : K.lookup f13 = some ⟨oc13, od13, .func (PySem.W.fnOf "best" "best" (defArgs s_best) (defBody s_best) (defScope s_best) .none kV13 dc13 pm13 an13 cd13 ct13), sl13⟩) (c13 : PySem.W.codeIn K cd13 "best" = true) (k13 : PySem.W.keepIn K (.ref f13) = true)
    (a14 : PySem.W.nsIn K mainGlobals "most_gain" = some (some (.ref f14))) (l14 : K.lookup f14 = some ⟨oc14, od14, .func (PySem.W.fnOf "most_gain" "most_gain" (defArgs s_most_gain) (defBody s_most_gain) (defScope s_most_gain) .none kV14 dc14 pm14 an14 cd14 ct14), sl14⟩) (c14 : PySem.W.codeIn K cd14 "most_gain" = true) (k14 : PySem.W.keepIn K (.ref f14) = true)
    (a15 : PySem.W.nsIn K mainGlobals "changed" = some (some (.ref f15))) (l15 : K.lookup f15 = some ⟨oc15, od15, .func (PySem.W.fnOf "changed" "changed" (defArgs s_changed) (defBody s_changed) (defScope s_changed) .none kV15 dc15 pm15 an15 cd15 ct15), sl15⟩) (c15 : PySem.W.codeIn K cd15 "changed" = true) (k15 : PySem.W.keepIn K (.ref f15) = true)
    (a16 : PySem.W.nsIn K mainGlobals "check_count" = some (some (.ref f16))) (l16 : K.lookup f16 = some ⟨oc16, od16, .func (PySem.W.fnOf "check_count" "check_count" (defArgs s_check_count) (defBody s_check_count) (defScope s_check_count) .none kV16 dc16 pm16 an16 cd16 ct16), sl16⟩) (c16 : PySem.W.codeIn K cd16 "check_count" = true) (k16 : PySem.W.keepIn K (.ref f16) = true)
    (a17 : PySem.W.nsIn K mainGlobals "check_day" = some (some (.ref f17))) (l17 : K.lookup f17 = some ⟨oc17, od17, .func (PySem.W.fnOf "check_day" "check_day" (defArgs s_check_day) (defBody s_check_day) (defScope s_check_day) .none kV17 dc17 pm17 an17 cd17 ct17), sl17⟩) (c17 : PySem.W.codeIn K cd17 "check_day" = true) (k17 : PySem.W.keepIn K (.ref f17) = true)
    (a18 : PySem.W.nsIn K mainGlobals "_law_day" = some (some (.ref f18))) (l18 : K.lookup f18 = some ⟨oc18, od18, .func (PySem.W.fnOf "_law_day" "_law_day" (defArgs s__law_day) (defBody s__law_day) (defScope s__law_day) .none kV18 dc18 pm18 an18 cd18 ct18), sl18⟩) (c18 : PySem.W.codeIn K cd18 "_law_day" = true) (k18 : PySem.W.keepIn K (.ref f18) = true)
    (a19 : PySem.W.nsIn K mainGlobals "_law_days_asked" = some (some (.ref f19))) (l19 : K.lookup f19 = some ⟨oc19, od19, .func (PySem.W.fnOf "_law_days_asked" "_law_days_asked" (defArgs s__law_days_asked) (defBody s__law_days_asked) (defScope s__law_days_asked) .none kV19 dc19 pm19 an19 cd19 ct19), sl19⟩) (c19 : PySem.W.codeIn K cd19 "_law_days_asked" = true) (k19 : PySem.W.keepIn K (.ref f19) = true)
    (a20 : PySem.W.nsIn K mainGlobals "_law_others_asked" = some (some (.ref f20))) (l20 : K.lookup f20 = some ⟨oc20, od20, .func (PySem.W.fnOf "_law_others_asked" "_law_others_asked" (defArgs s__law_others_asked) (defBody s__law_others_asked) (defScope s__law_others_asked) .none kV20 dc20 pm20 an20 cd20 ct20), sl20⟩) (c20 : PySem.W.codeIn K cd20 "_law_others_asked" = true) (k20 : PySem.W.keepIn K (.ref f20) = true)
    (a21 : PySem.W.nsIn K mainGlobals "_law_told" = some (some (.ref f21))) (l21 : K.lookup f21 = some ⟨oc21, od21, .func (PySem.W.fnOf "_law_told" "_law_told" (defArgs s__law_told) (defBody s__law_told) (defScope s__law_told) .none kV21 dc21 pm21 an21 cd21 ct21), sl21⟩) (c21 : PySem.W.codeIn K cd21 "_law_told" = true) (k21 : PySem.W.keepIn K (.ref f21) = true)
    (a22 : PySem.W.nsIn K mainGlobals "law" = some (some (.ref f22))) (l22 : K.lookup f22 = some ⟨oc22, od22, .func (PySem.W.fnOf "law" "law" (defArgs s_law) (defBody s_law) (defScope s_law) .none kV22 dc22 pm22 an22 cd22 ct22), sl22⟩) (c22 : PySem.W.codeIn K cd22 "law" = true) (k22 : PySem.W.keepIn K (.ref f22) = true)
    (u1 : PySem.W.nsIn K mainGlobals "BUY_PRICE" = some (some (.int 0 tk1)))
    (u2 : PySem.W.nsIn K mainGlobals "BUY_MOST" = some (some (.int 1 tk2)))
    (u3 : PySem.W.nsIn K mainGlobals "SELL_PRICE" = some (some (.int 2 tk3)))
    (u4 : PySem.W.nsIn K mainGlobals "SELL_MOST" = some (some (.int 3 tk4)))
    (u5 : PySem.W.nsIn K mainGlobals "BOUGHT" = some (some (.int 0 tk5)))
    (u6 : PySem.W.nsIn K mainGlobals "SOLD" = some (some (.int 1 tk6)))
    (z1 : PySem.W.nsIn K mainGlobals "len" = some none)
    (z2 : PySem.W.nsIn K mainGlobals "isinstance" = some none)
    (z3 : PySem.W.nsIn K mainGlobals "int" = some none)
    (z4 : PySem.W.nsIn K mainGlobals "bool" = some none)
    (z5 : PySem.W.nsIn K mainGlobals "tuple" = some none)
    (z6 : PySem.W.nsIn K mainGlobals "list" = some none)
    (z7 : PySem.W.nsIn K mainGlobals "all" = some none)
    (z8 : PySem.W.nsIn K mainGlobals "sum" = some none)
    (z9 : PySem.W.nsIn K mainGlobals "zip" = some none)
    (z10 : PySem.W.nsIn K mainGlobals "enumerate" = some none)
    (z11 : PySem.W.nsIn K mainGlobals "range" = some none)
    (z12 : PySem.W.nsIn K mainGlobals "min" = some none)
    (z13 : PySem.W.nsIn K mainGlobals "max" = some none)
    (z14 : PySem.W.nsIn K mainGlobals "ValueError" = some none)
    (xG : PySem.W.nsIn K mainGlobals "GrainError" = some (some (.ref cG)))
    (yG : PySem.W.excIn K cG VE "ValueError.__new__" = true)
    (xD : PySem.W.nsIn K mainGlobals "BadDays" = some (some (.ref cD)))
    (yD : PySem.W.excIn K cD VE "ValueError.__new__" = true)
    (xR : PySem.W.nsIn K mainGlobals "BadRoom" = some (some (.ref cR)))
    (yR : PySem.W.excIn K cR VE "ValueError.__new__" = true)
    (xL : PySem.W.nsIn K mainGlobals "BadDealing" = some (some (.ref cL)))
    (yL : PySem.W.excIn K cL VE "ValueError.__new__" = true)
    (xB : PySem.W.nsIn K mainGlobals "BadDay" = some (some (.ref cB)))
    (yB : PySem.W.excIn K cB VE "ValueError.__new__" = true)
    (gaD : PySem.W.findIn K (.ref cD) "__getattribute__" = some (some (.builtin "BaseException.__getattribute__")))
    (ghD : PySem.W.findIn K (.ref cD) "__getattr__" = some none)
    (caD : PySem.W.findIn K (.ref cD) "__class__" = some (some (.builtin "object.__class__")))
    (beD : PySem.W.mroIn K cD (.type "BaseException") = some true)
    (obD : PySem.W.mroIn K cD (.type "object") = some true)
    (clD : PySem.W.isClsIn K cD = true)
    (mgD : PySem.W.mroIn K cD (.ref cG) = some true)
    (gaR : PySem.W.findIn K (.ref cR) "__getattribute__" = some (some (.builtin "BaseException.__getattribute__")))
    (ghR : PySem.W.findIn K (.ref cR) "__getattr__" = some none)
    (caR : PySem.W.findIn K (.ref cR) "__class__" = some (some (.builtin "object.__class__")))
    (beR : PySem.W.mroIn K cR (.type "BaseException") = some true)
    (obR : PySem.W.mroIn K cR (.type "object") = some true)
    (clR : PySem.W.isClsIn K cR = true)
    (mgR : PySem.W.mroIn K cR (.ref cG) = some true)
    (gaL : PySem.W.findIn K (.ref cL) "__getattribute__" = some (some (.builtin "BaseException.__getattribute__")))
    (ghL : PySem.W.findIn K (.ref cL) "__getattr__" = some none)
    (caL : PySem.W.findIn K (.ref cL) "__class__" = some (some (.builtin "object.__class__")))
    (beL : PySem.W.mroIn K cL (.type "BaseException") = some true)
    (obL : PySem.W.mroIn K cL (.type "object") = some true)
    (clL : PySem.W.isClsIn K cL = true)
    (mgL : PySem.W.mroIn K cL (.ref cG) = some true)
    (gaB : PySem.W.findIn K (.ref cB) "__getattribute__" = some (some (.builtin "BaseException.__getattribute__")))
    (ghB : PySem.W.findIn K (.ref cB) "__getattr__" = some none)
    (caB : PySem.W.findIn K (.ref cB) "__class__" = some (some (.builtin "object.__class__")))
    (beB : PySem.W.mroIn K cB (.type "BaseException") = some true)
    (obB : PySem.W.mroIn K cB (.type "object") = some true)
    (clB : PySem.W.isClsIn K cB = true)
    (mgB : PySem.W.mroIn K cB (.ref cG) = some true)
    (kDD : PySem.W.kitOne K (.ref cD) (.ref cD) = some true)
    (kDR : PySem.W.kitOne K (.ref cD) (.ref cR) = some false)
    (kDL : PySem.W.kitOne K (.ref cD) (.ref cL) = some false)
    (kDB : PySem.W.kitOne K (.ref cD) (.ref cB) = some false)
    (kRD : PySem.W.kitOne K (.ref cR) (.ref cD) = some false)
    (kRR : PySem.W.kitOne K (.ref cR) (.ref cR) = some true)
    (kRL : PySem.W.kitOne K (.ref cR) (.ref cL) = some false)
    (kRB : PySem.W.kitOne K (.ref cR) (.ref cB) = some false)
    (kLD : PySem.W.kitOne K (.ref cL) (.ref cD) = some false)
    (kLR : PySem.W.kitOne K (.ref cL) (.ref cR) = some false)
    (kLL : PySem.W.kitOne K (.ref cL) (.ref cL) = some true)
    (kLB : PySem.W.kitOne K (.ref cL) (.ref cB) = some false)
    (kBD : PySem.W.kitOne K (.ref cB) (.ref cD) = some false)
    (kBR : PySem.W.kitOne K (.ref cB) (.ref cR) = some false)
    (kBL : PySem.W.kitOne K (.ref cB) (.ref cL) = some false)
    (kBB : PySem.W.kitOne K (.ref cB) (.ref cB) = some true)
    (kVD_ : PySem.W.kitOne K (.ref cD) (.type "ValueError") = some true)
    (kVR_ : PySem.W.kitOne K (.ref cR) (.type "ValueError") = some true)
    (kVL_ : PySem.W.kitOne K (.ref cL) (.type "ValueError") = some true)
    (kVB_ : PySem.W.kitOne K (.ref cB) (.type "ValueError") = some true)
    : ∃ fd : FuncData, (∀ (s : Shared) (v : Value), BindsTo s fd ⟨[v], []⟩ [("_law_script", v)]) ∧ ∀ base : Heap, K.In base → base.Ns mainGlobals mg → FnOk l.prog w K mg base CX0 9 fa fd ["_law_script"] (sp_law K) := by
  have e := hfa.symm.trans (PySem.W.mg_of X G a22)
  cases e
  have T : Txt mg := ⟨PySem.W.mg_none_of X G z1, PySem.W.mg_none_of X G z2, PySem.W.mg_none_of X G z3, PySem.W.mg_none_of X G z4, PySem.W.mg_none_of X G z5, PySem.W.mg_none_of X G z6, PySem.W.mg_none_of X G z7, PySem.W.mg_none_of X G z8, PySem.W.mg_none_of X G z9, PySem.W.mg_none_of X G z10, PySem.W.mg_none_of X G z11, PySem.W.mg_none_of X G z12, PySem.W.mg_none_of X G z13, ⟨_, PySem.W.mg_of X G u1⟩, ⟨_, PySem.W.mg_of X G u2⟩, ⟨_, PySem.W.mg_of X G u3⟩, ⟨_, PySem.W.mg_of X G u4⟩, ⟨_, PySem.W.mg_of X G u5⟩, ⟨_, PySem.W.mg_of X G u6⟩⟩
  have F_is_amount := fun_mk (st := s_is_amount) l1 c1 k1
  have D_is_amount : Def K mg "is_amount" ["value"] f1 _ := ⟨PySem.W.mg_of X G a1, k1, F_is_amount.binds (ps := ["value"]) fun _ _ _ _ _ _ us hl => match us, hl with | [_], _ => rfl⟩
  have F_is_tuple_of_amounts := fun_mk (st := s_is_tuple_of_amounts) l2 c2 k2
  have D_is_tuple_of_amounts : Def K mg "is_tuple_of_amounts" ["value", "count"] f2 _ := ⟨PySem.W.mg_of X G a2, k2, F_is_tuple_of_amounts.binds (ps := ["value", "count"]) fun _ _ _ _ _ _ us hl => match us, hl with | [_, _], _ => rfl⟩
  have F_is_day := fun_mk (st := s_is_day) l3 c3 k3
  have D_is_day : Def K mg "is_day" ["value"] f3 _ := ⟨PySem.W.mg_of X G a3, k3, F_is_day.binds (ps := ["value"]) fun _ _ _ _ _ _ us hl => match us, hl with | [_], _ => rfl⟩
  have F_is_deed := fun_mk (st := s_is_deed) l4 c4 k4
  have D_is_deed : Def K mg "is_deed" ["value"] f4 _ := ⟨PySem.W.mg_of X G a4, k4, F_is_deed.binds (ps := ["value"]) fun _ _ _ _ _ _ us hl => match us, hl with | [_], _ => rfl⟩
  have F_check_days := fun_mk (st := s_check_days) l5 c5 k5
  have D_check_days : Def K mg "check_days" ["days"] f5 _ := ⟨PySem.W.mg_of X G a5, k5, F_check_days.binds (ps := ["days"]) fun _ _ _ _ _ _ us hl => match us, hl with | [_], _ => rfl⟩
  have F_check_room := fun_mk (st := s_check_room) l6 c6 k6
  have D_check_room : Def K mg "check_room" ["room"] f6 _ := ⟨PySem.W.mg_of X G a6, k6, F_check_room.binds (ps := ["room"]) fun _ _ _ _ _ _ us hl => match us, hl with | [_], _ => rfl⟩
  have F_check_dealing := fun_mk (st := s_check_dealing) l7 c7 k7
  have D_check_dealing : Def K mg "check_dealing" ["days", "dealing"] f7 _ := ⟨PySem.W.mg_of X G a7, k7, F_check_dealing.binds (ps := ["days", "dealing"]) fun _ _ _ _ _ _ us hl => match us, hl with | [_, _], _ => rfl⟩
  have F_stored_behind_each := fun_mk (st := s_stored_behind_each) l8 c8 k8
  have D_stored_behind_each : Def K mg "stored_behind_each" ["dealing"] f8 _ := ⟨PySem.W.mg_of X G a8, k8, F_stored_behind_each.binds (ps := ["dealing"]) fun _ _ _ _ _ _ us hl => match us, hl with | [_], _ => rfl⟩
  have F_goes_beyond_most := fun_mk (st := s_goes_beyond_most) l9 c9 k9
  have D_goes_beyond_most : Def K mg "goes_beyond_most" ["day", "deed"] f9 _ := ⟨PySem.W.mg_of X G a9, k9, F_goes_beyond_most.binds (ps := ["day", "deed"]) fun _ _ _ _ _ _ us hl => match us, hl with | [_, _], _ => rfl⟩
  have F_stored := fun_mk (st := s_stored) l10 c10 k10
  have D_stored : Def K mg "stored" ["days", "dealing"] f10 _ := ⟨PySem.W.mg_of X G a10, k10, F_stored.binds (ps := ["days", "dealing"]) fun _ _ _ _ _ _ us hl => match us, hl with | [_, _], _ => rfl⟩
  have F_barred := fun_mk (st := s_barred) l11 c11 k11
  have D_barred : Def K mg "barred" ["days", "room", "dealing"] f11 _ := ⟨PySem.W.mg_of X G a11, k11, F_barred.binds (ps := ["days", "room", "dealing"]) fun _ _ _ _ _ _ us hl => match us, hl with | [_, _, _], _ => rfl⟩
  have F_gained := fun_mk (st := s_gained) l12 c12 k12
  have D_gained : Def K mg "gained" ["days", "dealing"] f12 _ := ⟨PySem.W.mg_of X G a12, k12, F_gained.binds (ps := ["days", "dealing"]) fun _ _ _ _ _ _ us hl => match us, hl with | [_, _], _ => rfl⟩
  have F_best := fun_mk (st := s_best) l13 c13 k13
  have D_best : Def K mg "best" ["days", "room"] f13 _ := ⟨PySem.W.mg_of X G a13, k13, F_best.binds (ps := ["days", "room"]) fun _ _ _ _ _ _ us hl => match us, hl with | [_, _], _ => rfl⟩
  have F_most_gain := fun_mk (st := s_most_gain) l14 c14 k14
  have D_most_gain : Def K mg "most_gain" ["days", "room"] f14 _ := ⟨PySem.W.mg_of X G a14, k14, F_most_gain.binds (ps := ["days", "room"]) fun _ _ _ _ _ _ us hl => match us, hl with | [_, _], _ => rfl⟩
  have F_changed := fun_mk (st := s_changed) l15 c15 k15
  have D_changed : Def K mg "changed" ["days", "room", "at", "day"] f15 _ := ⟨PySem.W.mg_of X G a15, k15, F_changed.binds (ps := ["days", "room", "at", "day"]) fun _ _ _ _ _ _ us hl => match us, hl with | [_, _, _, _], _ => rfl⟩
  have F_check_count := fun_mk (st := s_check_count) l16 c16 k16
  have D_check_count : Def K mg "check_count" ["days", "at"] f16 _ := ⟨PySem.W.mg_of X G a16, k16, F_check_count.binds (ps := ["days", "at"]) fun _ _ _ _ _ _ us hl => match us, hl with | [_, _], _ => rfl⟩
  have F_check_day := fun_mk (st := s_check_day) l17 c17 k17
  have D_check_day : Def K mg "check_day" ["day"] f17 _ := ⟨PySem.W.mg_of X G a17, k17, F_check_day.binds (ps := ["day"]) fun _ _ _ _ _ _ us hl => match us, hl with | [_], _ => rfl⟩
  have F__law_day := fun_mk (st := s__law_day) l18 c18 k18
  have D__law_day : Def K mg "_law_day" ["_law_which", "_law_more"] f18 _ := ⟨PySem.W.mg_of X G a18, k18, F__law_day.binds (ps := ["_law_which", "_law_more"]) fun _ _ _ _ _ _ us hl => match us, hl with | [_, _], _ => rfl⟩
  have F__law_days_asked := fun_mk (st := s__law_days_asked) l19 c19 k19
  have D__law_days_asked : Def K mg "_law_days_asked" ["_law_which", "_law_more"] f19 _ := ⟨PySem.W.mg_of X G a19, k19, F__law_days_asked.binds (ps := ["_law_which", "_law_more"]) fun _ _ _ _ _ _ us hl => match us, hl with | [_, _], _ => rfl⟩
  have F__law_others_asked := fun_mk (st := s__law_others_asked) l20 c20 k20
  have D__law_others_asked : Def K mg "_law_others_asked" ["_law_kind", "_law_which", "_law_more"] f20 _ := ⟨PySem.W.mg_of X G a20, k20, F__law_others_asked.binds (ps := ["_law_kind", "_law_which", "_law_more"]) fun _ _ _ _ _ _ us hl => match us, hl with | [_, _, _], _ => rfl⟩
  have F__law_told := fun_mk (st := s__law_told) l21 c21 k21
  have D__law_told : Def K mg "_law_told" ["_law_kind", "_law_which", "_law_more"] f21 _ := ⟨PySem.W.mg_of X G a21, k21, F__law_told.binds (ps := ["_law_kind", "_law_which", "_law_more"]) fun _ _ _ _ _ _ us hl => match us, hl with | [_, _, _], _ => rfl⟩
  have F_law := fun_mk (st := s_law) l22 c22 k22
  refine ⟨PySem.W.fnOf "law" "law" (defArgs s_law) (defBody s_law) (defScope s_law) .none kV22 dc22 pm22 an22 cd22 ct22, fun s v => .of_eq rfl, fun base _ _ => ?_⟩
  have X_GrainError := (⟨PySem.W.mg_of X G xG, yG⟩ : ExcC K mg "GrainError" cG)
  have X_BadDays := (⟨PySem.W.mg_of X G xD, yD⟩ : ExcC K mg "BadDays" cD)
  have X_BadRoom := (⟨PySem.W.mg_of X G xR, yR⟩ : ExcC K mg "BadRoom" cR)
  have X_BadDealing := (⟨PySem.W.mg_of X G xL, yL⟩ : ExcC K mg "BadDealing" cL)
  have X_BadDay := (⟨PySem.W.mg_of X G xB, yB⟩ : ExcC K mg "BadDay" cB)
  have kit := (⟨⟨gaD, ghD, caD, beD, obD, clD⟩, ⟨gaR, ghR, caR, beR, obR, clR⟩, ⟨gaL, ghL, caL, beL, obL, clL⟩, ⟨gaB, ghB, caB, beB, obB, clB⟩, mgD, mgR, mgL, mgB, kDD, kDR, kDL, kDB, kRD, kRR, kRL, kRB, kLD, kLR, kLL, kLB, kBD, kBR, kBL, kBB, kVD_, kVR_, kVL_, kVB_⟩ : Kit K cG cD cR cL cB)
  have G_is_amount := ok_is_amount (P := l.prog) (w := w) (base := base) F_is_amount T
  have G_is_tuple_of_amounts := ok_is_tuple_of_amounts F_is_tuple_of_amounts T D_is_amount G_is_amount
  have G_is_day := ok_is_day F_is_day D_is_tuple_of_amounts G_is_tuple_of_amounts
  have G_is_deed := ok_is_deed F_is_deed D_is_tuple_of_amounts G_is_tuple_of_amounts
  have G_check_days := ok_check_days F_check_days T D_is_day G_is_day
  have G_check_room := ok_check_room F_check_room D_is_amount G_is_amount
  have G_check_dealing := ok_check_dealing F_check_dealing T D_is_deed G_is_deed
  have G_stored_behind_each := ok_stored_behind_each (P := l.prog) (w := w) (base := base) F_stored_behind_each T
  have G_goes_beyond_most := ok_goes_beyond_most (P := l.prog) (w := w) (base := base) F_goes_beyond_most T
  have G_stored := ok_stored F_stored D_check_days G_check_days D_check_dealing G_check_dealing D_stored_behind_each G_stored_behind_each
  have G_barred := ok_barred F_barred T D_check_days G_check_days D_check_dealing G_check_dealing D_stored_behind_each G_stored_behind_each D_check_room G_check_room D_goes_beyond_most G_goes_beyond_most
  have A1 := okx_is_amount (P := l.prog) (w := w) (base := base) F_is_amount T
  have A2 := okx_is_tuple_of_amounts F_is_tuple_of_amounts T D_is_amount A1
  have A3 := okx_is_day F_is_day D_is_tuple_of_amounts A2
  have A4 := okx_is_deed F_is_deed D_is_tuple_of_amounts A2
  have A5 := okx_check_days F_check_days T X_BadDays D_is_day A3
  have A6 := okx_check_room F_check_room X_BadRoom D_is_amount A1
  have A7 := okx_check_dealing F_check_dealing T X_BadDealing D_is_deed A4
  have G_check_count := okx_check_count F_check_count T X_BadDay D_is_amount A1
  have G_check_day := okx_check_day F_check_day X_BadDays D_is_day A3
  have B1 := okb_stored F_stored D_check_days A5 D_check_dealing A7
  have B2 := okb_gained F_gained D_check_days A5 D_check_dealing A7
  have B3 := okb_barred F_barred D_check_days A5 D_check_room A6 D_check_dealing A7
  have B4 := okb_best F_best D_check_days A5 D_check_room A6
  have B5 := okb_most_gain F_most_gain D_gained B2 D_best B4
  have B6 := okb_changed F_changed D_check_days A5 D_check_room A6 D_check_count G_check_count D_check_day G_check_day
  have G__law_day := ok__law_day (P := l.prog) (w := w) (mg := mg) (base := base) F__law_day
  have G__law_days_asked := ok__law_days_asked F__law_days_asked T D__law_day G__law_day D_stored (B1.mono (show 5 ≤ 6 by decide)) D_gained (B2.mono (show 5 ≤ 6 by decide)) D_barred (B3.mono (show 5 ≤ 6 by decide)) D_best (B4.mono (show 5 ≤ 6 by decide)) D_most_gain B5 D_changed (B6.mono (show 5 ≤ 6 by decide))
  have G__law_others_asked := ok__law_others_asked F__law_others_asked D__law_day G__law_day D_stored (B1.mono (show 5 ≤ 6 by decide)) D_gained (B2.mono (show 5 ≤ 6 by decide)) D_barred (B3.mono (show 5 ≤ 6 by decide)) D_best (B4.mono (show 5 ≤ 6 by decide)) D_most_gain B5 D_changed (B6.mono (show 5 ≤ 6 by decide))
  have G__law_told := ok__law_told F__law_told T (PySem.W.mg_none_of X G z14) X_GrainError X_BadDays X_BadRoom X_BadDealing X_BadDay kit D__law_days_asked G__law_days_asked D__law_others_asked G__law_others_asked
  exact ok_law F_law D__law_told G__law_told D_barred G_barred D_stored G_stored
theorem walk {l : PySem.W.OpenLaw} {q : Program} {loose : List Str} {XP : (Str → Option Value) → Heap → Prop} {YP : World → Heap → Prop} {d : DefRec} {K : Params → PySem.W.Frag} (hn : l.most = some 63) (hdf : d.params.defaults = [])
    (hY : ∀ (w : World) (h : Heap), YP w h → (K w.params).In h)
    (F : ∀ (w : World) (mg : Str → Option Value) (fa : Addr) (h : Heap), (K w.params).In h → h.Ns mainGlobals mg → mg d.name = some (.ref fa) →
      ∃ fd : FuncData, (∀ (s : Shared) (u : Value), BindsTo s fd ⟨[u], []⟩ [("_law_script", u)]) ∧ ∀ base : Heap, (K w.params).In base → base.Ns mainGlobals mg → FnOk l.prog w (K w.params) mg base CX0 9 fa fd ["_law_script"] (sp_law (K w.params))) :
    PySem.W.WalkO q loose XP YP l.row.toRowW d [] (fun f vs => PySem.call f vs) :=
  L2.walk_of (n := 63) (k := 9) (x := "_law_script") (CX := fun _ => CX0) (sp := fun w => sp_law (K w.params)) hn (by decide) hdf ⟨rfl, by decide, by decide⟩ hY F (fun _ _ a ns hl _ hS => ⟨a, ns, rfl, hS, hl, fun _ => rfl⟩) fun _ _ _ _ _ z => z
end Gs
open PySem PySem.W PyProof.Rows
set_option maxRecDepth 100000 in
set_option maxHeartbeats 0 in
theorem PySem.Challenge.cw_grainstore_k06_refused_holds : PySem.Challenge.rw_grainstore_k06_refused.Holds := by
  w_on; o_law; k_head; (case hw => w_witness2)
  k_fill
  refine Gs.walk (l := PySem.Challenge.rw_grainstore_k06_refused) rfl rfl (fun w h Y => PySem.W.kIn_of Y) ?F
  case F =>
    intro w mg fa h KX G hmg
    refine' Gs.all_mk KX G hmg ?a1 ?l1 ?c1 ?k1 ?a2 ?l2 ?c2 ?k2 ?a3 ?l3 ?c3 ?k3 ?a4 ?l4 ?c4 ?k4 ?a5 ?l5 ?c5 ?k5 ?a6 ?l6 ?c6 ?k6 ?a7 ?l7 ?c7 ?k7 ?a8 ?l8 ?c8 ?k8 ?a9 ?l9 ?c9 ?k9 ?a10 ?l10 ?c10 ?k10 ?a11 ?l11 ?c11 ?k11 ?a12 ?l12 ?c12 ?k12 ?a13 ?l13 ?c13 ?k13 ?a14 ?l14 ?c14 ?k14 ?a15 ?l15 ?c15 ?k15 ?a16 ?l16 ?c16 ?k16 ?a17 ?l17 ?c17 ?k17 ?a18 ?l18 ?c18 ?k18 ?a19 ?l19 ?c19 ?k19 ?a20 ?l20 ?c20 ?k20 ?a21 ?l21 ?c21 ?k21 ?a22 ?l22 ?c22 ?k22 ?u1 ?u2 ?u3 ?u4 ?u5 ?u6 ?z1 ?z2 ?z3 ?z4 ?z5 ?z6 ?z7 ?z8 ?z9 ?z10 ?z11 ?z12 ?z13 ?z14 ?xG ?yG ?xD ?yD ?xR ?yR ?xL ?yL ?xB ?yB ?gaD ?ghD ?caD ?beD ?obD ?clD ?mgD ?gaR ?ghR ?caR ?beR ?obR ?clR ?mgR ?gaL ?ghL ?caL ?beL ?obL ?clL ?mgL ?gaB ?ghB ?caB ?beB ?obB ?clB ?mgB ?kDD ?kDR ?kDL ?kDB ?kRD ?kRR ?kRL ?kRB ?kLD ?kLR ?kLL ?kLB ?kBD ?kBR ?kBL ?kBB ?kVD_ ?kVR_ ?kVL_ ?kVB_
    (case a1 => k_is)
    (case l1 => k_is)
    (case c1 => k_is)
    (case k1 => k_is)
    (case a2 => k_is)
    (case l2 => k_is)
    (case c2 => k_is)
    (case k2 => k_is)
    (case a3 => k_is)
    (case l3 => k_is)
    (case c3 => k_is)
    (case k3 => k_is)
    (case a4 => k_is)
    (case l4 => k_is)
    (case c4 => k_is)
    (case k4 => k_is)
    (case a5 => k_is)
    (case l5 => k_is)
    (case c5 => k_is)
    (case k5 => k_is)
    (case a6 => k_is)
    (case l6 => k_is)
    (case c6 => k_is)
    (case k6 => k_is)
    (case a7 => k_is)
    (case l7 => k_is)
    (case c7 => k_is)
    (case k7 => k_is)
    (case a8 => k_is)
    (case l8 => k_is)
    (case c8 => k_is)
    (case k8 => k_is)
    (case a9 => k_is)
    (case l9 => k_is)
    (case c9 => k_is)
    (case k9 => k_is)
    (case a10 => k_is)
    (case l10 => k_is)
    (case c10 => k_is)
    (case k10 => k_is)
    (case a11 => k_is)
    (case l11 => k_is)
    (case c11 => k_is)
    (case k11 => k_is)
    (case a12 => k_is)
    (case l12 => k_is)
    (case c12 => k_is)
    (case k12 => k_is)
    (case a13 => k_is)
    (case l13 => k_is)
    (case c13 => k_is)
    (case k13 => k_is)
    (case a14 => k_is)
    (case l14 => k_is)
    (case c14 => k_is)
    (case k14 => k_is)
    (case a15 => k_is)
    (case l15 => k_is)
    (case c15 => k_is)
    (case k15 => k_is)
    (case a16 => k_is)
    (case l16 => k_is)
    (case c16 => k_is)
    (case k16 => k_is)
    (case a17 => k_is)
    (case l17 => k_is)
    (case c17 => k_is)
    (case k17 => k_is)
    (case a18 => k_is)
    (case l18 => k_is)
    (case c18 => k_is)
    (case k18 => k_is)
    (case a19 => k_is)
    (case l19 => k_is)
    (case c19 => k_is)
    (case k19 => k_is)
    (case a20 => k_is)
    (case l20 => k_is)
    (case c20 => k_is)
    (case k20 => k_is)
    (case a21 => k_is)
    (case l21 => k_is)
    (case c21 => k_is)
    (case k21 => k_is)
    (case a22 => k_is)
    (case l22 => k_is)
    (case c22 => k_is)
    (case k22 => k_is)
    (case u1 => k_is)
    (case u2 => k_is)
    (case u3 => k_is)
    (case u4 => k_is)
    (case u5 => k_is)
    (case u6 => k_is)
    (case z1 => k_is)
    (case z2 => k_is)
    (case z3 => k_is)
    (case z4 => k_is)
    (case z5 => k_is)
    (case z6 => k_is)
    (case z7 => k_is)
    (case z8 => k_is)
    (case z9 => k_is)
    (case z10 => k_is)
    (case z11 => k_is)
    (case z12 => k_is)
    (case z13 => k_is)
    (case z14 => k_is)
    (case xG => k_is)
    (case yG => k_exc)
    (case xD => k_is)
    (case yD => k_exc)
    (case xR => k_is)
    (case yR => k_exc)
    (case xL => k_is)
    (case yL => k_exc)
    (case xB => k_is)
    (case yB => k_exc)
    (case gaD => k_is)
    (case ghD => k_is)
    (case caD => k_is)
    (case beD => k_is)
    (case obD => k_is)
    (case clD => k_is)
    (case mgD => k_is)
    (case gaR => k_is)
    (case ghR => k_is)
    (case caR => k_is)
    (case beR => k_is)
    (case obR => k_is)
    (case clR => k_is)
    (case mgR => k_is)
    (case gaL => k_is)
    (case ghL => k_is)
    (case caL => k_is)
    (case beL => k_is)
    (case obL => k_is)
    (case clL => k_is)
    (case mgL => k_is)
    (case gaB => k_is)
    (case ghB => k_is)
    (case caB => k_is)
    (case beB => k_is)
    (case obB => k_is)
    (case clB => k_is)
    (case mgB => k_is)
    (case kDD => kit_is)
    (case kDR => kit_is)
    (case kDL => kit_is)
    (case kDB => kit_is)
    (case kRD => kit_is)
    (case kRR => kit_is)
    (case kRL => kit_is)
    (case kRB => kit_is)
    (case kLD => kit_is)
    (case kLR => kit_is)
    (case kLL => kit_is)
    (case kLB => kit_is)
    (case kBD => kit_is)
    (case kBR => kit_is)
    (case kBL => kit_is)
    (case kBB => kit_is)
    (case kVD_ => kit_is)
    (case kVR_ => kit_is)
    (case kVL_ => kit_is)
    (case kVB_ => kit_is)
