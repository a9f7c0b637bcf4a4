import PyProof.Rows.All
import Wide.All
import OpenK.AllK
import Wide.FinOn
import Lean
import PyProof.EqAt
import PyProof.EqKinds
import PyProof.TupleCall
import PyProof.NeKinds
import PyProof.ZipIter
import PySem.Challenge.RW_riftcarry_k82_whole_far_from_even
set_option Elab.async false
set_option linter.all false
set_option maxRecDepth 100000
/-! THE HAND LAYER, for ints, bools, texts, own classes, LISTS and tuples (index, slices, in, append, pop ..), calls, loops. Paste it whole ahead of your own text; what your proof does not reach may be deleted. -/
namespace L2
open PySem PySem.Spec PyProof.Rows

/-- a key: an int or a str -/
abbrev Key := Sum Int Str
def keyIs : Key → Value → Bool
  | .inl k, v => Value.isInt k v
  | .inr x, v => Value.isStrOf x v
def keyH (w : World) : Key → Int
  | .inl k => hashInt k
  | .inr x => hashStr w x
theorem keyIs_shape : ∀ {k : Key} {v : Value}, keyIs k v = true → (∃ i t, k = Sum.inl i ∧ v = Value.int i t) ∨ (∃ x t, k = Sum.inr x ∧ v = Value.str x t)
  | .inl i, v, h => by
    obtain ⟨t, e⟩ := Value.isInt_shape (k := i) (v := v) h
    exact .inl ⟨i, t, rfl, e⟩
  | .inr x, v, h => by
    obtain ⟨t, e⟩ := Value.isStrOf_shape (x := x) (v := v) h
    exact .inr ⟨x, t, rfl, e⟩
theorem keyIs_int (i : Int) (t : Tok) : keyIs (.inl i) (.int i t) = true := by simp [keyIs, Value.isInt]
theorem keyIs_str (x : Str) (t : Tok) : keyIs (.inr x) (.str x t) = true := by simp [keyIs, Value.isStrOf]
theorem key_ll (a b : Int) : decide ((Sum.inl a : Key) = Sum.inl b) = (a == b) := by
  by_cases e : a = b
  · subst e; simp
  · have h : ¬ (Sum.inl a : Key) = Sum.inl b := fun q => e (Sum.inl.inj q)
    rw [decide_eq_false h]
    exact (beq_eq_false_iff_ne.mpr e).symm
theorem key_rr (a b : Str) : decide ((Sum.inr a : Key) = Sum.inr b) = decide (a = b) := by
  by_cases e : a = b
  · subst e; simp
  · have h : ¬ (Sum.inr a : Key) = Sum.inr b := fun q => e (Sum.inr.inj q)
    rw [decide_eq_false h, decide_eq_false e]
theorem key_lr (a : Int) (b : Str) : decide ((Sum.inl a : Key) = Sum.inr b) = false := decide_eq_false (fun q => nomatch q)
theorem key_rl (a : Str) (b : Int) : decide ((Sum.inr a : Key) = Sum.inl b) = false := decide_eq_false (fun q => nomatch q)

def mixKind (prog : Program) (w : World) : PySem.KeyKind prog w Key where
  is := keyIs
  hash := keyH w
  inj := fun v a b ha hb => by
    rcases keyIs_shape ha with ⟨i, t, rfl, rfl⟩ | ⟨x, t, rfl, rfl⟩
    · rcases keyIs_shape hb with ⟨j, u, rfl, e⟩ | ⟨y, u, rfl, e⟩
      · injection e with e1 _; rw [e1]
      · exact nomatch e
    · rcases keyIs_shape hb with ⟨j, u, rfl, e⟩ | ⟨y, u, rfl, e⟩
      · exact nomatch e
      · injection e with e1 _; rw [e1]
  byValue := fun k v h => by
    rcases keyIs_shape h with ⟨i, t, rfl, rfl⟩ | ⟨x, t, rfl, rfl⟩ <;> rfl
  pyHash := fun hv h => by
    rcases keyIs_shape hv with ⟨i, t, rfl, rfl⟩ | ⟨x, t, rfl, rfl⟩
    · exact wpAny_pyHash_int h
    · exact wpAny_pyHash_str h
  eqBool := fun hu hv h => by
    rcases keyIs_shape hu with ⟨i, t, rfl, rfl⟩ | ⟨x, t, rfl, rfl⟩
    · rcases keyIs_shape hv with ⟨j, u, rfl, rfl⟩ | ⟨y, u, rfl, rfl⟩
      · rw [key_ll] at h; exact wpAny_eqBool_int h
      · rw [key_lr] at h; exact SeqAt.EqAt.int_str i t y u _ _ _ _ h
    · rcases keyIs_shape hv with ⟨j, u, rfl, rfl⟩ | ⟨y, u, rfl, rfl⟩
      · rw [key_rl] at h; exact SeqAt.EqAt.str_int x t j u _ _ _ _ h
      · rw [key_rr] at h; exact wpAny_eqBool_str h
  «strs» := fun k x t v h => by
    rcases keyIs_shape h with ⟨i, u, rfl, e⟩ | ⟨y, u, rfl, e⟩
    · exact nomatch e
    · injection e with e1 _
      subst e1
      cases v <;> rfl

theorem mixKind_is (prog : Program) (w : World) (k : Key) (v : Value) : (mixKind prog w).is k v = keyIs k v := rfl
theorem mixKind_int (prog : Program) (w : World) (i : Int) (t : Tok) : (mixKind prog w).is (.inl i) (.int i t) = true := keyIs_int i t
theorem mixKind_str (prog : Program) (w : World) (x : Str) (t : Tok) : (mixKind prog w).is (.inr x) (.str x t) = true := keyIs_str x t
end L2

namespace L2
open PySem PySem.Spec PyProof.Rows

/-- a value, without the heap -/
inductive V where
  | non | bl (b : Bool) | int (i : Int) | str (x : Str) | byt (b : Array UInt8) | flt (b : UInt64) | ref (a : Addr) | ty (n : String)
  deriving DecidableEq

def RelV : V → Value → Prop
  | .non, u => u = Value.none
  | .bl b, u => u = Value.bool b
  | .int i, u => ∃ t, u = Value.int i t
  | .str x, u => ∃ t, u = Value.str x t
  | .byt b, u => ∃ t, u = Value.bytes b t
  | .flt b, u => ∃ t, u = Value.float b t
  | .ref a, u => u = Value.ref a
  | .ty n, u => u = Value.type n

abbrev Vals : List V → List Value → Prop := Paired RelV
theorem Vals.length {xs : List V} {us : List Value} (r : Vals xs us) : xs.length = us.length := Paired.length r
theorem Vals.get : ∀ {xs : List V} {us : List Value} {i : Nat} {x : V}, Vals xs us → xs[i]? = some x → ∃ u, us[i]? = some u ∧ RelV x u
  | _, _, _, _, .nil, e => by simp at e
  | _, _, 0, _, .cons r _, e => by simp at e; subst e; exact ⟨_, rfl, r⟩
  | _, _, i + 1, x, .cons _ t, e => by
    obtain ⟨u, h1, h2⟩ := Vals.get (i := i) (x := x) t (by simpa using e)
    exact ⟨u, by simpa using h1, h2⟩
theorem Vals.set {x : V} {u : Value} (r : RelV x u) : ∀ {xs : List V} {us : List Value} (i : Nat), Vals xs us → Vals (xs.set i x) (us.set i u)
  | _, _, _, .nil => .nil
  | _, _, 0, .cons _ t => .cons r t
  | _, _, i + 1, .cons q t => .cons q (Vals.set r i t)
theorem Vals.append : ∀ {xs ys : List V} {us ws : List Value}, Vals xs us → Vals ys ws → Vals (xs ++ ys) (us ++ ws)
  | _, _, _, _, .nil, s => s
  | _, _, _, _, .cons r t, s => .cons r (Vals.append t s)
theorem Vals.take : ∀ {xs : List V} {us : List Value} (n : Nat), Vals xs us → Vals (xs.take n) (us.take n)
  | _, _, 0, _ => .nil
  | _, _, _ + 1, .nil => .nil
  | _, _, n + 1, .cons r t => .cons r (Vals.take n t)
theorem Vals.drop : ∀ {xs : List V} {us : List Value} (n : Nat), Vals xs us → Vals (xs.drop n) (us.drop n)
  | _, _, 0, r => r
  | _, _, _ + 1, .nil => .nil
  | _, _, n + 1, .cons _ t => Vals.drop n t
theorem Vals.none_of : ∀ {xs : List V} {us : List Value} {i : Nat}, Vals xs us → xs[i]? = none → us[i]? = none := fun {xs us i} r e => by
  have h1 := r.length
  have h2 : xs.length ≤ i := List.getElem?_eq_none_iff.mp e
  exact List.getElem?_eq_none_iff.mpr (by omega)

def RelO : Option V → Option Value → Prop
  | some v, some u => RelV v u
  | none, none => True
  | _, _ => False
def KV {κ : Type} : List (κ × V) → List (κ × Value) → Prop := Paired fun (p : κ × V) (q : κ × Value) => p.1 = q.1 ∧ RelV p.2 q.2

/-- a key of a dict (00_mix): an int or a text -/
def kV : Key → V
  | .inl i => .int i
  | .inr x => .str x

/-- what stands at a tracked address -/
inductive HO where
  /-- a list -/
  | lst (xs : List V)
  /-- a tuple (never changes) -/
  | tup (xs : List V)
  /-- a dict whose keys are ints and texts; one whose keys are tuples of ints and texts (the empty one is both) -/
  | dK (kvs : List (Key × V)) | dT (kvs : List (List Key × V))
  /-- a set of ints: its members, its size -/
  | set (S : Int → Bool) (n : Nat)
  /-- an instance of the class at C, its dict at dx, its attributes -/
  | ins (C dx : Addr) (fs : List (Str × V))
  /-- the dict of the instance at x -/
  | own (x : Addr)
  /-- the dict of an exception -/
  | xd (fs : List (Str × V))
  /-- a bound method, f of x -/
  | met (f x : Addr)
  /-- a range object lo, lo + 1, .. below hi -/
  | rng (lo hi : Int)
  /-- a thing that is known to the object (the script; a dict while a loop walks it): read, never written while it is so -/
  | frz (o : Obj) (u : HO)
  /-- a code object's table -/
  | tbl (ps : Array Value)
  /-- any other thing, by what is true of its one object (a def of one's own: SetO a S n := HO.ext fun h => ..) -/
  | ext (φ : Heap → Prop)

abbrev Hp := Addr → Option HO
def upd (H : Hp) (a : Addr) (o : HO) : Hp := fun b => if b = a then some o else H b
theorem upd_same {H : Hp} {a : Addr} {o : HO} : upd H a o a = some o := by unfold upd; rw [if_pos rfl]
theorem upd_ne {H : Hp} {a b : Addr} {o : HO} (h : b ≠ a) : upd H a o b = H b := by unfold upd; rw [if_neg h]
theorem upd_upd {H : Hp} {a : Addr} {o u : HO} : upd (upd H a o) a u = upd H a u := by
  funext b; unfold upd; split <;> rfl
/-- two objects of different content stand apart -/
theorem ne_of {H : Hp} {a b : Addr} {o u : HO} (h : H a = some o) (h' : H b = some u) (d : o ≠ u) : a ≠ b := by
  intro e; subst e; rw [h] at h'; exact d (Option.some.inj h')
theorem ne_of_none {H : Hp} {a b : Addr} {o : HO} (h : H a = some o) (h' : H b = none) : a ≠ b := by
  intro e; subst e; rw [h] at h'; cases h'

section
variable (P : Program) (w : World)
def ObjOk (H : Hp) (h : Heap) (a : Addr) : HO → Prop
  | .lst xs => xs.length ≤ sizeLine ∧ ∃ (its : List Value) (n : Nat), Vals xs its ∧ h.get? a = some { cls := .type "list", data := .seq its.toArray n }
  | .tup xs => xs.length ≤ sizeLine ∧ ∃ its : List Value, Vals xs its ∧ IsTup h a its.toArray
  | .dK kvs => kvs.length ≤ sizeLine ∧ (a == sysModules) = false ∧ ∃ vs, KV kvs vs ∧ h.DictOf (mixKind P w) a vs
  | .dT kvs => kvs.length ≤ sizeLine ∧ (a == sysModules) = false ∧ ∃ xs : List (List Key × Addr × Value),
      Paired (fun (p : List Key × V) (q : List Key × Addr × Value) => p.1 = q.1 ∧ H q.2.1 = some (.tup (p.1.map kV)) ∧ RelV p.2 q.2.2) kvs xs ∧
      ∃ o es ep, h.get? a = some o ∧ o.ExactDict ∧ o.data = .dict es ep ∧ es.toList = xs.map (entryOfKey (tupleKind (mixKind P w))) ∧ (xs.map (·.1)).Nodup
  | .set S n => h.SetOf (intKind P w) a S n
  | .ins C dx fs => H dx = some (.own a) ∧ fs.length ≤ 1000 ∧ dx ≠ a ∧ h.get? a = some (PySem.W.instObj C dx) ∧
      ∃ mA, h.Ns1 dx mA ∧ (∀ f, RelO (fs.lookup f) (mA f)) ∧ PySem.Within mA (fs.map (·.1))
  | .own _ => ∃ o, h.get? a = some o
  | .xd fs => ∃ mA, h.Ns1 a mA ∧ ∀ f, RelO (fs.lookup f) (mA f)
  | .rng lo hi => ∃ t u v, h.get? a = some { cls := .type "range", data := .fields #[.int lo t, .int hi u, .int 1 v] }
  | .frz o u => h.get? a = some o ∧ ObjOk H h a u
  | .tbl ps => h.get? a = some { cls := .none, data := .fields ps }
  | .met f x => h.get? a = some (PySem.W.methodObj (.ref f) (.ref x))
  | .ext φ => φ h ∧ (∃ o, h.get? a = some o) ∧ ∀ h1 h2 : Heap, φ h1 → (∀ o, h1.get? a = some o → h2.get? a = some o) → φ h2
/-- the abstract heap is held -/
def HOk (H : Hp) (h : Heap) : Prop := ∀ a o, H a = some o → ObjOk P w H h a o
end

section
variable {P : Program} {w : World} {H H' : Hp} {h h' : Heap} {a : Addr} {o : HO}
theorem ObjOk.lt (x : ObjOk P w H h a o) : a < h.objs.size := by
  cases o with
  | lst xs => obtain ⟨_, _, _, _, e⟩ := x; exact Heap.lt_size e
  | tup xs => obtain ⟨_, _, _, p⟩ := x; exact p.lt
  | dK kvs => obtain ⟨_, _, _, _, o, _, _, e, _⟩ := x; exact Heap.lt_size e
  | dT kvs => obtain ⟨_, _, _, _, o, _, _, e, _⟩ := x; exact Heap.lt_size e
  | set S n => obtain ⟨o, _, _, _, e, _⟩ := x; exact Heap.lt_size e
  | ins C dx fs => obtain ⟨_, _, _, e, _⟩ := x; exact Heap.lt_size e
  | own y => obtain ⟨_, e⟩ := x; exact Heap.lt_size e
  | xd fs => obtain ⟨_, ⟨_, _, _, e, _⟩, _⟩ := x; exact Heap.lt_size e
  | rng lo hi => obtain ⟨_, _, _, e⟩ := x; exact Heap.lt_size e
  | frz ob u => obtain ⟨e, _⟩ := x; exact Heap.lt_size e
  | tbl ps => exact Heap.lt_size (show h.get? a = some _ from x)
  | met f y => exact Heap.lt_size (show h.get? a = some _ from x)
  | ext φ => obtain ⟨_, ⟨_, e⟩, _⟩ := x; exact Heap.lt_size e
theorem Paired.mapP {α β : Type} {F G : α → β → Prop} : ∀ {l₁ : List α} {l₂ : List β}, Paired F l₁ l₂ → (∀ a b, F a b → G a b) → Paired G l₁ l₂
  | _, _, .nil, _ => .nil
  | _, _, .cons r t, f => .cons (f _ _ r) (Paired.mapP t f)
theorem Paired.imp' {α β : Type} {F G : α → β → Prop} (f : ∀ a b, F a b → G a b) {l₁ : List α} {l₂ : List β} (r : Paired F l₁ l₂) : Paired G l₁ l₂ := Paired.mapP r f
/-- what an object's description leans on: its own object, its own dict, the tuples -/
theorem ObjOk.stay (x : ObjOk P w H h a o) (k : ∀ b u, (b = a ∨ H b = some (.own a)) → h.get? b = some u → h'.get? b = some u)
    (ho : ∀ b, H b = some (.own a) → H' b = some (.own a)) (ht : ∀ b xs, H b = some (.tup xs) → H' b = some (.tup xs)) : ObjOk P w H' h' a o := by
  induction o with
  | lst xs => obtain ⟨z, its, n, r, e⟩ := x; exact ⟨z, its, n, r, k _ _ (.inl rfl) e⟩
  | tup xs => obtain ⟨z, its, r, ob, e, c⟩ := x; exact ⟨z, its, r, ob, k _ _ (.inl rfl) e, c⟩
  | dK kvs => obtain ⟨z, y, vs, r, ob, es, ep, e, c⟩ := x; exact ⟨z, y, vs, r, ob, es, ep, k _ _ (.inl rfl) e, c⟩
  | dT kvs =>
    obtain ⟨z, y, xs, r, ob, es, ep, e, c⟩ := x
    exact ⟨z, y, xs, Paired.mapP r fun p q z => ⟨z.1, ht _ _ z.2.1, z.2.2⟩, ob, es, ep, k _ _ (.inl rfl) e, c⟩
  | set S n => obtain ⟨ob, es, ep, t, e, c⟩ := x; exact ⟨ob, es, ep, t, k _ _ (.inl rfl) e, c⟩
  | ins C dx fs =>
    obtain ⟨d, z, ne, e, mA, ⟨od, es, ep, e2, c⟩, r⟩ := x
    exact ⟨ho _ d, z, ne, k _ _ (.inl rfl) e, mA, ⟨od, es, ep, k _ _ (.inr d) e2, c⟩, r⟩
  | own y => obtain ⟨ob, e⟩ := x; exact ⟨ob, k _ _ (.inl rfl) e⟩
  | xd fs => obtain ⟨mA, ⟨od, es, ep, e, c⟩, r⟩ := x; exact ⟨mA, ⟨od, es, ep, k _ _ (.inl rfl) e, c⟩, r⟩
  | rng lo hi => obtain ⟨t, u, v, e⟩ := x; exact ⟨t, u, v, k _ _ (.inl rfl) e⟩
  | frz ob u ih => obtain ⟨e, q⟩ := x; exact ⟨k _ _ (.inl rfl) e, ih q⟩
  | tbl ps =>
    have e : h.get? a = some { cls := .none, data := .fields ps } := x
    show h'.get? a = some { cls := .none, data := .fields ps }
    exact k a _ (.inl rfl) e
  | met f y =>
    have e : h.get? a = some (PySem.W.methodObj (.ref f) (.ref y)) := x
    show h'.get? a = some (PySem.W.methodObj (.ref f) (.ref y))
    exact k a _ (.inl rfl) e
  | ext φ => obtain ⟨p, ⟨o, e⟩, st⟩ := x; exact ⟨st _ _ p fun o q => k _ _ (.inl rfl) q, ⟨o, k _ _ (.inl rfl) e⟩, st⟩
theorem HOk.lt (x : HOk P w H h) (e : H a = some o) : a < h.objs.size := (x a o e).lt
theorem HOk.fresh (x : HOk P w H h) (e : h.objs.size ≤ a) : H a = none := by
  cases q : H a with
  | none => rfl
  | some u => exact absurd (Nat.lt_of_lt_of_le (x.lt q) e) (Nat.lt_irrefl _)
/-- every object of the heap is kept -/
theorem HOk.kept (x : HOk P w H h) (k : ∀ b u, h.get? b = some u → h'.get? b = some u) : HOk P w H h' := fun a o e =>
  (x a o e).stay (fun b u _ q => k b u q) (fun _ q => q) fun _ _ q => q
/-- a new object is laid and tracked -/
theorem HOk.laid (x : HOk P w H h) (k : ∀ b u, h.get? b = some u → h'.get? b = some u) (hp : h.objs.size ≤ a) (new : ObjOk P w (upd H a o) h' a o) : HOk P w (upd H a o) h' := fun b u e => by
  have hn := x.fresh hp
  by_cases hb : b = a
  · subst hb; rw [upd_same] at e; cases e; exact new
  · rw [upd_ne hb] at e
    exact (x b u e).stay (fun c v _ q => k c v q) (fun c q => by rw [upd_ne (ne_of_none q hn)]; exact q) fun c xs q => by rw [upd_ne (ne_of_none q hn)]; exact q
end

/-- what may be read as u: it is u, or a known u -/
def Rd (H : Hp) (a : Addr) (u : HO) : Prop := H a = some u ∨ ∃ o, H a = some (.frz o u)
theorem Rd.of {H : Hp} {a : Addr} {u : HO} (h : H a = some u) : Rd H a u := .inl h
theorem Rd.ok {P : Program} {w : World} {H : Hp} {h : Heap} {a : Addr} {u : HO} (r : Rd H a u) (x : HOk P w H h) : ObjOk P w H h a u := by
  rcases r with r | ⟨o, r⟩
  · exact x a u r
  · obtain ⟨_, q⟩ := x a _ r
    exact q
/-- what may be written -/
def Mut : Option HO → Prop
  | some (.lst _) => True
  | some (.dK _) => True
  | some (.dT _) => True
  | some (.set _ _) => True
  | some (.ins _ _ _) => True
  | some (.ext _) => True
  | _ => False
section
variable {P : Program} {w : World} {H : Hp} {h h' : Heap} {x e : Addr} {o' : HO}
/-- the object at e is changed: x itself, or the dict of the instance x -/
theorem HOk.write (ok : HOk P w H h) (mu : Mut (H x)) (he : e = x ∨ H e = some (.own x)) (k : ∀ b u, b ≠ e → h.get? b = some u → h'.get? b = some u) (heo : ∃ u, h'.get? e = some u)
    (new : ObjOk P w (upd H x o') h' x o') : HOk P w (upd H x o') h' := fun b u q => by
  have nown : ∀ c y, H c = some (.own y) → c ≠ x := fun c y r z => by subst z; rw [r] at mu; exact mu
  have ntup : ∀ c xs, H c = some (.tup xs) → c ≠ x := fun c xs r z => by subst z; rw [r] at mu; exact mu
  by_cases hb : b = x
  · subst hb; rw [upd_same] at q; cases q; exact new
  · rw [upd_ne hb] at q
    by_cases hbe : b = e
    · have q' : H b = some (.own x) := by
        rcases he with z | z
        · exact absurd (hbe.trans z) hb
        · rw [hbe]; exact z
      rw [q] at q'; cases q'
      obtain ⟨v, hv⟩ := heo
      exact ⟨v, by rw [hbe]; exact hv⟩
    · refine (ok b u q).stay (fun c v hc r => k c v ?_ r) (fun c r => by rw [upd_ne (nown c b r)]; exact r) fun c xs r => by rw [upd_ne (ntup c xs r)]; exact r
      rcases hc with rfl | hc
      · exact hbe
      · rintro rfl
        rcases he with z | z
        · exact nown c b hc z
        · rw [hc] at z; cases z; exact hb rfl
end

/-! ### kept unless tracked; of the frames at fs (the callers') the slots may change (an exception that passes writes there); of the records at ex (iterators) nothing is said -/
structure Un (fs ex : List Addr) (H H' : Hp) (h h' : Heap) : Prop where
  keep : ∀ b o, h.get? b = some o → H b = none → b ∉ fs → b ∉ ex → h'.get? b = some o
  slot : ∀ b o, h.get? b = some o → H b = none → b ∈ fs → b ∉ ex → ∃ sl, h'.get? b = some { o with slots := sl }
  free : ∀ b o, h.get? b = some o → H b = none → b ∉ ex → H' b = none
  there : ∀ b o, h.get? b = some o → b ∉ ex → ∃ o', h'.get? b = some o'
  tups : ∀ b xs, H b = some (.tup xs) → H' b = some (.tup xs)
  frzs : ∀ b o u, H b = some (.frz o u) → H' b = some (.frz o u)
  tbls : ∀ b ps, H b = some (.tbl ps) → ∃ more, H' b = some (.tbl (ps ++ more))
section
variable {fs fs' ex ex' : List Addr} {H H1 H2 : Hp} {h h1 h2 h' : Heap} {a x e : Addr} {o : HO}
theorem Un.any (u : Un fs ex H H1 h h1) {b : Addr} {ob : Obj} (q : h.get? b = some ob) (n : H b = none) (hx : b ∉ ex) : ∃ sl, h1.get? b = some { ob with slots := sl } := by
  by_cases hb : b ∈ fs
  · exact u.slot b ob q n hb hx
  · exact ⟨ob.slots, u.keep b ob q n hb hx⟩
theorem Un.trans (a : Un fs ex H H1 h h1) (b : Un fs ex H1 H2 h1 h2) : Un fs ex H H2 h h2 where
  keep := fun c ob q n hc hx => b.keep c ob (a.keep c ob q n hc hx) (a.free c ob q n hx) hc hx
  slot := fun c ob q n hc hx => by
    obtain ⟨sl, e1⟩ := a.slot c ob q n hc hx
    obtain ⟨sl', e2⟩ := b.slot c _ e1 (a.free c ob q n hx) hc hx
    exact ⟨sl', e2⟩
  free := fun c ob q n hx => by
    obtain ⟨o', e1⟩ := a.there c ob q hx
    exact b.free c o' e1 (a.free c ob q n hx) hx
  there := fun c ob q hx => by
    obtain ⟨o', e1⟩ := a.there c ob q hx
    exact b.there c o' e1 hx
  tups := fun c xs q => b.tups c xs (a.tups c xs q)
  frzs := fun c ob xs q => b.frzs c ob xs (a.frzs c ob xs q)
  tbls := fun c ps q => by
    obtain ⟨m1, e1⟩ := a.tbls c ps q
    obtain ⟨m2, e2⟩ := b.tbls c _ e1
    exact ⟨m1 ++ m2, by rw [e2, Array.append_assoc]⟩
theorem Un.kept (k : ∀ b u, h.get? b = some u → h'.get? b = some u) : Un fs ex H H h h' :=
  ⟨fun b ob q _ _ _ => k b ob q, fun b ob q _ _ _ => ⟨ob.slots, k b ob q⟩, fun _ _ _ n _ => n, fun b ob q _ => ⟨ob, k b ob q⟩, fun _ _ q => q, fun _ _ _ q => q, fun _ ps q => ⟨#[], by rw [q]; simp⟩⟩
theorem Un.refl : Un fs ex H H h h := Un.kept fun _ _ q => q
theorem Un.laid (k : ∀ b u, h.get? b = some u → h'.get? b = some u) (hp : h.objs.size ≤ a) (hn : H a = none) : Un fs ex H (upd H a o) h h' where
  keep := fun b u q _ _ _ => k b u q
  slot := fun b u q _ _ _ => ⟨u.slots, k b u q⟩
  free := fun b u q n _ => by rw [upd_ne (Nat.ne_of_lt (Nat.lt_of_lt_of_le (Heap.lt_size q) hp))]; exact n
  there := fun b u q _ => ⟨u, k b u q⟩
  tups := fun b xs q => by rw [upd_ne (ne_of_none q hn)]; exact q
  frzs := fun b u xs q => by rw [upd_ne (ne_of_none q hn)]; exact q
  tbls := fun b ps q => ⟨#[], by rw [upd_ne (ne_of_none q hn), q]; simp⟩
theorem Un.write (mu : Mut (H x)) (he : e = x ∨ H e = some (.own x)) (k : ∀ b u, b ≠ e → h.get? b = some u → h'.get? b = some u) (heo : ∃ u, h'.get? e = some u) : Un fs ex H (upd H x o) h h' := by
  have hx : ∀ b, H b = none → b ≠ x := fun b n z => by subst z; rw [n] at mu; exact mu
  have hb : ∀ b, H b = none → b ≠ e := fun b n z => by
    subst z
    rcases he with r | r
    · exact hx b n r
    · rw [n] at r; cases r
  have hm : ∀ b u, H b = some u → ¬ Mut (some u) → b ≠ x := fun b u q nm z => by subst z; rw [q] at mu; exact nm mu
  refine ⟨fun b u q n _ _ => k b u (hb b n) q, fun b u q n _ _ => ⟨u.slots, k b u (hb b n) q⟩, fun b u q n _ => by rw [upd_ne (hx b n)]; exact n, fun b u q _ => ?_,
    fun b xs q => by rw [upd_ne (hm b _ q fun z => z)]; exact q, fun b u xs q => by rw [upd_ne (hm b _ q fun z => z)]; exact q, fun b ps q => ⟨#[], by rw [upd_ne (hm b _ q fun z => z), q]; simp⟩⟩
  by_cases hbe : b = e
  · subst hbe; exact heo
  · exact ⟨u, k b u hbe q⟩
theorem Un.mono (u : Un fs ex H H1 h h1) (hs : ∀ b ∈ fs, b ∈ fs') (hx : ∀ b ∈ ex, b ∈ ex') : Un fs' ex' H H1 h h1 :=
  ⟨fun b ob q n hb he => u.keep b ob q n (fun z => hb (hs b z)) fun z => he (hx b z), fun _ _ q n _ he => u.any q n fun z => he (hx _ z), fun b ob q n he => u.free b ob q n fun z => he (hx b z), fun b ob q he => u.there b ob q fun z => he (hx b z), u.tups, u.frzs, u.tbls⟩
end

/-! ### the heap without what is tracked -/
def trk (h : Heap) (H : Hp) : List Addr := (List.range h.objs.size).filter fun a => (H a).isSome
def hidT (h : Heap) (H : Hp) : Heap := PySem.W.hideAll h (trk h H)
theorem hidT_size (h : Heap) (H : Hp) : (hidT h H).objs.size = h.objs.size := PySem.W.hideAll_size _ _
theorem hidT_get {h : Heap} {H : Hp} {b : Addr} {o : Obj} (e : h.get? b = some o) (n : H b = none) : (hidT h H).get? b = some o :=
  PySem.W.hideAll_get _ e fun hm => by
    have q : (H b).isSome = true := (List.mem_filter.mp hm).2
    rw [n] at q; simp at q
theorem of_hidT {h : Heap} {H : Hp} {b : Addr} {o : Obj} (e : (hidT h H).get? b = some o) : h.get? b = some o ∧ H b = none := by
  have e' : h.get? b = some o := PySem.W.of_hideAll (trk h H) e
  refine ⟨e', ?_⟩
  cases q : H b with
  | none => rfl
  | some x =>
    have hm : b ∈ trk h H := List.mem_filter.mpr ⟨List.mem_range.mpr (Heap.lt_size e'), by simp [q]⟩
    have z : (hidT h H).get? b = none := PySem.W.hideAll_none (trk h H) hm
    rw [z] at e; cases e

/-! ### OpenK's ledger, filled with every new object but one -/
def allNews (g h : Heap) (L : Addr) : List (Addr × Obj) := (List.range h.objs.size).filterMap fun a => if a = L ∨ (g.get? a).isSome = true then none else (h.get? a).map fun o => (a, o)
theorem mem_allNews {g h : Heap} {L a : Addr} {o : Obj} (h1 : a ≠ L) (h2 : g.get? a = none) (h3 : h.get? a = some o) : (a, o) ∈ allNews g h L :=
  List.mem_filterMap.mpr ⟨a, List.mem_range.mpr (Heap.lt_size h3), by simp [h1, h2, h3]⟩
theorem of_mem_allNews {g h : Heap} {L : Addr} {p : Addr × Obj} (hp : p ∈ allNews g h L) : p.1 ≠ L ∧ g.get? p.1 = none ∧ h.get? p.1 = some p.2 := by
  obtain ⟨b, _, e⟩ := List.mem_filterMap.mp hp
  split at e
  · cases e
  · rename_i hn
    cases q : h.get? b with
    | none => rw [q] at e; simp at e
    | some u =>
      rw [q] at e
      simp only [Option.map_some, Option.some.injEq] at e
      subst e
      refine ⟨fun z => hn (.inl z), ?_, q⟩
      show g.get? b = none
      cases r : g.get? b with
      | none => rfl
      | some v => exact (hn (.inr (by simp [r]))).elim
def rest (g h : Heap) (L d : Addr) : List (Addr × Obj) := (allNews g h L).filter fun p => decide (p.1 ≠ d)
theorem rest_ne {g h : Heap} {L d : Addr} : ∀ p ∈ rest g h L d, p.1 ≠ d := fun p hp => of_decide_eq_true (List.mem_filter.mp hp).2
theorem mem_rest {g h : Heap} {L d a : Addr} {o : Obj} (h1 : a ≠ L) (h2 : g.get? a = none) (h3 : h.get? a = some o) (h4 : a ≠ d) : (a, o) ∈ rest g h L d :=
  List.mem_filter.mpr ⟨mem_allNews h1 h2 h3, decide_eq_true h4⟩
theorem news_all {g h : Heap} {L : Addr} : News g L h (allNews g h L) := fun p hp => let ⟨a, b, c⟩ := of_mem_allNews hp; ⟨c, a, b⟩
theorem news_at {g h : Heap} {L d : Addr} {o : Obj} (h1 : d ≠ L) (h2 : g.get? d = none) (h3 : h.get? d = some o) : News g L h ((d, o) :: rest g h L d) := fun p hp => by
  rcases List.mem_cons.mp hp with rfl | hp
  · exact ⟨h3, h1, h2⟩
  · exact news_all p (List.mem_filter.mp hp).1
/-- behind a rule that changed d alone: all else but the frame is kept -/
theorem kept_of_news {g h h' : Heap} {L d : Addr} {m : Str → Option Value} (k : ∀ b o, g.get? b = some o → h.get? b = some o) (F : Fr g L h' m) (N : News g L h' (rest g h L d)) :
    ∀ b o, b ≠ L → b ≠ d → h.get? b = some o → h'.get? b = some o := fun b o h1 h2 e => by
  cases q : g.get? b with
  | some u =>
    have := k b u q
    rw [e] at this; cases this
    exact F.keep b _ q
  | none => exact (N (b, o) (mem_rest h1 q e h2)).1
end L2

namespace L2
open PySem PySem.Spec PyProof.Rows

/-- the module's facts, over the base: the heap at the law's entry without what is tracked there -/
structure Mod (K : PySem.W.Frag) (mg : Str → Option Value) (base : Heap) : Prop where
  kin : K.In base
  glob : base.Ns mainGlobals mg
  blt : ∃ mb, base.Ns builtinsNs mb ∧ ∀ x : Str, x ≠ "__name__" → mb x = bootBuiltins x
  nolimit : base.NoLimit

/-- the context: a def's body (or a comprehension's block) running. base: fixed through the whole law; s₀, H₀: the entry; outer: the frames whose slots others may change (a def's callers); stack: all frames that run;
   ex: iterators that were made ahead of the entry and are walked here (a comprehension's); fn: the names whose cells were made at the entry (a def: all; a comprehension's block: its own); calm: not within an except suite; pn: pins that every state bears; xe: what is wanted of an exception that leaves the code -/
structure Cx where
  prog : Program
  w : World
  K : PySem.W.Frag
  mg : Str → Option Value
  base : Heap
  A : Around
  N : List Str
  s₀ : Shared
  H₀ : Hp
  env : Env
  outer : List Env
  stack : List Env
  ex : List Addr
  fn : Str → Bool
  calm : Bool
  pn : List (Addr × Obj)
  xe : Value → Shared → Prop
/-- the callers' frames -/
def frs (l : List Env) : List Addr := l.filterMap (·.frame)
abbrev Cx.fs (X : Cx) : List Addr := frs X.outer

def Vis (sc : Scope) (x : Str) : Prop := sc.names.lookup x = some .local ∨ sc.names.lookup x = some .cell ∨ sc.names.lookup x = some .free
def Loc (sc : Scope) (x : Str) : Prop := sc.names.lookup x = some .local ∨ sc.names.lookup x = some .cell
def Look (env : Env) (h : Heap) (m : Str → Option Value) (x : Str) (u : Value) : Prop :=
  (env.kindOf x = some .local ∧ m x = some u) ∨ ((env.kindOf x = some .cell ∨ env.kindOf x = some .free) ∧ ∃ c, env.cells.lookup x = some c ∧ h.IsCell c (some u))

structure Cx.Ok (X : Cx) : Prop where
  mod : Mod X.K X.mg X.base
  kind : X.env.scope.kind = .function
  glob : X.env.globals = mainGlobals
  blt : X.env.builtins = builtinsNs
  above : X.s₀.heap.objs.size ≤ X.env.locals
  inj : ∀ x y c, X.env.cells.lookup x = some c → X.env.cells.lookup y = some c → x = y
  has : ∀ x, (X.env.kindOf x = some .cell ∨ X.env.kindOf x = some .free) → ∃ c, X.env.cells.lookup x = some c
  cab : ∀ x c, X.fn x = true → X.env.cells.lookup x = some c → X.s₀.heap.objs.size ≤ c
  hd : X.calm = true → X.A.handled = none
  frames : X.A.frames = some X.stack
  stk : X.stack = X.outer ∨ (X.stack = X.env :: X.outer ∧ X.env.frame = some X.env.locals)
  exf : ∀ b ∈ X.ex, b ≠ X.env.locals ∧ ∀ x c, X.env.cells.lookup x = some c → c ≠ b
  bs : ∀ b o, X.base.get? b = some o → X.s₀.heap.get? b = some o ∧ X.H₀ b = none
  bsz : X.base.objs.size ≤ X.s₀.heap.objs.size
  noex : ∀ b o, X.base.get? b = some o → b ∉ X.ex
  exfs : ∀ b ∈ X.ex, b ∉ X.fs
  funs : X.s₀.heap.FunFrames X.base X.outer
  frf : ∀ b ∈ X.fs, X.H₀ b = none

structure Inv (X : Cx) (pins : List (Addr × Obj)) (σ : List (Option V)) (H : Hp) (s : Shared) : Prop where
  ok : X.Ok
  os : s.os = X.s₀.os
  bare : AllBare s.gens
  base : Un X.fs X.ex X.H₀ H X.s₀.heap s.heap
  loc : ∃ m, s.heap.Ns X.env.locals m ∧ ∀ (i : Nat) (x : Str) (v : V), X.N[i]? = some x → σ[i]? = some (some v) → Vis X.env.scope x → ∃ u, RelV v u ∧ Look X.env s.heap m x u
  cell : ∀ x c, X.env.cells.lookup x = some c → ∃ v, s.heap.IsCell c v
  free : H X.env.locals = none
  freeC : ∀ x c, X.env.cells.lookup x = some c → H c = none
  pin : ∀ p ∈ X.pn ++ pins, s.heap.get? p.1 = some p.2 ∧ H p.1 = none ∧ p.1 ≠ X.env.locals ∧ p.1 ∉ X.fs ∧ ∀ v, p.2.data ≠ .cell v
  hok : HOk X.prog X.w H s.heap
  len : σ.length = X.N.length

section
variable {X : Cx} {pins : List (Addr × Obj)} {σ : List (Option V)} {H H' : Hp} {s : Shared} {h' : Heap}

theorem Cx.Ok.nofr (ok : X.Ok) {b : Addr} {o : Obj} (e : X.base.get? b = some o) : b ∉ X.fs := fun hb => by
  have := (ok.funs.mem hb).1
  rw [e] at this; cases this
theorem Inv.bs (I : Inv X pins σ H s) : ∀ b o, X.base.get? b = some o → s.heap.get? b = some o ∧ H b = none := fun b o e =>
  ⟨I.base.keep b o (I.ok.bs b o e).1 (I.ok.bs b o e).2 (I.ok.nofr e) (I.ok.noex b o e), I.base.free b o (I.ok.bs b o e).1 (I.ok.bs b o e).2 (I.ok.noex b o e)⟩
theorem Inv.bk (I : Inv X pins σ H s) : ∀ b o, X.base.get? b = some o → s.heap.get? b = some o := fun b o e => (I.bs b o e).1
theorem Inv.mod (I : Inv X pins σ H s) : Mod X.K X.mg X.base := I.ok.mod
theorem Inv.kIn (I : Inv X pins σ H s) : X.K.In s.heap := I.ok.mod.kin.keeps I.bk
theorem Inv.nolimit (I : Inv X pins σ H s) : s.heap.NoLimit := I.ok.mod.nolimit.keeps I.bk
/-- the frame over the base: for OpenK's rules (K.In X.base is I.mod.kin) -/
theorem Inv.fr (I : Inv X pins σ H s) : ∃ m, Fr X.base X.env.locals s.heap m :=
  let ⟨m, hn, _⟩ := I.loc
  ⟨m, hn, I.bk, Nat.le_trans I.ok.bsz I.ok.above⟩
theorem Inv.lt (I : Inv X pins σ H s) : X.env.locals < s.heap.objs.size := let ⟨_, hn, _⟩ := I.loc; hn.lt
theorem Inv.sz (I : Inv X pins σ H s) : X.s₀.heap.objs.size ≤ s.heap.objs.size := Nat.le_trans I.ok.above (Nat.le_of_lt I.lt)
theorem Inv.nofs (I : Inv X pins σ H s) {a : Addr} (h : s.heap.objs.size ≤ a) : a ∉ X.fs := fun hb => by
  obtain ⟨_, o, ho, _⟩ := I.ok.funs.mem hb
  exact absurd (Nat.lt_of_lt_of_le (Heap.lt_size ho) (Nat.le_trans I.sz h)) (Nat.lt_irrefl _)
theorem Inv.cne (I : Inv X pins σ H s) : ∀ x c, X.env.cells.lookup x = some c → c ≠ X.env.locals := fun x c e z => by
  obtain ⟨v, o, ho, hd⟩ := I.cell x c e
  obtain ⟨m, ⟨o', es, ep, ho', hd', _⟩, _⟩ := I.loc
  rw [z, ho'] at ho; cases ho; rw [hd'] at hd; cases hd
theorem Inv.funs (I : Inv X pins σ H s) : s.heap.FunFrames X.base X.outer := by
  have all : ∀ (l : List Env), (∀ b ∈ frs l, b ∈ X.fs) → X.s₀.heap.FunFrames X.base l → s.heap.FunFrames X.base l := by
    intro l
    induction l with
    | nil => intro _ _; trivial
    | cons env r ih =>
      intro hs hl
      obtain ⟨hk, ⟨L, o, hf, hn, ho, hd⟩, hr⟩ := hl
      have hL : L ∈ X.fs := hs L (by unfold frs; rw [List.filterMap_cons, hf]; exact List.mem_cons_self)
      obtain ⟨sl, e⟩ := I.base.slot L o ho (I.ok.frf L hL) hL fun z => I.ok.exfs L z hL
      exact ⟨hk, ⟨L, _, hf, hn, e, hd⟩, ih (fun b hb => hs b (by unfold frs; rw [List.filterMap_cons, hf]; exact List.mem_cons_of_mem _ hb)) hr⟩
  exact all X.outer (fun _ hb => hb) I.ok.funs

/-- the frames that run, for a call -/
theorem Inv.stack (I : Inv X pins σ H s) : s.heap.FunFrames X.base X.stack := by
  rcases I.ok.stk with e | ⟨e, hf⟩
  · rw [e]; exact I.funs
  · rw [e]
    obtain ⟨m, hn, _⟩ := I.loc
    refine .cons (by rw [I.ok.kind]; decide) hf hn ?_ I.funs
    exact Heap.get?_none_of_le (Nat.le_trans I.ok.bsz I.ok.above)
theorem Inv.stkSub (I : Inv X pins σ H s) : ∀ b ∈ frs X.stack, b ∈ X.env.locals :: X.fs := fun b hb => by
  rcases I.ok.stk with e | ⟨e, hf⟩
  · rw [e] at hb; exact List.mem_cons_of_mem _ hb
  · rw [e] at hb
    unfold frs at hb
    rw [List.filterMap_cons, hf] at hb
    exact hb
theorem Inv.stkFree (I : Inv X pins σ H s) : ∀ b ∈ frs X.stack, H b = none := fun b hb => by
  rcases List.mem_cons.mp (I.stkSub b hb) with e | hb
  · rw [e]; exact I.free
  · obtain ⟨_, o, ho, _⟩ := I.ok.funs.mem hb
    exact I.base.free b o ho (I.ok.frf b hb) fun z => I.ok.exfs b z hb

/-- THE STEP: the untracked objects but the frame and the records at ch are kept (the callers' frames up to slots), the frame's map is kept, the new abstract heap is held -/
theorem Inv.step {g' : Array GenState} {t' : Nat} {d' : Drawn} {ch : List Addr} (I : Inv X pins σ H s)
    (hch : ∀ b ∈ ch, (b ∈ X.ex ∨ X.s₀.heap.objs.size ≤ b) ∧ b ≠ X.env.locals ∧ (∀ x c, X.env.cells.lookup x = some c → c ≠ b) ∧ ∀ p ∈ X.pn ++ pins, p.1 ≠ b)
    (keep : ∀ b o, b ≠ X.env.locals → b ∉ X.fs → b ∉ ch → s.heap.get? b = some o → H b = none → h'.get? b = some o)
    (slot : ∀ b o, b ≠ X.env.locals → b ∈ X.fs → b ∉ ch → s.heap.get? b = some o → H b = none → ∃ sl, h'.get? b = some { o with slots := sl }) (free : ∀ b o, b ∉ ch → s.heap.get? b = some o → H b = none → H' b = none)
    (there : ∀ b o, b ∉ ch → s.heap.get? b = some o → ∃ o', h'.get? b = some o')
    (tups : ∀ b xs, H b = some (.tup xs) → H' b = some (.tup xs)) (frzs : ∀ b o u, H b = some (.frz o u) → H' b = some (.frz o u)) (tbls : ∀ b ps, H b = some (.tbl ps) → ∃ more, H' b = some (.tbl (ps ++ more)))
    (ns : ∀ m, s.heap.Ns X.env.locals m → h'.Ns X.env.locals m) (hok : HOk X.prog X.w H' h') (hg : AllBare g') :
    Inv X pins σ H' { s with heap := h', gens := g', drawn := d', toks := t' } := by
  have neL : ∀ b o, X.s₀.heap.get? b = some o → b ≠ X.env.locals := fun b o e => Nat.ne_of_lt (Nat.lt_of_lt_of_le (Heap.lt_size e) I.ok.above)
  have neC : ∀ b o, X.s₀.heap.get? b = some o → b ∉ X.ex → b ∉ ch := fun b o e hx hb => by
    rcases (hch b hb).1 with z | z
    · exact hx z
    · exact absurd (Nat.lt_of_lt_of_le (Heap.lt_size e) z) (Nat.lt_irrefl _)
  have cellK : ∀ x c, X.env.cells.lookup x = some c → ∀ v, s.heap.IsCell c v → h'.IsCell c v := fun x c e v ⟨o, ho, hd⟩ => by
    have nch : c ∉ ch := fun z => (hch c z).2.2.1 x c e rfl
    by_cases hc : c ∈ X.fs
    · obtain ⟨sl, q⟩ := slot c o (I.cne x c e) hc nch ho (I.freeC x c e)
      exact ⟨_, q, hd⟩
    · exact ⟨o, keep c o (I.cne x c e) hc nch ho (I.freeC x c e), hd⟩
  refine ⟨I.ok, I.os, hg, ⟨fun b o e n hb hx => ?_, fun b o e n hb hx => ?_, fun b o e n hx => ?_, fun b o e hx => ?_, fun b xs e => tups b xs (I.base.tups b xs e), fun b o xs e => frzs b o xs (I.base.frzs b o xs e), fun b ps e => ?_⟩, ?_, fun x c e => ?_, ?_, fun x c e => ?_, fun p hp => ?_, hok, I.len⟩
  · exact keep b o (neL b o e) hb (neC b o e hx) (I.base.keep b o e n hb hx) (I.base.free b o e n hx)
  · obtain ⟨sl, e1⟩ := I.base.slot b o e n hb hx
    obtain ⟨sl', e2⟩ := slot b _ (neL b o e) hb (neC b o e hx) e1 (I.base.free b o e n hx)
    exact ⟨sl', e2⟩
  · obtain ⟨o', e1⟩ := I.base.there b o e hx
    exact free b o' (neC b o e hx) e1 (I.base.free b o e n hx)
  · obtain ⟨o', e1⟩ := I.base.there b o e hx
    exact there b o' (neC b o e hx) e1
  · obtain ⟨m1, e1⟩ := I.base.tbls b ps e
    obtain ⟨m2, e2⟩ := tbls b _ e1
    exact ⟨m1 ++ m2, by rw [e2, Array.append_assoc]⟩
  · obtain ⟨m, hn, hl⟩ := I.loc
    refine ⟨m, ns m hn, fun i x v e1 e2 e3 => ?_⟩
    obtain ⟨u, r, l⟩ := hl i x v e1 e2 e3
    refine ⟨u, r, ?_⟩
    rcases l with l | ⟨k, c, e, z⟩
    · exact .inl l
    · exact .inr ⟨k, c, e, cellK x c e _ z⟩
  · obtain ⟨v, z⟩ := I.cell x c e
    exact ⟨v, cellK x c e v z⟩
  · obtain ⟨m, ⟨o, _, _, ho, _⟩, _⟩ := I.loc
    exact free _ o (fun z => (hch _ z).2.1 rfl) ho I.free
  · obtain ⟨v, o, ho, hd⟩ := I.cell x c e
    exact free c o (fun z => (hch c z).2.2.1 x c e rfl) ho (I.freeC x c e)
  · obtain ⟨e, n, ne, nf, d⟩ := I.pin p hp
    have nch : p.1 ∉ ch := fun z => (hch p.1 z).2.2.2 p hp rfl
    exact ⟨keep p.1 p.2 ne nf nch e n, free p.1 p.2 nch e n, ne, nf, d⟩
/-- .. where the frame's own object is kept too -/
theorem Inv.un {t' : Nat} (I : Inv X pins σ H s) (u : Un X.fs [] H H' s.heap h') (hok : HOk X.prog X.w H' h') : Inv X pins σ H' { s with heap := h', toks := t' } := by
  obtain ⟨m, ⟨o, es, ep, ho, r⟩, _⟩ := id I.loc
  obtain ⟨sl, hL⟩ := u.any ho I.free (by simp)
  exact I.step (g' := s.gens) (d' := s.drawn) (ch := []) (fun _ z => nomatch z) (fun b o _ hb _ e n => u.keep b o e n hb (by simp)) (fun b o _ hb _ e n => u.slot b o e n hb (by simp)) (fun b o _ e n => u.free b o e n (by simp)) (fun b o _ e => u.there b o e (by simp)) u.tups u.frzs u.tbls (fun m' hm => by
    obtain ⟨o', es', ep', ho', r'⟩ := hm
    rw [ho] at ho'; cases ho'
    exact ⟨_, es', ep', hL, r'⟩) hok I.bare
/-- behind a call (or a comprehension's block): the slots of this frame may have changed too, the records at ch may have turned -/
theorem Inv.call {g' : Array GenState} {t' : Nat} {d' : Drawn} {ch : List Addr} (I : Inv X pins σ H s) (u : Un (frs X.stack) ch H H' s.heap h') (hok : HOk X.prog X.w H' h') (hg : AllBare g')
    (hch : ∀ b ∈ ch, (b ∈ X.ex ∨ X.s₀.heap.objs.size ≤ b) ∧ b ≠ X.env.locals ∧ (∀ x c, X.env.cells.lookup x = some c → c ≠ b) ∧ ∀ p ∈ X.pn ++ pins, p.1 ≠ b) :
    Inv X pins σ H' { s with heap := h', gens := g', drawn := d', toks := t' } := by
  obtain ⟨m, ⟨o, es, ep, ho, r⟩, _⟩ := id I.loc
  obtain ⟨sl, hL⟩ := u.any ho I.free fun z => (hch _ z).2.1 rfl
  exact I.step (ch := ch) hch (fun b o hL hb hc e n => u.keep b o e n (fun z => (List.mem_cons.mp (I.stkSub b z)).elim hL hb) hc) (fun b o _ _ hc e n => u.any e n hc) (fun b o hc e n => u.free b o e n hc) (fun b o hc e => u.there b o e hc) u.tups u.frzs u.tbls (fun m' hm => by
    obtain ⟨o', es', ep', ho', r'⟩ := hm
    rw [ho] at ho'; cases ho'
    exact ⟨_, es', ep', hL, r'⟩) hok hg
/-- an untracked record of ours (an iterator) has turned -/
theorem Inv.turned {t' : Nat} {it : Addr} (I : Inv X pins σ H s) (k : ∀ b o, b ≠ it → s.heap.get? b = some o → h'.get? b = some o) (hn : H it = none) (hL : it ≠ X.env.locals)
    (h1 : it ∈ X.ex ∨ X.s₀.heap.objs.size ≤ it) (h2 : ∀ x c, X.env.cells.lookup x = some c → c ≠ it) (h3 : ∀ p ∈ X.pn ++ pins, p.1 ≠ it) : Inv X pins σ H { s with heap := h', toks := t' } := by
  have nit : ∀ b u, H b = some u → b ≠ it := fun b u e z => by rw [z, hn] at e; cases e
  refine I.step (g' := s.gens) (d' := s.drawn) (ch := [it]) (fun b hb => ?_) (fun b o _ _ hc e _ => k b o (fun z => hc (by simp [z])) e) (fun b o _ _ hc e _ => ⟨o.slots, k b o (fun z => hc (by simp [z])) e⟩) (fun _ _ _ _ n => n)
    (fun b o hc e => ⟨o, k b o (fun z => hc (by simp [z])) e⟩) (fun _ _ e => e) (fun _ _ _ e => e) (fun b ps e => ⟨#[], by rw [e]; simp⟩) (fun m hm => ?_) (fun b u e => ?_) I.bare
  · have e : b = it := by simpa using hb
    subst e
    exact ⟨h1, hL, h2, h3⟩
  · obtain ⟨o, es, ep, ho, r⟩ := hm
    exact ⟨o, es, ep, k _ o (Ne.symm hL) ho, r⟩
  · refine (I.hok b u e).stay (fun c v hc q => k c v ?_ q) (fun _ q => q) fun _ _ q => q
    rcases hc with z | z
    · rw [z]; exact nit b u e
    · exact nit c _ z
theorem Inv.tok (I : Inv X pins σ H s) (t : Nat) : Inv X pins σ H { s with toks := t } := I.un (h' := s.heap) (t' := t) Un.refl I.hok
/-- all objects kept -/
theorem Inv.kept {t' : Nat} (I : Inv X pins σ H s) (k : ∀ b u, s.heap.get? b = some u → h'.get? b = some u) : Inv X pins σ H { s with heap := h', toks := t' } := I.un (Un.kept k) (I.hok.kept k)
/-- a new object laid and tracked -/
theorem Inv.laid {a : Addr} {o : HO} {t' : Nat} (I : Inv X pins σ H s) (k : ∀ b u, s.heap.get? b = some u → h'.get? b = some u) (hp : s.heap.objs.size ≤ a) (new : ObjOk X.prog X.w (upd H a o) h' a o) :
    Inv X pins σ (upd H a o) { s with heap := h', toks := t' } := I.un (Un.laid k hp (I.hok.fresh hp)) (I.hok.laid k hp new)
/-- an object written -/
theorem Inv.write {x e : Addr} {o : HO} {t' : Nat} (I : Inv X pins σ H s) (mu : Mut (H x)) (he : e = x ∨ H e = some (.own x)) (k : ∀ b u, b ≠ e → s.heap.get? b = some u → h'.get? b = some u) (heo : ∃ u, h'.get? e = some u)
    (new : ObjOk X.prog X.w (upd H x o) h' x o) : Inv X pins σ (upd H x o) { s with heap := h', toks := t' } := I.un (Un.write mu he k heo) (I.hok.write mu he k heo new)
/-- forgetting slots, pins -/
theorem Inv.weak {σ' : List (Option V)} (I : Inv X pins σ H s) (hl : σ'.length = σ.length) (w : ∀ (i : Nat) v, σ'[i]? = some (some v) → σ[i]? = some (some v)) : Inv X pins σ' H s :=
  ⟨I.ok, I.os, I.bare, I.base, let ⟨m, hn, hl'⟩ := I.loc; ⟨m, hn, fun i x v e1 e2 e3 => hl' i x v e1 (w i v e2) e3⟩, I.cell, I.free, I.freeC, I.pin, I.hok, hl.trans I.len⟩
theorem Inv.pins_of {pins' : List (Addr × Obj)} (I : Inv X pins σ H s) (h : ∀ p ∈ pins', s.heap.get? p.1 = some p.2 ∧ H p.1 = none ∧ p.1 ≠ X.env.locals ∧ p.1 ∉ X.fs ∧ ∀ v, p.2.data ≠ .cell v) : Inv X pins' σ H s :=
  ⟨I.ok, I.os, I.bare, I.base, I.loc, I.cell, I.free, I.freeC, fun p hp => (List.mem_append.mp hp).elim (fun z => I.pin p (List.mem_append_left _ z)) (h p), I.hok, I.len⟩

theorem nodup_ix {N : List Str} (hN : N.Nodup) {i j : Nat} {x : Str} (a : N[i]? = some x) (b : N[j]? = some x) : i = j := by
  obtain ⟨h1, e1⟩ := List.getElem?_eq_some_iff.mp a
  obtain ⟨h2, e2⟩ := List.getElem?_eq_some_iff.mp b
  exact (List.getElem_inj hN).mp (e1.trans e2.symm)

/-- a name is stored; what changed -/
theorem store_ok2 {M : Model} {A : Around} {E : Value → Shared → Prop} {i : Nat} {x : Str} {v : V} {u : Value} {Q : Unit → Shared → Prop} (I : Inv X pins σ H s) (hN : X.N.Nodup) (hi : X.N[i]? = some x) (hx : Loc X.env.scope x) (r : RelV v u)
    (h : ∀ s', Inv X pins (σ.set i (some v)) H s' → (∃ a, Heap.SameBut a s.heap s'.heap ∧ (a = X.env.locals ∨ X.env.cells.lookup x = some a)) → Q () s') (hf : X.fn x = true ∨ X.env.scope.names.lookup x = some .local := by first | exact .inl rfl | exact .inr rfl | assumption) : wpAny M A (storeName X.env x u) Q E s := by
  obtain ⟨m, hn, hl⟩ := id I.loc
  have hcls : (X.env.scope.kind == .class || (X.env.scope.kind == .module && X.env.locals != X.env.globals)) = false := by rw [I.ok.kind]; rfl
  have hiσ : i < σ.length := by rw [I.len]; exact (List.getElem?_eq_some_iff.mp hi).1
  have cne := I.cne
  have tracked : ∀ {a : Addr} {h' : Heap}, (∃ o, s.heap.get? a = some o ∧ H a = none) → Heap.SameBut a s.heap h' → HOk X.prog X.w H h' := fun {a h'} ha hs b ob e => by
    obtain ⟨_, _, hfree⟩ := ha
    refine (I.hok b ob e).stay (fun c w' hc q => (hs.2 c ?_).trans q) (fun _ q => q) fun _ _ q => q
    rintro rfl
    rcases hc with rfl | hc
    · rw [hfree] at e; cases e
    · rw [hfree] at hc; cases hc
  rcases hx with hk | hk
  · refine wpAny_storeName_local hk hn (fun h' hn' hs => ?_) hcls
    obtain ⟨oL, _, _, hoL, _⟩ := id hn
    refine h _ ⟨I.ok, I.os, I.bare, ⟨fun b o e n hb hx => ?_, fun b o e n hb hx => ?_, I.base.free, fun b o e hx => ?_, I.base.tups, I.base.frzs, I.base.tbls⟩, ⟨_, hn', fun j y v' e1 e2 e3 => ?_⟩, fun y c e => ?_, I.free, I.freeC, fun p hp => ?_, tracked ⟨oL, hoL, I.free⟩ hs, by simpa using I.len⟩ ⟨_, hs, .inl rfl⟩
    · exact (hs.2 b (Nat.ne_of_lt (Nat.lt_of_lt_of_le (Heap.lt_size e) I.ok.above))).trans (I.base.keep b o e n hb hx)
    · obtain ⟨sl, e1⟩ := I.base.slot b o e n hb hx
      exact ⟨sl, (hs.2 b (Nat.ne_of_lt (Nat.lt_of_lt_of_le (Heap.lt_size e) I.ok.above))).trans e1⟩
    · obtain ⟨o', e1⟩ := I.base.there b o e hx
      exact ⟨o', (hs.2 b (Nat.ne_of_lt (Nat.lt_of_lt_of_le (Heap.lt_size e) I.ok.above))).trans e1⟩
    · by_cases hj : j = i
      · subst hj
        rw [hi] at e1; cases e1
        rw [List.getElem?_set_self hiσ] at e2
        cases e2
        exact ⟨u, r, .inl ⟨hk, by simp⟩⟩
      · rw [List.getElem?_set_ne (Ne.symm hj)] at e2
        obtain ⟨u', r', q⟩ := hl j y v' e1 e2 e3
        refine ⟨u', r', ?_⟩
        rcases q with ⟨k, e⟩ | ⟨k, c, e, z⟩
        · refine .inl ⟨k, ?_⟩
          have : y ≠ x := fun e => hj (nodup_ix hN e1 (e ▸ hi))
          simp [this, e]
        · exact .inr ⟨k, c, e, z.sameBut hs (cne y c e)⟩
    · obtain ⟨w', z⟩ := I.cell y c e
      exact ⟨w', z.sameBut hs (cne y c e)⟩
    · obtain ⟨e, n, ne, nf, d⟩ := I.pin p hp
      exact ⟨(hs.2 p.1 ne).trans e, n, ne, nf, d⟩
  · have hfn : X.fn x = true := by
      rcases hf with z | z
      · exact z
      · rw [z] at hk; cases hk
    obtain ⟨c, hc⟩ := I.ok.has x (.inl hk)
    obtain ⟨w', z⟩ := I.cell x c hc
    refine wpAny_storeName_cell I.ok.kind hk hc z (fun h' hc' hs => ?_)
    obtain ⟨oc, hoc, hocd⟩ := id z
    refine h { s with heap := h' } ⟨I.ok, I.os, I.bare, ⟨fun b o e n hb hx => ?_, fun b o e n hb hx => ?_, I.base.free, fun b o e hx => ?_, I.base.tups, I.base.frzs, I.base.tbls⟩, ⟨m, hn.sameBut hs (Ne.symm (cne x c hc)), fun j y v' e1 e2 e3 => ?_⟩, fun y c' e => ?_, I.free, I.freeC, fun p hp => ?_, tracked ⟨oc, hoc, I.freeC x c hc⟩ hs, by simpa using I.len⟩ ⟨c, hs, .inr hc⟩
    · exact (hs.2 b (Nat.ne_of_lt (Nat.lt_of_lt_of_le (Heap.lt_size e) (I.ok.cab x c hfn hc)))).trans (I.base.keep b o e n hb hx)
    · obtain ⟨sl, e1⟩ := I.base.slot b o e n hb hx
      exact ⟨sl, (hs.2 b (Nat.ne_of_lt (Nat.lt_of_lt_of_le (Heap.lt_size e) (I.ok.cab x c hfn hc)))).trans e1⟩
    · obtain ⟨o', e1⟩ := I.base.there b o e hx
      exact ⟨o', (hs.2 b (Nat.ne_of_lt (Nat.lt_of_lt_of_le (Heap.lt_size e) (I.ok.cab x c hfn hc)))).trans e1⟩
    · by_cases hj : j = i
      · subst hj
        rw [hi] at e1; cases e1
        rw [List.getElem?_set_self hiσ] at e2
        cases e2
        exact ⟨u, r, .inr ⟨.inl hk, c, hc, hc'⟩⟩
      · rw [List.getElem?_set_ne (Ne.symm hj)] at e2
        obtain ⟨u', r', q⟩ := hl j y v' e1 e2 e3
        refine ⟨u', r', ?_⟩
        rcases q with q | ⟨k, c', e, z'⟩
        · exact .inl q
        · refine .inr ⟨k, c', e, z'.sameBut hs ?_⟩
          rintro rfl
          exact hj (nodup_ix hN e1 (I.ok.inj _ _ _ e hc ▸ hi))
    · by_cases hcc : c' = c
      · subst hcc; exact ⟨_, hc'⟩
      · obtain ⟨w2, z2⟩ := I.cell y c' e
        exact ⟨w2, z2.sameBut hs hcc⟩
    · obtain ⟨e, n, ne, nf, d⟩ := I.pin p hp
      refine ⟨(hs.2 p.1 ?_).trans e, n, ne, nf, d⟩
      intro q
      rw [q, hoc] at e
      have q' : oc = p.2 := Option.some.inj e
      exact d w' (by rw [← q']; exact hocd)
theorem store_ok {M : Model} {A : Around} {E : Value → Shared → Prop} {i : Nat} {x : Str} {v : V} {u : Value} {Q : Unit → Shared → Prop} (I : Inv X pins σ H s) (hN : X.N.Nodup) (hi : X.N[i]? = some x) (hx : Loc X.env.scope x) (r : RelV v u)
    (h : ∀ s', Inv X pins (σ.set i (some v)) H s' → Q () s') (hf : X.fn x = true ∨ X.env.scope.names.lookup x = some .local := by first | exact .inl rfl | exact .inr rfl | assumption) : wpAny M A (storeName X.env x u) Q E s :=
  store_ok2 I hN hi hx r (fun s' I' _ => h s' I') hf
/-- behind a call or a block, the state as it is -/
theorem Inv.call' {s' : Shared} {ch : List Addr} (I : Inv X pins σ H s) (ho : s'.os = s.os) (u : Un (frs X.stack) ch H H' s.heap s'.heap) (hok : HOk X.prog X.w H' s'.heap) (hg : AllBare s'.gens)
    (hch : ∀ b ∈ ch, (b ∈ X.ex ∨ X.s₀.heap.objs.size ≤ b) ∧ b ≠ X.env.locals ∧ (∀ x c, X.env.cells.lookup x = some c → c ≠ b) ∧ ∀ p ∈ X.pn ++ pins, p.1 ≠ b) : Inv X pins σ H' s' := by
  obtain ⟨h', g', d', t', o'⟩ := s'
  have e : o' = s.os := ho
  subst e
  exact I.call (g' := g') (t' := t') (d' := d') u hok hg hch
end

/-! ### the judgements -/
/-- an exception: its class, its own dict's address (where it has one), the abstract heap behind it -/
abbrev XK := Value → Option Addr → Hp → Prop
abbrev St := List (Option V)
abbrev VK := V → Hp → Prop
/-- an expression's reading; a test's; an argument list's -/
abbrev TE := St → Hp → VK → Prop
abbrev TT := St → Hp → (Bool → Hp → Prop) → Prop
abbrev TA := St → Hp → (List V → Hp → Prop) → Prop
/-- what is wanted behind a statement -/
structure Ends where
  nx : St → Hp → Prop
  rt : VK
  bk : St → Hp → Prop := fun _ _ => False
  ct : St → Hp → Prop := fun _ _ => False
abbrev TS := Ends → St → Hp → Prop

def EP (X : Cx) (pins : List (Addr × Obj)) (σ : St) (Q : VK) (u : Value) (s' : Shared) : Prop := ∃ v H', Inv X pins σ H' s' ∧ RelV v u ∧ Q v H'
def TP (X : Cx) (pins : List (Addr × Obj)) (σ : St) (Q : Bool → Hp → Prop) (b : Bool) (s' : Shared) : Prop := ∃ H', Inv X pins σ H' s' ∧ Q b H'
def AP (X : Cx) (pins : List (Addr × Obj)) (σ : St) (Q : List V → Hp → Prop) (us : List Value) (s' : Shared) : Prop := ∃ vs H', Inv X pins σ H' s' ∧ Vals vs us ∧ Q vs H'
def SP (X : Cx) (pins : List (Addr × Obj)) (D : Ends) (f : Flow) (s' : Shared) : Prop :=
  match f with
  | .next => ∃ σ' H', Inv X pins σ' H' s' ∧ D.nx σ' H'
  | .brk => ∃ σ' H', Inv X pins σ' H' s' ∧ D.bk σ' H'
  | .cont => ∃ σ' H', Inv X pins σ' H' s' ∧ D.ct σ' H'
  | .ret u => ∃ v σ' H', Inv X pins σ' H' s' ∧ RelV v u ∧ D.rt v H'

def PE (X : Cx) (e : Expr) (t : TE) : Prop :=
  ∀ (pins : List (Addr × Obj)) (s : Shared) (σ : St) (H : Hp) (Q : VK), Inv X pins σ H s → t σ H Q → wpAny (model X.prog X.w) X.A (eval e X.env) (EP X pins σ Q) X.xe s
def PT (X : Cx) (e : Expr) (t : TT) : Prop :=
  ∀ (pins : List (Addr × Obj)) (s : Shared) (σ : St) (H : Hp) (Q : Bool → Hp → Prop), Inv X pins σ H s → t σ H Q → wpAny (model X.prog X.w) X.A (isTrue e X.env (eval e X.env)) (TP X pins σ Q) X.xe s
/-- a test whatever its 'whole' is (and, or) -/
def PW (X : Cx) (e : Expr) (t : TT) : Prop :=
  ∀ (whole : Sem Value) (pins : List (Addr × Obj)) (s : Shared) (σ : St) (H : Hp) (Q : Bool → Hp → Prop), Inv X pins σ H s → t σ H Q → wpAny (model X.prog X.w) X.A (isTrue e X.env whole) (TP X pins σ Q) X.xe s
theorem PW.pt {X : Cx} {e : Expr} {t : TT} (h : PW X e t) : PT X e t := h _
/-- an argument list (no star), from the left -/
def PA (X : Cx) (es : List Expr) (t : TA) : Prop :=
  ∀ (pos : Pos) (pins : List (Addr × Obj)) (s : Shared) (σ : St) (H : Hp) (Q : List V → Hp → Prop), Inv X pins σ H s → t σ H Q → wpAny (model X.prog X.w) X.A (spliced (backTo pos (starEach es X.env))) (AP X pins σ Q) X.xe s
def PS (X : Cx) (st : Stmt) (t : TS) : Prop :=
  ∀ (pins : List (Addr × Obj)) (s : Shared) (σ : St) (H : Hp) (D : Ends), Inv X pins σ H s → t D σ H → wpAny (model X.prog X.w) X.A (exec st X.env) (SP X pins D) X.xe s
def PSs (X : Cx) (st : List Stmt) (t : TS) : Prop :=
  ∀ (pins : List (Addr × Obj)) (s : Shared) (σ : St) (H : Hp) (D : Ends), Inv X pins σ H s → t D σ H → wpAny (model X.prog X.w) X.A (execs st X.env) (SP X pins D) X.xe s
/-- weaken the end -/
theorem thn {α : Type} {t : Sem α} {Q Q' : α → Shared → Prop} {M : Model} {A : Around} {E : Value → Shared → Prop} {s : Shared} (h : wpAny M A t Q E s) (hQ : ∀ a s, Q a s → Q' a s) : wpAny M A t Q' E s := wpAny_mono h hQ fun _ _ x => x
end L2

namespace L2
open PySem PySem.Spec PyProof.Rows
section
variable {X : Cx}

/-- two expressions in a row -/
theorem bin {a b : Expr} {ta tb : TE} (ha : PE X a ta) (hb : PE X b tb) {pins : List (Addr × Obj)} {s : Shared} {σ : St} {H : Hp} {R : V → V → Hp → Prop} (I : Inv X pins σ H s) (h : ta σ H fun x H1 => tb σ H1 fun y H2 => R x y H2)
    {α : Type} {Q : α → Shared → Prop} {f : Value → Value → Sem α}
    (hf : ∀ v u s2 x y H2, Inv X pins σ H2 s2 → RelV x v → RelV y u → R x y H2 → wpAny (model X.prog X.w) X.A (f v u) Q X.xe s2) :
    wpAny (model X.prog X.w) X.A (eval a X.env) (fun v s₁ => wpAny (model X.prog X.w) X.A (eval b X.env) (fun u s₂ => wpAny (model X.prog X.w) X.A (f v u) Q X.xe s₂) X.xe s₁) X.xe s := by
  refine thn (ha pins s σ H _ I h) fun v s1 ⟨x, H1, I1, r1, q1⟩ => ?_
  refine thn (hb pins s1 σ H1 _ I1 q1) fun u s2 ⟨y, H2, I2, r2, q2⟩ => ?_
  exact hf v u s2 x y H2 I2 r1 r2 q2

/-! ### names and constants -/
def tVar (i : Nat) : TE := fun σ H Q => ∃ v, σ[i]? = some (some v) ∧ Q v H
def tC (v : V) : TE := fun _ H Q => Q v H
theorem pe_var {i : Nat} {x : Str} {pos : Pos} (hN : X.N[i]? = some x) (hv : Vis X.env.scope x) (hd : (x == ("__debug__" : Str)) = false := by decide) (hcd : (x == ("__classdict__" : Str)) = false := by decide) : PE X (.Name x pos) (tVar i) := by
  intro pins s σ H Q I h
  obtain ⟨v, e, h⟩ := h
  obtain ⟨m, hn, hl⟩ := I.loc
  obtain ⟨u, r, l⟩ := hl i x v hN e hv
  have fin : EP X pins σ Q u s := ⟨v, H, I, r, h⟩
  rcases l with ⟨hk, hm⟩ | ⟨hk, c, hc, hcell⟩
  · exact wpAny_Name (wpAny_loadName_local I.ok.kind hk hn hm fin) hd
  · rcases hk with hk | hk
    · exact wpAny_Name (wpAny_loadName_cell I.ok.kind hk hc hcell fin) hd
    · exact wpAny_Name (wpAny_loadName_free I.ok.kind hk hc hcell fin hcd) hd
theorem pe_int {i j pos} : PE X (.Constant (.int i) j pos) (tC (.int i)) := fun _ _ _ H _ I h => wpAny_Constant_int ⟨.int i, H, I.tok _, ⟨_, rfl⟩, h⟩
theorem pe_bl {b j pos} : PE X (.Constant (.bool b) j pos) (tC (.bl b)) := fun _ _ _ H _ I h => Constant_bool ⟨.bl b, H, I, rfl, h⟩
theorem pe_non {j pos} : PE X (.Constant .none j pos) (tC .non) := fun _ _ _ H _ I h => Constant_none ⟨.non, H, I, rfl, h⟩
theorem pe_str {x j pos} : PE X (.Constant (.str x) j pos) (tC (.str x)) := fun _ _ _ H _ I h => Calls.Constant_str ⟨.str x, H, I.tok _, ⟨_, rfl⟩, h⟩

/-- a global name of the def -/
def Gl (X : Cx) (x : Str) : Prop := X.env.kindOf x = some .globalImplicit
theorem ld_glob {E : Value → Shared → Prop} {pins : List (Addr × Obj)} {s : Shared} {σ : St} {H : Hp} {x : Str} {u : Value} {pos : Pos} {Q : Value → Shared → Prop} (I : Inv X pins σ H s) (hg : Gl X x) (hm : X.mg x = some u) (h : Q u s)
    (hd : (x == ("__debug__" : Str)) = false := by decide) : wpAny (model X.prog X.w) X.A (eval (.Name x pos) X.env) Q E s :=
  Calls.Name_function_global I.ok.kind hg (Calls.loadGlobal_global (by rw [I.ok.glob]; exact I.mod.glob.keeps I.bk) hm h) hd
theorem ld_blt {E : Value → Shared → Prop} {pins : List (Addr × Obj)} {s : Shared} {σ : St} {H : Hp} {x : Str} {u : Value} {pos : Pos} {Q : Value → Shared → Prop} (I : Inv X pins σ H s) (hg : Gl X x) (hm : X.mg x = none) (hv : bootBuiltins x = some u) (h : Q u s)
    (hn : x ≠ "__name__" := by decide) (hd : (x == ("__debug__" : Str)) = false := by decide) : wpAny (model X.prog X.w) X.A (eval (.Name x pos) X.env) Q E s := by
  obtain ⟨mb, h1, h2⟩ := I.mod.blt
  exact Calls.Name_function_global I.ok.kind hg (Calls.loadGlobal_builtin (by rw [I.ok.glob]; exact I.mod.glob.keeps I.bk) hm (by rw [I.ok.blt]; exact h1.keeps I.bk) ((h2 x hn).trans hv) h) hd
/-- a module's constant, a class, a function, as a value -/
theorem pe_glob {x : Str} {v : V} {u : Value} {pos : Pos} (hg : Gl X x) (hm : X.mg x = some u) (r : RelV v u) (hd : (x == ("__debug__" : Str)) = false := by decide) : PE X (.Name x pos) (tC v) :=
  fun _ _ _ H _ I h => ld_glob I hg hm ⟨v, H, I, r, h⟩ hd
theorem pe_bltn {x : Str} {v : V} {u : Value} {pos : Pos} (hg : Gl X x) (hm : X.mg x = none) (hv : bootBuiltins x = some u) (r : RelV v u) (hn : x ≠ "__name__" := by decide) (hd : (x == ("__debug__" : Str)) = false := by decide) : PE X (.Name x pos) (tC v) :=
  fun _ _ _ H _ I h => ld_blt I hg hm hv ⟨v, H, I, r, h⟩ hn hd

/-! ### arithmetic -/
/-- two ints -/
def t2I (ta tb : TE) (k : Int → Int → Hp → Prop) : St → Hp → Prop := fun σ H => ta σ H fun x H1 => tb σ H1 fun y H2 => ∃ i j, x = .int i ∧ y = .int j ∧ k i j H2
def tAdd (ta tb : TE) : TE := fun σ H Q => t2I ta tb (fun i j H2 => Q (.int (i + j)) H2) σ H
def tSub (ta tb : TE) : TE := fun σ H Q => t2I ta tb (fun i j H2 => Q (.int (i - j)) H2) σ H
/-- the left factor below 2^64 -/
def tMul (ta tb : TE) : TE := fun σ H Q => t2I ta tb (fun i j H2 => (-(2 ^ 64) < i ∧ i < 2 ^ 64) ∧ Q (.int (i * j)) H2) σ H
variable {a b : Expr} {ta tb : TE} {pos : Pos}
theorem pe_add (ha : PE X a ta) (hb : PE X b tb) : PE X (.BinOp a .Add b pos) (tAdd ta tb) := by
  intro pins s σ H Q I h
  refine wpAny_BinOp (bin ha hb I h fun v u s2 x y H2 I2 rx ry q => ?_)
  obtain ⟨i, j, rfl, rfl, q⟩ := q
  obtain ⟨t, rfl⟩ := rx
  obtain ⟨t', rfl⟩ := ry
  exact add_int ⟨.int _, H2, I2.tok _, ⟨_, rfl⟩, q⟩
theorem pe_sub (ha : PE X a ta) (hb : PE X b tb) : PE X (.BinOp a .Sub b pos) (tSub ta tb) := by
  intro pins s σ H Q I h
  refine wpAny_BinOp (bin ha hb I h fun v u s2 x y H2 I2 rx ry q => ?_)
  obtain ⟨i, j, rfl, rfl, q⟩ := q
  obtain ⟨t, rfl⟩ := rx
  obtain ⟨t', rfl⟩ := ry
  exact sub_int ⟨.int _, H2, I2.tok _, ⟨_, rfl⟩, q⟩
theorem pe_mul (ha : PE X a ta) (hb : PE X b tb) : PE X (.BinOp a .Mult b pos) (tMul ta tb) := by
  intro pins s σ H Q I h
  refine wpAny_BinOp (bin ha hb I h fun v u s2 x y H2 I2 rx ry q => ?_)
  obtain ⟨i, j, rfl, rfl, ⟨q1, q2⟩, q⟩ := q
  obtain ⟨t, rfl⟩ := rx
  obtain ⟨t', rfl⟩ := ry
  exact mul_int ⟨.int _, H2, I2.tok _, ⟨_, rfl⟩, q⟩ (.of_left (intBits_le_64 q1 q2))

/-! ### comparisons -/
def PC (X : Cx) (op : CmpOp) (a b : Expr) (t : TE) : Prop :=
  ∀ (pins : List (Addr × Obj)) (s : Shared) (σ : St) (H : Hp) (Q : VK), Inv X pins σ H s → t σ H Q →
    wpAny (model X.prog X.w) X.A (eval a X.env) (fun v s₁ => wpAny (model X.prog X.w) X.A (eval b X.env) (fun u s₂ => wpAny (model X.prog X.w) X.A (compareOp op v u) (EP X pins σ Q) X.xe s₂) X.xe s₁) X.xe s
theorem nobehind (b : Expr) {op : CmpOp} (h : op ≠ .In) (h2 : op ≠ .NotIn) : behindInMarks op b = false := by
  have e1 : (op == CmpOp.In) = false := by cases op <;> first | rfl | exact absurd rfl h
  have e2 : (op == CmpOp.NotIn) = false := by cases op <;> first | rfl | exact absurd rfl h2
  cases b <;> simp [behindInMarks, e1, e2]
def tCmp (p : Int → Int → Bool) (ta tb : TE) : TE := fun σ H Q => t2I ta tb (fun i j H2 => Q (.bl (p i j)) H2) σ H
abbrev tLt : TE → TE → TE := tCmp fun i j => decide (i < j)
abbrev tLe : TE → TE → TE := tCmp fun i j => decide (i ≤ j)
abbrev tGt : TE → TE → TE := tCmp fun i j => decide (j < i)
abbrev tGe : TE → TE → TE := tCmp fun i j => decide (j ≤ i)
abbrev tEqI : TE → TE → TE := tCmp fun i j => decide (i = j)
abbrev tNeI : TE → TE → TE := tCmp fun i j => !decide (i = j)
/-- a comparison of two ints, by its rule -/
theorem pc_int {op : CmpOp} {p : Int → Int → Bool} (ha : PE X a ta) (hb : PE X b tb)
    (rule : ∀ (i j : Int) (t u : Tok) (Q : Value → Shared → Prop) (s : Shared), Q (.bool (p i j)) s → wpAny (model X.prog X.w) X.A (compareOp op (.int i t) (.int j u)) Q X.xe s) : PC X op a b (tCmp p ta tb) := by
  intro pins s σ H Q I h
  refine bin ha hb I h fun v u s2 x y H2 I2 rx ry q => ?_
  obtain ⟨i, j, rfl, rfl, q⟩ := q
  obtain ⟨t, rfl⟩ := rx
  obtain ⟨t', rfl⟩ := ry
  exact rule i j t t' _ s2 ⟨.bl _, H2, I2, rfl, q⟩
theorem pc_lt (ha : PE X a ta) (hb : PE X b tb) : PC X .Lt a b (tLt ta tb) := pc_int ha hb fun _ _ _ _ _ _ h => lt_int h
theorem pc_le (ha : PE X a ta) (hb : PE X b tb) : PC X .LtE a b (tLe ta tb) := pc_int ha hb fun _ _ _ _ _ _ h => le_int h
theorem pc_gt (ha : PE X a ta) (hb : PE X b tb) : PC X .Gt a b (tGt ta tb) := pc_int ha hb fun _ _ _ _ _ _ h => gt_int h
theorem pc_ge (ha : PE X a ta) (hb : PE X b tb) : PC X .GtE a b (tGe ta tb) := pc_int ha hb fun _ _ _ _ _ _ h => ge_int h
theorem pc_eqI (ha : PE X a ta) (hb : PE X b tb) : PC X .Eq a b (tEqI ta tb) := pc_int ha hb fun _ _ _ _ _ _ h => eq_int (by rw [Bool.beq_eq_decide_eq]; exact h)
theorem pc_neI (ha : PE X a ta) (hb : PE X b tb) : PC X .NotEq a b (tNeI ta tb) := pc_int ha hb fun _ _ _ _ _ _ h => ne_int (by rw [bne, Bool.beq_eq_decide_eq]; exact h)
/-- is None -/
def tIsN (ta : TE) : TE := fun σ H Q => ta σ H fun x H1 => Q (.bl (decide (x = .non))) H1
def tNotN (ta : TE) : TE := fun σ H Q => ta σ H fun x H1 => Q (.bl (!decide (x = .non))) H1
theorem RelV.none_iff {x : V} {v : Value} (r : RelV x v) : (v == Value.none) = decide (x = .non) := by
  cases x with
  | non => cases r; rfl
  | bl _ => cases r; rfl
  | int _ => obtain ⟨t, rfl⟩ := r; rfl
  | str _ => obtain ⟨t, rfl⟩ := r; rfl
  | byt _ => obtain ⟨t, rfl⟩ := r; rfl
  | flt _ => obtain ⟨t, rfl⟩ := r; rfl
  | ref _ => cases r; rfl
  | ty _ => cases r; rfl
theorem pc_isN {j pos'} (ha : PE X a ta) : PC X .Is a (.Constant .none j pos') (tIsN ta) := by
  intro pins s σ H Q I h
  refine thn (ha pins s σ H _ I h) fun v s1 ⟨x, H1, I1, r1, q1⟩ => ?_
  exact Constant_none (is_none_gen ⟨.bl _, H1, I1, by rw [r1.none_iff]; rfl, q1⟩)
theorem pc_notN {j pos'} (ha : PE X a ta) : PC X .IsNot a (.Constant .none j pos') (tNotN ta) := by
  intro pins s σ H Q I h
  refine thn (ha pins s σ H _ I h) fun v s1 ⟨x, H1, I1, r1, q1⟩ => ?_
  exact Constant_none (isnot_none_gen ⟨.bl _, H1, I1, by rw [r1.none_iff]; rfl, q1⟩)
/-- a comparison as a value, as a test -/
def tB (t : TE) : TT := fun σ H Q => t σ H fun x H1 => ∃ c, x = .bl c ∧ Q c H1
theorem pe_cmp {op : CmpOp} {t : TE} (h : PC X op a b t) (h1 : behindInMarks op b = false := by first | exact nobehind _ (by decide) (by decide) | rfl) : PE X (.Compare a [op] [b] pos) t := fun pins s σ H Q I hw => wpAny_Compare1 (h pins s σ H Q I hw) h1
theorem pt_cmp {op : CmpOp} {t : TE} (h : PC X op a b t) (h1 : behindInMarks op b = false := by first | exact nobehind _ (by decide) (by decide) | rfl) : PT X (.Compare a [op] [b] pos) (tB t) := by
  intro pins s σ H Q I hw
  refine wpAny_isTrue_Compare1 (thn (h pins s σ H _ I hw) fun v s1 h1 => thn h1 fun u s2 h2 => thn h2 fun c s3 ⟨x, H1, I1, r1, q1⟩ => ?_) h1
  obtain ⟨d, rfl, q⟩ := q1
  cases r1
  exact wpAny_truthy_bool ⟨H1, I1, q⟩
/-- an expression whose value is a bool, as a test -/
theorem pt_val {e : Expr} {t : TE} (h : PE X e t) (he : ∀ whole, isTrue e X.env whole = (do let v ← whole; standAt e.pos; holding [v] (truthy v)) := by intro _; rfl) : PT X e (tB t) := by
  intro pins s σ H Q I hw
  refine isTrue_plain (thn (h pins s σ H _ I hw) fun v s1 ⟨x, H1, I1, r1, q1⟩ => ?_) (he _)
  obtain ⟨d, rfl, q⟩ := q1
  cases r1
  exact wpAny_truthy_bool ⟨H1, I1, q⟩

/-! ### and, or, not -/
variable {tA tB' : TT} {rest : List Expr}
def tAnd (t u : TT) : TT := fun σ H Q => t σ H fun c H1 => if c = true then u σ H1 Q else Q false H1
def tOr (t u : TT) : TT := fun σ H Q => t σ H fun c H1 => if c = true then Q true H1 else u σ H1 Q
def tNot (t : TT) : TT := fun σ H Q => t σ H fun c H1 => Q (!c) H1
theorem pw_and1 (ha : PT X a tA) : PW X (.BoolOp .And [a] pos) tA := by
  intro wh pins s σ H Q I h
  refine isTrue_and (thn (ha pins s σ H Q I h) fun c s1 e => ?_)
  cases c with
  | true => exact isTrue_and_nil e
  | false => exact e
theorem pw_or1 (ha : PT X a tA) : PW X (.BoolOp .Or [a] pos) tA := by
  intro wh pins s σ H Q I h
  refine isTrue_or (thn (ha pins s σ H Q I h) fun c s1 e => ?_)
  cases c with
  | false => exact isTrue_or_nil e
  | true => exact e
theorem pw_and (ha : PT X a tA) (hb : PW X (.BoolOp .And (b :: rest) pos) tB') : PW X (.BoolOp .And (a :: b :: rest) pos) (tAnd tA tB') := by
  intro wh pins s σ H Q I h
  refine isTrue_and (thn (ha pins s σ H _ I h) fun c s1 ⟨H1, I1, q1⟩ => ?_)
  cases c with
  | true => exact hb wh pins s1 σ H1 Q I1 q1
  | false => exact ⟨H1, I1, q1⟩
theorem pw_or (ha : PT X a tA) (hb : PW X (.BoolOp .Or (b :: rest) pos) tB') : PW X (.BoolOp .Or (a :: b :: rest) pos) (tOr tA tB') := by
  intro wh pins s σ H Q I h
  refine isTrue_or (thn (ha pins s σ H _ I h) fun c s1 ⟨H1, I1, q1⟩ => ?_)
  cases c with
  | true => exact ⟨H1, I1, q1⟩
  | false => exact hb wh pins s1 σ H1 Q I1 q1
theorem pt_not (ha : PT X a tA) : PT X (.UnaryOp .Not a pos) (tNot tA) := by
  intro pins s σ H Q I h
  exact isTrue_not (ha pins s σ H (fun c H1 => Q (!c) H1) I h)
/-- .. as values (bools) -/
def tAndV (ta tb : TE) : TE := fun σ H Q => ta σ H fun x H1 => ∃ c, x = .bl c ∧ if c = true then tb σ H1 Q else Q (.bl false) H1
def tOrV (ta tb : TE) : TE := fun σ H Q => ta σ H fun x H1 => ∃ c, x = .bl c ∧ if c = true then Q (.bl true) H1 else tb σ H1 Q
def tNotV (ta : TE) : TE := fun σ H Q => ta σ H fun x H1 => ∃ c, x = .bl c ∧ Q (.bl (!c)) H1
theorem pe_one {op} {t : TE} (h : PE X a t) : PE X (.BoolOp op [a] pos) t := fun pins s σ H Q I hw => BoolOp_one (h pins s σ H Q I hw)
theorem pe_and (ha : PE X a ta) (hb : PE X (.BoolOp .And (b :: rest) pos) tb) : PE X (.BoolOp .And (a :: b :: rest) pos) (tAndV ta tb) := by
  intro pins s σ H Q I h
  refine BoolOp_and (thn (ha pins s σ H _ I h) fun v s1 ⟨x, H1, I1, r1, q1⟩ => ?_)
  obtain ⟨c, rfl, q1⟩ := q1
  cases r1
  refine wpAny_truthy_bool ?_
  cases c with
  | true => exact hb pins s1 σ H1 Q I1 q1
  | false => exact ⟨.bl false, H1, I1, rfl, q1⟩
theorem pe_or (ha : PE X a ta) (hb : PE X (.BoolOp .Or (b :: rest) pos) tb) : PE X (.BoolOp .Or (a :: b :: rest) pos) (tOrV ta tb) := by
  intro pins s σ H Q I h
  refine BoolOp_or (thn (ha pins s σ H _ I h) fun v s1 ⟨x, H1, I1, r1, q1⟩ => ?_)
  obtain ⟨c, rfl, q1⟩ := q1
  cases r1
  refine wpAny_truthy_bool ?_
  cases c with
  | false => exact hb pins s1 σ H1 Q I1 q1
  | true => exact ⟨.bl true, H1, I1, rfl, q1⟩
theorem pe_not (ha : PE X a ta) : PE X (.UnaryOp .Not a pos) (tNotV ta) := by
  intro pins s σ H Q I h
  refine UnaryOp_ (thn (ha pins s σ H _ I h) fun v s1 ⟨x, H1, I1, r1, q1⟩ => ?_)
  obtain ⟨c, rfl, q1⟩ := q1
  cases r1
  exact not_of (wpAny_truthy_bool ⟨.bl (!c), H1, I1, rfl, q1⟩)
/-- a if t else b -/
def tIf (t : TT) (ta tb : TE) : TE := fun σ H Q => t σ H fun c H1 => if c = true then ta σ H1 Q else tb σ H1 Q
theorem pe_ifExp {c : Expr} (hc : PT X c tA) (ha : PE X a ta) (hb : PE X b tb) : PE X (.IfExp c a b pos) (tIf tA ta tb) := by
  intro pins s σ H Q I h
  refine wpAny_IfExp (thn (hc pins s σ H _ I h) fun d s1 ⟨H1, I1, q1⟩ => ?_)
  cases d with
  | true => exact ha pins s1 σ H1 Q I1 q1
  | false => exact hb pins s1 σ H1 Q I1 q1
end
end L2

namespace L2
open PySem PySem.Spec PyProof.Rows

/-! ### a list, a tuple that is read: tracked, frozen, or an object of the module -/
def SqL (K : PySem.W.Frag) (H : Hp) (a : Addr) (xs : List V) : Prop :=
  Rd H a (.lst xs) ∨
    ∃ (o : Obj) (its : Array Value) (n : Nat), K.lookup a = some o ∧ o.cls = .type "list" ∧ o.dict = none ∧ o.data = .seq its n ∧ its.size ≤ sizeLine ∧ Vals xs its.toList
def SqT (K : PySem.W.Frag) (H : Hp) (a : Addr) (xs : List V) : Prop :=
  Rd H a (.tup xs) ∨
    ∃ (o : Obj) (its : Array Value) (n : Nat), K.lookup a = some o ∧ o.cls = .type "tuple" ∧ o.data = .seq its n ∧ its.size ≤ sizeLine ∧ Vals xs its.toList
def absV : Value → Option V
  | .none => some .non
  | .bool b => some (.bl b)
  | .int i _ => some (.int i)
  | .str x _ => some (.str x)
  | .bytes b _ => some (.byt b)
  | .float b _ => some (.flt b)
  | .ref a => some (.ref a)
  | .type n => some (.ty n)
  | _ => none
theorem RelV.abs {x : V} {u : Value} (r : RelV x u) : absV u = some x := by
  cases x with
  | non => cases r; rfl
  | bl _ => cases r; rfl
  | int _ => obtain ⟨t, rfl⟩ := r; rfl
  | str _ => obtain ⟨t, rfl⟩ := r; rfl
  | byt _ => obtain ⟨t, rfl⟩ := r; rfl
  | flt _ => obtain ⟨t, rfl⟩ := r; rfl
  | ref _ => cases r; rfl
  | ty _ => cases r; rfl
theorem RelV.inj {x y : V} {u : Value} (r : RelV x u) (q : RelV y u) : x = y := Option.some.inj (r.abs.symm.trans q.abs)
theorem Vals.inj : ∀ {xs ys : List V} {us : List Value}, Vals xs us → Vals ys us → xs = ys
  | _, _, _, .nil, .nil => rfl
  | _, _, _, .cons r t, .cons r' t' => by rw [r.inj r', Vals.inj t t']
section
variable {X : Cx} {pins : List (Addr × Obj)} {σ : St} {H : Hp} {s : Shared} {a : Addr} {xs ys : List V}
theorem SqL.of {K : PySem.W.Frag} (h : H a = some (.lst xs)) : SqL K H a xs := .inl (.inl h)
theorem SqT.of {K : PySem.W.Frag} (h : H a = some (.tup xs)) : SqT K H a xs := .inl (.inl h)
theorem Inv.list (I : Inv X pins σ H s) (h : SqL X.K H a xs) : ∃ its : List Value, Vals xs its ∧ PlainL s.heap a its.toArray ∧ xs.length ≤ sizeLine := by
  rcases h with h | ⟨o, its, n, hk, hc, hd, hs, hz, r⟩
  · obtain ⟨z, its, n, r, e⟩ := h.ok I.hok
    exact ⟨its, r, ⟨_, n, e, rfl, rfl, rfl⟩, z⟩
  · refine ⟨its.toList, r, ⟨o, n, I.kIn a o hk, hc, hd, by simpa using hs⟩, ?_⟩
    have e := r.length
    simp only [Array.length_toList] at e
    omega
theorem Inv.tuple (I : Inv X pins σ H s) (h : SqT X.K H a xs) : ∃ its : List Value, Vals xs its ∧ IsTup s.heap a its.toArray ∧ xs.length ≤ sizeLine := by
  rcases h with h | ⟨o, its, n, hk, hc, hs, hz, r⟩
  · obtain ⟨z, its, r, p⟩ := h.ok I.hok
    exact ⟨its, r, p, z⟩
  · refine ⟨its.toList, r, ⟨o, I.kIn a o hk, hc, n, by simpa using hs⟩, ?_⟩
    have e := r.length
    simp only [Array.length_toList] at e
    omega
theorem Inv.list_inj (I : Inv X pins σ H s) (h : SqL X.K H a xs) (h' : SqL X.K H a ys) : xs = ys := by
  obtain ⟨its, r, ⟨o, n, e, _, _, d⟩, _⟩ := I.list h
  obtain ⟨its', r', ⟨o', n', e', _, _, d'⟩, _⟩ := I.list h'
  rw [e] at e'; cases e'
  rw [d] at d'
  injection d' with d1 _
  have : its = its' := by simpa using congrArg Array.toList d1
  subst this
  exact r.inj r'
theorem Inv.tuple_inj (I : Inv X pins σ H s) (h : SqT X.K H a xs) (h' : SqT X.K H a ys) : xs = ys := by
  obtain ⟨its, r, ⟨o, e, _, n, d⟩, _⟩ := I.tuple h
  obtain ⟨its', r', ⟨o', e', _, n', d'⟩, _⟩ := I.tuple h'
  rw [e] at e'; cases e'
  rw [d] at d'
  injection d' with d1 _
  have : its = its' := by simpa using congrArg Array.toList d1
  subst this
  exact r.inj r'
end

/-! ### another wish about exceptions -/
abbrev Cx.wish (X : Cx) (E : Value → Shared → Prop) : Cx := { X with xe := E }
/-- no exception leaves -/
abbrev Cx.nox (X : Cx) : Cx := X.wish fun _ _ => False
theorem Cx.Ok.wish {X : Cx} (ok : X.Ok) (E : Value → Shared → Prop) : (X.wish E).Ok :=
  ⟨ok.mod, ok.kind, ok.glob, ok.blt, ok.above, ok.inj, ok.has, ok.cab, ok.hd, ok.frames, ok.stk, ok.exf, ok.bs, ok.bsz, ok.noex, ok.exfs, ok.funs, ok.frf⟩
theorem Cx.Ok.unwish {X : Cx} {E : Value → Shared → Prop} (ok : (X.wish E).Ok) : X.Ok :=
  ⟨ok.mod, ok.kind, ok.glob, ok.blt, ok.above, ok.inj, ok.has, ok.cab, ok.hd, ok.frames, ok.stk, ok.exf, ok.bs, ok.bsz, ok.noex, ok.exfs, ok.funs, ok.frf⟩
section
variable {X : Cx} {pins : List (Addr × Obj)} {σ : St} {H : Hp} {s : Shared} {E : Value → Shared → Prop}
theorem Inv.wish (I : Inv X pins σ H s) (E : Value → Shared → Prop) : Inv (X.wish E) pins σ H s := ⟨I.ok.wish E, I.os, I.bare, I.base, I.loc, I.cell, I.free, I.freeC, I.pin, I.hok, I.len⟩
theorem Inv.unwish (I : Inv (X.wish E) pins σ H s) : Inv X pins σ H s := ⟨I.ok.unwish, I.os, I.bare, I.base, I.loc, I.cell, I.free, I.freeC, I.pin, I.hok, I.len⟩
theorem SP.unwish {D : Ends} {f : Flow} {s' : Shared} (h : SP (X.wish E) pins D f s') : SP X pins D f s' := by
  cases f with
  | next => obtain ⟨σ', H', I, q⟩ := h; exact ⟨σ', H', I.unwish, q⟩
  | brk => obtain ⟨σ', H', I, q⟩ := h; exact ⟨σ', H', I.unwish, q⟩
  | cont => obtain ⟨σ', H', I, q⟩ := h; exact ⟨σ', H', I.unwish, q⟩
  | ret u => obtain ⟨v, σ', H', I, r, q⟩ := h; exact ⟨v, σ', H', I.unwish, r, q⟩
theorem PE.nox {e : Expr} {t : TE} (h : PE X.nox e t) : PE X e t := fun pins s σ H Q I hw =>
  wpAny_mono (h pins s σ H Q (I.wish _) hw) (fun _ _ ⟨v, H', I', r, q⟩ => ⟨v, H', I'.unwish, r, q⟩) fun _ _ z => False.elim z
theorem PT.nox {e : Expr} {t : TT} (h : PT X.nox e t) : PT X e t := fun pins s σ H Q I hw =>
  wpAny_mono (h pins s σ H Q (I.wish _) hw) (fun _ _ ⟨H', I', q⟩ => ⟨H', I'.unwish, q⟩) fun _ _ z => False.elim z
theorem PSs.nox {st : List Stmt} {t : TS} (h : PSs X.nox st t) : PSs X st t := fun pins s σ H D I hw =>
  wpAny_mono (h pins s σ H D (I.wish _) hw) (fun _ _ q => q.unwish) fun _ _ z => False.elim z
end

/-! ### blocks and small statements -/
section
variable {X : Cx} {st : Stmt} {rest : List Stmt} {t u : TS} {e : Expr} {te : TE} {pos : Pos}
def tNext : TS := fun D σ H => D.nx σ H
def tSeq (t u : TS) : TS := fun D σ H => t { D with nx := u D } σ H
theorem pss_nil : PSs X [] tNext := fun _ _ σ H _ I h => wpAny_execs_nil ⟨σ, H, I, h⟩
theorem pss_cons (h1 : PS X st t) (h2 : PSs X rest u) : PSs X (st :: rest) (tSeq t u) := by
  intro pins s σ H D I h
  refine wpAny_execs_cons (thn (h1 pins s σ H { D with nx := u D } I h) fun f s1 q => ?_)
  cases f with
  | next =>
    obtain ⟨σ', H', I', q⟩ := q
    exact h2 pins s1 σ' H' D I' q
  | ret v => exact q
  | brk => exact q
  | cont => exact q
theorem pss_one (h1 : PS X st t) : PSs X [st] t := by
  intro pins s σ H D I h
  refine wpAny_execs_cons (thn (h1 pins s σ H D I h) fun f s1 q => ?_)
  cases f with
  | next => exact wpAny_execs_nil q
  | ret v => exact q
  | brk => exact q
  | cont => exact q
def tBreak : TS := fun D σ H => D.bk σ H
def tCont : TS := fun D σ H => D.ct σ H
theorem ps_pass : PS X (.Pass pos) tNext := fun _ _ σ H _ I h => wpAny_Pass ⟨σ, H, I, h⟩
theorem ps_break : PS X (.Break pos) tBreak := fun _ _ σ H _ I h => wpAny_Break ⟨σ, H, I, h⟩
theorem ps_continue : PS X (.Continue pos) tCont := fun _ _ σ H _ I h => wpAny_Continue ⟨σ, H, I, h⟩
/-- in a def's body nothing is shown -/
theorem Inv.quiet {pins : List (Addr × Obj)} {σ : St} {H : Hp} {s : Shared} (I : Inv X pins σ H s) : interactive X.env = false := by simp [interactive, I.ok.kind]
/-- a docstring -/
theorem ps_doc {x j pos pos'} : PS X (.Expr (.Constant (.str x) j pos) pos') tNext := fun _ s σ H _ I h => wpAny_Expr (Calls.Constant_str (show SP X _ _ .next { s with toks := s.toks + 1 } from ⟨σ, H, I.tok _, h⟩)) I.quiet
/-- an expression whose value is dropped -/
def tDrop (te : TE) : TS := fun D σ H => te σ H fun _ H1 => D.nx σ H1
theorem ps_expr (he : PE X e te) (hs : swapsWith e none pos.line X.env = pure false := by rfl) : PS X (.Expr e pos) (tDrop te) := by
  intro pins s σ H D I h
  exact wpAny_Expr_any (thn (he pins s σ H _ I h) fun v s1 ⟨x, H1, I1, r1, q1⟩ => ⟨σ, H1, I1, q1⟩) I.quiet hs
def tRet (te : TE) : TS := fun D σ H => te σ H D.rt
theorem ps_ret (he : PE X e te) : PS X (.Return (some e) pos) (tRet te) := by
  intro pins s σ H D I h
  exact wpAny_Return_some (thn (he pins s σ H _ I h) fun v s1 ⟨x, H1, I1, r1, q1⟩ => ⟨x, σ, H1, I1, r1, q1⟩)
def tRetN : TS := fun D _ H => D.rt .non H
theorem ps_retN : PS X (.Return none pos) tRetN := fun _ _ σ H _ I h => wpAny_Return_none ⟨.non, σ, H, I, rfl, h⟩
def tIfS (c : TT) (t u : TS) : TS := fun D σ H => c σ H fun b H1 => if b = true then t D σ H1 else u D σ H1
theorem ps_if {c : Expr} {a b : List Stmt} {tc : TT} (hc : PT X c tc) (ha : PSs X a t) (hb : PSs X b u) : PS X (.If c a b pos) (tIfS tc t u) := by
  intro pins s σ H D I h
  refine wpAny_If (thn (hc pins s σ H _ I h) fun d s1 ⟨H1, I1, q1⟩ => ?_)
  cases d with
  | true => exact ha pins s1 σ H1 D I1 q1
  | false => exact hb pins s1 σ H1 D I1 q1
/-- code that the proof never comes to -/
def tNever : TS := fun _ _ _ => False
theorem ps_never : PS X st tNever := fun _ _ _ _ _ _ h => h.elim
theorem pss_never {sts : List Stmt} : PSs X sts tNever := fun _ _ _ _ _ _ h => h.elim
end

/-! ### targets -/
abbrev TG := V → St → Hp → (St → Hp → Prop) → Prop
abbrev TGs := List V → St → Hp → (St → Hp → Prop) → Prop
def PG (X : Cx) (target : Expr) (t : TG) : Prop :=
  ∀ (pins : List (Addr × Obj)) (s : Shared) (σ : St) (H : Hp) (v : V) (u : Value) (Q : St → Hp → Prop), Inv X pins σ H s → RelV v u → t v σ H Q →
    wpAny (model X.prog X.w) X.A (assign target X.env u) (fun _ s' => ∃ σ' H', Inv X pins σ' H' s' ∧ Q σ' H') X.xe s
/-- several targets, one after another -/
def PGs (X : Cx) (ts : List Expr) (t : TGs) : Prop :=
  ∀ (pins : List (Addr × Obj)) (s : Shared) (σ : St) (H : Hp) (vs : List V) (us : List Value) (Q : St → Hp → Prop), Inv X pins σ H s → Vals vs us → t vs σ H Q →
    wpAny (model X.prog X.w) X.A (assignInOrder ((assignEach ts X.env).map (·.2)) us) (fun _ s' => ∃ σ' H', Inv X pins σ' H' s' ∧ Q σ' H') X.xe s
/-- o[i] = v, by values -/
abbrev TSet := V → V → V → Hp → (Hp → Prop) → Prop
def PSet (X : Cx) (t : TSet) : Prop :=
  ∀ (pins : List (Addr × Obj)) (s : Shared) (σ : St) (H : Hp) (o i v : V) (ov iv u : Value) (Q : Hp → Prop), Inv X pins σ H s → RelV o ov → RelV i iv → RelV v u → t o i v H Q →
    wpAny (model X.prog X.w) X.A (setItem ov iv u) (fun _ s' => ∃ H', Inv X pins σ H' s' ∧ Q H') X.xe s
/-- a op= b, by values -/
abbrev TIp := V → V → Hp → VK → Prop
def PIp (X : Cx) (op : Operator) (t : TIp) : Prop :=
  ∀ (pins : List (Addr × Obj)) (s : Shared) (σ : St) (H : Hp) (x y : V) (v u : Value) (Q : VK), Inv X pins σ H s → RelV x v → RelV y u → t x y H Q →
    wpAny (model X.prog X.w) X.A (inplaceOp op v u) (EP X pins σ Q) X.xe s
section
variable {X : Cx} {pos : Pos}
def gName (i : Nat) : TG := fun v σ H Q => Q (σ.set i (some v)) H
theorem pg_name {i : Nat} {x : Str} (hN : X.N.Nodup) (hi : X.N[i]? = some x) (hx : Loc X.env.scope x) (hf : X.fn x = true ∨ X.env.scope.names.lookup x = some .local := by first | exact .inl rfl | exact .inr rfl | assumption) : PG X (.Name x pos) (gName i) := by
  intro pins s σ H v u Q I r h
  exact wpAny_assign_Name (store_ok I hN hi hx r (fun s' I' => ⟨_, H, I', h⟩) hf)
def gNil : TGs := fun vs σ H Q => vs = [] ∧ Q σ H
def gCons (t : TG) (u : TGs) : TGs := fun vs σ H Q => ∃ v r, vs = v :: r ∧ t v σ H fun σ' H' => u r σ' H' Q
theorem pgs_nil : PGs X [] gNil := by
  intro pins s σ H vs us Q I r h
  obtain ⟨e, h⟩ := h
  subst e
  cases r
  exact assignInOrder_nil ⟨σ, H, I, h⟩
theorem pgs_cons {e : Expr} {es : List Expr} {t : TG} {u : TGs} (h1 : PG X e t) (h2 : PGs X es u)
    (hs : (assignEach (e :: es) X.env).map (·.2) = assign e X.env :: (assignEach es X.env).map (·.2) := by rfl) : PGs X (e :: es) (gCons t u) := by
  intro pins s σ H vs us Q I r h
  obtain ⟨v, vr, e1, h⟩ := h
  subst e1
  cases r with
  | cons r rr =>
    rw [hs]
    refine assignInOrder_cons (thn (h1 pins s σ H _ _ _ I r h) fun _ s1 ⟨σ1, H1, I1, q1⟩ => ?_)
    exact h2 pins s1 σ1 H1 _ _ Q I1 rr q1
/-- (a, b, ..) = a tuple of that length -/
def gTup (K : PySem.W.Frag) (n : Nat) (t : TGs) : TG := fun v σ H Q => ∃ a xs, v = .ref a ∧ SqT K H a xs ∧ xs.length = n ∧ t xs σ H Q
theorem pg_tup {es : List Expr} {k : Nat} {t : TGs} {n : Nat} (hc : X.calm = true) (h : PGs X es t)
    (hn : (assignEach es X.env).length = n := by rfl) (hst : (assignEach es X.env).findIdx? (·.1) = none := by rfl) : PG X (.Tuple es k pos) (gTup X.K n t) := by
  intro pins s σ H v u Q I r hw
  obtain ⟨a, xs, e1, hq, hl, hw⟩ := hw
  subst e1
  cases r
  obtain ⟨its, rv, ht, hz⟩ := I.tuple hq
  refine assign_Tuple_tuple (I.ok.hd hc) ht (by simp [hn, ← hl, rv.length]) hst fun h' hx => ?_
  have I1 : Inv X pins σ H { s with heap := h' } := I.kept (t' := s.toks) fun b o e => hx b o (Nat.ne_of_lt (Heap.lt_size e)) e
  exact h pins _ σ H xs _ Q I1 (by simpa using rv) hw
/-- o[i] = .. -/
def gSub (to ti : TE) (t : TSet) : TG := fun v σ H Q => to σ H fun o H1 => ti σ H1 fun i H2 => t o i v H2 fun H3 => Q σ H3
theorem pg_sub {o i : Expr} {to ti : TE} {t : TSet} (ho : PE X o to) (hi : PE X i ti) (hs : PSet X t)
    (ha : ∀ v, assign (.Subscript o i pos) X.env v = (do
      let ov ← holding [v] (eval o X.env)
      let iv ← holding [v, ov] (eval i X.env)
      standAt pos
      holding [v, ov, iv] (setItem ov iv v)
      release [v, ov, iv] []) := by intro _; rfl) : PG X (.Subscript o i pos) (gSub to ti t) := by
  intro pins s σ H v u Q I r h
  rw [ha]
  refine wpAny_bind (wpAny_holding (thn (ho pins s σ H _ I h) fun ov s1 ⟨x, H1, I1, r1, q1⟩ => ?_))
  refine wpAny_bind (wpAny_holding (thn (hi pins s1 σ H1 _ I1 q1) fun iv s2 ⟨y, H2, I2, r2, q2⟩ => ?_))
  refine wpAny_bind (wpAny_standAt (wpAny_bind (wpAny_holding (thn (hs pins s2 σ H2 x y v ov iv u _ I2 r1 r2 r q2) fun _ s3 ⟨H3, I3, q3⟩ => ?_))))
  exact wpAny_release ⟨σ, H3, I3, q3⟩
/-- target = value -/
def tAsg (te : TE) (g : TG) : TS := fun D σ H => te σ H fun x H1 => g x σ H1 D.nx
theorem ps_asg {tg e : Expr} {te : TE} {g : TG} (he : PE X e te) (hg : PG X tg g) (hs : swapsWithSole [tg] e pos.line X.env = pure false := by rfl) (hw : swappedStores [tg] e X.env = pure none := by rfl)
    (h1 : (assignEach [tg] X.env).map (·.2) = [assign tg X.env] := by rfl) : PS X (.Assign [tg] e pos) (tAsg te g) := by
  intro pins s σ H D I h
  refine wpAny_Assign_stores (thn (he pins s σ H _ I h) fun v s1 ⟨x, H1, I1, r1, q1⟩ => ?_) hs hw
  rw [h1]
  exact thn (hg pins s1 σ H1 x v _ I1 r1 q1) fun _ s2 q => q
/-- name = value -/
theorem ps_set {i : Nat} {x : Str} {e : Expr} {te : TE} {pos' : Pos} (hN : X.N.Nodup) (hi : X.N[i]? = some x) (hx : Loc X.env.scope x) (he : PE X e te) (hs : swapsWith e (some (.Name x pos')) pos.line X.env = pure false := by rfl) (hf : X.fn x = true ∨ X.env.scope.names.lookup x = some .local := by first | exact .inl rfl | exact .inr rfl | assumption) :
    PS X (.Assign [.Name x pos'] e pos) (tAsg te (gName i)) := by
  intro pins s σ H D I h
  refine wpAny_Assign_Name (thn (he pins s σ H _ I h) fun v s1 ⟨y, H1, I1, r1, q1⟩ => ?_) hs
  exact store_ok I1 hN hi hx r1 (fun s2 I2 => ⟨_, H1, I2, q1⟩) hf
/-- a, b = x, y with plain local names: stored from the right; the pair itself is not tracked (the opening rows as in PyProof/Rows/TupAssign.lean:23) -/
def tPar (i j : Nat) (ta : TA) : TS := fun D σ H => ta σ H fun vs H1 => ∃ v w, vs = [v, w] ∧ D.nx ((σ.set i (some v)).set j (some w)) H1
theorem ps_par {i j : Nat} {x y : Str} {a b : Expr} {ta : TA} {px py pt : Pos} {kt k2 pt2} (hc : X.calm = true) (hN : X.N.Nodup) (hi : X.N[i]? = some x) (hj : X.N[j]? = some y) (hij : i ≠ j)
    (hx : X.env.scope.names.lookup x = some .local) (hy : X.env.scope.names.lookup y = some .local) (ha : PA X [a, b] ta)
    (hw : swappedStores [.Tuple [.Name x px, .Name y py] kt pt] (.Tuple [a, b] k2 pt2) X.env = pure (some [x, y]))
    (hs : swapsWithSole [.Tuple [.Name x px, .Name y py] kt pt] (.Tuple [a, b] k2 pt2) pos.line X.env = pure false := by rfl) :
    PS X (.Assign [.Tuple [.Name x px, .Name y py] kt pt] (.Tuple [a, b] k2 pt2) pos) (tPar i j ta) := by
  intro pins s σ H D I h
  rw [exec_Assign_arm]
  refine wpAny_bind (wpAny_standAt ?_)
  rw [hs]
  refine wpAny_bind (wpAny_pure ?_)
  rw [if_neg (by decide)]
  refine wpAny_bind (Tuple_ (thn (ha _ pins s σ H _ I h) fun us s1 ⟨vs, H1, I1, r1, q1⟩ => ?_))
  obtain ⟨v, w, e1, q1⟩ := q1
  subst e1
  obtain ⟨u1, u2, rfl, rv, rw'⟩ : ∃ u1 u2, us = [u1, u2] ∧ RelV v u1 ∧ RelV w u2 := by
    cases r1 with
    | cons p q =>
      cases q with
      | cons p' q' =>
        cases q'
        exact ⟨_, _, rfl, p, p'⟩
  refine wpAny_newObj_type ?_ (by show 2 ≤ sizeLine; decide)
  have I2 : Inv X pins σ H1 { s1 with heap := s1.heap.push { cls := .type "tuple", data := .seq [u1, u2].toArray } } := I1.kept (t' := s1.toks) fun b o e => Heap.get?_push_of_some _ e
  rw [hw]
  refine wpAny_bind (wpAny_pure ?_)
  show wpAny (model X.prog X.w) X.A (do rule "assign.swapped-stores"; let items ← unpackItems (.ref s1.heap.objs.size) 2 none; assignInOrder [fun v => bindName X.env y v, fun v => bindName X.env x v] items.reverse; pure Flow.next) _ _ _
  refine wpAny_bind (wpAny_rule (wpAny_bind (unpackItems_tuple (items := #[u1, u2]) (I.ok.hd hc) (IsTup.new s1.heap _) fun h' hx' => ?_)))
  have I3 := I2.kept (h' := h') (t' := s1.toks) fun b o e => hx' b o (Nat.ne_of_lt (Heap.lt_size e)) e
  show wpAny _ _ (assignInOrder [fun v => bindName X.env y v, fun v => bindName X.env x v] [u2, u1] >>= fun _ => pure Flow.next) _ _ _
  refine wpAny_bind (assignInOrder_cons (wpAny_bindName (store_ok I3 hN hj (.inl hy) rw' (fun s2 I4 => ?_) (.inr hy))))
  refine assignInOrder_cons (wpAny_bindName (store_ok I4 hN hi (.inl hx) rv (fun s3 I5 => assignInOrder_nil (wpAny_pure ?_)) (.inr hx)))
  rw [List.set_comm _ _ (Ne.symm hij)] at I5
  exact ⟨_, H1, I5, q1⟩
/-- name op= e -/
def tAug (i : Nat) (te : TE) (ti : TIp) : TS := fun D σ H => ∃ x, σ[i]? = some (some x) ∧ te σ H fun y H1 => ti x y H1 fun z H2 => D.nx (σ.set i (some z)) H2
theorem ps_aug {i : Nat} {x : Str} {e : Expr} {te : TE} {op : Operator} {ti : TIp} {pos' : Pos} (hN : X.N.Nodup) (hi : X.N[i]? = some x) (hx : Loc X.env.scope x) (he : PE X e te) (ho : PIp X op ti) (hf : X.fn x = true ∨ X.env.scope.names.lookup x = some .local := by first | exact .inl rfl | exact .inr rfl | assumption) :
    PS X (.AugAssign (.Name x pos') op e pos) (tAug i te ti) := by
  intro pins s σ H D I h
  obtain ⟨v, e1, h⟩ := h
  obtain ⟨m, hn, hl⟩ := I.loc
  have vis : Vis X.env.scope x := by rcases hx with k | k; exact .inl k; exact .inr (.inl k)
  obtain ⟨u, r, l⟩ := hl i x v hi e1 vis
  refine wpAny_AugAssign_Name ?_
  have go : wpAny (model X.prog X.w) X.A (eval e X.env) (fun w s₂ => wpAny (model X.prog X.w) X.A (inplaceOp op u w) (fun r s₃ => wpAny (model X.prog X.w) X.A (storeName X.env x r) (fun _ => SP X pins D .next) X.xe s₃) X.xe s₂) X.xe s := by
    refine thn (he pins s σ H _ I h) fun w s1 ⟨y, H1, I1, r1, q1⟩ => ?_
    refine thn (ho pins s1 σ H1 v y u w _ I1 r r1 q1) fun z s2 ⟨zv, H2, I2, r2, q2⟩ => ?_
    exact store_ok I2 hN hi hx r2 (fun s3 I3 => ⟨_, H2, I3, q2⟩) hf
  rcases l with ⟨hk, hm⟩ | ⟨hk, c, hc, hcell⟩
  · exact wpAny_loadName_local I.ok.kind hk hn hm go
  · rcases hk with hk | hk
    · exact wpAny_loadName_cell I.ok.kind hk hc hcell go
    · rcases hx with k | k
      · have : X.env.scope.names.lookup x = some .free := hk
        rw [k] at this; cases this
      · have : X.env.scope.names.lookup x = some .free := hk
        rw [k] at this; cases this
/-- o[i] op= e -/
def tAugS (to ti te : TE) (tget : V → V → Hp → VK → Prop) (tip : TIp) (tset : TSet) : TS := fun D σ H => to σ H fun o H1 => ti σ H1 fun i H2 => tget o i H2 fun x H3 => te σ H3 fun y H4 => tip x y H4 fun z H5 => tset o i z H5 fun H6 => D.nx σ H6
/-- o[i], by values -/
def PGet (X : Cx) (t : V → V → Hp → VK → Prop) : Prop :=
  ∀ (pins : List (Addr × Obj)) (s : Shared) (σ : St) (H : Hp) (o i : V) (ov iv : Value) (Q : VK), Inv X pins σ H s → RelV o ov → RelV i iv → t o i H Q →
    wpAny (model X.prog X.w) X.A (getItem ov iv) (EP X pins σ Q) X.xe s
theorem ps_augS {o i e : Expr} {to ti te : TE} {tget : V → V → Hp → VK → Prop} {tip : TIp} {tset : TSet} {op : Operator} {tpos : Pos} (ho : PE X o to) (hi : PE X i ti) (hg : PGet X tget) (he : PE X e te) (hp : PIp X op tip) (hs : PSet X tset)
    (ha : ∀ ov iv new, augStore i ov iv new = (do holding [new, ov, iv] (setItem ov iv new); release [new, ov, iv] []; pure .next) := by intros; rfl) : PS X (.AugAssign (.Subscript o i tpos) op e pos) (tAugS to ti te tget tip tset) := by
  intro pins s σ H D I h
  refine wpAny_AugAssign_SubscriptAny (thn (ho pins s σ H _ I h) fun ov s1 ⟨x1, H1, I1, r1, q1⟩ => ?_) ha
  refine thn (hi pins s1 σ H1 _ I1 q1) fun iv s2 ⟨x2, H2, I2, r2, q2⟩ => ?_
  refine thn (hg pins s2 σ H2 x1 x2 ov iv _ I2 r1 r2 q2) fun old s3 ⟨x3, H3, I3, r3, q3⟩ => ?_
  refine thn (he pins s3 σ H3 _ I3 q3) fun v s4 ⟨x4, H4, I4, r4, q4⟩ => ?_
  refine thn (hp pins s4 σ H4 x3 x4 old v _ I4 r3 r4 q4) fun new s5 ⟨x5, H5, I5, r5, q5⟩ => ?_
  exact thn (hs pins s5 σ H5 x1 x2 x5 ov iv new _ I5 r1 r2 r5 q5) fun _ s6 ⟨H6, I6, q6⟩ => ⟨σ, H6, I6, q6⟩
/-- ints -/
def ipI (f : Int → Int → Int) : TIp := fun x y H Q => ∃ i j, x = .int i ∧ y = .int j ∧ Q (.int (f i j)) H
theorem ip_add : PIp X .Add (ipI fun i j => i + j) := by
  intro pins s σ H x y v u Q I r1 r2 h
  obtain ⟨i, j, e1, e2, q⟩ := h
  subst e1; subst e2
  obtain ⟨t, rfl⟩ := r1
  obtain ⟨t', rfl⟩ := r2
  exact iadd_int ⟨.int _, H, I.tok _, ⟨_, rfl⟩, q⟩
theorem ip_sub : PIp X .Sub (ipI fun i j => i - j) := by
  intro pins s σ H x y v u Q I r1 r2 h
  obtain ⟨i, j, e1, e2, q⟩ := h
  subst e1; subst e2
  obtain ⟨t, rfl⟩ := r1
  obtain ⟨t', rfl⟩ := r2
  exact isub_int ⟨.int _, H, I.tok _, ⟨_, rfl⟩, q⟩
end

/-! ### while -/
section
variable {X : Cx} {pos : Pos}
/-- the invariant W with its measure -/
def tWhile (c : TT) (tb : TS) : TS := fun D σ H => ∃ W : Nat → St → Hp → Prop, (∃ m, W m σ H) ∧ ∀ m σ H, W m σ H →
  c σ H fun b H1 => if b = true then ∃ N : St → Hp → Prop, (∀ σ' H', N σ' H' → ∃ m', m' < m ∧ W m' σ' H') ∧ tb { D with nx := N, ct := N, bk := D.nx } σ H1 else D.nx σ H1
theorem ps_while {c : Expr} {body : List Stmt} {tc : TT} {tb : TS} (hp : PassesOwn (model X.prog X.w) X.A X.env X.xe) (hc : PT X c tc) (hb : PSs X body tb) : PS X (.While c body [] pos) (tWhile tc tb) := by
  intro pins s σ H D I h
  obtain ⟨W, ⟨m0, w0⟩, turn⟩ := h
  refine wpAny_While (codeAny_whileLoop (fun n s' => ∃ σ' H', Inv X pins σ' H' s' ∧ W n σ' H') ?_ m0 ⟨σ, H, I, w0⟩)
  rintro n s1 ⟨σ1, H1, I1, w1⟩
  refine wpAny_passesOwn hp (thn (hc pins s1 σ1 H1 _ I1 (turn n σ1 H1 w1)) fun b s2 ⟨H2, I2, q2⟩ => ?_)
  cases b with
  | true =>
    obtain ⟨N, hN, q2⟩ := q2
    rw [if_pos rfl]
    refine wpAny_passesOwn hp (thn (hb pins s2 σ1 H2 _ I2 q2) fun f s3 q3 => ?_)
    cases f with
    | next =>
      obtain ⟨σ3, H3, I3, n3⟩ := q3
      obtain ⟨m', hm, w3⟩ := hN σ3 H3 n3
      exact ⟨m', hm, σ3, H3, I3, w3⟩
    | cont =>
      obtain ⟨σ3, H3, I3, n3⟩ := q3
      obtain ⟨m', hm, w3⟩ := hN σ3 H3 n3
      exact ⟨m', hm, σ3, H3, I3, w3⟩
    | brk => exact q3
    | ret v => exact q3
  | false =>
    rw [if_neg Bool.false_ne_true]
    exact wpAny_execs_nil ⟨σ1, H2, I2, q2⟩
end

/-! ### what a loop or a comprehension walks -/
/-- at turn i: it yields x (the heap may grow), or it stops -/
structure It where
  go : Nat → Hp → Prop
  yld : Nat → Hp → V → Hp → Prop
  stop : Nat → Hp → Prop
/-- the iterator's own objects may turn: they are not the frame's, not pinned, younger than the entry (or a comprehension's own) -/
def FpOk (X : Cx) (pins : List (Addr × Obj)) (H : Hp) (b : Addr) : Prop :=
  H b = none ∧ b ≠ X.env.locals ∧ b ∉ X.fs ∧ (b ∈ X.ex ∨ X.s₀.heap.objs.size ≤ b) ∧ (∀ x c, X.env.cells.lookup x = some c → c ≠ b) ∧ ∀ p ∈ X.pn ++ pins, p.1 ≠ b
theorem Inv.fpOk {X : Cx} {pins : List (Addr × Obj)} {σ : St} {H H' : Hp} {s : Shared} {b : Addr} (I : Inv X pins σ H s) (hb : s.heap.objs.size ≤ b) (hn : H' b = none) : FpOk X pins H' b := by
  refine ⟨hn, Nat.ne_of_gt (Nat.lt_of_lt_of_le I.lt hb), I.nofs hb, .inr (Nat.le_trans I.sz hb), fun x c e z => ?_, fun p hp z => ?_⟩
  · obtain ⟨v, q⟩ := I.cell x c e
    exact absurd (Nat.lt_of_lt_of_le q.lt (by rw [z]; exact hb)) (Nat.lt_irrefl _)
  · exact absurd (Nat.lt_of_lt_of_le (Heap.lt_size (I.pin p hp).1) (by rw [z]; exact hb)) (Nat.lt_irrefl _)
structure Turn (P : Program) (w : World) (K : PySem.W.Frag) (tg : Expr) (J : It) (fp : List Addr) (it : Addr) (tn : Nat → Heap → Prop) : Prop where
  mem : it ∈ fp
  obj : ∀ i h, tn i h → ∀ b ∈ fp, ∃ o, h.get? b = some o ∧ ∀ v, o.data ≠ .cell v
  keep : ∀ i h h', tn i h → (∀ b ∈ fp, ∀ o, h.get? b = some o → h'.get? b = some o) → tn i h'
  item : ∀ (X : Cx), X.prog = P → X.w = w → X.K = K → X.calm = true → ∀ (i : Nat) (pins : List (Addr × Obj)) (s : Shared) (σ : St) (H : Hp) (E : Value → Shared → Prop), Inv X pins σ H s → (∀ b ∈ fp, FpOk X pins H b) → tn i s.heap → J.go i H →
    wpAny (model P w) X.A (pyNext (.ref it)) (fun r s1 => ∃ u, r = some u ∧
      wpAny (model P w) X.A (letOwnedTupleGo tg (.ref it) u) (fun _ s2 => ∃ x H', Inv X pins σ H' s2 ∧ RelV x u ∧ J.yld i H x H' ∧ tn (i + 1) s2.heap ∧ ∀ b ∈ fp, H' b = none) E s1) E s
  done : ∀ (X : Cx), X.prog = P → X.w = w → X.K = K → X.calm = true → ∀ (i : Nat) (pins : List (Addr × Obj)) (s : Shared) (σ : St) (H : Hp) (E : Value → Shared → Prop), Inv X pins σ H s → (∀ b ∈ fp, FpOk X pins H b) → tn i s.heap → J.stop i H →
    wpAny (model P w) X.A (pyNext (.ref it)) (fun r s1 => r = none ∧ Inv X pins σ H s1) E s
  self : ∀ (A : Around) (i : Nat) (s : Shared) (Q : Value → Shared → Prop) (E : Value → Shared → Prop), tn i s.heap → Q (.ref it) s → wpAny (model P w) A (pyIter (.ref it)) Q E s
abbrev TI := St → Hp → (It → Hp → Prop) → Prop
/-- an iterator has come -/
def PIE (X : Cx) (pins : List (Addr × Obj)) (σ : St) (tg : Expr) (R : It → Hp → Prop) (itv : Value) (s2 : Shared) : Prop :=
  ∃ (it : Addr) (fp : List Addr) (tn : Nat → Heap → Prop) (J : It) (H' : Hp), itv = .ref it ∧ Inv X pins σ H' s2 ∧ Turn X.prog X.w X.K tg J fp it tn ∧ tn 0 s2.heap ∧ (∀ b ∈ fp, FpOk X pins H' b) ∧ R J H'
def PI (X : Cx) (tg iter : Expr) (wi : TI) : Prop :=
  ∀ (pins : List (Addr × Obj)) (s : Shared) (σ : St) (H : Hp) (R : It → Hp → Prop), Inv X pins σ H s → wi σ H R →
    wpAny (model X.prog X.w) X.A (eval iter X.env) (fun v s1 => wpAny (model X.prog X.w) X.A (pyIter v) (PIE X pins σ tg R) X.xe s1) X.xe s

/-- the step ahead of the store is nothing for an iterator that keeps no tuple -/
theorem go_of {M : Model} {A : Around} {E : Value → Shared → Prop} {s : Shared} {tg : Expr} {it : Addr} {u : Value} {o : Obj} {n : String} {vs : Array Value} {Q : Unit → Shared → Prop} (ho : s.heap.get? it = some o) (hc : o.cls = .type n) (hd : o.data = .fields vs)
    (hn : ["enumerate", "zip", "dict_itemiterator", "dict_reverseitemiterator", "odict_iterator", "itertools.zip_longest", "itertools.pairwise"].contains n = false) (hQ : Q () s) : wpAny M A (letOwnedTupleGo tg (.ref it) u) Q E s := by
  unfold letOwnedTupleGo
  cases tg <;> first
    | exact wpAny_pure hQ
    | (cases u <;> first
        | exact wpAny_pure hQ
        | (refine wpAny_bind (wpAny_load ho ?_)
           rw [hc, hd]
           show wpAny M A (if (["enumerate", "zip", "dict_itemiterator", "dict_reverseitemiterator", "odict_iterator", "itertools.zip_longest", "itertools.pairwise"].contains n && vs[0]? == some (rawInt _)) = true then _ else _) Q E s
           rw [if_neg (by intro h; rw [hn, Bool.false_and] at h; cases h)]
           exact wpAny_pure hQ))

/-- the list at a, as it stands at each turn (a loop may append to it) -/
def Itl (K : PySem.W.Frag) (a : Addr) : It :=
  ⟨fun i H => ∃ xs x, SqL K H a xs ∧ xs[i]? = some x, fun i H x H' => H' = H ∧ ∀ xs, SqL K H a xs → xs[i]? = some x, fun i H => ∃ xs, SqL K H a xs ∧ xs.length ≤ i⟩
def Itt (K : PySem.W.Frag) (a : Addr) : It :=
  ⟨fun i H => ∃ xs x, SqT K H a xs ∧ xs[i]? = some x, fun i H x H' => H' = H ∧ ∀ xs, SqT K H a xs → xs[i]? = some x, fun i H => ∃ xs, SqT K H a xs ∧ xs.length ≤ i⟩
/-- lo, lo + 1, .. (n of them) -/
def Itr (lo : Int) (n : Nat) : It := ⟨fun i _ => i < n, fun i H x H' => H' = H ∧ x = .int (lo + i), fun i _ => n ≤ i⟩
theorem turn_list {P : Program} {w : World} {K : PySem.W.Frag} {tg : Expr} (a it : Addr) : Turn P w K tg (Itl K a) [it] it (fun i h => h.IsListIter it a i) where
  mem := by simp
  obj := fun i h st b hb => by
    have e : b = it := by simpa using hb
    subst e
    obtain ⟨o, e, c, d⟩ := st
    exact ⟨o, e, fun v z => by rw [d] at z; cases z⟩
  keep := fun i h h' st k => st.at fun o e => k it (by simp) o e
  item := by
    intro X hP hw hK hc i pins s σ H E I hf st hg
    subst hP hw hK
    obtain ⟨xs, x, hq, hx⟩ := hg
    obtain ⟨its, rv, p, hz⟩ := I.list hq
    obtain ⟨u, hu, ru⟩ := rv.get hx
    obtain ⟨f0, f1, f2, f3, f4, f5⟩ := hf it (by simp)
    refine wpAny_pyNext_list_item st p.isList (x := u) (by simpa using hu) fun h' st' sb => ?_
    have I1 : Inv X pins σ H { s with heap := h' } := I.turned (t' := s.toks) (fun b o hb e => (sb.2 b hb).trans e) f0 f1 f3 f4 f5
    obtain ⟨o, e, c, d⟩ := id st'
    exact ⟨u, rfl, go_of (s := { s with heap := h' }) e c d (by decide) ⟨x, H, I1, ru, ⟨rfl, fun ys hy => by rw [I.list_inj hy hq]; exact hx⟩, st', fun b hb => (hf b hb).1⟩⟩
  done := by
    intro X hP hw hK hc i pins s σ H E I hf st hg
    subst hP hw hK
    obtain ⟨xs, hq, hx⟩ := hg
    obtain ⟨its, rv, p, hz⟩ := I.list hq
    obtain ⟨f0, f1, f2, f3, f4, f5⟩ := hf it (by simp)
    have hl := rv.length
    exact wpAny_pyNext_list_end (I.ok.hd hc) st p.isList (by simp; omega) fun h' eb => ⟨rfl, I.turned (t' := s.toks) (fun b o hb e => eb b o hb e) f0 f1 f3 f4 f5⟩
  self := fun _ _ _ _ _ st h => wpAny_pyIter_listiter st h
theorem turn_tuple {P : Program} {w : World} {K : PySem.W.Frag} {tg : Expr} (a it : Addr) : Turn P w K tg (Itt K a) [it] it (fun i h => h.IsTupleIter it a i) where
  mem := by simp
  obj := fun i h st b hb => by
    have e : b = it := by simpa using hb
    subst e
    obtain ⟨o, e, c, d⟩ := st
    exact ⟨o, e, fun v z => by rw [d] at z; cases z⟩
  keep := fun i h h' st k => st.at fun o e => k it (by simp) o e
  item := by
    intro X hP hw hK hc i pins s σ H E I hf st hg
    subst hP hw hK
    obtain ⟨xs, x, hq, hx⟩ := hg
    obtain ⟨its, rv, p, hz⟩ := I.tuple hq
    obtain ⟨u, hu, ru⟩ := rv.get hx
    obtain ⟨f0, f1, f2, f3, f4, f5⟩ := hf it (by simp)
    refine wpAny_pyNext_tuple_item st (show s.heap.IsTuple a its.toArray from p) (x := u) (by simpa using hu) fun h' st' sb => ?_
    have I1 : Inv X pins σ H { s with heap := h' } := I.turned (t' := s.toks) (fun b o hb e => (sb.2 b hb).trans e) f0 f1 f3 f4 f5
    obtain ⟨o, e, c, d⟩ := id st'
    exact ⟨u, rfl, go_of (s := { s with heap := h' }) e c d (by decide) ⟨x, H, I1, ru, ⟨rfl, fun ys hy => by rw [I.tuple_inj hy hq]; exact hx⟩, st', fun b hb => (hf b hb).1⟩⟩
  done := by
    intro X hP hw hK hc i pins s σ H E I hf st hg
    subst hP hw hK
    obtain ⟨xs, hq, hx⟩ := hg
    obtain ⟨its, rv, p, hz⟩ := I.tuple hq
    obtain ⟨f0, f1, f2, f3, f4, f5⟩ := hf it (by simp)
    have hl := rv.length
    exact wpAny_pyNext_tuple_end (I.ok.hd hc) st (show s.heap.IsTuple a its.toArray from p) (by simp; omega) fun h' eb => ⟨rfl, I.turned (t' := s.toks) (fun b o hb e => eb b o hb e) f0 f1 f3 f4 f5⟩
  self := fun _ _ _ _ _ st h => wpAny_pyIter_tupleiter st h
theorem turn_range {P : Program} {w : World} {K : PySem.W.Frag} {tg : Expr} (it : Addr) (lo : Int) (n : Nat) : Turn P w K tg (Itr lo n) [it] it (fun i h => IsRangeIter h it (lo + (i : Nat) * 1) ((n : Int) - (i : Nat)) 1) where
  mem := by simp
  obj := fun i h st b hb => by
    have e : b = it := by simpa using hb
    subst e
    exact ⟨_, st, fun v z => by
      have z' : Data.fields _ = Data.cell v := z
      cases z'⟩
  keep := fun i h h' st k => k it (by simp) _ st
  item := by
    intro X hP hw hK hc i pins s σ H E I hf st hg
    subst hP hw hK
    obtain ⟨f0, f1, f2, f3, f4, f5⟩ := hf it (by simp)
    have W := Walks.range (prog := X.prog) (w := X.w) (I.ok.hd hc) it lo 1 n
    refine W.item i s _ _ hg st fun v h' tk hv st' kk => ?_
    obtain ⟨t, rfl⟩ := hv
    have I1 : Inv X pins σ H { s with heap := h', toks := tk } := I.turned (fun b o hb e => kk b o (by simpa using hb) e) f0 f1 f3 f4 f5
    refine ⟨_, rfl, go_of (s := { s with heap := h', toks := tk }) (n := "range_iterator") st' rfl rfl (by decide) ⟨.int (lo + i), H, I1, ⟨t, ?_⟩, ⟨rfl, rfl⟩, st', fun b hb => (hf b hb).1⟩⟩
    rw [Int.mul_one]
  done := by
    intro X hP hw hK hc i pins s σ H E I hf st hg
    subst hP hw hK
    obtain ⟨f0, f1, f2, f3, f4, f5⟩ := hf it (by simp)
    exact wpAny_pyNext_range_end (I.ok.hd hc) st (by have : n ≤ i := hg; omega) fun h' eb => ⟨rfl, I.turned (t' := s.toks) (fun b o hb e => eb b o hb e) f0 f1 f3 f4 f5⟩
  self := fun _ _ _ _ _ st h => wpAny_pyIter_rangeiter st h
end L2

namespace L2
open PySem PySem.Spec PyProof.Rows
section
variable {X : Cx} {tg : Expr}
def iList (K : PySem.W.Frag) (tl : TE) : TI := fun σ H R => tl σ H fun x H1 => ∃ a, x = .ref a ∧ (∃ xs, SqL K H1 a xs) ∧ R (Itl K a) H1
def iTup (K : PySem.W.Frag) (tl : TE) : TI := fun σ H R => tl σ H fun x H1 => ∃ a, x = .ref a ∧ (∃ xs, SqT K H1 a xs) ∧ R (Itt K a) H1
theorem pi_list {l : Expr} {tl : TE} (hl : PE X l tl) : PI X tg l (iList X.K tl) := by
  intro pins s σ H R I h
  refine thn (hl pins s σ H _ I h) fun v s1 ⟨x, H1, I1, r1, q1⟩ => ?_
  obtain ⟨a, e, ⟨xs, hq⟩, q⟩ := q1
  subst e
  cases r1
  obtain ⟨its, rv, p, hz⟩ := I1.list hq
  refine wpAny_pyIter_list p.isList ?_
  refine ⟨s1.heap.objs.size, [s1.heap.objs.size], _, _, H1, rfl, I1.kept (t' := s1.toks) fun b o e => Heap.get?_push_of_some _ e, turn_list a _, ⟨_, Heap.get?_push_size _ rfl, rfl, rfl⟩, fun b hb => ?_, q⟩
  have e : b = s1.heap.objs.size := by simpa using hb
  subst e
  exact I1.fpOk (Nat.le_refl _) (I1.hok.fresh (Nat.le_refl _))
theorem pi_tup {l : Expr} {tl : TE} (hl : PE X l tl) : PI X tg l (iTup X.K tl) := by
  intro pins s σ H R I h
  refine thn (hl pins s σ H _ I h) fun v s1 ⟨x, H1, I1, r1, q1⟩ => ?_
  obtain ⟨a, e, ⟨xs, hq⟩, q⟩ := q1
  subst e
  cases r1
  obtain ⟨its, rv, p, hz⟩ := I1.tuple hq
  refine wpAny_pyIter_tuple (show s1.heap.IsTuple a its.toArray from p) ?_
  refine ⟨s1.heap.objs.size, [s1.heap.objs.size], _, _, H1, rfl, I1.kept (t' := s1.toks) fun b o e => Heap.get?_push_of_some _ e, turn_tuple a _, ⟨_, Heap.get?_push_size _ rfl, rfl, rfl⟩, fun b hb => ?_, q⟩
  have e : b = s1.heap.objs.size := by simpa using hb
  subst e
  exact I1.fpOk (Nat.le_refl _) (I1.hok.fresh (Nat.le_refl _))
/-- a range object just made, walked -/
theorem range_it {pins : List (Addr × Obj)} {σ : St} {H : Hp} {s : Shared} {R : It → Hp → Prop} {E : Value → Shared → Prop} {lo hi : Int} {t u v : Tok} {tk : Nat} (I : Inv X pins σ H s) (h1 : -(2 ^ 62) ≤ lo) (h2 : lo < 2 ^ 62) (h3 : -(2 ^ 62) ≤ hi) (h4 : hi < 2 ^ 62)
    (q : R (Itr lo (hi - lo).toNat) H) : wpAny (model X.prog X.w) X.A (pyIter (.ref s.heap.objs.size)) (PIE X pins σ tg R) E { s with heap := s.heap.push { cls := .type "range", data := .fields #[.int lo t, .int hi u, .int 1 v] }, toks := tk } := by
  refine wpAny_pyIter_range (IsRange.new ..) (small_one h1 h2 h3 h4) ?_
  have I1 : Inv X pins σ H { s with heap := s.heap.push { cls := .type "range", data := .fields #[.int lo t, .int hi u, .int 1 v] }, toks := tk } := I.kept fun b o e => Heap.get?_push_of_some _ e
  refine ⟨(s.heap.push { cls := .type "range", data := .fields #[.int lo t, .int hi u, .int 1 v] }).objs.size, [(s.heap.push { cls := .type "range", data := .fields #[.int lo t, .int hi u, .int 1 v] }).objs.size], _, _, H, rfl,
    I1.kept (t' := tk) fun b o e => Heap.get?_push_of_some _ e, turn_range _ lo (hi - lo).toNat, ?_, fun b hb => ?_, q⟩
  · have e1 : lo + ((0 : Nat) : Int) * 1 = lo := by simp
    have e2 : (((hi - lo).toNat : Nat) : Int) - ((0 : Nat) : Int) = Builtin.Range.rangeSize lo hi 1 := by rw [rangeSize_one]; split <;> omega
    show IsRangeIter _ _ (lo + ((0 : Nat) : Int) * 1) ((((hi - lo).toNat : Nat) : Int) - ((0 : Nat) : Int)) 1
    rw [e1, e2]
    exact Heap.get?_push_size _ rfl
  · have e : b = (s.heap.push { cls := .type "range", data := .fields #[.int lo t, .int hi u, .int 1 v] }).objs.size := by simpa using hb
    subst e
    exact I1.fpOk (Nat.le_refl _) (I1.hok.fresh (Nat.le_refl _))
def iRng1 (ta : TA) : TI := fun σ H R => ta σ H fun vs H1 => ∃ j : Int, vs = [.int j] ∧ -(2 ^ 62) ≤ j ∧ j < 2 ^ 62 ∧ R (Itr 0 j.toNat) H1
def iRng2 (ta : TA) : TI := fun σ H R => ta σ H fun vs H1 => ∃ i j : Int, vs = [.int i, .int j] ∧ (-(2 ^ 62) ≤ i ∧ i < 2 ^ 62 ∧ -(2 ^ 62) ≤ j ∧ j < 2 ^ 62) ∧ R (Itr i (j - i).toNat) H1
theorem pi_range1 {a : Expr} {ta : TA} {p pos : Pos} (hg : Gl X "range") (hm : X.mg "range" = none) (ha : PA X [a] ta) (hs : starEach [a] X.env = [(false, eval a X.env)] := by rfl) : PI X tg (.Call (.Name "range" p) [a] [] pos) (iRng1 ta) := by
  intro pins s σ H R I h
  refine Call_ (ld_blt I hg hm boot_range (PyProof.Rows.callWith_type1 (thn (ha pos pins s σ H _ I h) fun us s1 ⟨vs, H1, I1, r1, q1⟩ => ?_) hs rfl))
  obtain ⟨j, e, q1, q2, q⟩ := q1
  subst e
  cases r1 with
  | cons r rr =>
    cases rr
    obtain ⟨t, rfl⟩ := r
    exact call_range_1 (range_it I1 (by omega) (by omega) q1 q2 (by simpa using q))
theorem pi_range2 {a b : Expr} {ta : TA} {p pos : Pos} (hg : Gl X "range") (hm : X.mg "range" = none) (ha : PA X [a, b] ta) (hs : starEach [a, b] X.env = [(false, eval a X.env), (false, eval b X.env)] := by rfl) (hs2 : starEach [b] X.env = [(false, eval b X.env)] := by rfl) :
    PI X tg (.Call (.Name "range" p) [a, b] [] pos) (iRng2 ta) := by
  intro pins s σ H R I h
  refine Call_ (ld_blt I hg hm boot_range (PyProof.Rows.callWith_type1 (thn (ha pos pins s σ H _ I h) fun us s1 ⟨vs, H1, I1, r1, q1⟩ => ?_) (by rw [hs, hs2]) (by rw [hs2]; rfl)))
  obtain ⟨i, j, e, ⟨q1, q2, q3, q4⟩, q⟩ := q1
  subst e
  cases r1 with
  | cons r rr =>
    cases rr with
    | cons r' rr =>
      cases rr
      obtain ⟨t, rfl⟩ := r
      obtain ⟨t', rfl⟩ := r'
      exact call_range_2 (range_it I1 q1 q2 q3 q4 q)

/-! ### for -/
/-- W: the invariant by the turn and a measure; N: what the body is to reach -/
def tFor (wi : TI) (g : TG) (tb : TS) : TS := fun D σ H => wi σ H fun J H1 => ∃ W : Nat → Nat → St → Hp → Prop, (∃ m, W 0 m σ H1) ∧ ∀ i m σ H, W i m σ H →
  (J.stop i H ∧ D.nx σ H) ∨ (J.go i H ∧ ∃ N : St → Hp → Prop, (∀ σ' H', N σ' H' → ∃ m', m' < m ∧ W (i + 1) m' σ' H') ∧ ∀ x H', J.yld i H x H' → g x σ H' fun σ2 H2 => tb { D with nx := N, ct := N, bk := D.nx } σ2 H2)
/-- the records at fp as they stand -/
def pinsAt (fp : List Addr) (h : Heap) : List (Addr × Obj) := fp.filterMap fun b => (h.get? b).map fun o => (b, o)
theorem mem_pinsAt {fp : List Addr} {h : Heap} {b : Addr} {o : Obj} (hb : b ∈ fp) (e : h.get? b = some o) : (b, o) ∈ pinsAt fp h := List.mem_filterMap.mpr ⟨b, hb, by rw [e]; rfl⟩
theorem of_pinsAt {fp : List Addr} {h : Heap} {p : Addr × Obj} (hp : p ∈ pinsAt fp h) : p.1 ∈ fp ∧ h.get? p.1 = some p.2 := by
  obtain ⟨b, hb, e⟩ := List.mem_filterMap.mp hp
  cases q : h.get? b with
  | none => rw [q] at e; cases e
  | some o =>
    rw [q] at e
    have e' : (b, o) = p := Option.some.inj e
    subst e'
    exact ⟨hb, q⟩
theorem Inv.pinned {pins : List (Addr × Obj)} {σ : St} {H : Hp} {s : Shared} {fp : List Addr} (I : Inv X pins σ H s) (hf : ∀ b ∈ fp, FpOk X pins H b) (ho : ∀ b ∈ fp, ∃ o, s.heap.get? b = some o ∧ ∀ v, o.data ≠ .cell v) : Inv X (pins ++ pinsAt fp s.heap) σ H s :=
  I.pins_of fun p hp => (List.mem_append.mp hp).elim (fun z => I.pin p (List.mem_append_right _ z)) fun z => by
    obtain ⟨hb, e⟩ := of_pinsAt z
    obtain ⟨f0, f1, f2, _⟩ := hf p.1 hb
    obtain ⟨o, e', d⟩ := ho p.1 hb
    rw [e] at e'; cases e'
    exact ⟨e, f0, f1, f2, d⟩
theorem Inv.unpinned {pins pl : List (Addr × Obj)} {σ : St} {H : Hp} {s : Shared} (I : Inv X (pins ++ pl) σ H s) : Inv X pins σ H s := I.pins_of fun p hp => I.pin p (List.mem_append_right _ (List.mem_append_left _ hp))
theorem ps_for {iter : Expr} {body : List Stmt} {wi : TI} {g : TG} {tb : TS} {pos : Pos} (hp : PassesOwn (model X.prog X.w) X.A X.env X.xe) (hc : X.calm = true) (hi : PI X tg iter wi) (hg : PG X tg g) (hb : PSs X body tb)
    (hs : ∀ x, foldedSetIterable iter X.env x = pure x := by intro _; rfl) : PS X (.For tg iter body [] pos) (tFor wi g tb) := by
  intro pins s σ H D I h
  refine wpAny_For (thn (hi pins s σ H _ I h) fun v s1 h1 => thn h1 fun itv s2 h2 => ?_) hs
  obtain ⟨it, fp, tn, J, H2, e, I2, T, st2, f2, W, ⟨m0, w0⟩, turn⟩ := h2
  subst e
  -- what stays true of the iterator's objects through the loop
  have stat : ∀ {H' : Hp}, (∀ b ∈ fp, H' b = none) → ∀ b ∈ fp, FpOk X pins H' b := fun hn b hb => ⟨hn b hb, (f2 b hb).2⟩
  refine codeAny_forLoop_any (fun n s' => ∃ i σ' H', Inv X pins σ' H' s' ∧ tn i s'.heap ∧ (∀ b ∈ fp, H' b = none) ∧ W i n σ' H') ?_ m0 ⟨0, σ, H2, I2, st2, fun b hb => (f2 b hb).1, w0⟩
  rintro n s3 ⟨i, σ3, H3, I3, st3, fr3, w3⟩
  rcases turn i n σ3 H3 w3 with ⟨stop, qn⟩ | ⟨go, N, hN, step⟩
  · refine wpAny_passesOwn hp (thn (T.done X rfl rfl rfl hc i pins s3 σ3 H3 X.xe I3 (stat fr3) st3 stop) fun r s4 ⟨hr, I4⟩ => ?_)
    subst hr
    exact wpAny_execs_nil ⟨σ3, H3, I4, qn⟩
  · refine wpAny_passesOwn hp (thn (T.item X rfl rfl rfl hc i pins s3 σ3 H3 X.xe I3 (stat fr3) st3 go) fun r s4 ⟨u, hr, h4⟩ => ?_)
    subst hr
    refine wpAny_passesOwn hp (thn h4 fun _ s5 ⟨x, H5, I5, r5, y5, st5, fr5⟩ => ?_)
    have I5' := I5.pinned (stat fr5) (T.obj _ _ st5)
    refine wpAny_passesOwn hp (thn (hg _ s5 σ3 H5 x u _ I5' r5 (step x H5 y5)) fun _ s6 ⟨σ6, H6, I6, q6⟩ => ?_)
    refine wpAny_passesOwn hp (thn (hb _ s6 σ6 H6 _ I6 q6) fun f s7 q7 => ?_)
    have again : ∀ {σ7 : St} {H7 : Hp}, Inv X (pins ++ pinsAt fp s5.heap) σ7 H7 s7 → N σ7 H7 → ∃ m, m < n ∧ ∃ i σ' H', Inv X pins σ' H' s7 ∧ tn i s7.heap ∧ (∀ b ∈ fp, H' b = none) ∧ W i m σ' H' := fun {σ7 H7} I7 n7 => by
      obtain ⟨m', hm, w7⟩ := hN σ7 H7 n7
      refine ⟨m', hm, i + 1, σ7, H7, I7.unpinned, T.keep _ _ _ st5 fun b hb o e => (I7.pin (b, o) (List.mem_append_right _ (List.mem_append_right _ (mem_pinsAt hb e)))).1, fun b hb => ?_, w7⟩
      obtain ⟨o, e, d⟩ := T.obj _ _ st5 b hb
      exact (I7.pin (b, o) (List.mem_append_right _ (List.mem_append_right _ (mem_pinsAt hb e)))).2.1
    cases f with
    | next => obtain ⟨σ7, H7, I7, n7⟩ := q7; exact again I7 n7
    | cont => obtain ⟨σ7, H7, I7, n7⟩ := q7; exact again I7 n7
    | brk => obtain ⟨σ7, H7, I7, q7⟩ := q7; exact ⟨σ7, H7, I7.unpinned, q7⟩
    | ret v => obtain ⟨x7, σ7, H7, I7, r7, q7⟩ := q7; exact ⟨x7, σ7, H7, I7.unpinned, r7, q7⟩
end

/-! ### the forms one uses -/
/-- over a list that the body leaves as it is -/
theorem for_list {K : PySem.W.Frag} {a : Addr} {xs : List V} {g : TG} {tb : TS} {D : Ends} {σ : St} {H : Hp} (Pv : Nat → St → Hp → Prop) (h0 : Pv 0 σ H) (hl : ∀ i σ H, i ≤ xs.length → Pv i σ H → SqL K H a xs)
    (hs : ∀ i x σ H, xs[i]? = some x → Pv i σ H → g x σ H fun σ2 H2 => tb { D with nx := Pv (i + 1), ct := Pv (i + 1), bk := D.nx } σ2 H2) (hd : ∀ σ H, Pv xs.length σ H → D.nx σ H) :
    ∃ W : Nat → Nat → St → Hp → Prop, (∃ m, W 0 m σ H) ∧ ∀ i m σ H, W i m σ H →
      ((Itl K a).stop i H ∧ D.nx σ H) ∨ ((Itl K a).go i H ∧ ∃ N : St → Hp → Prop, (∀ σ' H', N σ' H' → ∃ m', m' < m ∧ W (i + 1) m' σ' H') ∧ ∀ x H', (Itl K a).yld i H x H' → g x σ H' fun σ2 H2 => tb { D with nx := N, ct := N, bk := D.nx } σ2 H2) := by
  refine ⟨fun i m σ H => m = xs.length - i ∧ i ≤ xs.length ∧ Pv i σ H, ⟨xs.length, by simp, Nat.zero_le _, h0⟩, ?_⟩
  rintro i m σ H ⟨rfl, hi, p⟩
  have q := hl i σ H hi p
  by_cases hlt : i < xs.length
  · refine .inr ⟨⟨xs, xs[i], q, by simp [hlt]⟩, Pv (i + 1), fun σ' H' p' => ⟨xs.length - (i + 1), by omega, rfl, hlt, p'⟩, fun x H' y => ?_⟩
    obtain ⟨e, y⟩ := y
    subst e
    exact hs i x σ _ (y xs q) p
  · have e : i = xs.length := by omega
    subst e
    exact .inl ⟨⟨xs, q, Nat.le_refl _⟩, hd σ H p⟩
theorem for_tup {K : PySem.W.Frag} {a : Addr} {xs : List V} {g : TG} {tb : TS} {D : Ends} {σ : St} {H : Hp} (Pv : Nat → St → Hp → Prop) (h0 : Pv 0 σ H) (hl : ∀ i σ H, i ≤ xs.length → Pv i σ H → SqT K H a xs)
    (hs : ∀ i x σ H, xs[i]? = some x → Pv i σ H → g x σ H fun σ2 H2 => tb { D with nx := Pv (i + 1), ct := Pv (i + 1), bk := D.nx } σ2 H2) (hd : ∀ σ H, Pv xs.length σ H → D.nx σ H) :
    ∃ W : Nat → Nat → St → Hp → Prop, (∃ m, W 0 m σ H) ∧ ∀ i m σ H, W i m σ H →
      ((Itt K a).stop i H ∧ D.nx σ H) ∨ ((Itt K a).go i H ∧ ∃ N : St → Hp → Prop, (∀ σ' H', N σ' H' → ∃ m', m' < m ∧ W (i + 1) m' σ' H') ∧ ∀ x H', (Itt K a).yld i H x H' → g x σ H' fun σ2 H2 => tb { D with nx := N, ct := N, bk := D.nx } σ2 H2) := by
  refine ⟨fun i m σ H => m = xs.length - i ∧ i ≤ xs.length ∧ Pv i σ H, ⟨xs.length, by simp, Nat.zero_le _, h0⟩, ?_⟩
  rintro i m σ H ⟨rfl, hi, p⟩
  have q := hl i σ H hi p
  by_cases hlt : i < xs.length
  · refine .inr ⟨⟨xs, xs[i], q, by simp [hlt]⟩, Pv (i + 1), fun σ' H' p' => ⟨xs.length - (i + 1), by omega, rfl, hlt, p'⟩, fun x H' y => ?_⟩
    obtain ⟨e, y⟩ := y
    subst e
    exact hs i x σ _ (y xs q) p
  · have e : i = xs.length := by omega
    subst e
    exact .inl ⟨⟨xs, q, Nat.le_refl _⟩, hd σ H p⟩
theorem for_range {lo : Int} {n : Nat} {g : TG} {tb : TS} {D : Ends} {σ : St} {H : Hp} (Pv : Nat → St → Hp → Prop) (h0 : Pv 0 σ H)
    (hs : ∀ i σ H, i < n → Pv i σ H → g (.int (lo + i)) σ H fun σ2 H2 => tb { D with nx := Pv (i + 1), ct := Pv (i + 1), bk := D.nx } σ2 H2) (hd : ∀ σ H, Pv n σ H → D.nx σ H) :
    ∃ W : Nat → Nat → St → Hp → Prop, (∃ m, W 0 m σ H) ∧ ∀ i m σ H, W i m σ H →
      ((Itr lo n).stop i H ∧ D.nx σ H) ∨ ((Itr lo n).go i H ∧ ∃ N : St → Hp → Prop, (∀ σ' H', N σ' H' → ∃ m', m' < m ∧ W (i + 1) m' σ' H') ∧ ∀ x H', (Itr lo n).yld i H x H' → g x σ H' fun σ2 H2 => tb { D with nx := N, ct := N, bk := D.nx } σ2 H2) := by
  refine ⟨fun i m σ H => m = n - i ∧ i ≤ n ∧ Pv i σ H, ⟨n, by simp, Nat.zero_le _, h0⟩, ?_⟩
  rintro i m σ H ⟨rfl, hi, p⟩
  by_cases hlt : i < n
  · refine .inr ⟨hlt, Pv (i + 1), fun σ' H' p' => ⟨n - (i + 1), by omega, rfl, hlt, p'⟩, fun x H' y => ?_⟩
    obtain ⟨e, y⟩ := y
    subst e y
    exact hs i σ _ hlt p
  · have e : i = n := by omega
    subst e
    exact .inl ⟨Nat.le_refl _, hd σ H p⟩
/-- while, by a word and a measure of the state -/
theorem while_by {c : TT} {tb : TS} {D : Ends} {σ : St} {H : Hp} (Pv : St → Hp → Prop) (μ : St → Hp → Nat) (h0 : Pv σ H)
    (hs : ∀ σ H, Pv σ H → c σ H fun b H1 => if b = true then tb { D with nx := fun σ' H' => Pv σ' H' ∧ μ σ' H' < μ σ H, ct := fun σ' H' => Pv σ' H' ∧ μ σ' H' < μ σ H, bk := D.nx } σ H1 else D.nx σ H1)
    (mono : ∀ σ H Q Q', (∀ b H1, Q b H1 → Q' b H1) → c σ H Q → c σ H Q') : tWhile c tb D σ H := by
  refine ⟨fun m σ H => m = μ σ H ∧ Pv σ H, ⟨_, rfl, h0⟩, ?_⟩
  rintro m σ H ⟨rfl, p⟩
  refine mono σ H _ _ (fun b H1 q => ?_) (hs σ H p)
  cases b with
  | true => exact ⟨_, fun σ' H' ⟨p', l⟩ => ⟨_, l, rfl, p'⟩, q⟩
  | false => exact q
end L2

namespace L2
open PySem PySem.Spec PyProof.Rows

abbrev R2 := V → V → Hp → VK → Prop
/-- a two-place operation on values: f is binaryOp op, inplaceOp op or compareOp op -/
def OpR (X : Cx) (f : Value → Value → Sem Value) (r : R2) : Prop :=
  ∀ (pins : List (Addr × Obj)) (s : Shared) (σ : St) (H : Hp) (x y : V) (v u : Value) (Q : VK), Inv X pins σ H s → RelV x v → RelV y u → r x y H Q →
    wpAny (model X.prog X.w) X.A (f v u) (EP X pins σ Q) X.xe s
/-- a one-place operation -/
def UnR (X : Cx) (f : Value → Sem Value) (r : V → Hp → VK → Prop) : Prop :=
  ∀ (pins : List (Addr × Obj)) (s : Shared) (σ : St) (H : Hp) (x : V) (v : Value) (Q : VK), Inv X pins σ H s → RelV x v → r x H Q →
    wpAny (model X.prog X.w) X.A (f v) (EP X pins σ Q) X.xe s
/-- a call of a value that is known (a builtin, a type) with values -/
def CallR (X : Cx) (f : Value) (r : List V → Hp → VK → Prop) : Prop :=
  ∀ (pins : List (Addr × Obj)) (s : Shared) (σ : St) (H : Hp) (xs : List V) (us : List Value) (Q : VK), Inv X pins σ H s → Vals xs us → r xs H Q →
    wpAny (model X.prog X.w) X.A (call f us) (EP X pins σ Q) X.xe s
/-- a value's truth -/
def TruR (X : Cx) (r : V → Hp → (Bool → Hp → Prop) → Prop) : Prop :=
  ∀ (pins : List (Addr × Obj)) (s : Shared) (σ : St) (H : Hp) (x : V) (v : Value) (Q : Bool → Hp → Prop), Inv X pins σ H s → RelV x v → r x H Q →
    wpAny (model X.prog X.w) X.A (truthy v) (TP X pins σ Q) X.xe s

def tOp (r : R2) (ta tb : TE) : TE := fun σ H Q => ta σ H fun x H1 => tb σ H1 fun y H2 => r x y H2 Q
def tUn (r : V → Hp → VK → Prop) (ta : TE) : TE := fun σ H Q => ta σ H fun x H1 => r x H1 Q
/-- ints in, under C, and a value out -/
def rI (C : Int → Int → Prop) (g : Int → Int → V) : R2 := fun x y H Q => ∃ i j, x = .int i ∧ y = .int j ∧ C i j ∧ Q (g i j) H
def rI0 (g : Int → Int → V) : R2 := fun x y H Q => ∃ i j, x = .int i ∧ y = .int j ∧ Q (g i j) H
def rU (g : Int → V) : V → Hp → VK → Prop := fun x H Q => ∃ i, x = .int i ∧ Q (g i) H

section
variable {X : Cx} {a b c : Expr} {ta tb tc : TE} {pos : Pos}

theorem binT (ha : PE X a ta) (hb : PE X b tb) {pins : List (Addr × Obj)} {s : Shared} {σ : St} {H : Hp} {R : V → V → Hp → Prop} (I : Inv X pins σ H s)
    (h : ta σ H fun x H1 => tb σ H1 fun y H2 => R x y H2) {Q : Value → Shared → Prop} {f : Value → Value → Sem Value}
    (hf : ∀ v u s2 x y H2, Inv X pins σ H2 s2 → RelV x v → RelV y u → R x y H2 → wpAny (model X.prog X.w) X.A (f v u) Q X.xe s2) :
    wpAny (model X.prog X.w) X.A (eval a X.env) (fun v s₁ => wpAny (model X.prog X.w) X.A (eval b X.env) (fun u s₂ => wpAny (model X.prog X.w) X.A (f v u) Q X.xe s₂) X.xe s₁) X.xe s := by
  refine thn (ha pins s σ H _ I h) fun v s1 ⟨x, H1, I1, r1, q1⟩ => ?_
  refine thn (hb pins s1 σ H1 _ I1 q1) fun u s2 ⟨y, H2, I2, r2, q2⟩ => ?_
  exact hf v u s2 x y H2 I2 r1 r2 q2

theorem pe_op {op : Operator} {r : R2} (ho : OpR X (binaryOp op) r) (ha : PE X a ta) (hb : PE X b tb) : PE X (.BinOp a op b pos) (tOp r ta tb) := by
  intro pins s σ H Q I h
  exact wpAny_BinOp (binT ha hb I h fun v u s2 x y H2 I2 rx ry q => ho pins s2 σ H2 x y v u Q I2 rx ry q)
theorem pe_un {op : UnaryOp} {r : V → Hp → VK → Prop} (ho : UnR X (unaryOp op) r) (ha : PE X a ta) : PE X (.UnaryOp op a pos) (tUn r ta) := by
  intro pins s σ H Q I h
  exact UnaryOp_ (thn (ha pins s σ H _ I h) fun v s1 ⟨x, H1, I1, r1, q1⟩ => ho pins s1 σ H1 x v Q I1 r1 q1)
/-- a op= e at a name: the name's slot i -/
theorem augR {op : Operator} {r : R2} (ho : OpR X (inplaceOp op) r) {pins : List (Addr × Obj)} {s : Shared} {σ : St} {H : Hp} {x y : V} {v u : Value} {Q : VK} (I : Inv X pins σ H s)
    (rx : RelV x v) (ry : RelV y u) (q : r x y H Q) : wpAny (model X.prog X.w) X.A (inplaceOp op v u) (EP X pins σ Q) X.xe s := ho pins s σ H x y v u Q I rx ry q

/-! ### ints -/
theorem opI {f : Value → Value → Sem Value} {C : Int → Int → Prop} {g : Int → Int → Int}
    (rule : ∀ (i j : Int) (t u : Tok) (s : Shared) (Q : Value → Shared → Prop) (E : Value → Shared → Prop), C i j → Q (.int (g i j) s.toks) { s with toks := s.toks + 1 } → wpAny (model X.prog X.w) X.A (f (.int i t) (.int j u)) Q E s) :
    OpR X f (rI C fun i j => .int (g i j)) := by
  intro pins s σ H x y v u Q I rx ry h
  obtain ⟨i, j, rfl, rfl, hc, q⟩ := h
  obtain ⟨t, rfl⟩ := rx
  obtain ⟨t', rfl⟩ := ry
  exact rule i j t t' s _ _ hc ⟨.int (g i j), H, I.tok _, ⟨_, rfl⟩, q⟩
theorem opI0 {f : Value → Value → Sem Value} {g : Int → Int → Int}
    (rule : ∀ (i j : Int) (t u : Tok) (s : Shared) (Q : Value → Shared → Prop) (E : Value → Shared → Prop), Q (.int (g i j) s.toks) { s with toks := s.toks + 1 } → wpAny (model X.prog X.w) X.A (f (.int i t) (.int j u)) Q E s) :
    OpR X f (rI0 fun i j => .int (g i j)) := by
  intro pins s σ H x y v u Q I rx ry h
  obtain ⟨i, j, rfl, rfl, q⟩ := h
  obtain ⟨t, rfl⟩ := rx
  obtain ⟨t', rfl⟩ := ry
  exact rule i j t t' s _ _ ⟨.int (g i j), H, I.tok _, ⟨_, rfl⟩, q⟩
theorem opB0 {f : Value → Value → Sem Value} {g : Int → Int → Bool}
    (rule : ∀ (i j : Int) (t u : Tok) (s : Shared) (Q : Value → Shared → Prop) (E : Value → Shared → Prop), Q (.bool (g i j)) s → wpAny (model X.prog X.w) X.A (f (.int i t) (.int j u)) Q E s) :
    OpR X f (rI0 fun i j => .bl (g i j)) := by
  intro pins s σ H x y v u Q I rx ry h
  obtain ⟨i, j, rfl, rfl, q⟩ := h
  obtain ⟨t, rfl⟩ := rx
  obtain ⟨t', rfl⟩ := ry
  exact rule i j t t' s _ _ ⟨.bl (g i j), H, I, rfl, q⟩

def CDiv (i j : Int) : Prop := 0 < j ∧ j < 1073741824
def CDivN (i j : Int) : Prop := j ≠ 0 ∧ j.natAbs < 1073741824
def CPow (i j : Int) : Prop := 0 ≤ j ∧ j ≤ 1000000 ∧ i.natAbs < 2 ^ 64
def CMul (i j : Int) : Prop := (-(2 ^ 64) < i ∧ i < 2 ^ 64) ∨ (-(2 ^ 64) < j ∧ j < 2 ^ 64)
theorem CMul.ok {i j : Int} (h : CMul i j) : IntMulOk i j := by
  rcases h with ⟨h1, h2⟩ | ⟨h1, h2⟩
  · exact .of_left (intBits_le_64 h1 h2)
  · exact .of_right (intBits_le_64 h1 h2)
theorem two_pow_nn (k : Nat) : (0 : Int) ≤ 2 ^ k := by
  rw [two_pow_cast]
  exact Int.natCast_nonneg _

theorem op_add : OpR X (binaryOp .Add) (rI0 fun i j => .int (i + j)) := opI0 fun _ _ _ _ _ _ _ q => add_int q
theorem op_sub : OpR X (binaryOp .Sub) (rI0 fun i j => .int (i - j)) := opI0 fun _ _ _ _ _ _ _ q => sub_int q
theorem op_mul : OpR X (binaryOp .Mult) (rI CMul fun i j => .int (i * j)) := opI fun _ _ _ _ _ _ _ hc q => mul_int q hc.ok
/-- // by a positive divisor -/
theorem op_fdiv : OpR X (binaryOp .FloorDiv) (rI CDiv fun i j => .int (i / j)) := opI fun i j _ _ _ _ _ hc q => by
  have h1 : (0 : Int) < j := hc.1
  have h2 : j < 1073741824 := hc.2
  exact floordiv_int (by omega) (by rw [Int.fdiv_eq_ediv_of_nonneg i (by omega)]; exact q) (.inl (PyProof.noPylong_small (by omega)))
theorem op_fdivN : OpR X (binaryOp .FloorDiv) (rI CDivN fun i j => .int (i.fdiv j)) := opI fun _ _ _ _ _ _ _ hc q => floordiv_int hc.1 q (.inl (PyProof.noPylong_small hc.2))
/-- % by a positive divisor of any size -/
theorem op_mod : OpR X (binaryOp .Mod) (rI (fun _ j => 0 < j) fun i j => .int (i % j)) := opI fun i j _ _ _ _ _ hc q => by
  have h1 : (0 : Int) < j := hc
  exact mod_int' (by omega) (by rw [Int.fmod_eq_emod_of_nonneg i (by omega)]; exact q)
theorem op_modN : OpR X (binaryOp .Mod) (rI (fun _ j => j ≠ 0) fun i j => .int (i.fmod j)) := opI fun _ _ _ _ _ _ _ hc q => mod_int' hc q
theorem op_pow : OpR X (binaryOp .Pow) (rI CPow fun i j => .int (i ^ j.toNat)) := opI fun _ _ _ _ _ _ _ hc q => pow_int_small hc.1 hc.2.1 hc.2.2 q
theorem op_shl : OpR X (binaryOp .LShift) (rI CPow fun i j => .int (i * 2 ^ j.toNat)) := opI fun _ _ _ _ _ _ _ hc q => lshift_int_small hc.1 hc.2.1 hc.2.2 q
theorem op_shr : OpR X (binaryOp .RShift) (rI (fun _ j => 0 ≤ j) fun i j => .int (i / 2 ^ j.toNat)) := opI fun i j _ _ _ _ _ hc q =>
  rshift_int hc (by rw [Int.fdiv_eq_ediv_of_nonneg i (two_pow_nn _)]; exact q)
theorem op_and : OpR X (binaryOp .BitAnd) (rI0 fun i j => .int (Builtin.bitAnd i j)) := opI0 fun _ _ _ _ _ _ _ q => and_int q
theorem op_or : OpR X (binaryOp .BitOr) (rI0 fun i j => .int (Builtin.bitOr i j)) := opI0 fun _ _ _ _ _ _ _ q => or_int q
theorem op_xor : OpR X (binaryOp .BitXor) (rI0 fun i j => .int (Builtin.bitXor i j)) := opI0 fun _ _ _ _ _ _ _ q => xor_int q

theorem iop_add : OpR X (inplaceOp .Add) (rI0 fun i j => .int (i + j)) := opI0 fun _ _ _ _ _ _ _ q => iadd_int q
theorem iop_sub : OpR X (inplaceOp .Sub) (rI0 fun i j => .int (i - j)) := opI0 fun _ _ _ _ _ _ _ q => isub_int q
theorem iop_mul : OpR X (inplaceOp .Mult) (rI CMul fun i j => .int (i * j)) := opI fun _ _ _ _ _ _ _ hc q => imul_int q hc.ok
theorem iop_fdiv : OpR X (inplaceOp .FloorDiv) (rI CDiv fun i j => .int (i / j)) := opI fun i j _ _ _ _ _ hc q => by
  have h1 : (0 : Int) < j := hc.1
  have h2 : j < 1073741824 := hc.2
  exact ifloordiv_int (by omega) (by rw [Int.fdiv_eq_ediv_of_nonneg i (by omega)]; exact q) (.inl (PyProof.noPylong_small (by omega)))
theorem iop_mod : OpR X (inplaceOp .Mod) (rI (fun _ j => 0 < j) fun i j => .int (i % j)) := opI fun i j _ _ _ _ _ hc q => by
  have h1 : (0 : Int) < j := hc
  exact imod_int (by omega) (by rw [Int.fmod_eq_emod_of_nonneg i (by omega)]; exact q)
theorem iop_shl : OpR X (inplaceOp .LShift) (rI CPow fun i j => .int (i * 2 ^ j.toNat)) := opI fun _ _ _ _ _ _ _ hc q => ilshift_int_small hc.1 hc.2.1 hc.2.2 q
theorem iop_shr : OpR X (inplaceOp .RShift) (rI (fun _ j => 0 ≤ j) fun i j => .int (i / 2 ^ j.toNat)) := opI fun i j _ _ _ _ _ hc q =>
  irshift_int hc (by rw [Int.fdiv_eq_ediv_of_nonneg i (two_pow_nn _)]; exact q)
theorem iop_and : OpR X (inplaceOp .BitAnd) (rI0 fun i j => .int (Builtin.bitAnd i j)) := opI0 fun _ _ _ _ _ _ _ q => iand_int q
theorem iop_or : OpR X (inplaceOp .BitOr) (rI0 fun i j => .int (Builtin.bitOr i j)) := opI0 fun _ _ _ _ _ _ _ q => ior_int q
theorem iop_xor : OpR X (inplaceOp .BitXor) (rI0 fun i j => .int (Builtin.bitXor i j)) := opI0 fun _ _ _ _ _ _ _ q => ixor_int q

theorem unI {f : Value → Sem Value} {g : Int → Int}
    (rule : ∀ (i : Int) (t : Tok) (s : Shared) (Q : Value → Shared → Prop) (E : Value → Shared → Prop), Q (.int (g i) s.toks) { s with toks := s.toks + 1 } → wpAny (model X.prog X.w) X.A (f (.int i t)) Q E s) :
    UnR X f (rU fun i => .int (g i)) := by
  intro pins s σ H x v Q I rx h
  obtain ⟨i, rfl, q⟩ := h
  obtain ⟨t, rfl⟩ := rx
  exact rule i t s _ _ ⟨.int (g i), H, I.tok _, ⟨_, rfl⟩, q⟩
theorem un_neg : UnR X (unaryOp .USub) (rU fun i => .int (-i)) := unI fun _ _ _ _ _ q => neg_int q
theorem un_inv : UnR X (unaryOp .Invert) (rU fun i => .int (Builtin.bitNot i)) := unI fun _ _ _ _ _ q => invert_int q

/-! ### bools among ints: n += (a < b) -/
theorem op_add_ib : OpR X (binaryOp .Add) (fun x y H Q => ∃ i k, x = .int i ∧ y = .bl k ∧ Q (.int (i + b2i k)) H) := by
  intro pins s σ H x y v u Q I rx ry h
  obtain ⟨i, k, rfl, rfl, q⟩ := h
  obtain ⟨t, rfl⟩ := rx
  cases ry
  exact add_int_bool ⟨.int (i + b2i k), H, I.tok _, ⟨_, rfl⟩, q⟩
end

/-! ### comparisons -/
/-- the scalars that == tells apart as data does -/
def scal : V → V → Bool
  | .non, .non => true | .non, .int _ => true | .int _, .non => true | .non, .bl _ => true | .bl _, .non => true | .non, .str _ => true | .str _, .non => true
  | .int _, .int _ => true | .bl _, .bl _ => true | .str _, .str _ => true | .byt _, .byt _ => true
  | .int _, .str _ => true | .str _, .int _ => true | .bl _, .str _ => true | .str _, .bl _ => true
  | _, _ => false
def rEq : R2 := fun x y H Q => scal x y = true ∧ Q (.bl (decide (x = y))) H
def rNe : R2 := fun x y H Q => scal x y = true ∧ Q (.bl (!decide (x = y))) H

theorem dec_int {i j : Int} : decide (V.int i = V.int j) = (i == j) := by
  rw [Bool.eq_iff_iff]
  simp
theorem dec_bl {i j : Bool} : decide (V.bl i = V.bl j) = (i == j) := by
  rw [Bool.eq_iff_iff]
  simp
theorem dec_str {i j : Str} : decide (V.str i = V.str j) = (i == j) := by
  rw [Bool.eq_iff_iff]
  simp
theorem dec_byt {i j : Array UInt8} : decide (V.byt i = V.byt j) = (i.toList == j.toList) := by
  rw [Bool.eq_iff_iff]
  cases i
  cases j
  simp

section
variable {X : Cx} {a b c : Expr} {ta tb tc : TE} {pos : Pos}
theorem fin_bl {pins : List (Addr × Obj)} {σ : St} {H : Hp} {s : Shared} {Q : VK} {k k' : Bool} (I : Inv X pins σ H s) (q : Q (.bl k) H) (e : k = k') : EP X pins σ Q (.bool k') s := by
  subst e
  exact ⟨.bl k, H, I, rfl, q⟩
theorem op_eq : OpR X (compareOp .Eq) rEq := by
  intro pins s σ H x y v u Q I rx ry h
  obtain ⟨hs, q⟩ := h
  cases x with
  | non =>
    cases rx
    cases y with
    | non => cases ry; exact PySem.EqNone.eq_none_none (fin_bl I q (by simp))
    | bl j => cases ry; exact PySem.EqNone.eq_none_bool (fin_bl I q (by simp))
    | int j => obtain ⟨t', rfl⟩ := ry; exact PySem.EqNone.eq_none_int (fin_bl I q (by simp))
    | str j => obtain ⟨t', rfl⟩ := ry; exact PySem.EqNone.eq_none_str (fin_bl I q (by simp))
    | _ => exact absurd (show false = true from hs) Bool.false_ne_true
  | bl i =>
    cases rx
    cases y with
    | non => cases ry; exact PySem.EqNone.eq_bool_none (fin_bl I q (by simp))
    | bl j => cases ry; exact eq_bool (fin_bl I q dec_bl)
    | str j => obtain ⟨t', rfl⟩ := ry; exact PySem.EqMixed.eq_bool_str (fin_bl I q (by simp))
    | _ => exact absurd (show false = true from hs) Bool.false_ne_true
  | int i =>
    obtain ⟨t, rfl⟩ := rx
    cases y with
    | non => cases ry; exact PySem.EqNone.eq_int_none (fin_bl I q (by simp))
    | int j => obtain ⟨t', rfl⟩ := ry; exact eq_int (fin_bl I q dec_int)
    | str j => obtain ⟨t', rfl⟩ := ry; exact PySem.EqMixed.eq_int_str (fin_bl I q (by simp))
    | _ => exact absurd (show false = true from hs) Bool.false_ne_true
  | str i =>
    obtain ⟨t, rfl⟩ := rx
    cases y with
    | non => cases ry; exact PySem.EqNone.eq_str_none (fin_bl I q (by simp))
    | bl j => cases ry; exact PySem.EqMixed.eq_str_bool (fin_bl I q (by simp))
    | int j => obtain ⟨t', rfl⟩ := ry; exact PySem.EqMixed.eq_str_int (fin_bl I q (by simp))
    | str j => obtain ⟨t', rfl⟩ := ry; exact eq_str (fin_bl I q dec_str)
    | _ => exact absurd (show false = true from hs) Bool.false_ne_true
  | byt i =>
    obtain ⟨t, rfl⟩ := rx
    cases y with
    | byt j => obtain ⟨t', rfl⟩ := ry; exact PySem.W.eq_bytes (fin_bl I q dec_byt)
    | _ => exact absurd (show false = true from hs) Bool.false_ne_true
  | _ => cases y <;> exact absurd (show false = true from hs) Bool.false_ne_true
theorem op_ne : OpR X (compareOp .NotEq) rNe := by
  intro pins s σ H x y v u Q I rx ry h
  obtain ⟨hs, q⟩ := h
  cases x with
  | non =>
    cases rx
    cases y with
    | non => cases ry; exact PySem.EqNone.ne_none_none (fin_bl I q (by simp))
    | bl j => cases ry; exact PySem.EqNone.ne_none_bool (fin_bl I q (by simp))
    | int j => obtain ⟨t', rfl⟩ := ry; exact PySem.EqNone.ne_none_int (fin_bl I q (by simp))
    | str j => obtain ⟨t', rfl⟩ := ry; exact PySem.EqNone.ne_none_str (fin_bl I q (by simp))
    | _ => exact absurd (show false = true from hs) Bool.false_ne_true
  | bl i =>
    cases rx
    cases y with
    | non => cases ry; exact PySem.EqNone.ne_bool_none (fin_bl I q (by simp))
    | bl j => cases ry; exact ne_bool (fin_bl I q (congrArg not dec_bl))
    | str j => obtain ⟨t', rfl⟩ := ry; exact PySem.EqMixed.ne_bool_str (fin_bl I q (by simp))
    | _ => exact absurd (show false = true from hs) Bool.false_ne_true
  | int i =>
    obtain ⟨t, rfl⟩ := rx
    cases y with
    | non => cases ry; exact PySem.EqNone.ne_int_none (fin_bl I q (by simp))
    | int j => obtain ⟨t', rfl⟩ := ry; exact ne_int (fin_bl I q (congrArg not dec_int))
    | str j => obtain ⟨t', rfl⟩ := ry; exact PySem.EqMixed.ne_int_str (fin_bl I q (by simp))
    | _ => exact absurd (show false = true from hs) Bool.false_ne_true
  | str i =>
    obtain ⟨t, rfl⟩ := rx
    cases y with
    | non => cases ry; exact PySem.EqNone.ne_str_none (fin_bl I q (by simp))
    | bl j => cases ry; exact PySem.EqMixed.ne_str_bool (fin_bl I q (by simp))
    | int j => obtain ⟨t', rfl⟩ := ry; exact PySem.EqMixed.ne_str_int (fin_bl I q (by simp))
    | str j => obtain ⟨t', rfl⟩ := ry; exact ne_str (fin_bl I q (congrArg not dec_str))
    | _ => exact absurd (show false = true from hs) Bool.false_ne_true
  | byt i =>
    obtain ⟨t, rfl⟩ := rx
    cases y with
    | byt j => obtain ⟨t', rfl⟩ := ry; exact PySem.W.ne_bytes (fin_bl I q (congrArg not dec_byt))
    | _ => exact absurd (show false = true from hs) Bool.false_ne_true
  | _ => cases y <;> exact absurd (show false = true from hs) Bool.false_ne_true

theorem op_lt : OpR X (compareOp .Lt) (rI0 fun i j => .bl (decide (i < j))) := opB0 fun _ _ _ _ _ _ _ q => lt_int q
theorem op_le : OpR X (compareOp .LtE) (rI0 fun i j => .bl (decide (i ≤ j))) := opB0 fun _ _ _ _ _ _ _ q => le_int q
theorem op_gt : OpR X (compareOp .Gt) (rI0 fun i j => .bl (decide (j < i))) := opB0 fun _ _ _ _ _ _ _ q => gt_int q
theorem op_ge : OpR X (compareOp .GtE) (rI0 fun i j => .bl (decide (j ≤ i))) := opB0 fun _ _ _ _ _ _ _ q => ge_int q
theorem op_lt_str : OpR X (compareOp .Lt) (fun x y H Q => ∃ i j, x = .str i ∧ y = .str j ∧ Q (.bl (decide (i.cps.toList < j.cps.toList))) H) := by
  intro pins s σ H x y v u Q I rx ry h
  obtain ⟨i, j, rfl, rfl, q⟩ := h
  obtain ⟨t, rfl⟩ := rx
  obtain ⟨t', rfl⟩ := ry
  exact lt_str (fin_bl I q rfl)
/-- the one string within the other -/
theorem op_in_str : OpR X (compareOp .In) (fun x y H Q => ∃ i j, x = .str i ∧ y = .str j ∧ Q (.bl (!(Builtin.Str.occurrences j i 0 j.length 1).isEmpty)) H) := by
  intro pins s σ H x y v u Q I rx ry h
  obtain ⟨i, j, rfl, rfl, q⟩ := h
  obtain ⟨t, rfl⟩ := rx
  obtain ⟨t', rfl⟩ := ry
  exact in_str (fin_bl I q rfl)

/-- is None, is not None: the right side a value none -/
theorem op_isN : OpR X (compareOp .Is) (fun x y H Q => y = .non ∧ Q (.bl (decide (x = .non))) H) := by
  intro pins s σ H x y v u Q I rx ry h
  obtain ⟨rfl, q⟩ := h
  cases ry
  refine is_none_gen (fin_bl I q ?_)
  cases x <;> first
    | (cases rx; rfl)
    | (obtain ⟨t, rfl⟩ := rx; rfl)
theorem op_notN : OpR X (compareOp .IsNot) (fun x y H Q => y = .non ∧ Q (.bl (!decide (x = .non))) H) := by
  intro pins s σ H x y v u Q I rx ry h
  obtain ⟨rfl, q⟩ := h
  cases ry
  refine isnot_none_gen (fin_bl I q ?_)
  cases x <;> first
    | (cases rx; rfl)
    | (obtain ⟨t, rfl⟩ := rx; rfl)

theorem op_notin_str : OpR X (compareOp .NotIn) (fun x y H Q => ∃ i j, x = .str i ∧ y = .str j ∧ Q (.bl (!(!(Builtin.Str.occurrences j i 0 j.length 1).isEmpty))) H) := by
  intro pins s σ H x y v u Q I rx ry h
  obtain ⟨i, j, rfl, rfl, q⟩ := h
  obtain ⟨t, rfl⟩ := rx
  obtain ⟨t', rfl⟩ := ry
  exact notIn_str (fin_bl I q rfl)
/-- is, is not of two objects that are tracked lists or instances -/
def isObj : HO → Bool
  | .lst _ => true
  | .ins _ _ _ => true
  | _ => false
theorem obj_there {pins : List (Addr × Obj)} {s : Shared} {σ : St} {H : Hp} {a : Addr} {o : HO} (I : Inv X pins σ H s) (h : H a = some o) (p : isObj o = true) : ∃ ob, s.heap.get? a = some ob ∧ ob.cls ≠ .type "tuple" := by
  cases o with
  | lst xs =>
    obtain ⟨_, its, n, _, e⟩ : xs.length ≤ sizeLine ∧ ∃ (its : List Value) (n : Nat), Vals xs its ∧ s.heap.get? a = some { cls := .type "list", data := .seq its.toArray n } := I.hok a _ h
    exact ⟨_, e, (by show Value.type "list" ≠ .type "tuple"; decide +kernel)⟩
  | ins C dx fs =>
    have x := I.hok a _ h
    obtain ⟨_, _, _, e, _⟩ := x
    exact ⟨_, e, (by show Value.ref C ≠ .type "tuple"; exact fun z => by cases z)⟩
  | _ => exact absurd (show false = true from p) Bool.false_ne_true
theorem op_is_ref : OpR X (compareOp .Is) (fun x y H Q => ∃ a b oa ob, x = .ref a ∧ y = .ref b ∧ H a = some oa ∧ isObj oa = true ∧ H b = some ob ∧ isObj ob = true ∧ Q (.bl (decide (a = b))) H) := by
  intro pins s σ H x y v u Q I rx ry h
  obtain ⟨a, b, oa, ob, rfl, rfl, ha, pa, hb, pb, q⟩ := h
  cases rx
  cases ry
  obtain ⟨o1, e1, n1⟩ := obj_there I ha pa
  obtain ⟨o2, e2, _⟩ := obj_there I hb pb
  by_cases z : a = b
  · subst z
    exact wpAny_is_ref_self (fin_bl I q (by simp))
  · exact wpAny_is_ref_other z e1 e2 n1 (fin_bl I q (by simp [z]))
theorem op_isnot_ref : OpR X (compareOp .IsNot) (fun x y H Q => ∃ a b oa ob, x = .ref a ∧ y = .ref b ∧ H a = some oa ∧ isObj oa = true ∧ H b = some ob ∧ isObj ob = true ∧ Q (.bl (!decide (a = b))) H) := by
  intro pins s σ H x y v u Q I rx ry h
  obtain ⟨a, b, oa, ob, rfl, rfl, ha, pa, hb, pb, q⟩ := h
  cases rx
  cases ry
  obtain ⟨o1, e1, n1⟩ := obj_there I ha pa
  obtain ⟨o2, e2, _⟩ := obj_there I hb pb
  by_cases z : a = b
  · subst z
    exact wpAny_isNot_ref_self (fin_bl I q (by simp))
  · exact wpAny_isNot_ref_other z e1 e2 n1 (fin_bl I q (by simp [z]))

/-- two rules for one operation: by cases -/
theorem OpR.or {f : Value → Value → Sem Value} {r r' : R2} (h : OpR X f r) (h' : OpR X f r') : OpR X f (fun x y H Q => r x y H Q ∨ r' x y H Q) := by
  intro pins s σ H x y v u Q I rx ry q
  rcases q with q | q
  · exact h pins s σ H x y v u Q I rx ry q
  · exact h' pins s σ H x y v u Q I rx ry q

theorem nomark (b : Expr) {op : CmpOp} (h : op ≠ .In := by decide) (h2 : op ≠ .NotIn := by decide) : behindInMarks op b = false := by
  have e1 : (op == CmpOp.In) = false := by cases op <;> first | rfl | exact absurd rfl h
  have e2 : (op == CmpOp.NotIn) = false := by cases op <;> first | rfl | exact absurd rfl h2
  cases b <;> simp [behindInMarks, e1, e2]
/-- a comparison as a value; hm: nomark b, or (for in, not in) by with_unfolding_all rfl -/
theorem pe_cmpR {op : CmpOp} {r : R2} (ho : OpR X (compareOp op) r) (ha : PE X a ta) (hb : PE X b tb) (hm : behindInMarks op b = false) : PE X (.Compare a [op] [b] pos) (tOp r ta tb) := by
  intro pins s σ H Q I h
  exact wpAny_Compare1 (binT ha hb I h fun v u s2 x y H2 I2 rx ry q => ho pins s2 σ H2 x y v u Q I2 rx ry q) hm
/-- a reading of a value as a test -/
def tTest (t : TE) : TT := fun σ H Q => t σ H fun x H' => ∃ k, x = .bl k ∧ Q k H'
theorem pt_cmpR {op : CmpOp} {r : R2} (ho : OpR X (compareOp op) r) (ha : PE X a ta) (hb : PE X b tb) (hm : behindInMarks op b = false) : PT X (.Compare a [op] [b] pos) (tTest (tOp r ta tb)) := by
  intro pins s σ H Q I h
  refine wpAny_isTrue_Compare1 (thn (ha pins s σ H _ I h) fun v s1 ⟨x, H1, I1, r1, q1⟩ => thn (hb pins s1 σ H1 _ I1 q1) fun u s2 ⟨y, H2, I2, r2, q2⟩ =>
    thn (ho pins s2 σ H2 x y v u _ I2 r1 r2 q2) fun c s3 ⟨z, H3, I3, r3, k, e, q3⟩ => ?_) hm
  subst e
  cases r3
  exact wpAny_truthy_bool ⟨H3, I3, q3⟩
/-- a op1 b op2 c -/
def tChain (r r' : R2) (ta tb tc : TE) : TE := fun σ H Q => ta σ H fun x H1 => tb σ H1 fun y H2 => r x y H2 fun z H3 => ∃ k, z = .bl k ∧
  (if k = true then tc σ H3 fun w' H4 => r' y w' H4 Q else Q (.bl false) H3)
theorem pe_chain {op op' : CmpOp} {r r' : R2} (ho : OpR X (compareOp op) r) (ho' : OpR X (compareOp op') r') (ha : PE X a ta) (hb : PE X b tb) (hc : PE X c tc)
    (hm : lastMarks [op, op'] [b, c] = false := by with_unfolding_all rfl) : PE X (.Compare a [op, op'] [b, c] pos) (tChain r r' ta tb tc) := by
  intro pins s σ H Q I h
  refine Compare_chain (thn (ha pins s σ H _ I h) fun v s1 ⟨x, H1, I1, r1, q1⟩ => chain_link (thn (hb pins s1 σ H1 _ I1 q1) fun u s2 ⟨y, H2, I2, r2, q2⟩ =>
    thn (ho pins s2 σ H2 x y v u _ I2 r1 r2 q2) fun d s3 ⟨z, H3, I3, r3, k, e, q3⟩ => ?_)) hm
  subst e
  cases r3
  refine wpAny_truthy_bool ?_
  cases k with
  | false => exact ite_ff ⟨.bl false, H3, I3, rfl, q3⟩
  | true => exact ite_tt (chain_last (thn (hc pins s3 σ H3 _ I3 q3) fun w' s4 ⟨z', H4, I4, r4, q4⟩ => ho' pins s4 σ H4 y z' u w' Q I4 r2 r4 q4))
theorem pt_chain {op op' : CmpOp} {r r' : R2} (ho : OpR X (compareOp op) r) (ho' : OpR X (compareOp op') r') (ha : PE X a ta) (hb : PE X b tb) (hc : PE X c tc)
    (hm : lastMarks [op, op'] [b, c] = false := by with_unfolding_all rfl) : PT X (.Compare a [op, op'] [b, c] pos) (tTest (tChain r r' ta tb tc)) := by
  intro pins s σ H Q I h
  refine isTrue_chain (thn (ha pins s σ H _ I h) fun v s1 ⟨x, H1, I1, r1, q1⟩ => test_link (thn (hb pins s1 σ H1 _ I1 q1) fun u s2 ⟨y, H2, I2, r2, q2⟩ =>
    thn (ho pins s2 σ H2 x y v u _ I2 r1 r2 q2) fun d s3 ⟨z, H3, I3, r3, k, e, q3⟩ => ?_)) hm
  subst e
  cases r3
  refine wpAny_truthy_bool ?_
  cases k with
  | false =>
    obtain ⟨k', e', q'⟩ := q3
    cases e'
    exact ite_ff ⟨H3, I3, q'⟩
  | true =>
    refine ite_tt (test_last (thn (hc pins s3 σ H3 _ I3 q3) fun w' s4 ⟨z', H4, I4, r4, q4⟩ => thn (ho' pins s4 σ H4 y z' u w' _ I4 r2 r4 q4) fun d' s5 ⟨z2, H5, I5, r5, k2, e2, q5⟩ => ?_))
    subst e2
    cases r5
    exact wpAny_truthy_bool ⟨H5, I5, q5⟩

/-! ### truth -/
/-- a value's truth by the abstract heap -/
def TruV (K : PySem.W.Frag) (x : V) (H : Hp) (k : Bool) : Prop :=
  match x with
  | .non => k = false
  | .bl b => k = b
  | .int i => k = (i != 0)
  | .str y => y.length ≤ sizeLine ∧ k = ((y.length : Int) != 0)
  | .byt y => y.size ≤ sizeLine ∧ k = ((y.size : Int) != 0)
  | .ref p => (∃ xs, SqL K H p xs ∧ k = !xs.isEmpty) ∨ (∃ xs, SqT K H p xs ∧ k = !xs.isEmpty) ∨ ∃ kvs, H p = some (.dK kvs) ∧ k = !kvs.isEmpty
  | _ => False
theorem isEmpty_kv {κ : Type} {kvs : List (κ × V)} {vs : List (κ × Value)} (r : KV kvs vs) : (!vs.isEmpty) = !kvs.isEmpty := by
  cases r <;> rfl
theorem isEmpty_of {xs : List V} {its : List Value} (r : Vals xs its) : (!its.toArray.isEmpty) = !xs.isEmpty := by
  cases r <;> simp
theorem line63 : (sizeLine : Nat) < 2 ^ 63 := by rw [sizeLine_eq]; decide
theorem tru_ok : TruR X (fun x H Q => ∃ k, TruV X.K x H k ∧ Q k H) := by
  intro pins s σ H x v Q I rx h
  obtain ⟨k, e, q⟩ := h
  have hl := line63
  have hs : sizeLine = 16777216 := sizeLine_eq
  cases x with
  | non =>
    cases rx
    have e' : k = false := e
    subst e'
    exact truthy_none ⟨H, I, q⟩
  | bl b =>
    cases rx
    have e' : k = b := e
    subst e'
    exact wpAny_truthy_bool ⟨H, I, q⟩
  | int i =>
    obtain ⟨t, rfl⟩ := rx
    have e' : k = (i != 0) := e
    subst e'
    exact PySem.P.truthy_int ⟨H, I, q⟩
  | str y =>
    obtain ⟨t, rfl⟩ := rx
    obtain ⟨hy, e'⟩ : y.length ≤ sizeLine ∧ k = ((y.length : Int) != 0) := e
    subst e'
    exact PySem.P.truthy_str (by omega) ⟨H, I.tok _, q⟩
  | byt y =>
    obtain ⟨t, rfl⟩ := rx
    obtain ⟨hy, e'⟩ : y.size ≤ sizeLine ∧ k = ((y.size : Int) != 0) := e
    subst e'
    exact PySem.W.truthy_bytes (by omega) ⟨H, I.tok _, q⟩
  | ref p =>
    cases rx
    have e' : (∃ xs, SqL X.K H p xs ∧ k = !xs.isEmpty) ∨ (∃ xs, SqT X.K H p xs ∧ k = !xs.isEmpty) ∨ ∃ kvs, H p = some (.dK kvs) ∧ k = !kvs.isEmpty := e
    rcases e' with ⟨xs, hx, e'⟩ | ⟨xs, hx, e'⟩ | ⟨kvs, hx, e'⟩
    · subst e'
      obtain ⟨its, r, pl, hz⟩ := I.list hx
      have hlen := r.length
      exact wpAny_truthy_list pl.isList (by simp only [List.size_toArray]; omega) ⟨H, I.tok _, by rw [isEmpty_of r]; exact q⟩
    · subst e'
      obtain ⟨its, r, pl, hz⟩ := I.tuple hx
      have hlen := r.length
      exact truthy_tuple pl (by simp only [List.size_toArray]; omega) ⟨H, I.tok _, by rw [isEmpty_of r]; exact q⟩
    · subst e'
      obtain ⟨hz, hS, vs, r, m⟩ : kvs.length ≤ sizeLine ∧ (p == sysModules) = false ∧ ∃ vs, KV kvs vs ∧ s.heap.DictOf (mixKind X.prog X.w) p vs := I.hok p _ hx
      have hlen : kvs.length = vs.length := Paired.length r
      exact wpAny_truthy_dict hS m (by omega) ⟨H, I.tok _, by rw [isEmpty_kv r]; exact q⟩
  | _ => exact (show False from e).elim
/-- any expression whose test is its value's truth (a name, a call, a subscript, a field ..: he by fun _ => rfl) -/
theorem pt_truth (ha : PE X a ta) (he : ∀ whole, isTrue a X.env whole = (do let v ← whole; standAt a.pos; holding [v] (truthy v))) :
    PT X a (fun σ H Q => ta σ H fun x H' => ∃ k, TruV X.K x H' k ∧ Q k H') := by
  intro pins s σ H Q I h
  exact isTrue_plain (thn (ha pins s σ H _ I h) fun v s1 ⟨x, H1, I1, r1, q1⟩ => tru_ok pins s1 σ H1 x v Q I1 r1 q1) (he _)

/-! ### strs and bytes -/
theorem pe_byt {x : List UInt8} {k : Nat} : PE X (.Constant (.bytes x) k pos) (fun _ H Q => Q (.byt x.toArray) H) := fun _ _ _ H _ I h => PySem.W.Constant_bytes ⟨.byt x.toArray, H, I.tok _, ⟨_, rfl⟩, h⟩
theorem op_add_str : OpR X (binaryOp .Add) (fun x y H Q => ∃ i j, x = .str i ∧ y = .str j ∧ i.length + j.length ≤ sizeLine ∧ Q (.str (i ++ j)) H) := by
  intro pins s σ H x y v u Q I rx ry h
  obtain ⟨i, j, rfl, rfl, hz, q⟩ := h
  obtain ⟨t, rfl⟩ := rx
  obtain ⟨t', rfl⟩ := ry
  exact add_str (fun t' tk => ⟨.str (i ++ j), H, I.tok _, ⟨_, rfl⟩, q⟩) hz
theorem iop_add_str : OpR X (inplaceOp .Add) (fun x y H Q => ∃ i j, x = .str i ∧ y = .str j ∧ i.length + j.length ≤ sizeLine ∧ Q (.str (i ++ j)) H) := by
  intro pins s σ H x y v u Q I rx ry h
  obtain ⟨i, j, rfl, rfl, hz, q⟩ := h
  obtain ⟨t, rfl⟩ := rx
  obtain ⟨t', rfl⟩ := ry
  exact iadd_str (fun t' tk => ⟨.str (i ++ j), H, I.tok _, ⟨_, rfl⟩, q⟩) hz
theorem op_add_byt : OpR X (binaryOp .Add) (fun x y H Q => ∃ i j, x = .byt i ∧ y = .byt j ∧ i.size + j.size ≤ 16777216 ∧ Q (.byt (i ++ j)) H) := by
  intro pins s σ H x y v u Q I rx ry h
  obtain ⟨i, j, rfl, rfl, hz, q⟩ := h
  obtain ⟨t, rfl⟩ := rx
  obtain ⟨t', rfl⟩ := ry
  exact PySem.W.KBy.add_bytes hz (fun t' tk => ⟨.byt (i ++ j), H, I.tok _, ⟨_, rfl⟩, q⟩)

def PlainIxT (b : Expr) : Prop := ∀ o i, subscripted b false o i = operate [o, i] (getItem o i)
/-- s[i], 0 ≤ i < len -/
theorem pe_item_str (ha : PE X a ta) (hb : PE X b tb) (hs : PlainIxT b) :
    PE X (.Subscript a b pos) (tOp (fun x y H Q => ∃ z i c, x = .str z ∧ y = .int i ∧ 0 ≤ i ∧ i < 2 ^ 63 ∧ i < z.length ∧ z.cps[i.toNat]? = some c ∧ Q (.str ⟨#[c]⟩) H) ta tb) := by
  intro pins s σ H Q I h
  refine Subscript_ (binT ha hb I h fun v u s2 x y H2 I2 rx ry q => ?_)
  obtain ⟨z, i, c, rfl, rfl, h0, h63, h1, hc, q⟩ := q
  obtain ⟨t, rfl⟩ := rx
  obtain ⟨t', rfl⟩ := ry
  have e : seqIndex? i z.length = some i.toNat := PySem.StrLaws.seqIndex_nonneg h0 h1
  exact tail_any (typeIs_str s2 z t) slot_str_getitem.lookup (getItem_str (c := c) (by
    have e1 : decide (i < -(2 ^ 63 : Int)) = false := decide_eq_false (by omega)
    have e2 : decide (i ≥ 2 ^ 63) = false := decide_eq_false (by omega)
    rw [e1, e2] <;> rfl) (by rw [e]; exact hc) ⟨.str ⟨#[c]⟩, H2, I2.tok _, ⟨_, rfl⟩, q⟩) (hs _ _)
/-- b[i], 0 ≤ i < len -/
theorem pe_item_byt (ha : PE X a ta) (hb : PE X b tb) (hs : PlainIxT b) :
    PE X (.Subscript a b pos) (tOp (fun x y H Q => ∃ (z : List UInt8) (i : Int), x = .byt z.toArray ∧ y = .int i ∧ z.length ≤ sizeLine ∧ 0 ≤ i ∧ i < z.length ∧ Q (.int ((z.getD i.toNat 0).toNat : Nat)) H) ta tb) := by
  intro pins s σ H Q I h
  refine Subscript_ (binT ha hb I h fun v u s2 x y H2 I2 rx ry q => ?_)
  obtain ⟨z, i, rfl, rfl, hz, h0, h1, q⟩ := q
  obtain ⟨t, rfl⟩ := rx
  obtain ⟨t', rfl⟩ := ry
  have hl : sizeLine = 16777216 := sizeLine_eq
  exact tail_any (PySem.W.typeIs_bytes s2 z.toArray t) PySem.W.FB.slot_bytes_getitem.lookup (PySem.W.getItem_bytes (by omega) h0 h1 ⟨.int ((z.getD i.toNat 0).toNat : Nat), H2, I2.tok _, ⟨_, rfl⟩, q⟩) (hs _ _)

/-! ### scalar builtins, by CallR -/
theorem vals1 {x : V} {us : List Value} (r : Vals [x] us) : ∃ u, us = [u] ∧ RelV x u := by
  cases r with
  | cons r1 r2 => cases r2; exact ⟨_, rfl, r1⟩
theorem vals2 {x y : V} {us : List Value} (r : Vals [x, y] us) : ∃ u w', us = [u, w'] ∧ RelV x u ∧ RelV y w' := by
  cases r with
  | cons r1 r2 =>
    cases r2 with
    | cons r3 r4 => cases r4; exact ⟨_, _, rfl, r1, r3⟩
theorem call_abs : CallR X (.builtin "abs") (fun xs H Q => ∃ i, xs = [.int i] ∧ Q (.int (if i < 0 then -i else i)) H) := by
  intro pins s σ H xs us Q I r h
  obtain ⟨i, rfl, q⟩ := h
  obtain ⟨u, rfl, t, rfl⟩ := vals1 r
  exact call_abs_int fun u tk => ⟨.int (if i < 0 then -i else i), H, I.tok _, ⟨_, rfl⟩, q⟩
theorem call_max2 (hc : X.calm = true) : CallR X (.builtin "max") (fun xs H Q => ∃ i j, xs = [.int i, .int j] ∧ Q (.int (if j > i then j else i)) H) := by
  intro pins s σ H xs us Q I r h
  obtain ⟨i, j, rfl, q⟩ := h
  obtain ⟨u, w', rfl, ⟨t, rfl⟩, ⟨t', rfl⟩⟩ := vals2 r
  refine max_two_ints (I.ok.hd hc) fun h' tk k => ⟨_, H, I.kept k, ?_, q⟩
  by_cases hj : j > i
  · rw [if_pos hj, if_pos hj]; exact ⟨_, rfl⟩
  · rw [if_neg hj, if_neg hj]; exact ⟨_, rfl⟩
theorem call_min2 (hc : X.calm = true) : CallR X (.builtin "min") (fun xs H Q => ∃ i j, xs = [.int i, .int j] ∧ Q (.int (if j < i then j else i)) H) := by
  intro pins s σ H xs us Q I r h
  obtain ⟨i, j, rfl, q⟩ := h
  obtain ⟨u, w', rfl, ⟨t, rfl⟩, ⟨t', rfl⟩⟩ := vals2 r
  refine min_two_ints (I.ok.hd hc) fun h' tk k => ⟨_, H, I.kept k, ?_, q⟩
  by_cases hj : j < i
  · rw [if_pos hj, if_pos hj]; exact ⟨_, rfl⟩
  · rw [if_neg hj, if_neg hj]; exact ⟨_, rfl⟩
theorem call_int1 : CallR X (.type "int") (fun xs H Q => (∃ i, xs = [.int i] ∧ Q (.int i) H) ∨ ∃ k, xs = [.bl k] ∧ Q (.int (if k then 1 else 0)) H) := by
  intro pins s σ H xs us Q I r h
  rcases h with ⟨i, rfl, q⟩ | ⟨k, rfl, q⟩
  · obtain ⟨u, rfl, t, rfl⟩ := vals1 r
    exact call_int_int ⟨.int i, H, I, ⟨_, rfl⟩, q⟩
  · obtain ⟨u, rfl, r1⟩ := vals1 r
    cases r1
    exact call_int_bool ⟨.int (if k then 1 else 0), H, I.tok _, ⟨_, rfl⟩, q⟩
theorem call_bool1 : CallR X (.type "bool") (fun xs H Q => (∃ i, xs = [.int i] ∧ Q (.bl (i != 0)) H) ∨ ∃ k, xs = [.bl k] ∧ Q (.bl k) H) := by
  intro pins s σ H xs us Q I r h
  rcases h with ⟨i, rfl, q⟩ | ⟨k, rfl, q⟩
  · obtain ⟨u, rfl, t, rfl⟩ := vals1 r
    exact call_bool_int ⟨.bl (i != 0), H, I, rfl, q⟩
  · obtain ⟨u, rfl, r1⟩ := vals1 r
    cases r1
    exact call_bool_bool ⟨.bl k, H, I, rfl, q⟩
theorem call_str_int : CallR X (.type "str") (fun xs H Q => ∃ i, xs = [.int i] ∧ i.natAbs.log2 < 1920 ∧ Q (.str (toString i)) H) := by
  intro pins s σ H xs us Q I r h
  obtain ⟨i, rfl, hz, q⟩ := h
  obtain ⟨u, rfl, t, rfl⟩ := vals1 r
  exact PySem.P.str_of_int hz ⟨.str _, H, I.tok _, ⟨_, rfl⟩, q⟩
theorem call_ord : CallR X (.builtin "ord") (fun xs H Q => ∃ x, xs = [.str x] ∧ x.length = 1 ∧ Q (.int (x.cps.getD 0 0 : Nat)) H) := by
  intro pins s σ H xs us Q I r h
  obtain ⟨x, rfl, hz, q⟩ := h
  obtain ⟨u, rfl, t, rfl⟩ := vals1 r
  exact ord_of_one hz ⟨.int _, H, I.tok _, ⟨_, rfl⟩, q⟩
theorem call_chr : CallR X (.builtin "chr") (fun xs H Q => ∃ i, xs = [.int i] ∧ 0 ≤ i ∧ i ≤ 1114111 ∧ Q (.str ⟨#[i.toNat]⟩) H) := by
  intro pins s σ H xs us Q I r h
  obtain ⟨i, rfl, h0, h1, q⟩ := h
  obtain ⟨u, rfl, t, rfl⟩ := vals1 r
  exact chr_of_range h0 h1 ⟨.str _, H, I.tok _, ⟨_, rfl⟩, q⟩
/-- len of a str, a bytes, a list, a tuple -/
def LenV (K : PySem.W.Frag) (x : V) (H : Hp) (n : Nat) : Prop :=
  match x with
  | .str y => y.length ≤ sizeLine ∧ n = y.length
  | .byt y => y.size ≤ sizeLine ∧ n = y.size
  | .ref p => (∃ xs, SqL K H p xs ∧ n = xs.length) ∨ ∃ xs, SqT K H p xs ∧ n = xs.length
  | _ => False
theorem call_len : CallR X (.builtin "len") (fun xs H Q => ∃ x n, xs = [x] ∧ LenV X.K x H n ∧ Q (.int n) H) := by
  intro pins s σ H xs us Q I r h
  obtain ⟨x, n, rfl, e, q⟩ := h
  obtain ⟨u, rfl, rx⟩ := vals1 r
  have hl := line63
  have hs : sizeLine = 16777216 := sizeLine_eq
  cases x with
  | str y =>
    obtain ⟨t, rfl⟩ := rx
    obtain ⟨hy, e'⟩ : y.length ≤ sizeLine ∧ n = y.length := e
    subst e'
    exact len_str (by omega) ⟨.int _, H, I.tok _, ⟨_, rfl⟩, q⟩
  | byt y =>
    obtain ⟨t, rfl⟩ := rx
    obtain ⟨hy, e'⟩ : y.size ≤ sizeLine ∧ n = y.size := e
    subst e'
    exact PySem.W.len_bytes (by omega) ⟨.int _, H, I.tok _, ⟨_, rfl⟩, q⟩
  | ref p =>
    cases rx
    have e' : (∃ xs, SqL X.K H p xs ∧ n = xs.length) ∨ ∃ xs, SqT X.K H p xs ∧ n = xs.length := e
    rcases e' with ⟨xs, hx, e'⟩ | ⟨xs, hx, e'⟩
    · subst e'
      obtain ⟨its, r', pl, hz⟩ := I.list hx
      have hlen := r'.length
      exact Calls.call_len_list pl.isList (by simp only [List.size_toArray]; omega) ⟨.int xs.length, H, I.tok _, ⟨_, by simp only [List.size_toArray]; rw [hlen]⟩, q⟩
    · subst e'
      obtain ⟨its, r', pl, hz⟩ := I.tuple hx
      have hlen := r'.length
      exact len_tuple pl (by simp only [List.size_toArray]; omega) ⟨.int xs.length, H, I.tok _, ⟨_, by simp only [List.size_toArray]; rw [hlen]⟩, q⟩
  | _ => exact (show False from e).elim
/-- divmod: a new tuple -/
theorem call_divmod : CallR X (.builtin "divmod") (fun xs H Q => ∃ i j, xs = [.int i, .int j] ∧ CDiv i j ∧ ∀ p, H p = none → Q (.ref p) (upd H p (.tup [.int (i / j), .int (i % j)]))) := by
  intro pins s σ H xs us Q I r h
  obtain ⟨i, j, rfl, ⟨h1, h2⟩, q⟩ := h
  obtain ⟨u, w', rfl, ⟨t, rfl⟩, ⟨t', rfl⟩⟩ := vals2 r
  refine divmod_int (by omega) ?_ (.inl (PyProof.noPylong_small (by omega)))
  rw [Int.fdiv_eq_ediv_of_nonneg i (by omega), Int.fmod_eq_emod_of_nonneg i (by omega)]
  have hn : H s.heap.objs.size = none := I.hok.fresh (Nat.le_refl _)
  refine ⟨.ref s.heap.objs.size, _, ?_, rfl, q _ hn⟩
  refine I.laid (fun b o e => Heap.get?_push_of_some _ e) (Nat.le_refl _) ⟨by simp only [List.length_cons, List.length_nil]; rw [sizeLine_eq]; decide, [.int (i / j) s.toks, .int (i % j) (s.toks + 1)], .cons ⟨_, rfl⟩ (.cons ⟨_, rfl⟩ .nil), ?_⟩
  exact ⟨_, Heap.get?_push_size s.heap rfl, rfl, 0, rfl⟩
end
end L2

namespace L2
open PySem PySem.Spec PyProof.Rows

/-! ### an instance, its attributes a map -/
structure ObjM (h : Heap) (x dx C : Addr) (mA : Str → Option Value) : Prop where
  obj : h.get? x = some (PySem.W.instObj C dx)
  ns : h.Ns1 dx mA
  ne : dx ≠ x

theorem lookIn_ns {h : Heap} {dx : Addr} {mA : Str → Option Value} (n : h.Ns1 dx mA) : ∃ od, h.get? dx = some od ∧ ∀ name, PySem.W.lookIn name od = some (mA name) := by
  obtain ⟨o, es, ep, ho, hd, hk, _, hm⟩ := n
  refine ⟨o, ho, fun name => ?_⟩
  have e := hm name
  unfold nsFind findBy at e
  rw [← Array.find?_toList] at e
  unfold PySem.W.lookIn
  rw [hd]
  dsimp only
  split
  · rename_i y q
    rw [q] at e
    exact congrArg some e
  · rename_i q
    rw [q] at e
    have a : es.toList.any (·.refKey) = false := by
      rw [List.any_eq_false]
      intro y hy
      obtain ⟨z, t, hkey⟩ := hk y (Array.mem_toList_iff.mp hy)
      simp [DictEntry.refKey, hkey]
    have a' : ¬ es.toList.any (·.refKey) = true := by rw [a]; exact Bool.false_ne_true
    rw [if_neg a']
    exact congrArg some e

theorem ObjM.look {h : Heap} {x dx C : Addr} {mA : Str → Option Value} (I : ObjM h x dx C mA) : ∃ od, PySem.W.InstAt h x (PySem.W.instObj C dx) C (some od) ∧ ∀ name, PySem.W.lookIn name od = some (mA name) :=
  let ⟨od, ho, hl⟩ := lookIn_ns I.ns
  ⟨od, ⟨I.obj, rfl, rfl, ho⟩, hl⟩

section
variable {prog : Program} {w : World} {A : Around} {E : Value → Shared → Prop} {s : Shared} {K : PySem.W.Frag} {x dx C f : Addr} {mA : Str → Option Value} {name : Str} {v : Value}

theorem get_map {expr : Bool} {Q : Value → Shared → Prop} (X : K.In s.heap) (I : ObjM s.heap x dx C mA) (hg : PySem.W.plainGet K C name = true) (hh : PySem.W.hasDictIn K C = true)
    (ha : PySem.W.findIn K (.ref C) name = some none) (hv : mA name = some v) (hv' : PySem.W.handedIn v = true) (h : Q v { s with toks := s.toks + 1 }) :
    wpAny (model prog w) A (getAttr (.ref x) name expr) Q E s := by
  obtain ⟨od, J, hl⟩ := I.look
  exact PySem.W.get_value X J (PySem.W.plainGet_of hg).1 (PySem.W.findObj_own hh ha rfl (by rw [hl, hv])) hv' h

theorem get_const {expr : Bool} {a : Value} {Q : Value → Shared → Prop} (X : K.In s.heap) (I : ObjM s.heap x dx C mA) (hg : PySem.W.plainGet K C name = true) (hh : PySem.W.hasDictIn K C = true)
    (ha : PySem.W.findIn K (.ref C) name = some (some a)) (hn : PySem.W.specialIn K a "__get__" = some none) (hc : PySem.W.copiedNames.contains name = false) (hv : mA name = none) (hv' : PySem.W.handedIn a = true)
    (h : Q a { s with toks := s.toks + 1 }) : wpAny (model prog w) A (getAttr (.ref x) name expr) Q E s := by
  obtain ⟨od, J, hl⟩ := I.look
  exact PySem.W.get_value X J (PySem.W.plainGet_of hg).1 (PySem.W.findObj_cls hh ha hn hv' hc (by rw [hl, hv])) hv' h

theorem get_meth {pl : Sem Bool} {Q : Value × List Value → Shared → Prop} (X : K.In s.heap) (I : ObjM s.heap x dx C mA) (hg : PySem.W.plainGet K C name = true)
    (hf : PySem.W.findIn K (.ref C) name = some (some (.ref f))) (ht : PySem.W.isFn K (.ref f) = true) (hv : mA name = none) (h : Q (.ref f, [.ref x]) s) :
    wpAny (model prog w) A (getMethod (.ref x) name pl) Q E s := by
  obtain ⟨od, J, hl⟩ := I.look
  exact PySem.W.method_fn X J (PySem.W.plainGet_of hg).1 (PySem.W.plainGet_of hg).2 hf (beq_iff_eq.mp ht) (by show (PySem.W.lookIn name od).map (·.isSome) = some false; rw [hl, hv]; rfl) h

theorem set_map {ns : List Str} {Q : Unit → Shared → Prop} (X : K.In s.heap) (I : ObjM s.heap x dx C mA)
    (hs : PySem.W.findIn K (.ref C) "__setattr__" = some (some (.builtin "object.__setattr__"))) (hp : PySem.W.plainOver K C = true) (ht : PySem.W.takerIn K C name = some none) (hh : PySem.W.hasDictIn K C = true)
    (hw : PySem.Within mA ns) (hsz : ns.length ≤ sizeLine)
    (h : ∀ h', ObjM h' x dx C (fun y => if y = name then some v else mA y) → Heap.SameBut dx s.heap h' → Q () { s with heap := h', toks := s.toks + 2 }) :
    wpAny (model prog w) A (setAttr (.ref x) name v) Q E s := by
  obtain ⟨od, J, hl⟩ := I.look
  refine PySem.W.set_plain X J hs (PySem.W.osa_open (s := { s with toks := s.toks + 1 }) (r := none) X J hp ht fun b => ?_)
  obtain ⟨cd, hc, hd'⟩ := PySem.W.any_some hh
  have hx : s.heap.get? x = some ⟨.ref C, some dx, .plain, #[]⟩ := I.obj
  refine wpAny_bind (wpAny_pure (wpAny_bind (wpAny_bind (wpAny_loadPart hx (wpAny_bind (PySem.W.Looks.here (s := { s with toks := s.toks + 1 }) (PySem.W.looks_clsIn X hc) ?_))))))
  rw [hd']
  refine wpAny_pure (a := some dx) (wpAny_bind (wpAny_pure (wpAny_bind ?_)))
  refine wpAny_nsSet1 (s := { s with toks := s.toks + 1 }) I.ns fun h' hn2 hs2 => ?_
  obtain ⟨oD, esD, epD, hoD, hdD, hcD⟩ := hn2.count (PySem.Within.cons name v hw)
  refine wpAny_bind (wpAny_lookBehind hoD (by rw [hdD]; exact pastItsLine_dict (Nat.le_trans hcD (by rw [List.length_cons]; omega))) ?_)
  exact wpAny_pure (h _ ⟨(hs2.2 _ (Ne.symm I.ne)).trans I.obj, hn2, I.ne⟩ hs2)

/-- C(..): the dict at the heap's end, the instance behind it; then its __init__ -/
theorem make_map {R : Result → Shared → Prop} {vs : List Value} {kw : List (Str × Value)} (X : K.In s.heap) (hm : PySem.W.makesIn K C = true)
    (hi : PySem.W.findIn K (.ref C) "__init__" = some (some (.ref f))) (hf : PySem.W.typeIn K (.ref f) = some (.type "function"))
    (h : codeAny (model prog w) (A.under (.builtin "type.__call__" ⟨.ref C :: vs, kw⟩)) (.call (.ref f) ⟨.ref (s.heap.objs.size + 1) :: vs, kw⟩) (PySem.W.InitBack (s.heap.objs.size + 1) R)
      { s with heap := (s.heap.push PySem.W.emptyDict).push (PySem.W.instObj C s.heap.objs.size) }) :
    codeAny (model prog w) A (.call (.ref C) ⟨vs, kw⟩) R s := by
  obtain ⟨hh, g, d, t, os⟩ := s
  exact PySem.W.make_core (PySem.W.makes_of X hm) (PySem.W.looks_findIn X hi) (fun self => PySem.W.bind_fn X self hf) (.inl rfl) h
/-- C() where there is no __init__ but object's -/
theorem make_map0 {R : Result → Shared → Prop} (X : K.In s.heap) (hm : PySem.W.makesIn K C = true)
    (hi : PySem.W.findIn K (.ref C) "__init__" = some (some (.builtin "object.__init__")))
    (hb : ∀ self, PySem.W.Looks (model prog w) s.heap (bindSpecial (.builtin "object.__init__") self) (.builtin "object.__init__", [self]))
    (h : codeAny (model prog w) (A.under (.builtin "type.__call__" ⟨[.ref C], []⟩)) (.call (.builtin "object.__init__") ⟨[.ref (s.heap.objs.size + 1)], []⟩) (PySem.W.InitBack (s.heap.objs.size + 1) R)
      { s with heap := (s.heap.push PySem.W.emptyDict).push (PySem.W.instObj C s.heap.objs.size) }) :
    codeAny (model prog w) A (.call (.ref C) ⟨[], []⟩) R s := by
  obtain ⟨hh, g, d, t, os⟩ := s
  exact PySem.W.make_core (PySem.W.makes_of X hm) (PySem.W.looks_findIn X hi) hb (.inr ⟨rfl, rfl⟩) h
end

/-! ### the attributes as a list of pairs -/
def putF (f : Str) (v : V) : List (Str × V) → List (Str × V)
  | [] => [(f, v)]
  | (g, x) :: r => if g = f then (g, v) :: r else (g, x) :: putF f v r
theorem lookup_putF (f g : Str) (v : V) : ∀ fs : List (Str × V), (putF f v fs).lookup g = if g = f then some v else fs.lookup g
  | [] => by
    show List.lookup g [(f, v)] = _
    by_cases h : g = f
    · have hb : (g == f) = true := beq_iff_eq.mpr h
      simp only [List.lookup, hb, if_pos h]
    · have hb : (g == f) = false := beq_eq_false_iff_ne.mpr h
      simp only [List.lookup, hb, if_neg h]
  | (k, x) :: r => by
    have ih := lookup_putF f g v r
    rw [show putF f v ((k, x) :: r) = (if k = f then (k, v) :: r else (k, x) :: putF f v r) from rfl]
    by_cases hk : k = f
    · rw [if_pos hk]
      by_cases h : g = k
      · have hb : (g == k) = true := beq_iff_eq.mpr h
        simp only [List.lookup, hb, if_pos (h.trans hk)]
      · have hb : (g == k) = false := beq_eq_false_iff_ne.mpr h
        simp only [List.lookup, hb, if_neg (fun e : g = f => h (e.trans hk.symm))]
    · rw [if_neg hk]
      by_cases h : g = k
      · have hb : (g == k) = true := beq_iff_eq.mpr h
        simp only [List.lookup, hb, if_neg (fun e : g = f => hk (h.symm.trans e))]
      · have hb : (g == k) = false := beq_eq_false_iff_ne.mpr h
        simp only [List.lookup, hb]
        exact ih
theorem keys_putF (f : Str) (v : V) : ∀ fs : List (Str × V), f ∈ (putF f v fs).map (·.1) ∧ ∀ g, g ∈ fs.map (·.1) → g ∈ (putF f v fs).map (·.1)
  | [] => ⟨by simp [putF], fun g h => by simp at h⟩
  | (k, x) :: r => by
    obtain ⟨i1, i2⟩ := keys_putF f v r
    rw [show putF f v ((k, x) :: r) = (if k = f then (k, v) :: r else (k, x) :: putF f v r) from rfl]
    by_cases hk : k = f
    · rw [if_pos hk]
      subst hk
      exact ⟨by simp, fun g h => by simpa using h⟩
    · rw [if_neg hk]
      refine ⟨?_, fun g h => ?_⟩
      · rw [List.map_cons]
        exact List.mem_cons_of_mem _ i1
      · rw [List.map_cons] at h ⊢
        rcases List.mem_cons.mp h with e | e
        · exact List.mem_cons.mpr (.inl e)
        · exact List.mem_cons_of_mem _ (i2 g e)
theorem length_putF (f : Str) (v : V) : ∀ fs : List (Str × V), (putF f v fs).length ≤ fs.length + 1
  | [] => by simp [putF]
  | (k, x) :: r => by
    have ih := length_putF f v r
    rw [show putF f v ((k, x) :: r) = (if k = f then (k, v) :: r else (k, x) :: putF f v r) from rfl]
    by_cases hk : k = f
    · rw [if_pos hk, List.length_cons, List.length_cons]; omega
    · rw [if_neg hk, List.length_cons, List.length_cons]; omega

theorem RelO.some_of {v : V} {o : Option Value} (r : RelO (some v) o) : ∃ u, o = some u ∧ RelV v u := by
  cases o with
  | none => exact (show False from r).elim
  | some u => exact ⟨u, rfl, r⟩
theorem RelO.none_of {o : Option Value} (r : RelO none o) : o = none := by
  cases o with
  | none => rfl
  | some u => exact (show False from r).elim
theorem handed_of {v : V} {u : Value} (r : RelV v u) : PySem.W.handedIn u = true := by
  cases v with
  | non => cases (show u = Value.none from r); rfl
  | bl b => cases (show u = Value.bool b from r); rfl
  | int i => obtain ⟨t, e⟩ := (show ∃ t, u = Value.int i t from r); cases e; rfl
  | str x => obtain ⟨t, e⟩ := (show ∃ t, u = Value.str x t from r); cases e; rfl
  | byt b => obtain ⟨t, e⟩ := (show ∃ t, u = Value.bytes b t from r); cases e; rfl
  | flt b => obtain ⟨t, e⟩ := (show ∃ t, u = Value.float b t from r); cases e; rfl
  | ref a => cases (show u = Value.ref a from r); rfl
  | ty n => cases (show u = Value.type n from r); rfl

section
variable {P : Program} {w : World} {H H' : Hp} {h h' : Heap} {a C dx : Addr} {fs fs' : List (Str × V)}
theorem ins_get (hok : HOk P w H h) (e : H a = some (.ins C dx fs)) : ∃ mA, ObjM h a dx C mA ∧ (∀ f, RelO (fs.lookup f) (mA f)) ∧ PySem.Within mA (fs.map (·.1)) ∧ fs.length ≤ 1000 ∧ H dx = some (.own a) := by
  obtain ⟨d, z, ne, ob, mA, n, r, q⟩ := (show ObjOk P w H h a (.ins C dx fs) from hok a _ e)
  exact ⟨mA, ⟨ob, n, ne⟩, r, q, z, d⟩
end

/-! ### what of the text a class must have -/
structure Cls (K : PySem.W.Frag) (C : Addr) : Prop where
  pg : PySem.W.plainGet K C Str.empty = true
  hd : PySem.W.hasDictIn K C = true
  po : PySem.W.plainOver K C = true
  sa : PySem.W.findIn K (.ref C) "__setattr__" = some (some (.builtin "object.__setattr__"))
theorem Cls.get {K : PySem.W.Frag} {C : Addr} (c : Cls K C) (f : Str) : PySem.W.plainGet K C f = true := c.pg
/-- no class of it has the name -/
def NoAttr (K : PySem.W.Frag) (C : Addr) (f : Str) : Prop := PySem.W.findIn K (.ref C) f = some none
theorem NoAttr.taker {K : PySem.W.Frag} {C : Addr} {f : Str} (n : NoAttr K C f) : PySem.W.takerIn K C f = some none := by
  unfold PySem.W.takerIn
  rw [show PySem.W.findIn K (.ref C) f = some none from n]
  rfl
/-- a constant of the class -/
structure Con (K : PySem.W.Frag) (C : Addr) (f : Str) (v : V) (u : Value) : Prop where
  at_ : PySem.W.findIn K (.ref C) f = some (some u)
  rel : RelV v u
  get : PySem.W.specialIn K u "__get__" = some none
  cp : PySem.W.copiedNames.contains f = false
/-- a method: a plain def of the class or of one above it -/
structure Meth (K : PySem.W.Frag) (C : Addr) (m : Str) (f : Addr) : Prop where
  at_ : PySem.W.findIn K (.ref C) m = some (some (.ref f))
  fn : PySem.W.isFn K (.ref f) = true
  kp : PySem.W.keepIn K (.ref f) = true

section
variable {X : Cx} {pins : List (Addr × Obj)} {σ : St} {H : Hp} {s : Shared} {a C dx : Addr} {fs : List (Str × V)} {f : Str} {v : V} {A : Around} {E : Value → Shared → Prop}

theorem getattr_ok {b : Bool} {Q : Value → Shared → Prop} (I : Inv X pins σ H s) (e : H a = some (.ins C dx fs)) (c : Cls X.K C) (n : NoAttr X.K C f) (l : fs.lookup f = some v)
    (h : ∀ u s', Inv X pins σ H s' → RelV v u → Q u s') : wpAny (model X.prog X.w) A (getAttr (.ref a) f b) Q E s := by
  obtain ⟨mA, O, r, _, _, _⟩ := ins_get I.hok e
  obtain ⟨u, hu, ru⟩ := RelO.some_of (v := v) (o := mA f) (by rw [← l]; exact r f)
  exact get_map I.kIn O (c.get f) c.hd n hu (handed_of ru) (h u _ (I.tok _) ru)

theorem getcon_ok {b : Bool} {u : Value} {Q : Value → Shared → Prop} (I : Inv X pins σ H s) (e : H a = some (.ins C dx fs)) (c : Cls X.K C) (k : Con X.K C f v u) (l : fs.lookup f = none)
    (h : ∀ s', Inv X pins σ H s' → Q u s') : wpAny (model X.prog X.w) A (getAttr (.ref a) f b) Q E s := by
  obtain ⟨mA, O, r, _, _, _⟩ := ins_get I.hok e
  have hn : mA f = none := RelO.none_of (by rw [← l]; exact r f)
  exact get_const I.kIn O (c.get f) c.hd k.at_ k.get k.cp hn (handed_of k.rel) (h _ (I.tok _))

theorem getmeth_ok {m : Str} {g : Addr} {pl : Sem Bool} {Q : Value × List Value → Shared → Prop} (I : Inv X pins σ H s) (e : H a = some (.ins C dx fs)) (c : Cls X.K C) (k : Meth X.K C m g) (l : fs.lookup m = none)
    (h : Q (.ref g, [.ref a]) s) : wpAny (model X.prog X.w) A (getMethod (.ref a) m pl) Q E s := by
  obtain ⟨mA, O, r, _, _, _⟩ := ins_get I.hok e
  have hn : mA m = none := RelO.none_of (by rw [← l]; exact r m)
  exact get_meth I.kIn O (c.get m) k.at_ k.fn hn h

theorem setattr_ok {y : V} {u : Value} {Q : Unit → Shared → Prop} (I : Inv X pins σ H s) (e : H a = some (.ins C dx fs)) (c : Cls X.K C) (n : NoAttr X.K C f) (hl : fs.length < 1000) (ry : RelV y u)
    (h : ∀ s', Inv X pins σ (upd H a (.ins C dx (putF f y fs))) s' → Q () s') : wpAny (model X.prog X.w) A (setAttr (.ref a) f u) Q E s := by
  obtain ⟨mA, O, r, wi, _, ho⟩ := ins_get I.hok e
  have hz : (fs.map (·.1)).length ≤ sizeLine := by rw [List.length_map, sizeLine_eq]; omega
  refine set_map I.kIn O c.sa c.po n.taker c.hd wi hz fun h' O' sb => h _ ?_
  have hd : ∃ o, h'.get? dx = some o := let ⟨o, _, _, e', _⟩ := O'.ns; ⟨o, e'⟩
  refine I.write (x := a) (e := dx) (by rw [e]; exact True.intro) (.inr ho) (fun b q hb z => (sb.2 b hb).trans z) hd ?_
  refine ⟨by rw [upd_ne O.ne]; exact ho, ?_, O.ne, O'.obj, _, O'.ns, fun g => ?_, fun g hg => ?_⟩
  · have := length_putF f y fs; omega
  · show RelO ((putF f y fs).lookup g) (if g = f then some u else mA g)
    rw [lookup_putF]
    by_cases q : g = f
    · rw [if_pos q, if_pos q]; exact ry
    · rw [if_neg q, if_neg q]; exact r g
  · by_cases q : g = f
    · rw [q]; exact (keys_putF f y fs).1
    · refine (keys_putF f y fs).2 g (wi g fun z => hg ?_)
      show (if g = f then some u else mA g) = none
      rw [if_neg q]; exact z

/-- a new instance, tracked, without attributes -/
theorem Inv.made (I : Inv X pins σ H s) : Inv X pins σ (upd (upd H s.heap.objs.size (.own (s.heap.objs.size + 1))) (s.heap.objs.size + 1) (.ins C s.heap.objs.size []))
    { s with heap := (s.heap.push PySem.W.emptyDict).push (PySem.W.instObj C s.heap.objs.size) } := by
  have e1 : (s.heap.push PySem.W.emptyDict).get? s.heap.objs.size = some PySem.W.emptyDict := Heap.get?_push_size s.heap rfl
  have e2 : ((s.heap.push PySem.W.emptyDict).push (PySem.W.instObj C s.heap.objs.size)).get? (s.heap.objs.size + 1) = some (PySem.W.instObj C s.heap.objs.size) := by
    have := Heap.get?_push_size (s.heap.push PySem.W.emptyDict) (o := PySem.W.instObj C s.heap.objs.size) rfl
    rwa [Heap.size_push] at this
  have e3 : (s.heap.push PySem.W.emptyDict).Ns s.heap.objs.size (fun _ => none) := ⟨PySem.W.emptyDict, #[], _, e1, rfl, (fun e he => absurd he (by simp)), fun _ => rfl⟩
  have I1 := I.laid (a := s.heap.objs.size) (o := .own (s.heap.objs.size + 1)) (h' := s.heap.push PySem.W.emptyDict) (t' := s.toks) (fun b u q => Heap.get?_push_of_some _ q) (Nat.le_refl _) ⟨_, e1⟩
  refine I1.laid (a := s.heap.objs.size + 1) (o := .ins C s.heap.objs.size []) (t' := s.toks) (fun b u q => Heap.get?_push_of_some _ q) (Nat.le_of_eq (Heap.size_push _ _)) ?_
  have ne : s.heap.objs.size ≠ s.heap.objs.size + 1 := Nat.ne_of_lt (Nat.lt_succ_self _)
  refine ⟨by rw [upd_ne ne, upd_same], Nat.zero_le _, ne, e2, fun _ => none, (Heap.Ns1.of_empty e3).at fun o q => Heap.get?_push_of_some _ q, fun _ => True.intro, fun y hy => absurd rfl hy⟩

/-- e.f where nothing but the object is asked: through attributeBase (super) and the last hold -/
theorem attr_of {prog : Program} {w : World} {env : Env} {e : Expr} {f : Str} {pos : Pos} {s : Shared} {Q : Value → Shared → Prop} (hb : attributeBase e f env (eval e env) = eval e env)
    (h : wpAny (model prog w) A (eval e env) (fun o s₁ => wpAny (model prog w) A (getAttr o f true) Q E s₁) E s) : wpAny (model prog w) A (eval (.Attribute e f pos) env) Q E s :=
  Attribute_any_ h (by rw [arm_eval_Attribute, hb])
end

/-! ### readings and rules -/
/-- e.f, an attribute of the instance -/
def tFld (K : PySem.W.Frag) (ta : TE) (f : Str) : TE := fun σ H Q => ta σ H fun x H1 => ∃ a C dx fs v, x = .ref a ∧ H1 a = some (.ins C dx fs) ∧ Cls K C ∧ NoAttr K C f ∧ fs.lookup f = some v ∧ Q v H1
/-- e.f, a constant of the class -/
def tCon (K : PySem.W.Frag) (ta : TE) (f : Str) : TE := fun σ H Q => ta σ H fun x H1 => ∃ a C dx fs v u, x = .ref a ∧ H1 a = some (.ins C dx fs) ∧ Cls K C ∧ Con K C f v u ∧ fs.lookup f = none ∧ Q v H1
/-- e.f = value -/
def sFld (K : PySem.W.Frag) (ta tv : TE) (f : Str) : TS := fun D σ H => tv σ H fun y H1 => ta σ H1 fun x H2 => ∃ a C dx fs, x = .ref a ∧ H2 a = some (.ins C dx fs) ∧ Cls K C ∧ NoAttr K C f ∧ fs.length < 1000 ∧
  D.nx σ (upd H2 a (.ins C dx (putF f y fs)))
/-- an augmented operator on two values -/
def InOp (X : Cx) (op : Operator) (rd : V → V → Hp → VK → Prop) : Prop :=
  ∀ (pins : List (Addr × Obj)) (s : Shared) (σ : St) (H : Hp) (x y : V) (u v : Value) (Q : VK), Inv X pins σ H s → RelV x u → RelV y v → rd x y H Q → wpAny (model X.prog X.w) X.A (inplaceOp op u v) (EP X pins σ Q) X.xe s
/-- e.f op= value -/
def sFldAug (K : PySem.W.Frag) (ta tv : TE) (rd : V → V → Hp → VK → Prop) (f : Str) : TS := fun D σ H => ta σ H fun x H1 => ∃ a C dx fs v, x = .ref a ∧ H1 a = some (.ins C dx fs) ∧ Cls K C ∧ NoAttr K C f ∧ fs.lookup f = some v ∧
  tv σ H1 fun y H2 => rd v y H2 fun z H3 => ∃ dx' fs', H3 a = some (.ins C dx' fs') ∧ fs'.length < 1000 ∧ D.nx σ (upd H3 a (.ins C dx' (putF f z fs')))

section
variable {X : Cx} {o e value : Expr} {f : Str} {pos pos' tpos : Pos} {ta tv : TE}
theorem pe_fld (he : PE X e ta) (hb : attributeBase e f X.env (eval e X.env) = eval e X.env) : PE X (.Attribute e f pos) (tFld X.K ta f) := by
  intro pins s σ H Q I h
  refine attr_of hb (thn (he pins s σ H _ I h) fun u s1 ⟨x, H1, I1, rx, a, C, dx, fs, v, ex, ea, c, n, l, q⟩ => ?_)
  subst ex
  obtain rfl : u = Value.ref a := rx
  exact getattr_ok I1 ea c n l fun u' s2 I2 ru => ⟨v, H1, I2, ru, q⟩
theorem pe_con (he : PE X e ta) (hb : attributeBase e f X.env (eval e X.env) = eval e X.env) : PE X (.Attribute e f pos) (tCon X.K ta f) := by
  intro pins s σ H Q I h
  refine attr_of hb (thn (he pins s σ H _ I h) fun u s1 ⟨x, H1, I1, rx, a, C, dx, fs, v, u0, ex, ea, c, k, l, q⟩ => ?_)
  subst ex
  obtain rfl : u = Value.ref a := rx
  exact getcon_ok I1 ea c k l fun s2 I2 => ⟨v, H1, I2, k.rel, q⟩
theorem ps_fld (ha : PE X o ta) (hv : PE X value tv) (hs : swapsWith value (some (.Attribute o f pos')) pos.line X.env = pure false) : PS X (.Assign [.Attribute o f pos'] value pos) (sFld X.K ta tv f) := by
  intro pins s σ H D I h
  refine plainObj_wpAny_Assign_Attribute (thn (hv pins s σ H _ I h) fun u s1 ⟨y, H1, I1, ry, q⟩ => thn (ha pins s1 σ H1 _ I1 q) fun ov s2 ⟨x, H2, I2, rx, a, C, dx, fs, ex, ea, c, n, l, q2⟩ => ?_) hs
  subst ex
  obtain rfl : ov = Value.ref a := rx
  exact setattr_ok I2 ea c n l ry fun s3 I3 => ⟨σ, _, I3, q2⟩
theorem ps_fldaug {op : Operator} {rd : V → V → Hp → VK → Prop} (ha : PE X o ta) (hv : PE X value tv) (hop : InOp X op rd) : PS X (.AugAssign (.Attribute o f tpos) op value pos) (sFldAug X.K ta tv rd f) := by
  intro pins s σ H D I h
  refine wpAny_AugAssign_AttributeAny (thn (ha pins s σ H _ I h) fun ov s1 ⟨x, H1, I1, rx, a, C, dx, fs, v, ex, ea, c, n, l, q⟩ => ?_)
  subst ex
  obtain rfl : ov = Value.ref a := rx
  refine getattr_ok I1 ea c n l fun u s2 I2 ru => thn (hv pins s2 σ H1 _ I2 q) fun w3 s3 ⟨y, H2, I3, ry, q3⟩ => thn (hop pins s3 σ H2 v y u w3 _ I3 ru ry q3) fun w4 s4 ⟨z, H3, I4, rz, dx', fs', ea', l', q4⟩ => ?_
  exact setattr_ok I4 ea' c n l' rz fun s5 I5 => ⟨σ, _, I5, q4⟩
def rAdd : V → V → Hp → VK → Prop := fun x y H Q => ∃ i j, x = .int i ∧ y = .int j ∧ Q (.int (i + j)) H
def rSub : V → V → Hp → VK → Prop := fun x y H Q => ∃ i j, x = .int i ∧ y = .int j ∧ Q (.int (i - j)) H
theorem in_add : InOp X .Add rAdd := by
  rintro pins s σ H x y u v Q I rx ry ⟨i, j, rfl, rfl, q⟩
  obtain ⟨t, rfl⟩ := (show ∃ t, u = Value.int i t from rx)
  obtain ⟨t', rfl⟩ := (show ∃ t', v = Value.int j t' from ry)
  exact PyProof.Rows.iadd_int ⟨.int (i + j), H, I.tok _, ⟨_, rfl⟩, q⟩
theorem in_sub : InOp X .Sub rSub := by
  rintro pins s σ H x y u v Q I rx ry ⟨i, j, rfl, rfl, q⟩
  obtain ⟨t, rfl⟩ := (show ∃ t, u = Value.int i t from rx)
  obtain ⟨t', rfl⟩ := (show ∃ t', v = Value.int j t' from ry)
  exact PyProof.Rows.isub_int ⟨.int (i - j), H, I.tok _, ⟨_, rfl⟩, q⟩

/-- what is between an instance and its method: the tree of a method call -/
theorem methcall_of {pl : Sem Bool} {m : Str} {apos : Pos} {args : List Expr} {pins : List (Addr × Obj)} {s : Shared} {σ : St} {H : Hp} {Q : Value → Shared → Prop} {te : TE} (he : PE X e te) (I : Inv X pins σ H s)
    (h : te σ H fun x H1 => ∃ a C dx fs g, x = .ref a ∧ H1 a = some (.ins C dx fs) ∧ Cls X.K C ∧ Meth X.K C m g ∧ fs.lookup m = none ∧
      ∀ s1, Inv X pins σ H1 s1 → wpAny (model X.prog X.w) X.A (callWith pos (.ref g) [.ref a] (backTo pos (starEach args X.env)) (backToKw pos (keywordEach [] X.env))) Q X.xe s1)
    (ht : eval (.Call (.Attribute e m apos) args [] pos) X.env = (do
      let ov ← eval e X.env
      standAt apos.atName
      let (f, first) ← holding [ov] (getMethod ov m pl)
      callWith pos f first (backTo pos (starEach args X.env)) (backToKw pos (keywordEach [] X.env)))) :
    wpAny (model X.prog X.w) X.A (eval (.Call (.Attribute e m apos) args [] pos) X.env) Q X.xe s := by
  refine PySem.W.methodCall_KW (pl := pl) (thn (he pins s σ H _ I h) fun u s1 ⟨x, H1, I1, rx, a, C, dx, fs, g, ex, ea, c, k, l, q⟩ => ?_) ht
  subst ex
  obtain rfl : u = Value.ref a := rx
  exact getmeth_ok I1 ea c k l (q s1 I1)
end

/-! ### isinstance -/
section
variable {X : Cx} {pins : List (Addr × Obj)} {σ : St} {H : Hp} {s : Shared} {A : Around} {E : Value → Shared → Prop} {Q : Value → Shared → Prop} {c : Value} {b : Bool}
/-- the type of a value, as the fragment's deciders take it; for an instance its class -/
inductive TyOf (K : PySem.W.Frag) (H : Hp) : V → Value → Prop where
  | non : TyOf K H .non (.type "NoneType")
  | bl (x : Bool) : TyOf K H (.bl x) (.type "bool")
  | int (i : Int) : TyOf K H (.int i) (.type "int")
  | str (x : Str) : TyOf K H (.str x) (.type "str")
  | flt (x : UInt64) : TyOf K H (.flt x) (.type "float")
  | lst {a : Addr} {xs : List V} (e : H a = some (.lst xs)) : TyOf K H (.ref a) (.type "list")
  | frz {a : Addr} {o : Obj} {xs : List V} (e : H a = some (.frz o (.lst xs))) : TyOf K H (.ref a) (.type "list")
  | tup {a : Addr} {xs : List V} (e : H a = some (.tup xs)) : TyOf K H (.ref a) (.type "tuple")
  | dK {a : Addr} {kvs : List (Key × V)} (e : H a = some (.dK kvs)) : TyOf K H (.ref a) (.type "dict")
  | dT {a : Addr} {kvs : List (List Key × V)} (e : H a = some (.dT kvs)) : TyOf K H (.ref a) (.type "dict")
  | ins {a C dx : Addr} {fs : List (Str × V)} (e : H a = some (.ins C dx fs)) (cl : Cls K C) (ha : PySem.W.findIn K (.ref C) "__class__" = some (some (.builtin "object.__class__")))
      (hn : PySem.W.specialIn K (.builtin "object.__class__") "__get__" = some (some (.builtin "getset_descriptor.__get__"))) (htk : PySem.W.takesIn K (.builtin "object.__class__") = some true)
      (hm : PySem.W.mroIn K C (.type "object") = some true) : TyOf K H (.ref a) (.ref C)
/-- isinstance(x, c) for one class c, a built-in or an own one: kitOne's answer -/
theorem isinst_ok {x : V} {u t : Value} (I : Inv X pins σ H s) (rx : RelV x u) (ty : TyOf X.K H x t) (e : PySem.W.kitOne X.K t c = some b) (h : ∀ tk, Q (.bool b) { s with toks := tk }) :
    wpAny (model X.prog X.w) A (call (.builtin "isinstance") [u, c]) Q E s := by
  cases ty with
  | non => cases (show u = Value.none from rx); exact PySem.W.kia_one PySem.W.kitx_none I.kIn True.intro e (fun z => nomatch z) h
  | bl y => cases (show u = Value.bool y from rx); exact PySem.W.kia_one PySem.W.kitx_bool I.kIn True.intro e (fun z => nomatch z) h
  | int i => obtain ⟨t, q⟩ := (show ∃ t, u = Value.int i t from rx); cases q; exact PySem.W.kia_one PySem.W.kitx_int I.kIn True.intro e (fun z => nomatch z) h
  | str y => obtain ⟨t, q⟩ := (show ∃ t, u = Value.str y t from rx); cases q; exact PySem.W.kia_one PySem.W.kitx_str I.kIn True.intro e (fun z => nomatch z) h
  | flt y => obtain ⟨t, q⟩ := (show ∃ t, u = Value.float y t from rx); cases q; exact PySem.W.kia_one PySem.W.kitx_float I.kIn True.intro e (fun z => nomatch z) h
  | @lst a xs ea =>
    cases (show u = Value.ref a from rx)
    obtain ⟨_, _, n, _, h1⟩ := (show ObjOk X.prog X.w H s.heap a (.lst xs) from I.hok a _ ea)
    exact PySem.W.kia_one PySem.W.kitx_list I.kIn ⟨_, h1, rfl⟩ e (fun z => nomatch z) h
  | @frz a ob xs ea =>
    cases (show u = Value.ref a from rx)
    obtain ⟨_, _, _, n, _, h1⟩ := (show ObjOk X.prog X.w H s.heap a (.frz ob (.lst xs)) from I.hok a _ ea)
    exact PySem.W.kia_one PySem.W.kitx_list I.kIn ⟨_, h1, rfl⟩ e (fun z => nomatch z) h
  | @tup a xs ea =>
    cases (show u = Value.ref a from rx)
    obtain ⟨_, _, _, p⟩ := (show ObjOk X.prog X.w H s.heap a (.tup xs) from I.hok a _ ea)
    obtain ⟨o, h1, h2, _⟩ := p
    exact PySem.W.kia_one PySem.W.kitx_tuple I.kIn ⟨o, h1, h2⟩ e (fun z => nomatch z) h
  | @dK a kvs ea =>
    cases (show u = Value.ref a from rx)
    obtain ⟨_, _, vs, _, p⟩ := (show ObjOk X.prog X.w H s.heap a (.dK kvs) from I.hok a _ ea)
    obtain ⟨o, es, ep, h1, h2, _⟩ := p
    exact PySem.W.kia_one PySem.W.kitx_dict I.kIn ⟨o, h1, h2.1⟩ e (fun z => nomatch z) h
  | @dT a kvs ea =>
    cases (show u = Value.ref a from rx)
    obtain ⟨_, _, xs, _, o, es, ep, h1, h2, _⟩ := (show ObjOk X.prog X.w H s.heap a (.dT kvs) from I.hok a _ ea)
    exact PySem.W.kia_one PySem.W.kitx_dict I.kIn ⟨o, h1, h2.1⟩ e (fun z => nomatch z) h
  | @ins a C dx fs ea cl ha hn htk hm =>
    cases (show u = Value.ref a from rx)
    obtain ⟨mA, O, _⟩ := ins_get I.hok ea
    obtain ⟨od, J, _⟩ := O.look
    exact PySem.W.kia_one (PySem.W.kitx_own (cl.get _) cl.hd ha hn htk hm) I.kIn J e (fun z => nomatch z) h
end
end L2

namespace L2
open PySem PySem.Spec PyProof.Rows

/-! ### room -/
structure Room (k : Nat) (A : Around) : Prop where
  hd : A.handled = none
  dp : A.depth + 3 * k + 5 < recursionLimit
  un : A.units + 16 * k + 200 < cLine
theorem Room.mono {j k : Nat} {A : Around} (r : Room k A) (h : j ≤ k) : Room j A := ⟨r.hd, by have := r.dp; omega, by have := r.un; omega⟩
theorem Room.deeper {k : Nat} {A : Around} (r : Room (k + 1) A) (env : Env) : Room k (A.deeper env) :=
  ⟨r.hd, by have := r.dp; show A.depth + 1 + 3 * k + 5 < _; omega, by have := r.un; show A.units + 3 + 16 * k + 200 < _; omega⟩
theorem Room.in1 {k : Nat} {A : Around} (r : Room (k + 1) A) : Room k A.in1 :=
  ⟨r.hd, by have := r.dp; show A.depth + 3 * k + 5 < _; omega, by have := r.un; show A.units + 1 + 16 * k + 200 < _; omega⟩
theorem make_depth {A : Around} {C : Addr} {us : List Value} {kw : List (Str × Value)} : (A.under (.builtin "type.__call__" ⟨.ref C :: us, kw⟩)).depth = A.depth + 1 := by
  first | rfl | simp [Around.under, Code.weight, Code.isCreation, Code.isGuard, Code.isCaller, Code.frames, Code.isFrame, guardIds]
theorem make_units {A : Around} {C : Addr} {us : List Value} {kw : List (Str × Value)} : (A.under (.builtin "type.__call__" ⟨.ref C :: us, kw⟩)).units = A.units + 1 := by
  first | rfl | simp [Around.under, Code.cUnits, Code.frames, Code.isFrame]
theorem Room.make {k : Nat} {A : Around} (r : Room (k + 1) A) (C : Addr) (us : List Value) (kw : List (Str × Value)) : Room k (A.under (.builtin "type.__call__" ⟨.ref C :: us, kw⟩)) :=
  ⟨r.hd, by have := r.dp; rw [make_depth]; omega, by have := r.un; rw [make_units]; omega⟩
theorem Room.depth {k : Nat} {A : Around} (r : Room k A) : A.depth < recursionLimit := by have := r.dp; omega
theorem Room.units {k : Nat} {A : Around} (r : Room k A) : A.units + 64 < cLine := by have := r.un; omega
theorem Room.units0 {k : Nat} {A : Around} (r : Room k A) : A.units < cLine := by have := r.un; omega

/-! ### argument lists and displays -/
def tNil : TA := fun _ H Q => Q [] H
def tCons (ta : TE) (tr : TA) : TA := fun σ H Q => ta σ H fun x H1 => tr σ H1 fun xs H2 => Q (x :: xs) H2
section
variable {X : Cx} {e : Expr} {es : List Expr} {te : TE} {t : TA} {pos : Pos}
theorem pa_nil : PA X [] tNil := fun _ _ _ _ H Q I h => Calls.spliced_nil ⟨[], H, I, .nil, h⟩
theorem pa_cons (ha : PE X e te) (hr : PA X es t) (hs : starEach (e :: es) X.env = (false, eval e X.env) :: starEach es X.env := by rfl) : PA X (e :: es) (tCons te t) := by
  intro pos pins s σ H Q I h
  rw [hs]
  show wpAny _ _ (spliced ((false, eval e X.env) :: backTo pos (starEach es X.env))) _ _ s
  refine Calls.spliced_cons (thn (ha pins s σ H _ I h) fun u s1 ⟨x, H1, I1, r1, q1⟩ => ?_)
  exact thn (hr pos pins s1 σ H1 _ I1 q1) fun us s2 ⟨xs, H2, I2, r2, q2⟩ => ⟨x :: xs, H2, I2, .cons r1 r2, q2⟩

/-- a tuple, a list of written items -/
def tTup (t : TA) : TE := fun σ H Q => t σ H fun xs H1 => xs.length ≤ sizeLine ∧ ∀ p, H1 p = none → Q (.ref p) (upd H1 p (.tup xs))
def tLst (t : TA) : TE := fun σ H Q => t σ H fun xs H1 => xs.length ≤ sizeLine ∧ ∀ p, H1 p = none → Q (.ref p) (upd H1 p (.lst xs))
theorem pe_tup {x1} (h : PA X es t) : PE X (.Tuple es x1 pos) (tTup t) := by
  intro pins s σ H Q I hq
  refine wpAny_Tuple_spliced (thn (h pos pins s σ H _ I hq) fun us s1 ⟨xs, H1, I1, r, z, q⟩ => ⟨by rw [← r.length]; exact z, ?_⟩)
  have hf : H1 s1.heap.objs.size = none := I1.hok.fresh (Nat.le_refl _)
  refine ⟨.ref s1.heap.objs.size, upd H1 s1.heap.objs.size (.tup xs), I1.laid (t' := s1.toks) (fun b u e => Heap.get?_push_of_some _ e) (Nat.le_refl _) ?_, rfl, q _ hf⟩
  exact ⟨z, us, r, ⟨_, Heap.get?_push_size _ rfl, rfl, _, rfl⟩⟩
theorem pe_lst (h : PA X es t) : PE X (.List es pos) (tLst t) := by
  intro pins s σ H Q I hq
  refine wpAny_List_spliced (thn (h pos pins s σ H _ I hq) fun us s1 ⟨xs, H1, I1, r, z, q⟩ => ⟨by rw [← r.length]; exact z, ?_⟩)
  have hf : H1 s1.heap.objs.size = none := I1.hok.fresh (Nat.le_refl _)
  refine ⟨.ref s1.heap.objs.size, upd H1 s1.heap.objs.size (.lst xs), I1.laid (t' := s1.toks) (fun b u e => Heap.get?_push_of_some _ e) (Nat.le_refl _) ?_, rfl, q _ hf⟩
  exact ⟨z, us, 0, r, Heap.get?_push_size _ rfl⟩
end

/-! ### what a def promises -/
/-- a def's promise: the bound arguments in the parameters' order, the heap, the wanted end, the wanted exception -/
abbrev Sp := List V → Hp → VK → XK → Prop
/-- how an exception lies behind a call (file 08 gives it): the callers' frames, abstract heap and state ahead of the call, the wish, the exception, the state -/
abbrev CXT := List Env → Hp → Shared → XK → Value → Shared → Prop

/-- the state at a call -/
structure Env0 (P : Program) (w : World) (K : PySem.W.Frag) (mg : Str → Option Value) (base : Heap) (A : Around) (outer : List Env) (s : Shared) (H : Hp) : Prop where
  frames : A.frames = some outer
  mod : Mod K mg base
  bs : ∀ b o, base.get? b = some o → s.heap.get? b = some o ∧ H b = none
  bsz : base.objs.size ≤ s.heap.objs.size
  funs : s.heap.FunFrames base outer
  frf : ∀ b ∈ frs outer, H b = none
  hok : HOk P w H s.heap
  bare : AllBare s.gens
/-- a call's end -/
def CE (outer : List Env) (P : Program) (w : World) (H : Hp) (s : Shared) (Q : VK) (u : Value) (s' : Shared) : Prop :=
  ∃ v H', s'.os = s.os ∧ AllBare s'.gens ∧ Un (frs outer) [] H H' s.heap s'.heap ∧ HOk P w H' s'.heap ∧ RelV v u ∧ Q v H'
def CR (CX : CXT) (outer : List Env) (P : Program) (w : World) (H : Hp) (s : Shared) (Q : VK) (E : XK) (r : Result) (s' : Shared) : Prop :=
  match r with
  | .ok (.ret u) => CE outer P w H s Q u s'
  | .ok _ => False
  | .error e => CX outer H s E e s'
structure FnOk (P : Program) (w : World) (K : PySem.W.Frag) (mg : Str → Option Value) (base : Heap) (CX : CXT) (k : Nat) (f : Addr) (fd : FuncData) (ps : List Str) (sp : Sp) : Prop where
  len : ∀ vs H Q E, sp vs H Q E → vs.length = ps.length
  run : ∀ (A : Around) (outer : List Env) (s : Shared) (H : Hp) (args : Args) (us : List Value) (vs : List V) (Q : VK) (E : XK), Room k A → Env0 P w K mg base A outer s H → BindsTo s fd args (ps.zip us) → Vals vs us → sp vs H Q E →
    codeAny (model P w) A (.call (.ref f) args) (CR CX outer P w H s Q E) s
theorem FnOk.mono {P : Program} {w : World} {K : PySem.W.Frag} {mg : Str → Option Value} {base : Heap} {CX : CXT} {j k : Nat} {f : Addr} {fd : FuncData} {ps : List Str} {sp : Sp} (F : FnOk P w K mg base CX j f fd ps sp) (h : j ≤ k) :
    FnOk P w K mg base CX k f fd ps sp := ⟨F.len, fun A outer s H args us vs Q E hr => F.run A outer s H args us vs Q E (hr.mono h)⟩
/-- a weaker promise -/
theorem FnOk.imp {P : Program} {w : World} {K : PySem.W.Frag} {mg : Str → Option Value} {base : Heap} {CX : CXT} {k : Nat} {f : Addr} {fd : FuncData} {ps : List Str} {sp sp' : Sp} (F : FnOk P w K mg base CX k f fd ps sp)
    (h : ∀ vs H Q E, sp' vs H Q E → sp vs H Q E) : FnOk P w K mg base CX k f fd ps sp' :=
  ⟨fun vs H Q E q => F.len vs H Q E (h _ _ _ _ q), fun A outer s H args us vs Q E hr he hb hv hs => F.run A outer s H args us vs Q E hr he hb hv (h _ _ _ _ hs)⟩

theorem Env0.make {P : Program} {w : World} {K : PySem.W.Frag} {mg : Str → Option Value} {base : Heap} {A : Around} {outer : List Env} {s : Shared} {H : Hp} (e : Env0 P w K mg base A outer s H) (C : Addr) (us : List Value) (kw : List (Str × Value)) :
    Env0 P w K mg base (A.under (.builtin "type.__call__" ⟨.ref C :: us, kw⟩)) outer s H := ⟨by first | exact e.frames | (simpa [Around.under, Code.envs, Code.isFrame, pushEnvs] using e.frames), e.mod, e.bs, e.bsz, e.funs, e.frf, e.hok, e.bare⟩
theorem Env0.in1 {P : Program} {w : World} {K : PySem.W.Frag} {mg : Str → Option Value} {base : Heap} {A : Around} {outer : List Env} {s : Shared} {H : Hp} (e : Env0 P w K mg base A outer s H) :
    Env0 P w K mg base A.in1 outer s H := ⟨e.frames, e.mod, e.bs, e.bsz, e.funs, e.frf, e.hok, e.bare⟩

section
variable {X : Cx} {pins : List (Addr × Obj)} {σ : St} {H : Hp} {s s' : Shared}
/-- from a body: what a callee wants -/
theorem Inv.env0 (I : Inv X pins σ H s) : Env0 X.prog X.w X.K X.mg X.base X.A X.stack s H :=
  ⟨I.ok.frames, I.ok.mod, I.bs, Nat.le_trans I.ok.bsz I.sz, I.stack, I.stkFree, I.hok, I.bare⟩
/-- behind a call -/
theorem Inv.after {Q : VK} {u : Value} (I : Inv X pins σ H s) (h : CE X.stack X.prog X.w H s Q u s') : EP X pins σ Q u s' := by
  obtain ⟨v, H', os, bare, un, hok, r, q⟩ := h
  obtain ⟨hh, g, d, t, os'⟩ := s'
  obtain rfl : os' = s.os := os
  exact ⟨v, H', I.call (h' := hh) (g' := g) (d' := d) (t' := t) (ch := []) un hok bare (fun b z => absurd z (by simp)), r, q⟩
end

/-! ### calls -/
/-- f(..): the written arguments, then the defaults dvs; E: what is wanted of an exception -/
def tCall (sp : Sp) (dvs : List V) (E : XK) (t : TA) : TE := fun σ H Q => t σ H fun vs H1 => sp (vs ++ dvs) H1 Q E
/-- o.m(..) of an instance of the class at C -/
def tMeth (C : Addr) (m : Str) (sp : Sp) (dvs : List V) (E : XK) (ta : TE) (t : TA) : TE := fun σ H Q => ta σ H fun x H1 => ∃ a dx fs, x = .ref a ∧ H1 a = some (.ins C dx fs) ∧ fs.lookup m = none ∧
  t σ H1 fun vs H2 => sp (x :: (vs ++ dvs)) H2 Q E
/-- C(..): a new instance and its dict, then __init__ -/
def tMake (C : Addr) (sp : Sp) (dvs : List V) (E : XK) (t : TA) : TE := fun σ H Q => t σ H fun vs H1 => ∀ x dx, H1 x = none → H1 dx = none → dx ≠ x →
  sp (.ref x :: (vs ++ dvs)) (upd (upd H1 dx (.own x)) x (.ins C dx [])) (fun v H2 => v = .non ∧ Q (.ref x) H2) E

/-- how the parameters are bound: us the positional arguments, kw the keywords' values by name, ds the defaults that fill up -/
def Binds (K : PySem.W.Frag) (fd : FuncData) (ps : List Str) (ds : List Value) : Prop :=
  ∀ (s : Shared) (us : List Value), K.In s.heap → (us ++ ds).length = ps.length → BindsTo s fd ⟨us, []⟩ (ps.zip (us ++ ds))
/-- every parameter is given -/
theorem Binds.all {K : PySem.W.Frag} {fd : FuncData} {ps : List Str} (h : ∀ us : List Value, us.length = ps.length → bindArgs fd ⟨us, []⟩ = pure (ps.zip us)) : Binds K fd ps [] := fun s us _ hl => by
  rw [List.append_nil] at hl ⊢
  exact .of_eq (h us hl)

/-- an exception of a callee reaches what this body wants of exceptions -/
def Passes (CX : CXT) (X : Cx) (E : XK) : Prop := ∀ (pins : List (Addr × Obj)) (σ : St) (H : Hp) (s : Shared) (e : Value) (s' : Shared), Inv X pins σ H s → CX X.stack H s E e s' → X.xe e s'

section
variable {X : Cx} {CX : CXT} {k : Nat} {f C : Addr} {fd : FuncData} {ps : List Str} {sp : Sp} {dvs : List V} {ds : List Value} {E : XK} {x m : Str} {p pos apos : Pos} {e o : Expr} {es : List Expr} {ta : TE} {t : TA}

/-- the callee runs -/
theorem run_fn {pins : List (Addr × Obj)} {σ : St} {H : Hp} {s : Shared} {Q : VK} {us : List Value} {vs : List V} (F : FnOk X.prog X.w X.K X.mg X.base CX k f fd ps sp) (hr : Room k X.A) (hb : Binds X.K fd ps ds) (hd : Vals dvs ds) (hx : Passes CX X E)
    (I : Inv X pins σ H s) (r : Vals vs us) (h : sp (vs ++ dvs) H Q E) : wpAny (model X.prog X.w) X.A (call (.ref f) us) (EP X pins σ Q) X.xe s := by
  have r2 : Vals (vs ++ dvs) (us ++ ds) := r.append hd
  have hl : (us ++ ds).length = ps.length := by rw [← r2.length]; exact F.len _ _ _ _ h
  refine wpAny_call (codeAny_mono (F.run X.A X.stack s H ⟨us, []⟩ (us ++ ds) (vs ++ dvs) Q E hr I.env0 (hb s us I.kIn hl) r2 h) fun r s' hq => ?_)
  cases r with
  | error e => exact hx pins σ H s e s' I hq
  | ok fl =>
    cases fl with
    | ret u => exact I.after hq
    | next => exact False.elim hq
    | brk => exact False.elim hq
    | cont => exact False.elim hq

theorem pe_call (F : FnOk X.prog X.w X.K X.mg X.base CX k f fd ps sp) (hr : Room k X.A) (hg : Gl X x) (hm : X.mg x = some (.ref f)) (hk : PySem.W.keepIn X.K (.ref f) = true) (hb : Binds X.K fd ps ds) (hd : Vals dvs ds) (hx : Passes CX X E)
    (ha : PA X (e :: es) t) (hdb : (x == ("__debug__" : Str)) = false := by decide) (he : starEach (e :: es) X.env = (false, eval e X.env) :: starEach es X.env := by rfl) (hpl : (backTo pos (starEach es X.env)).any (·.1) = false := by rfl) :
    PE X (.Call (.Name x p) (e :: es) [] pos) (tCall sp dvs E t) := by
  intro pins s σ H Q I h
  refine wpAny_Call_Name_kw (ld_glob I hg hm ?_ hdb)
  refine PySem.W.callWith_K (h₀ := X.base) I.ok.mod.kin hk (thn (ha pos pins s σ H _ I h) fun us s1 ⟨vs, H1, I1, r, q⟩ => ⟨I1.kIn, ?_⟩) he hpl
  exact run_fn F hr hb hd hx I1 r q
theorem pe_call0 (F : FnOk X.prog X.w X.K X.mg X.base CX k f fd ps sp) (hr : Room k X.A) (hg : Gl X x) (hm : X.mg x = some (.ref f)) (hk : PySem.W.keepIn X.K (.ref f) = true) (hb : Binds X.K fd ps ds) (hd : Vals dvs ds) (hx : Passes CX X E)
    (hdb : (x == ("__debug__" : Str)) = false := by decide) : PE X (.Call (.Name x p) [] [] pos) (tCall sp dvs E tNil) := by
  intro pins s σ H Q I h
  refine wpAny_Call_Name_kw (ld_glob I hg hm ?_ hdb)
  exact PySem.W.callWith_K0 I.kIn hk (run_fn (us := []) F hr hb hd hx I .nil h)

/-- o.m(e, ..) -/
theorem pe_meth {pl : Sem Bool} (he : PE X o ta) (c : Cls X.K C) (hm : Meth X.K C m f) (F : FnOk X.prog X.w X.K X.mg X.base CX k f fd ps sp) (hr : Room k X.A) (hb : Binds X.K fd ps ds) (hd : Vals dvs ds) (hx : Passes CX X E) (ha : PA X (e :: es) t)
    (hst : starEach (e :: es) X.env = (false, eval e X.env) :: starEach es X.env := by rfl) (hpl : (backTo pos (starEach es X.env)).any (·.1) = false := by rfl)
    (ht : eval (.Call (.Attribute o m apos) (e :: es) [] pos) X.env = (do
      let ov ← eval o X.env
      standAt apos.atName
      let (f, first) ← holding [ov] (getMethod ov m pl)
      callWith pos f first (backTo pos (starEach (e :: es) X.env)) (backToKw pos (keywordEach [] X.env))) := by rfl) :
    PE X (.Call (.Attribute o m apos) (e :: es) [] pos) (tMeth C m sp dvs E ta t) := by
  intro pins s σ H Q I h
  refine PySem.W.methodCall_KW (pl := pl) (thn (he pins s σ H _ I h) fun u s1 ⟨x, H1, I1, rx, a, dx, fs, ex, ea, l, q⟩ => ?_) ht
  subst ex
  obtain rfl : u = Value.ref a := rx
  refine getmeth_ok I1 ea c hm l ?_
  refine PySem.W.callWith_K (first := [.ref a]) (h₀ := X.base) I.ok.mod.kin hm.kp (thn (ha pos pins s1 σ H1 _ I1 q) fun us s2 ⟨vs, H2, I2, r, q2⟩ => ⟨I2.kIn, ?_⟩) hst hpl
  exact run_fn (us := .ref a :: us) (vs := .ref a :: vs) F hr hb hd hx I2 (.cons rfl r) q2
/-- o.m() -/
theorem pe_meth0 {pl : Sem Bool} (he : PE X o ta) (c : Cls X.K C) (hm : Meth X.K C m f) (F : FnOk X.prog X.w X.K X.mg X.base CX k f fd ps sp) (hr : Room k X.A) (hb : Binds X.K fd ps ds) (hd : Vals dvs ds) (hx : Passes CX X E)
    (ht : eval (.Call (.Attribute o m apos) [] [] pos) X.env = (do
      let ov ← eval o X.env
      standAt apos.atName
      let (f, first) ← holding [ov] (getMethod ov m pl)
      callWith pos f first (backTo pos (starEach [] X.env)) (backToKw pos (keywordEach [] X.env))) := by rfl) :
    PE X (.Call (.Attribute o m apos) [] [] pos) (tMeth C m sp dvs E ta tNil) := by
  intro pins s σ H Q I h
  refine PySem.W.methodCall_KW (pl := pl) (thn (he pins s σ H _ I h) fun u s1 ⟨x, H1, I1, rx, a, dx, fs, ex, ea, l, q⟩ => ?_) ht
  subst ex
  obtain rfl : u = Value.ref a := rx
  refine getmeth_ok I1 ea c hm l ?_
  exact PySem.W.callWith_K0 (first := [.ref a]) I1.kIn hm.kp (run_fn (us := [.ref a]) (vs := [.ref a]) F hr hb hd hx I1 (.cons rfl .nil) q)

/-- what a class must have to be made -/
structure Mk (K : PySem.W.Frag) (C f : Addr) : Prop where
  makes : PySem.W.makesIn K C = true
  init : PySem.W.findIn K (.ref C) "__init__" = some (some (.ref f))
  fn : PySem.W.isFn K (.ref f) = true
  kp : PySem.W.keepIn K (.ref C) = true

theorem run_make {pins : List (Addr × Obj)} {σ : St} {H : Hp} {s : Shared} {Q : VK} {us : List Value} {vs : List V} (M : Mk X.K C f) (F : FnOk X.prog X.w X.K X.mg X.base CX k f fd ps sp) (hr : Room (k + 1) X.A) (hb : Binds X.K fd ps ds) (hd : Vals dvs ds)
    (hx : Passes CX X E) (I : Inv X pins σ H s) (r : Vals vs us)
    (h : ∀ x dx, H x = none → H dx = none → dx ≠ x → sp (.ref x :: (vs ++ dvs)) (upd (upd H dx (.own x)) x (.ins C dx [])) (fun v H2 => v = .non ∧ Q (.ref x) H2) E) :
    wpAny (model X.prog X.w) X.A (call (.ref C) us) (EP X pins σ Q) X.xe s := by
  have hq := h (s.heap.objs.size + 1) s.heap.objs.size (I.hok.fresh (Nat.le_succ _)) (I.hok.fresh (Nat.le_refl _)) (Nat.ne_of_lt (Nat.lt_succ_self _))
  have I2 := Inv.made (C := C) I
  have r2 : Vals (V.ref (s.heap.objs.size + 1) :: (vs ++ dvs)) (Value.ref (s.heap.objs.size + 1) :: (us ++ ds)) := .cons rfl (r.append hd)
  have hl : (Value.ref (s.heap.objs.size + 1) :: us ++ ds).length = ps.length := by
    have e := r2.length
    rw [F.len _ _ _ _ hq] at e
    exact e.symm
  refine wpAny_call (make_map (f := f) I.kIn M.makes M.init (beq_iff_eq.mp M.fn) (codeAny_mono (F.run _ X.stack _ _ ⟨Value.ref (s.heap.objs.size + 1) :: us, []⟩ (Value.ref (s.heap.objs.size + 1) :: (us ++ ds)) _ _ E (hr.make C us [])
    (I2.env0.make C us []) (hb _ (Value.ref (s.heap.objs.size + 1) :: us) I2.kIn hl) r2 hq) fun r s' hq' => ?_))
  cases r with
  | error e => exact hx pins σ _ _ e s' I2 hq'
  | ok fl =>
    cases fl with
    | ret u =>
      obtain ⟨v, H', I3, rv, ev, q3⟩ := I2.after hq'
      subst ev
      exact ⟨rv, ⟨V.ref (s.heap.objs.size + 1), H', I3, rfl, q3⟩⟩
    | next => exact False.elim hq'
    | brk => exact False.elim hq'
    | cont => exact False.elim hq'
theorem pe_make (M : Mk X.K C f) (F : FnOk X.prog X.w X.K X.mg X.base CX k f fd ps sp) (hr : Room (k + 1) X.A) (hg : Gl X x) (hm : X.mg x = some (.ref C)) (hb : Binds X.K fd ps ds) (hd : Vals dvs ds) (hx : Passes CX X E)
    (ha : PA X (e :: es) t) (hdb : (x == ("__debug__" : Str)) = false := by decide) (he : starEach (e :: es) X.env = (false, eval e X.env) :: starEach es X.env := by rfl) (hpl : (backTo pos (starEach es X.env)).any (·.1) = false := by rfl) :
    PE X (.Call (.Name x p) (e :: es) [] pos) (tMake C sp dvs E t) := by
  intro pins s σ H Q I h
  refine wpAny_Call_Name_kw (ld_glob I hg hm ?_ hdb)
  refine PySem.W.callWith_K (h₀ := X.base) I.ok.mod.kin M.kp (thn (ha pos pins s σ H _ I h) fun us s1 ⟨vs, H1, I1, r, q⟩ => ⟨I1.kIn, ?_⟩) he hpl
  exact run_make M F hr hb hd hx I1 r q
theorem pe_make0 (M : Mk X.K C f) (F : FnOk X.prog X.w X.K X.mg X.base CX k f fd ps sp) (hr : Room (k + 1) X.A) (hg : Gl X x) (hm : X.mg x = some (.ref C)) (hb : Binds X.K fd ps ds) (hd : Vals dvs ds) (hx : Passes CX X E)
    (hdb : (x == ("__debug__" : Str)) = false := by decide) : PE X (.Call (.Name x p) [] [] pos) (tMake C sp dvs E tNil) := by
  intro pins s σ H Q I h
  refine wpAny_Call_Name_kw (ld_glob I hg hm ?_ hdb)
  exact PySem.W.callWith_K0 I.kIn M.kp (run_make (us := []) M F hr hb hd hx I .nil h)
end

/-! ### keywords -/
/-- the values of the keywords, from the left -/
def PK (X : Cx) (kws : List Keyword) (t : TA) : Prop :=
  ∀ (pos : Pos) (pins : List (Addr × Obj)) (s : Shared) (σ : St) (H : Hp) (Q : List V → Hp → Prop), Inv X pins σ H s → t σ H Q → wpAny (model X.prog X.w) X.A (evalAll ((backToKw pos (keywordEach kws X.env)).map (·.2))) (AP X pins σ Q) X.xe s
section
variable {X : Cx} {CX : CXT} {k : Nat} {f C : Addr} {fd : FuncData} {ps ks : List Str} {sp : Sp} {E : XK} {x m : Str} {p pos apos kpos : Pos} {e o : Expr} {es : List Expr} {kws : List Keyword} {te ta : TE} {t tk : TA} {nm : Option Str}
theorem pk_nil : PK X [] tNil := fun _ _ _ _ H Q I h => wpAny_evalAll_nil ⟨[], H, I, .nil, h⟩
theorem pk_cons (ha : PE X e te) (hr : PK X kws t) : PK X (⟨nm, e, kpos⟩ :: kws) (tCons te t) := by
  intro pos pins s σ H Q I h
  show wpAny _ _ (evalAll ((do let v ← eval e X.env; standAt pos; pure v) :: (backToKw pos (keywordEach kws X.env)).map (·.2))) _ _ s
  refine wpAny_evalAll_cons (wpAny_bind (thn (ha pins s σ H _ I h) fun u s1 ⟨x, H1, I1, r1, q1⟩ => wpAny_bind (wpAny_standAt (wpAny_pure ?_))))
  exact thn (hr pos pins s1 σ H1 _ I1 q1) fun us s2 ⟨xs, H2, I2, r2, q2⟩ => ⟨x :: xs, H2, I2, .cons r1 r2, q2⟩

/-- how a call with keywords binds: g puts the positional values us and the keywords' values ws (names ks) in the parameters' order, defaults among them -/
structure KBinds (K : PySem.W.Frag) (fd : FuncData) (ps ks : List Str) (g : List Value → List Value → List Value) (gV : List V → List V → List V) : Prop where
  to : ∀ (s : Shared) (us ws : List Value), K.In s.heap → (g us ws).length = ps.length → BindsTo s fd ⟨us, ks.zip ws⟩ (ps.zip (g us ws))
  rel : ∀ {vs : List V} {us : List Value} {zs : List V} {ws : List Value}, Vals vs us → Vals zs ws → Vals (gV vs zs) (g us ws)
def tCallK (sp : Sp) (gV : List V → List V → List V) (E : XK) (t tk : TA) : TE := fun σ H Q => t σ H fun vs H1 => tk σ H1 fun zs H2 => sp (gV vs zs) H2 Q E
variable {g : List Value → List Value → List Value} {gV : List V → List V → List V}
theorem run_fnk {pins : List (Addr × Obj)} {σ : St} {H : Hp} {s : Shared} {Q : VK} {us ws : List Value} {vs zs : List V} (F : FnOk X.prog X.w X.K X.mg X.base CX k f fd ps sp) (hr : Room k X.A) (hb : KBinds X.K fd ps ks g gV) (hx : Passes CX X E)
    (I : Inv X pins σ H s) (r : Vals vs us) (rz : Vals zs ws) (h : sp (gV vs zs) H Q E) : wpAny (model X.prog X.w) X.A (call (.ref f) us (ks.zip ws)) (EP X pins σ Q) X.xe s := by
  have r2 := hb.rel r rz
  have hl : (g us ws).length = ps.length := by rw [← r2.length]; exact F.len _ _ _ _ h
  refine wpAny_call (codeAny_mono (F.run X.A X.stack s H ⟨us, ks.zip ws⟩ (g us ws) (gV vs zs) Q E hr I.env0 (hb.to s us ws I.kIn hl) r2 h) fun r s' hq => ?_)
  cases r with
  | error e => exact hx pins σ H s e s' I hq
  | ok fl =>
    cases fl with
    | ret u => exact I.after hq
    | next => exact False.elim hq
    | brk => exact False.elim hq
    | cont => exact False.elim hq
/-- f(e, .., k = v, ..) -/
theorem pe_callK (F : FnOk X.prog X.w X.K X.mg X.base CX k f fd ps sp) (hr : Room k X.A) (hg : Gl X x) (hm : X.mg x = some (.ref f)) (hk : PySem.W.keepIn X.K (.ref f) = true) (hb : KBinds X.K fd ps ks g gV) (hx : Passes CX X E)
    (ha : PA X (e :: es) t) (hkw : PK X kws tk) (hall : (backToKw pos (keywordEach kws X.env)).all (·.1.isSome) = true := by rfl) (hks : (backToKw pos (keywordEach kws X.env)).filterMap (·.1) = ks := by rfl)
    (hdb : (x == ("__debug__" : Str)) = false := by decide) (he : starEach (e :: es) X.env = (false, eval e X.env) :: starEach es X.env := by rfl)
    (hpl : ((backTo pos (starEach (e :: es) X.env)).any (·.1) || (backToKw pos (keywordEach kws X.env)).any (·.1.isNone)) = false := by rfl) :
    PE X (.Call (.Name x p) (e :: es) kws pos) (tCallK sp gV E t tk) := by
  intro pins s σ H Q I h
  refine wpAny_Call_Name_kw (ld_glob I hg hm ?_ hdb)
  refine PySem.W.callWith_KW (h₀ := X.base) I.ok.mod.kin hk hall (thn (ha pos pins s σ H _ I h) fun us s1 ⟨vs, H1, I1, r, q⟩ => ?_) hpl he
  refine thn (hkw pos pins s1 σ H1 _ I1 q) fun ws s2 ⟨zs, H2, I2, rz, q2⟩ => ⟨I2.kIn, ?_⟩
  rw [hks]
  exact run_fnk F hr hb hx I2 r rz q2
end

/-! ### a def's body keeps its promise -/
/-- names: the parameters first -/
structure FnScope (N P : List Str) (sc : Scope) : Prop where
  kind : sc.kind = .function
  co : sc.isCoroutine = false
  gen : sc.isGenerator = false
  nd : N.Nodup
  pre : N.take P.length = P
  par : ∀ x ∈ P, sc.names.lookup x = some .local ∨ sc.names.lookup x = some .cell
  nofree : ∀ y ∈ sc.names, y.2 ≠ .free

theorem bindL_out {kindOf : Str → Option NameKind} {x : Str} : ∀ {binds : List (Str × Value)} {m : Str → Option Value}, (∀ v, (x, v) ∉ binds) → bindL kindOf binds m x = m x
  | [], _, _ => rfl
  | (n, v) :: r, m, h => by
    unfold bindL
    rw [bindL_out fun w hw => h w (List.mem_cons_of_mem _ hw)]
    split
    · have : x ≠ n := by rintro rfl; exact h v List.mem_cons_self
      simp [this]
    · rfl
theorem bindC_out {kindOf : Str → Option NameKind} {x : Str} : ∀ {binds : List (Str × Value)} {m : Str → Option Value}, (∀ v, (x, v) ∉ binds) → bindC kindOf binds m x = m x
  | [], _, _ => rfl
  | (n, v) :: r, m, h => by
    unfold bindC
    rw [bindC_out fun w hw => h w (List.mem_cons_of_mem _ hw)]
    split
    · rfl
    · have : x ≠ n := by rintro rfl; exact h v List.mem_cons_self
      simp [this]
theorem bindL_get {kindOf : Str → Option NameKind} {x : Str} {v : Value} : ∀ {P : List Str} {vs : List Value} {i : Nat} {m : Str → Option Value}, P.Nodup → P[i]? = some x → vs[i]? = some v → kindOf x = some .local →
    bindL kindOf (P.zip vs) m x = some v
  | [], _, _, _, _, h, _, _ => by simp at h
  | _ :: _, [], _, _, _, _, h, _ => by simp at h
  | p :: P, w :: vs, 0, m, nd, h1, h2, hk => by
    simp at h1 h2; subst h1; subst h2
    show bindL kindOf ((p, w) :: P.zip vs) m p = _
    unfold bindL
    rw [bindL_out fun v hv => (List.nodup_cons.mp nd).1 (List.of_mem_zip hv).1, if_pos hk]
    simp
  | p :: P, w :: vs, i + 1, m, nd, h1, h2, hk => by
    show bindL kindOf ((p, w) :: P.zip vs) m x = _
    unfold bindL
    exact bindL_get (i := i) (List.nodup_cons.mp nd).2 (by simpa using h1) (by simpa using h2) hk
theorem bindC_get {kindOf : Str → Option NameKind} {x : Str} {v : Value} : ∀ {P : List Str} {vs : List Value} {i : Nat} {m : Str → Option Value}, P.Nodup → P[i]? = some x → vs[i]? = some v → kindOf x ≠ some .local →
    bindC kindOf (P.zip vs) m x = some v
  | [], _, _, _, _, h, _, _ => by simp at h
  | _ :: _, [], _, _, _, _, h, _ => by simp at h
  | p :: P, w :: vs, 0, m, nd, h1, h2, hk => by
    simp at h1 h2; subst h1; subst h2
    show bindC kindOf ((p, w) :: P.zip vs) m p = _
    unfold bindC
    rw [bindC_out fun v hv => (List.nodup_cons.mp nd).1 (List.of_mem_zip hv).1, if_neg hk]
    simp
  | p :: P, w :: vs, i + 1, m, nd, h1, h2, hk => by
    show bindC kindOf ((p, w) :: P.zip vs) m x = _
    unfold bindC
    exact bindC_get (i := i) (List.nodup_cons.mp nd).2 (by simpa using h1) (by simpa using h2) hk

/-- the names' values at the entry -/
def start (N : List Str) (vs : List V) : St := vs.map some ++ List.replicate (N.length - vs.length) none

/-- the context of a def's body, at its entry; an exception leaves the frame, then lies as CX says -/
def cxOf (CX : CXT) (P : Program) (w : World) (K : PySem.W.Frag) (mg : Str → Option Value) (base : Heap) (N : List Str) (qual : Str) (scope : Scope) (f : Addr) (cd : Value) (A : Around) (outer : List Env) (s : Shared) (H : Hp) (E : XK) : Cx where
  prog := P
  w := w
  K := K
  mg := mg
  base := base
  A := A.deeper (envOfC qual scope s.heap.objs.size f cd)
  N := N
  s₀ := s
  H₀ := H
  env := envOfC qual scope s.heap.objs.size f cd
  outer := outer
  stack := envOfC qual scope s.heap.objs.size f cd :: outer
  ex := []
  calm := true
  fn := fun _ => true
  pn := []
  xe := fun e s' => wpAny (model P w) (A.deeper (envOfC qual scope s.heap.objs.size f cd)) (leaving (envOfC qual scope s.heap.objs.size f cd) e) (fun _ s'' => CX outer H s E e s'') (fun e' s'' => CX outer H s E e' s'') s'

theorem cell_has {sc : Scope} {n : Nat} {x : Str} (h : sc.names.lookup x = some .cell) : ∃ c, (cellsFrom n sc.names []).lookup x = some c := by
  have q := PySem.W.cellsFrom_some sc.names n [] (.inl h)
  exact Option.isSome_iff_exists.mp q

theorem inv_start {CX : CXT} {P : Program} {w : World} {K : PySem.W.Frag} {mg : Str → Option Value} {base : Heap} {N ps : List Str} {qual : Str} {scope : Scope} {f : Addr} {cd : Value} {A : Around} {outer : List Env} {s s1 : Shared} {H : Hp} {E : XK} {us : List Value} {vs : List V}
    (S : FnScope N ps scope) (hd : A.handled = none) (e0 : Env0 P w K mg base A outer s H) (hl : vs.length = ps.length) (r : Vals vs us)
    (x : InCallC s s.heap.objs.size (bindL (envOfC qual scope s.heap.objs.size f cd).kindOf (ps.zip us) fun _ => none) (cellsFrom (s.heap.objs.size + 1) scope.names []) (bindC (envOfC qual scope s.heap.objs.size f cd).kindOf (ps.zip us) fun _ => none) s1) :
    Inv (cxOf CX P w K mg base N qual scope f cd A outer s H E) [] (start N vs) H s1 := by
  have hpl : ps.length ≤ N.length := by have := congrArg List.length S.pre; rw [List.length_take] at this; omega
  obtain ⟨h1, tk, rfl, hk⟩ := x.done
  have noA : ∀ b : Addr, b ∉ (cxOf CX P w K mg base N qual scope f cd A outer s H E).ex := fun b z => absurd (show b ∈ ([] : List Addr) from z) (by simp)
  refine ⟨⟨e0.mod, S.kind, rfl, rfl, Nat.le_refl _, fun y z c h1 h2 => ?_, fun y hy => ?_, fun y c _ h => ?_, fun _ => hd, Around.frames_deeper e0.frames, .inr ⟨rfl, rfl⟩, fun b z => absurd z (noA b), e0.bs, e0.bsz, fun b _ _ => noA b, fun b z => absurd z (noA b), e0.funs, e0.frf⟩,
    rfl, e0.bare, Un.kept hk, ⟨_, x.toInCall.ns, fun i y v h1 h2 h3 => ?_⟩, fun y c h => ⟨_, x.cell y c h⟩, e0.hok.fresh (Nat.le_refl _), fun y c h => ?_, fun p hp => absurd (show p ∈ ([] : List (Addr × Obj)) from hp) (by simp), e0.hok.kept hk, ?_⟩
  · exact name_of_addr x.apart (PySem.mem_of_lookup h1) (PySem.mem_of_lookup h2)
  · have hy : scope.names.lookup y = some .cell ∨ scope.names.lookup y = some .free := hy
    rcases hy with hy | hy
    · exact cell_has hy
    · exact absurd rfl (S.nofree _ (PySem.mem_of_lookup hy))
  · exact Nat.le_of_lt (x.above y c (PySem.mem_of_lookup h))
  · have hi : i < vs.length := by
      unfold start at h2
      by_cases hi : i < vs.length
      · exact hi
      · rw [List.getElem?_append_right (by simpa using hi)] at h2
        rw [List.getElem?_replicate] at h2
        split at h2 <;> cases h2
    have ha : vs[i]? = some v := by
      unfold start at h2
      rw [List.getElem?_append_left (by simpa using hi), List.getElem?_map] at h2
      cases e : vs[i]? with
      | none => rw [e] at h2; cases h2
      | some a => rw [e] at h2; cases h2; rfl
    obtain ⟨u, hu, rv⟩ := r.get ha
    have hp : ps[i]? = some y := by
      rw [← S.pre, List.getElem?_take_of_lt (by omega)]; exact h1
    have ndP : ps.Nodup := by rw [← S.pre]; exact S.nd.sublist (List.take_sublist _ _)
    refine ⟨u, rv, ?_⟩
    rcases S.par y (List.mem_of_getElem? hp) with k | k
    · exact .inl ⟨k, bindL_get ndP hp hu k⟩
    · obtain ⟨c, e⟩ := cell_has (n := s.heap.objs.size + 1) k
      refine .inr ⟨.inl k, c, e, ?_⟩
      have q := x.cell y c e
      rw [bindC_get ndP hp hu (by show scope.names.lookup y ≠ _; rw [k]; decide)] at q
      exact q
  · exact e0.hok.fresh (Nat.le_of_lt (x.above y c (PySem.mem_of_lookup h)))
  · unfold start
    show _ = N.length
    rw [List.length_append, List.length_map, List.length_replicate]
    omega

/-- THE RULE: a def (or a method) of the text, by its body. The body's reading t is chosen for each entry; it is run at the parameters' values -/
theorem fn_of {CX : CXT} {P : Program} {w : World} {K : PySem.W.Frag} {mg : Str → Option Value} {base : Heap} {k : Nat} {f : Addr} {name qual : Str} {params : Arguments} {body : List Stmt} {scope : Scope} {dV kV doc pm cdv ct oc : Value} {an od : Option Addr}
    {osl : Array (Option Value)} {N ps : List Str} {sp : Sp} (lk : K.lookup f = some ⟨oc, od, .func (PySem.W.fnOf name qual params body scope dV kV doc pm an cdv ct), osl⟩) (hcd : PySem.W.codeIn K cdv qual = true) (S : FnScope N ps scope)
    (len : ∀ vs H Q E, sp vs H Q E → vs.length = ps.length)
    (hbody : ∀ (A : Around) (outer : List Env) (s : Shared) (H : Hp) (vs : List V) (Q : VK) (E : XK), Room k (A.deeper (envOfC qual scope s.heap.objs.size f cdv)) → sp vs H Q E →
      ∃ t, PSs (cxOf CX P w K mg base N qual scope f cdv A outer s H E) body t ∧ t { nx := fun _ H' => Q .non H', rt := Q } (start N vs) H) :
    FnOk P w K mg base CX (k + 1) f (PySem.W.fnOf name qual params body scope dV kV doc pm an cdv ct) ps sp := by
  refine ⟨len, fun A outer s H args us vs Q E hr e0 hb r hsp => ?_⟩
  have hl := len _ _ _ _ hsp
  have KX : K.In s.heap := e0.mod.kin.keeps fun b o e => (e0.bs b o e).1
  have lim : s.heap.NoLimit := e0.mod.nolimit.keeps fun b o e => (e0.bs b o e).1
  have hkind : ∀ y ∈ ps.zip us, scope.names.lookup y.1 = some .local ∨ (scope.names.lookup y.1 = some .cell ∧ ((cellsFrom (s.heap.objs.size + 1) scope.names []).lookup y.1).isSome = true) := fun ⟨n, v⟩ hy => by
    rcases S.par n (List.of_mem_zip hy).1 with q | q
    · exact .inl q
    · exact .inr ⟨q, PySem.W.cellsFrom_some _ _ _ (.inl q)⟩
  refine codeAny_call_function hr.depth (KX _ _ lk) rfl S.co S.gen rfl (PySem.W.codeRec_of KX hcd) (hb _ _ _ _ ?_)
  refine wpAny_newFunctionEnv_cells S.kind hkind fun env he s1 x => ?_
  subst he
  refine ⟨lim.keeps x.toInCall.keep, codeAny_func ?_⟩
  obtain ⟨t, ht, hq⟩ := hbody A outer s H vs Q E (hr.deeper _) hsp
  have I : Inv (cxOf CX P w K mg base N qual scope f cdv A outer s H E) [] (start N vs) H s1 := inv_start S hr.hd e0 hl r x
  refine wpAny_mono (ht [] s1 (start N vs) H _ I hq) (fun fl s' hs => ?_) fun e s' hs => hs
  have fin : ∀ {σ' : St} {H' : Hp} {v : V} {u : Value}, Inv (cxOf CX P w K mg base N qual scope f cdv A outer s H E) [] σ' H' s' → RelV v u → Q v H' → CE outer P w H s Q u s' :=
    fun {σ' H' v u} J rv q => ⟨v, H', J.os, J.bare, J.base, J.hok, rv, q⟩
  cases fl with
  | ret u =>
    obtain ⟨v, σ', H', J, rv, q⟩ := hs
    exact fin J rv q
  | next =>
    obtain ⟨σ', H', J, q⟩ := hs
    exact fin (v := V.non) (u := Value.none) J rfl q
  | brk =>
    obtain ⟨_, _, _, q⟩ := hs
    exact False.elim q
  | cont =>
    obtain ⟨_, _, _, q⟩ := hs
    exact False.elim q
end L2

namespace L2
open PySem PySem.Spec PyProof.Rows
section
variable {X : Cx} {x : Str} {p pos : Pos} {e : Expr} {es : List Expr} {t : TA} {id T : String} {r : List V → Hp → VK → Prop}

def tCB (r : List V → Hp → VK → Prop) (t : TA) : TE := fun σ H Q => t σ H fun vs H1 => r vs H1 Q
/-- f(e, ..), f a built-in function -/
theorem pe_callB (hc : CallR X (.builtin id) r) (hg : Gl X x) (hm : X.mg x = none) (hv : bootBuiltins x = some (.builtin id)) (ha : PA X (e :: es) t) (hn : x ≠ "__name__" := by decide) (hdb : (x == ("__debug__" : Str)) = false := by decide)
    (he : starEach (e :: es) X.env = (false, eval e X.env) :: starEach es X.env := by rfl) (hpl : (backTo pos (starEach es X.env)).any (·.1) = false := by rfl) : PE X (.Call (.Name x p) (e :: es) [] pos) (tCB r t) := by
  intro pins s σ H Q I h
  refine wpAny_Call_Name_kw (ld_blt I hg hm hv ?_ hn hdb)
  exact PyProof.Rows.callWith_builtin1 (thn (ha pos pins s σ H _ I h) fun us s1 ⟨vs, H1, I1, r1, q1⟩ => hc pins s1 σ H1 vs us Q I1 r1 q1) he hpl
/-- T(e, ..), T a built-in type -/
theorem pe_callTy (hc : CallR X (.type T) r) (hg : Gl X x) (hm : X.mg x = none) (hv : bootBuiltins x = some (.type T)) (ha : PA X (e :: es) t) (hn : x ≠ "__name__" := by decide) (hdb : (x == ("__debug__" : Str)) = false := by decide)
    (he : starEach (e :: es) X.env = (false, eval e X.env) :: starEach es X.env := by rfl) (hpl : (backTo pos (starEach es X.env)).any (·.1) = false := by rfl) : PE X (.Call (.Name x p) (e :: es) [] pos) (tCB r t) := by
  intro pins s σ H Q I h
  refine wpAny_Call_Name_kw (ld_blt I hg hm hv ?_ hn hdb)
  exact PyProof.Rows.callWith_type1 (thn (ha pos pins s σ H _ I h) fun us s1 ⟨vs, H1, I1, r1, q1⟩ => hc pins s1 σ H1 vs us Q I1 r1 q1) he hpl
/-- T() -/
theorem pe_callTy0 (hc : CallR X (.type T) r) (hg : Gl X x) (hm : X.mg x = none) (hv : bootBuiltins x = some (.type T)) (hn : x ≠ "__name__" := by decide) (hdb : (x == ("__debug__" : Str)) = false := by decide) :
    PE X (.Call (.Name x p) [] [] pos) (tCB r tNil) := by
  intro pins s σ H Q I h
  refine wpAny_Call_Name_kw (ld_blt I hg hm hv ?_ hn hdb)
  exact PyProof.Rows.callWith_type0 (hc pins s σ H [] [] Q I .nil h)
end
end L2

namespace HT
open PySem PyProof.Rows

/-- t < u of tuples of ints -/
def lexLt : List Int → List Int → Bool
  | [], [] => false
  | [], _ :: _ => true
  | _ :: _, [] => false
  | x :: xs, y :: ys => if x = y then lexLt xs ys else decide (x < y)
theorem lexLt_cons (x y : Int) (xs ys : List Int) : lexLt (x :: xs) (y :: ys) = if x = y then lexLt xs ys else decide (x < y) := rfl
theorem lexLt_nil_nil : lexLt [] [] = false := rfl
theorem lexLt_nil_cons (y : Int) (ys : List Int) : lexLt [] (y :: ys) = true := rfl
theorem lexLt_cons_nil (x : Int) (xs : List Int) : lexLt (x :: xs) [] = false := rfl

theorem eqAt_int (A : Around) (s : Shared) (a : Int) (t : Tok) (c : Int) (u : Tok) : ∃ e, SeqAt.EqAt A s (.int a t) (.int c u) e ∧ (e = true ↔ a = c) :=
  ⟨(a == c), SeqAt.EqAt.int_int a t c u, by simp⟩
theorem rcLt_int (A : Around) (s : Shared) (a : Int) (t : Tok) (c : Int) (u : Tok) (prog : Program) (w : World) (E : Value → Shared → Prop) (Q : Value → Shared → Prop) (h : Q (.bool (decide (a < c))) s) :
    wpAny (model prog w) A (richCompare .Lt (.int a t) (.int c u)) Q E s :=
  (PyProof.Rows.lt_int h : wpAny (model prog w) A (compareOp .Lt (.int a t) (.int c u)) Q E s)

section
open PySem.SeqAt
open PySem.AutoSeq1 (wpAny_loadPart')
open PySem.MeetsSeq PySem.MeetsSeq2 PySem.MeetsSeq3

theorem tuple_lt_ints (l b : Addr) (items items2 : Array Value) (n n2 : Nat) (dd dd2 : Option Addr) (sl sl2 : Array (Option Value)) (ns ms : List Int) (hi : IntsAre items.toList ns) (hj : IntsAre items2.toList ms) :
    Meets (Builtin.«tuple.__lt__» ⟨[.ref l, .ref b], []⟩)
      (fun _ R s => s.heap.get? l = some { cls := .type "tuple", dict := dd, data := .seq items n, slots := sl } ∧ s.heap.get? b = some { cls := .type "tuple", dict := dd2, data := .seq items2 n2, slots := sl2 } ∧
        R (.ok (.ret (.bool (lexLt ns ms)))) s) :=
  .of_wp fun prog w A R s h => by
    obtain ⟨hp, g, d, tk, os⟩ := s; obtain ⟨hl, hb, h⟩ := h
    have f2 := AutoSeq1.sub_tuple_tuple
    have z1 : items.size = ns.length := by rw [← hi.length]; simp
    have z2 : items2.size = ms.length := by rw [← hj.length]; simp
    wp_walk using wpAny_loadPart' hl, wpAny_loadPart' hb, wpAny_forIn_list _ (fun rest b s' => b.1 = none ∧ s' = ⟨hp, g, d, tk, os⟩ ∧ ∃ (vs ws : List Value) (ns' ms' : List Int), rest = vs.zip ws ∧
      IntsAre vs ns' ∧ IntsAre ws ms' ∧ ns'.length + items2.size = ms'.length + items.size ∧ R (.ok (.ret (.bool (lexLt ns' ms')))) ⟨hp, g, d, tk, os⟩) _
    case turn =>
      rintro ⟨y, x⟩ rest b s' ⟨hb', rfl, vs, ws, ns', ms', hz, hvi, hwi, hlen, hR⟩
      cases hvi with
      | nil => rw [List.zip_nil_left] at hz; cases hz
      | cons a t hvi' =>
        cases hwi with
        | nil => rw [List.zip_nil_right] at hz; cases hz
        | cons c u hwi' =>
          rw [List.zip_cons_cons] at hz
          injection hz with hyx hrest
          injection hyx with hy hx
          subst hy hx
          rw [lexLt_cons] at hR
          simp only [List.length_cons] at hlen
          obtain ⟨e, he, hiff⟩ := eqAt_int A.in1 ⟨hp, g, d, tk, os⟩ a t c u
          refine wpAny_bind (he prog w _ _ ?_)
          cases e with
          | true =>
            rw [if_pos (hiff.mp rfl)] at hR
            wp_walk
            exact ⟨rfl, rfl, _, _, _, _, hrest, hvi', hwi', by omega, hR⟩
          | false =>
            rw [if_neg (fun q => absurd (hiff.mpr q) Bool.false_ne_true)] at hR
            have hri := rcLt_int A.in1 ⟨hp, g, d, tk, os⟩ a t c u prog w
            wp_walk using hri
            exact ⟨_, rfl, by simpa using hR⟩
    case fin =>
      rintro ⟨b1, b2⟩ s' ⟨hb', rfl, vs, ws, ns', ms', hz, hvi, hwi, hlen, hR⟩
      simp only at hb'
      subst hb'
      have hv : lexLt ns' ms' = decide (items.size < items2.size) := by
        cases hvi with
        | nil =>
          cases hwi with
          | nil =>
            simp only [List.length_nil] at hlen
            rw [lexLt_nil_nil]
            exact (decide_eq_false (by omega)).symm
          | cons c u hw =>
            simp only [List.length_nil, List.length_cons] at hlen
            rw [lexLt_nil_cons]
            exact (decide_eq_true (by omega)).symm
        | cons a t hv =>
          cases hwi with
          | nil =>
            simp only [List.length_nil, List.length_cons] at hlen
            rw [lexLt_cons_nil]
            exact (decide_eq_false (by omega)).symm
          | cons c u hw =>
            rw [List.zip_cons_cons] at hz
            cases hz
      rw [hv] at hR
      wp_walk
      exact ⟨_, rfl, by simpa [Builtin.Tuple.tupleCompareSizes] using hR⟩
    case h =>
      exact ⟨rfl, rfl, items.toList, items2.toList, ns, ms, rfl, hi, hj, by omega, h⟩
end

section
variable {prog : Program} {w : World} {A : Around} {E : Value → Shared → Prop} {s : Shared}

theorem lt_tupInts {l b : Addr} {items items2 : Array Value} {ns ms : List Int} {Q : Value → Shared → Prop} (hl : IsTup s.heap l items) (hb : IsTup s.heap b items2) (hi : IntsAre items.toList ns) (hj : IntsAre items2.toList ms)
    (hu : A.units < cLine) (h : Q (.bool (lexLt ns ms)) s) : wpAny (model prog w) A (compareOp .Lt (.ref l) (.ref b)) Q E s := by
  obtain ⟨⟨cls, dd, data, sl⟩, ho, hc, n, hd⟩ := id hl
  obtain ⟨⟨cls2, dd2, data2, sl2⟩, ho2, hc2, n2, hd2⟩ := id hb
  simp only at hc hd hc2 hd2
  subst hc hd hc2 hd2
  exact richCompare_meets_room (op := .Lt) ⟨_, ho, rfl⟩ ⟨_, ho2, rfl⟩ PySem.F.slot_tuple_lt PySem.F.entry_tuple_lt (PySem.F.args_tuple_lt_2 _ _) (tuple_lt_ints l b items items2 n n2 dd dd2 sl sl2 ns ms hi hj)
    ⟨ho, ho2, show Value.bool (lexLt ns ms) ≠ Value.notImplemented ∧ Q (.bool (lexLt ns ms)) s from ⟨(fun x => nomatch x), h⟩⟩ hu

/-- t + u, t not empty -/
theorem cat_tup {t b : Addr} {vs ws : List Value} {Q : Value → Shared → Prop} (ht : IsTup s.heap t vs.toArray) (hb : IsTup s.heap b ws.toArray) (hv : vs ≠ [])
    (h1 : ws = [] → Q (.ref t) s) (h2 : ws ≠ [] → Q (.ref s.heap.objs.size) { s with heap := s.heap.push { cls := .type "tuple", data := .seq (vs ++ ws).toArray } })
    (hsz : vs.length + ws.length ≤ sizeLine) : wpAny (model prog w) A (binaryOp .Add (.ref t) (.ref b)) Q E s := by
  obtain ⟨⟨cls, dd, data, sl⟩, ho, hc, n, hd⟩ := id ht
  obtain ⟨⟨cls2, dd2, data2, sl2⟩, ho2, hc2, n2, hd2⟩ := id hb
  simp only at hc hd hc2 hd2
  subst hc hd hc2 hd2
  have e : vs.toArray ++ ws.toArray = (vs ++ ws).toArray := by simp
  by_cases hw : ws = []
  · exact concat_meets ⟨_, ho, rfl⟩ ⟨_, ho2, rfl⟩ noFill_tuple_add seq_tuple_add PySem.F.slot_tuple_add PySem.F.entry_tuple_add (PySem.F.args_tuple_add_2 _ _)
      (tuple_addW1 t b vs.toArray ws.toArray n n2 dd dd2 sl sl2 (by simpa using hv) (by simp [hw])) ⟨ho, ho2, h1 hw⟩
  · refine concat_meets ⟨_, ho, rfl⟩ ⟨_, ho2, rfl⟩ noFill_tuple_add seq_tuple_add PySem.F.slot_tuple_add PySem.F.entry_tuple_add (PySem.F.args_tuple_add_2 _ _)
      (tuple_addW2 t b vs.toArray ws.toArray n n2 dd dd2 sl sl2 (by simpa using hv) (by simpa using hw) (by rw [List.size_toArray, List.size_toArray]; exact hsz)) ⟨ho, ho2, ?_⟩
    rw [e]
    exact h2 hw

/-! ### t[a:b], not the whole -/
/-- a slice's bound as a place among n (d where it is left out) -/
def sIx (n d : Nat) : Option Int → Nat
  | none => d
  | some v => if v < 0 then (v + (n : Int)).toNat else min v.toNat n
theorem sIx_none (n d : Nat) : sIx n d none = d := rfl
theorem sIx_nat (n d k : Nat) : sIx n d (some (k : Int)) = min k n := by
  show (if (k : Int) < 0 then ((k : Int) + (n : Int)).toNat else min (k : Int).toNat n) = min k n
  rw [if_neg (by omega), Int.toNat_natCast]
theorem sIx_le (n d : Nat) (hd : d ≤ n) (o : Option Int) : sIx n d o ≤ n := by
  cases o with
  | none => exact hd
  | some v =>
    show (if v < 0 then (v + (n : Int)).toNat else min v.toNat n) ≤ n
    by_cases hv : v < 0
    · rw [if_pos hv]; omega
    · rw [if_neg hv]; exact Nat.min_le_right _ _
theorem clip_eq (v : Int) (n d : Nat) : (if v < 0 then max (v + (n : Int)) 0 else min v (n : Int)) = ((sIx n d (some v) : Nat) : Int) := by
  show (if v < 0 then max (v + (n : Int)) 0 else min v (n : Int)) = (((if v < 0 then (v + (n : Int)).toNat else min v.toNat n) : Nat) : Int)
  by_cases hv : v < 0
  · simp only [if_pos hv]; omega
  · simp only [if_neg hv]; omega
theorem adjust_gen (lo hi : Option Int) (n : Nat) : Builtin.Slice.sliceAdjust lo hi 1 (n : Int) = (((sIx n 0 lo : Nat) : Int), ((sIx n n hi : Nat) : Int)) := by
  have h1 : ¬ ((1 : Int) < 0) := by omega
  unfold Builtin.Slice.sliceAdjust
  simp only [h1, if_false]
  refine Prod.ext ?_ ?_
  · cases lo with
    | none => rfl
    | some v => exact clip_eq v n 0
  · cases hi with
    | none => rfl
    | some v => exact clip_eq v n n
theorem places_gen (i j : Nat) : Builtin.Slice.slicePlaces (i : Int) (j : Int) 1 = j - i := by
  unfold Builtin.Slice.slicePlaces
  have h1 : (1 : Int) > 0 := by omega
  simp only [h1, if_true, Int.ediv_one]
  split <;> omega
theorem slicePart_ {v : Value} {o : Option Int} {Q : Option Int → Shared → Prop} (p : IsPart v o) (h : Q o s) : wpAny (model prog w) A (Builtin.Slice.slicePartIndex v) Q E s := by
  cases p with
  | none => exact slicePart_none h
  | int i t => exact slicePart_int h
theorem sliceApplied_gen {sl : Addr} {vl vu : Value} {lo hi : Option Int} {n : Nat} {Q : Int × Int × Nat → Shared → Prop} (hs : s.heap.IsSliceOf sl vl vu .none) (pl : IsPart vl lo) (pu : IsPart vu hi)
    (h : Q (((sIx n 0 lo : Nat) : Int), 1, sIx n n hi - sIx n 0 lo) s) : wpAny (model prog w) A (Builtin.Slice.sliceApplied (.ref sl) (pure (n : Int))) Q E s := by
  obtain ⟨os, hos, hcs, hds⟩ := id hs
  unfold Builtin.Slice.sliceApplied Builtin.Slice.sliceFields
  refine wpAny_bind (wpAny_bind (wpAny_field hos hds (x := vl) rfl (wpAny_bind (wpAny_field hos hds (x := vu) rfl (wpAny_bind (wpAny_field hos hds (x := .none) rfl (wpAny_pure ?_)))))))
  refine wpAny_bind (slicePart_none ?_)
  show wpAny _ _ (if ((1 : Int) == 0) = true then _ else _) _ _ s
  rw [if_neg (by decide)]
  refine wpAny_bind (slicePart_ pl (wpAny_bind (slicePart_ pu (wpAny_bind (wpAny_pure ?_)))))
  show wpAny _ _ (match Builtin.Slice.sliceAdjust lo hi 1 (n : Int) with | (lo, hi) => pure (lo, (1 : Int), Builtin.Slice.slicePlaces lo hi 1)) _ _ s
  rw [adjust_gen lo hi n]
  show wpAny _ _ (pure (((sIx n 0 lo : Nat) : Int), (1 : Int), Builtin.Slice.slicePlaces ((sIx n 0 lo : Nat) : Int) ((sIx n n hi : Nat) : Int) 1)) _ _ s
  rw [places_gen]
  exact wpAny_pure h
theorem pick_gen (xs : Array Value) (i k : Nat) : ((List.range k).filterMap fun (m : Nat) => xs[((i : Int) + (m : Int) * 1).toNat]?).toArray = ((xs.toList.drop i).take k).toArray := by
  have e : (fun (m : Nat) => xs[((i : Int) + (m : Int) * 1).toNat]?) = fun m => xs[i + m]? := by
    funext m
    have : ((i : Int) + (m : Int) * 1).toNat = i + m := by omega
    rw [this]
  rw [e]
  have := pick_run xs i k
  rw [List.filterMap_map] at this
  have e2 : ((fun x => xs[x]?) ∘ fun x => i + x) = fun m => xs[i + m]? := rfl
  rw [e2] at this
  rw [this]

theorem getItem_tuple_cut {t sl : Addr} {items : Array Value} {vl vu : Value} {lo hi : Option Int} {Q : Value → Shared → Prop} (ht : IsTup s.heap t items) (hs : s.heap.IsSliceOf sl vl vu .none) (pl : IsPart vl lo) (pu : IsPart vu hi)
    (hw : ¬ (sIx items.size 0 lo = 0 ∧ sIx items.size items.size hi = items.size))
    (h : Q (.ref s.heap.objs.size) { s with heap := s.heap.push { cls := .type "tuple", data := .seq ((items.toList.drop (sIx items.size 0 lo)).take (sIx items.size items.size hi - sIx items.size 0 lo)).toArray } })
    (hsz : items.size ≤ sizeLine) : wpAny (model prog w) A (getItem (.ref t) (.ref sl)) Q E s := by
  have htake : sizeOk (.seq ((items.toList.drop (sIx items.size 0 lo)).take (sIx items.size items.size hi - sIx items.size 0 lo)).toArray) := by
    show ((items.toList.drop (sIx items.size 0 lo)).take (sIx items.size items.size hi - sIx items.size 0 lo)).toArray.size ≤ sizeLine
    rw [List.size_toArray, List.length_take, List.length_drop, Array.length_toList]
    omega
  have hj : sIx items.size items.size hi ≤ items.size := sIx_le _ _ (Nat.le_refl _) hi
  obtain ⟨os, hos, hcs, hds⟩ := id hs
  have hTs : s.TypeIs (.ref sl) "slice" := ⟨os, hos, hcs⟩
  unfold getItem
  try with_reducible refine wpAny_holding ?_
  first | refine wpAny_bind (wpAny_pure ?_) | skip
  refine wpAny_bind (wpAny_sequenceKey ht.typeIs (by decide) ?_)
  refine wpAny_bind (wpAny_callSpecial?_slot (name := Str.ofString "__getitem__") ht.typeIs PyProof.Rows.slot_tuple_getitem
    (wpAny_call_entry PyProof.Rows.slot_tuple_getitem ht.typeIs entry_tuple_getitem ?_ (args_tuple_getitem _ _)))
  show wpAny _ _ (Builtin.Tuple.tupleItemsOf (.ref t) >>= _) _ _ s
  refine wpAny_bind (tupleItemsOf_ ht ?_)
  refine wpAny_bind (wpAny_typeOf hTs ?_)
  rw [if_pos (by decide)]
  refine wpAny_bind (sliceApplied_gen hs pl pu ?_)
  have hno : ¬ ((((sIx items.size 0 lo : Nat) : Int) == 0 && (1 : Int) == 1 && (sIx items.size items.size hi - sIx items.size 0 lo) == items.size) = true) := by
    intro q
    rw [Bool.and_eq_true, Bool.and_eq_true] at q
    have q1 : ((sIx items.size 0 lo : Nat) : Int) = 0 := eq_of_beq q.1.1
    have q2 : sIx items.size items.size hi - sIx items.size 0 lo = items.size := eq_of_beq q.2
    exact hw ⟨by omega, by omega⟩
  show wpAny _ _ (if (((sIx items.size 0 lo : Nat) : Int) == 0 && (1 : Int) == 1 && (sIx items.size items.size hi - sIx items.size 0 lo) == items.size) = true then _ else _) _ _ s
  rw [if_neg hno, pick_gen]
  first
    | exact wpAny_bind (m := Builtin.Tuple.tupleExact _) (wpAny_newObj_type (wpAny_pure ⟨_, rfl, wpAny_pure h⟩) htake)
    | exact wpAny_bind (m := Builtin.Tuple.tupleExact _) (wpAny_newObj_type (wpAny_bind (wpAny_pure (wpAny_pure ⟨_, rfl, wpAny_pure h⟩))) htake)
    | exact wpAny_bind (wpAny_bind (m := Builtin.Tuple.tupleExact _) (wpAny_newObj_type (wpAny_pure (wpAny_pure ⟨_, rfl, wpAny_pure h⟩)) htake))
    | exact wpAny_bind (wpAny_bind (m := Builtin.Tuple.tupleExact _) (wpAny_newObj_type (wpAny_pure ⟨_, rfl, wpAny_pure h⟩) htake))
end
end HT

namespace L2
open PySem PySem.Spec PyProof.Rows

/-! ### the parts of a slice -/
abbrev TO := St → Hp → (Option Int → Hp → Prop) → Prop
/-- a slice's part (left out, or an int) -/
def PO (X : Cx) (e : Option Expr) (t : TO) : Prop :=
  ∀ (pins : List (Addr × Obj)) (s : Shared) (σ : St) (H : Hp) (Q : Option Int → Hp → Prop), Inv X pins σ H s → t σ H Q →
    wpAny (model X.prog X.w) X.A (evalPart e X.env) (fun u s' => ∃ o H', Inv X pins σ H' s' ∧ IsPart u o ∧ Q o H') X.xe s
def tNoPart : TO := fun _ H Q => Q none H
def tPart (t : TE) : TO := fun σ H Q => t σ H fun x H1 => ∃ i, x = .int i ∧ Q (some i) H1

theorem intsAre_of {ns : List Int} : ∀ {us : List Value}, Vals (ns.map V.int) us → IntsAre us ns := by
  induction ns with
  | nil => intro us r; rw [List.map_nil] at r; cases r; exact .nil
  | cons n ns ih =>
    intro us r
    rw [List.map_cons] at r
    cases r with
    | cons r1 r2 =>
      obtain ⟨t, e⟩ := r1
      subst e
      exact .cons n t (ih r2)

section
variable {X : Cx} {e : Expr} {te : TE} {lo hi : Option Expr} {tl th : TO} {pos p2 : Pos}

theorem po_none : PO X none tNoPart := by
  intro pins s σ H Q I h
  rw [evalPart_none]
  exact wpAny_pure ⟨none, H, I, .none, h⟩
theorem po_some (h : PE X e te) : PO X (some e) (tPart te) := by
  intro pins s σ H Q I hw
  rw [evalPart_some]
  refine thn (h pins s σ H _ I hw) fun u s1 ⟨x, H1, I1, r1, q1⟩ => ?_
  obtain ⟨i, rfl, q⟩ := q1
  obtain ⟨t, rfl⟩ := r1
  exact ⟨some i, H1, I1, .int i t, q⟩

/-- what a slice of a value is, by values: the slice object stands at sl -/
def SlR (X : Cx) (r : V → Option Int → Option Int → Hp → VK → Prop) : Prop :=
  ∀ (pins : List (Addr × Obj)) (s : Shared) (σ : St) (H : Hp) (x : V) (v vl vu : Value) (lo hi : Option Int) (sl : Addr) (Q : VK), Inv X pins σ H s → RelV x v → s.heap.IsSliceOf sl vl vu .none → IsPart vl lo → IsPart vu hi → r x lo hi H Q →
    ∃ T id, typeLookup (.type T) "__getitem__" = pure (some (.builtin id)) ∧ s.TypeIs v T ∧ wpAny (model X.prog X.w) X.A (getItem v (.ref sl)) (EP X pins σ Q) X.xe s
theorem SlR.or {r r' : V → Option Int → Option Int → Hp → VK → Prop} (h : SlR X r) (h' : SlR X r') : SlR X (fun x lo hi H Q => r x lo hi H Q ∨ r' x lo hi H Q) := by
  intro pins s σ H x v vl vu lo hi sl Q I rx hs pl pu q
  rcases q with q | q
  · exact h pins s σ H x v vl vu lo hi sl Q I rx hs pl pu q
  · exact h' pins s σ H x v vl vu lo hi sl Q I rx hs pl pu q
def tSl (r : V → Option Int → Option Int → Hp → VK → Prop) (te : TE) (tl th : TO) : TE := fun σ H Q => te σ H fun x H1 => tl σ H1 fun l H2 => th σ H2 fun u H3 => r x l u H3 Q
/-- a[lo:hi], any a -/
theorem pe_slice {r : V → Option Int → Option Int → Hp → VK → Prop} (hr : SlR X r) (he : PE X e te) (hl : PO X lo tl) (hu : PO X hi th) : PE X (.Subscript e (.Slice lo hi none p2) pos) (tSl r te tl th) := by
  intro pins s σ H Q I h
  refine Subscript_ (thn (he pins s σ H _ I h) fun v s1 ⟨x, H1, I1, r1, q1⟩ => ?_)
  refine wpAny_Slice (thn (hl pins s1 σ H1 _ I1 q1) fun vl s2 ⟨l, H2, I2, pl, q2⟩ => thn (hu pins s2 σ H2 _ I2 q2) fun vu s3 ⟨u, H3, I3, pu, q3⟩ => ?_)
  rw [evalPart_none]
  refine wpAny_pure ?_
  have I4 : Inv X pins σ H3 { s3 with heap := s3.heap.push { cls := .type "slice", data := .fields #[vl, vu, .none] } } := I3.kept (t' := s3.toks) fun b ob q => Heap.get?_push_of_some _ q
  obtain ⟨T, id, hT, ht, hg⟩ := hr pins { s3 with heap := s3.heap.push { cls := .type "slice", data := .fields #[vl, vu, .none] } } σ H3 x v vl vu l u s3.heap.objs.size Q I4 r1 (Heap.IsSliceOf.new ..) pl pu q3
  show wpAny (model X.prog X.w) X.A (subscriptTail e (.Slice lo hi none p2) v (.ref s3.heap.objs.size)) (EP X pins σ Q) X.xe { s3 with heap := s3.heap.push { cls := .type "slice", data := .fields #[vl, vu, .none] } }
  exact tail_any (ops := [.ref s3.heap.objs.size, v]) ht hT hg (by with_unfolding_all rfl)

/-- the items of xs[lo:hi] -/
def cutV (xs : List V) (lo hi : Option Int) : List V := (xs.drop (HT.sIx xs.length 0 lo)).take (HT.sIx xs.length xs.length hi - HT.sIx xs.length 0 lo)
theorem cutV_length (xs : List V) (lo hi : Option Int) : (cutV xs lo hi).length ≤ xs.length := by
  unfold cutV
  rw [List.length_take, List.length_drop]
  omega
/-- t[lo:hi], not the whole of it (the whole would be t itself) -/
def rSlT (K : PySem.W.Frag) : V → Option Int → Option Int → Hp → VK → Prop := fun x lo hi H Q => ∃ a xs, x = .ref a ∧ SqT K H a xs ∧
  ¬ (HT.sIx xs.length 0 lo = 0 ∧ HT.sIx xs.length xs.length hi = xs.length) ∧ ∀ p, H p = none → Q (.ref p) (upd H p (.tup (cutV xs lo hi)))
theorem sl_tup : SlR X (rSlT X.K) := by
  intro pins s σ H x v vl vu lo hi sl Q I rx hs pl pu h
  obtain ⟨a, xs, rfl, hx, hw, q⟩ := h
  cases rx
  obtain ⟨its, r, ht, hz⟩ := I.tuple hx
  have hlen : its.toArray.size = xs.length := by rw [List.size_toArray]; exact r.length.symm
  refine ⟨"tuple", _, PyProof.Rows.slot_tuple_getitem.lookup, ht.typeIs, ?_⟩
  refine HT.getItem_tuple_cut ht hs pl pu (by rw [hlen]; exact hw) ?_ (by rw [hlen]; exact hz)
  rw [hlen]
  refine ⟨.ref s.heap.objs.size, _, I.laid (t' := s.toks) (o := .tup (cutV xs lo hi)) (fun b ob q => Heap.get?_push_of_some _ q) (Nat.le_refl _) ?_, rfl, q _ (I.hok.fresh (Nat.le_refl _))⟩
  exact ⟨Nat.le_trans (cutV_length xs lo hi) hz, _, (r.drop (HT.sIx xs.length 0 lo)).take (HT.sIx xs.length xs.length hi - HT.sIx xs.length 0 lo), IsTup.new _ _⟩

/-! ### t < u, t + u -/
def rLtT (K : PySem.W.Frag) : R2 := fun x y H Q => ∃ a b ns ms, x = .ref a ∧ y = .ref b ∧ SqT K H a (ns.map V.int) ∧ SqT K H b (ms.map V.int) ∧ Q (.bl (HT.lexLt ns ms)) H
theorem op_ltT (hu : X.A.units < cLine) : OpR X (compareOp .Lt) (rLtT X.K) := by
  intro pins s σ H x y v u Q I rx ry h
  obtain ⟨a, b, ns, ms, rfl, rfl, ha, hb, q⟩ := h
  cases rx
  cases ry
  obtain ⟨its, r1, p1, _⟩ := I.tuple ha
  obtain ⟨its2, r2, p2, _⟩ := I.tuple hb
  have i1 : IntsAre its.toArray.toList ns := intsAre_of r1
  have i2 : IntsAre its2.toArray.toList ms := intsAre_of r2
  exact HT.lt_tupInts p1 p2 i1 i2 hu ⟨.bl (HT.lexLt ns ms), H, I, rfl, q⟩
/-- t + u, t not empty: u empty gives t itself -/
def rCatT (K : PySem.W.Frag) : R2 := fun x y H Q => ∃ a b xs ys, x = .ref a ∧ y = .ref b ∧ SqT K H a xs ∧ SqT K H b ys ∧ xs ≠ [] ∧ xs.length + ys.length ≤ sizeLine ∧
  (ys = [] → Q (.ref a) H) ∧ (ys ≠ [] → ∀ p, H p = none → Q (.ref p) (upd H p (.tup (xs ++ ys))))
theorem Vals.nil_iff {xs : List V} {us : List Value} (r : Vals xs us) : us = [] ↔ xs = [] := by
  cases r with
  | nil => simp
  | cons _ _ => simp
theorem op_catT : OpR X (binaryOp .Add) (rCatT X.K) := by
  intro pins s σ H x y v u Q I rx ry h
  obtain ⟨a, b, xs, ys, rfl, rfl, ha, hb, hx, hz, q1, q2⟩ := h
  cases rx
  cases ry
  obtain ⟨its, r1, p1, _⟩ := I.tuple ha
  obtain ⟨its2, r2, p2, _⟩ := I.tuple hb
  refine HT.cat_tup p1 p2 (fun z => hx (r1.nil_iff.mp z)) (fun z => ⟨.ref a, H, I, rfl, q1 (r2.nil_iff.mp z)⟩) (fun z => ?_) (by rw [← r1.length, ← r2.length]; exact hz)
  refine ⟨.ref s.heap.objs.size, _, I.laid (t' := s.toks) (o := .tup (xs ++ ys)) (fun b ob q => Heap.get?_push_of_some _ q) (Nat.le_refl _) ?_, rfl, q2 (fun w => z (r2.nil_iff.mpr w)) _ (I.hok.fresh (Nat.le_refl _))⟩
  exact ⟨by rw [List.length_append]; exact hz, _, r1.append r2, IsTup.new _ _⟩
/-- tuple(t) -/
theorem call_tupleT : CallR X (.type "tuple") (fun xs H Q => ∃ a ys, xs = [.ref a] ∧ SqT X.K H a ys ∧ Q (.ref a) H) := by
  intro pins s σ H xs us Q I r h
  obtain ⟨a, ys, rfl, ha, q⟩ := h
  obtain ⟨u, rfl, ru⟩ := vals1 r
  cases ru
  obtain ⟨its, _, p1, _⟩ := I.tuple ha
  exact call_tuple_same (items := its.toArray) p1 ⟨.ref a, H, I, rfl, q⟩
end
end L2

namespace L2
open PySem PySem.Spec PyProof.Rows

/-! ### places -/
/-- the place that an index of any sign means -/
def ixN (n : Nat) (i : Int) : Option Nat := if 0 ≤ i then (if i < n then some i.toNat else none) else if -(n : Int) ≤ i then some (i + n).toNat else none
def atI {α : Type} (xs : List α) (i : Int) : Option α := (ixN xs.length i).bind fun j => xs[j]?
theorem ixN_seq {n : Nat} {i : Int} {j : Nat} (h : ixN n i = some j) : seqIndex? i n = some j ∧ j < n ∧ -(n : Int) ≤ i ∧ i < n := by
  unfold ixN at h
  by_cases h0 : 0 ≤ i
  · rw [if_pos h0] at h
    by_cases h1 : i < n
    · rw [if_pos h1] at h
      have e : i.toNat = j := Option.some.inj h
      exact ⟨by rw [seqIndex_of h0 h1, e], by omega, by omega, h1⟩
    · rw [if_neg h1] at h; cases h
  · rw [if_neg h0] at h
    by_cases h1 : -(n : Int) ≤ i
    · rw [if_pos h1] at h
      have e : (i + n).toNat = j := Option.some.inj h
      exact ⟨by rw [seqIndex_neg (by omega) h1, e], by omega, h1, by omega⟩
    · rw [if_neg h1] at h; cases h
theorem atI_get {α : Type} {xs : List α} {i : Int} {v : α} (h : atI xs i = some v) : ∃ j, seqIndex? i xs.length = some j ∧ xs[j]? = some v ∧ j < xs.length ∧ -(xs.length : Int) ≤ i ∧ i < xs.length := by
  unfold atI at h
  cases e : ixN xs.length i with
  | none => rw [e] at h; cases h
  | some j =>
    rw [e] at h
    obtain ⟨h1, h2, h3, h4⟩ := ixN_seq e
    exact ⟨j, h1, h, h2, h3, h4⟩
theorem atI_nat {α : Type} {xs : List α} {j : Nat} {v : α} (h : xs[j]? = some v) : atI xs (j : Int) = some v := by
  have hj : j < xs.length := (List.getElem?_eq_some_iff.mp h).1
  have e : ixN xs.length (j : Int) = some j := by
    unfold ixN
    rw [if_pos (by omega), if_pos (by omega)]; simp
  unfold atI; rw [e]; exact h
theorem atI_last {α : Type} (xs : List α) (v : α) : atI (xs ++ [v]) (-1) = some v := by
  have hl : (xs ++ [v]).length = xs.length + 1 := by simp
  have e : ixN (xs ++ [v]).length (-1) = some xs.length := by
    unfold ixN
    rw [hl, if_neg (by decide), if_pos (by omega)]
    congr 1
    omega
  unfold atI
  rw [e]
  show (xs ++ [v])[xs.length]? = some v
  simp

/-! ### what may be subscripted -/
/-- what stands as an index of a plain subscript -/
def PlainIx (b : Expr) : Prop := ∀ o i, subscripted b false o i = operate [o, i] (getItem o i)
/-- a subscript by values -/
def IxR (X : Cx) (r : R2) : Prop :=
  ∀ (value slice : Expr) (pins : List (Addr × Obj)) (s : Shared) (σ : St) (H : Hp) (x y : V) (v u : Value) (Q : VK), Inv X pins σ H s → RelV x v → RelV y u → r x y H Q →
    subscripted slice false v u = operate [v, u] (getItem v u) → wpAny (model X.prog X.w) X.A (subscriptTail value slice v u) (EP X pins σ Q) X.xe s
/-- a call of a builtin's method by values: the receiver, the arguments -/
def MtR (X : Cx) (id : String) (r : V → List V → Hp → VK → Prop) : Prop :=
  ∀ (pins : List (Addr × Obj)) (s : Shared) (σ : St) (H : Hp) (x : V) (xs : List V) (v : Value) (us : List Value) (Q : VK), Inv X pins σ H s → RelV x v → Vals xs us → r x xs H Q →
    wpAny (model X.prog X.w) X.A (call (.builtin id) (v :: us)) (EP X pins σ Q) X.xe s
section
variable {X : Cx} {a b : Expr} {ta tb : TE} {pos : Pos}
theorem IxR.or {r r' : R2} (h : IxR X r) (h' : IxR X r') : IxR X (fun x y H Q => r x y H Q ∨ r' x y H Q) := by
  intro value slice pins s σ H x y v u Q I rx ry q hs
  rcases q with q | q
  · exact h value slice pins s σ H x y v u Q I rx ry q hs
  · exact h' value slice pins s σ H x y v u Q I rx ry q hs
theorem MtR.or {id : String} {r r' : V → List V → Hp → VK → Prop} (h : MtR X id r) (h' : MtR X id r') : MtR X id (fun x xs H Q => r x xs H Q ∨ r' x xs H Q) := by
  intro pins s σ H x xs v us Q I rx rs q
  rcases q with q | q
  · exact h pins s σ H x xs v us Q I rx rs q
  · exact h' pins s σ H x xs v us Q I rx rs q
/-- a[b] -/
theorem pe_ix {r : R2} (hr : IxR X r) (ha : PE X a ta) (hb : PE X b tb) (hs : PlainIx b) : PE X (.Subscript a b pos) (tOp r ta tb) := by
  intro pins s σ H Q I h
  exact Subscript_ (binT ha hb I h fun v u s2 x y H2 I2 rx ry q => hr a b pins s2 σ H2 x y v u Q I2 rx ry q (hs _ _))

def rIxL (K : PySem.W.Frag) : R2 := fun x y H Q => ∃ p xs i v, x = .ref p ∧ y = .int i ∧ SqL K H p xs ∧ atI xs i = some v ∧ Q v H
def rIxT (K : PySem.W.Frag) : R2 := fun x y H Q => ∃ p xs i v, x = .ref p ∧ y = .int i ∧ SqT K H p xs ∧ atI xs i = some v ∧ Q v H
def rIxS : R2 := fun x y H Q => ∃ z i c, x = .str z ∧ y = .int i ∧ z.length ≤ sizeLine ∧ atI z.cps.toList i = some c ∧ Q (.str ⟨#[c]⟩) H
theorem ix_list : IxR X (rIxL X.K) := by
  intro value slice pins s σ H x y v u Q I rx ry h hs
  obtain ⟨p, xs, i, z, rfl, rfl, hq, he, q⟩ := h
  cases rx
  obtain ⟨t, rfl⟩ := ry
  obtain ⟨its, r, pl, hz⟩ := I.list hq
  obtain ⟨j, h1, h2, h3, h4, h5⟩ := atI_get he
  obtain ⟨w, ew, rw'⟩ := r.get h2
  have hl := r.length
  have hn := line63
  have fin : EP X pins σ Q w s := ⟨z, H, I, rw', q⟩
  by_cases h0 : 0 ≤ i
  · have hj : i.toNat = j := by
      rw [seqIndex_of h0 h5] at h1
      exact Option.some.inj h1
    exact item_listR pl.isList h0 (by omega) (by rw [hj]; simpa using ew) fin hs
  · have hj : (i + (its.toArray.size : Int)).toNat = j := by
      rw [seqIndex_neg (by omega) h4] at h1
      rw [List.size_toArray, ← hl]
      exact Option.some.inj h1
    exact subscriptTail_builtinR (x := w) pl.isList.typeIs slot_list_getitem.lookup
      (wpAny_getItem_list_neg (Q := fun r s' => r = w ∧ EP X pins σ Q r s') pl.isList (by omega) (by rw [List.size_toArray] <;> omega) (by omega) (by rw [hj]; simpa using ew) ⟨rfl, fin⟩) hs
theorem ix_tup : IxR X (rIxT X.K) := by
  intro value slice pins s σ H x y v u Q I rx ry h hs
  obtain ⟨p, xs, i, z, rfl, rfl, hq, he, q⟩ := h
  cases rx
  obtain ⟨t, rfl⟩ := ry
  obtain ⟨its, r, pl, hz⟩ := I.tuple hq
  obtain ⟨j, h1, h2, h3, h4, h5⟩ := atI_get he
  obtain ⟨w, ew, rw'⟩ := r.get h2
  have hl := r.length
  have hn := line63
  have fin : EP X pins σ Q w s := ⟨z, H, I, rw', q⟩
  exact subscriptTail_builtinR (x := w) pl.typeIs slot_tuple_getitem.lookup
    (getItem_tuple (j := j) (Q := fun r s' => r = w ∧ EP X pins σ Q r s') pl (by omega) (by omega) (by rw [List.size_toArray, ← hl]; exact h1) (by simpa using ew) ⟨rfl, fin⟩) hs
theorem ix_str : IxR X rIxS := by
  intro value slice pins s σ H x y v u Q I rx ry h hs
  obtain ⟨z, i, c, rfl, rfl, hz, he, q⟩ := h
  obtain ⟨t, rfl⟩ := rx
  obtain ⟨t', rfl⟩ := ry
  obtain ⟨j, h1, h2, h3, h4, h5⟩ := atI_get he
  have hl : z.cps.toList.length = z.length := by simp [Str.length]
  rw [hl] at h1 h4 h5
  have hn := line63
  exact tail_any (typeIs_str s z t) slot_str_getitem.lookup (getItem_str (c := c) (by
    have e1 : decide (i < -(2 ^ 63 : Int)) = false := decide_eq_false (by omega)
    have e2 : decide (i ≥ 2 ^ 63) = false := decide_eq_false (by omega)
    rw [e1, e2, Bool.or_false]) (by rw [h1]; simpa using h2) ⟨.str ⟨#[c]⟩, H, I.tok _, ⟨_, rfl⟩, q⟩) hs
/-- list, tuple or str -/
def rIx (K : PySem.W.Frag) : R2 := fun x y H Q => rIxL K x y H Q ∨ rIxT K x y H Q ∨ rIxS x y H Q
theorem ix_seq : IxR X (rIx X.K) := ix_list.or (ix_tup.or ix_str)

/-! ### xs[i] = v, any sign -/
/-- the list's object behind a store -/
theorem mapSeq_set (its : List Value) (n j : Nat) (u : Value) : Obj.mapSeq (·.setIfInBounds j u) { cls := .type "list", data := .seq its.toArray n } = { cls := .type "list", data := .seq (its.set j u).toArray n } := by
  simp [Obj.mapSeq]
theorem Inv.lst {pins : List (Addr × Obj)} {σ : St} {H : Hp} {s : Shared} {p : Addr} {xs : List V} (I : Inv X pins σ H s) (h : H p = some (.lst xs)) :
    ∃ (its : List Value) (n : Nat), Vals xs its ∧ s.heap.get? p = some { cls := .type "list", data := .seq its.toArray n } ∧ xs.length ≤ sizeLine := by
  obtain ⟨z, its, n, r, e⟩ := I.hok p _ h
  exact ⟨its, n, r, e, z⟩
/-- the list at p is written by an update of its object -/
theorem Inv.lstUpd {pins : List (Addr × Obj)} {σ : St} {H : Hp} {s : Shared} {p : Addr} {xs ys : List V} {its its' : List Value} {n n' : Nat} {f : Obj → Obj} (I : Inv X pins σ H s) (h : H p = some (.lst xs))
    (ho : s.heap.get? p = some { cls := .type "list", data := .seq its.toArray n }) (hf : f { cls := .type "list", data := .seq its.toArray n } = { cls := .type "list", data := .seq its'.toArray n' }) (r : Vals ys its') (hz : ys.length ≤ sizeLine) (t : Nat) :
    Inv X pins σ (upd H p (.lst ys)) { s with heap := s.heap.update p f, toks := t } := by
  have e : (s.heap.update p f).get? p = some { cls := .type "list", data := .seq its'.toArray n' } := by
    rw [Heap.get?_update_self f ho (by rw [hf] <;> rfl), hf]
  refine I.write (x := p) (e := p) (by rw [h]; trivial) (.inl rfl) (fun b u hb q => (Heap.get?_update_other _ _ (Ne.symm hb)).trans q) ⟨_, e⟩ ?_
  exact ⟨hz, its', n', r, e⟩
def rSetL : V → V → V → Hp → (Hp → Prop) → Prop := fun o i v H Q => ∃ p xs k j, o = .ref p ∧ i = .int k ∧ H p = some (.lst xs) ∧ ixN xs.length k = some j ∧ Q (upd H p (.lst (xs.set j v)))
theorem set_list : PSet X rSetL := by
  intro pins s σ H o i v ov iv u Q I ro ri rv h
  obtain ⟨p, xs, k, j, rfl, rfl, hp, hj, q⟩ := h
  cases ro
  obtain ⟨t, rfl⟩ := ri
  obtain ⟨its, n, r, ho, hz⟩ := I.lst hp
  obtain ⟨h1, h2, h3, h4⟩ := ixN_seq hj
  have hl := r.length
  have hn := line63
  have I' : Inv X pins σ (upd H p (.lst (xs.set j v))) { s with heap := s.heap.update p (Obj.mapSeq (·.setIfInBounds j u)) } :=
    I.lstUpd hp ho (mapSeq_set its n j u) (r.set rv j) (by rw [List.length_set]; exact hz) s.toks
  by_cases h0 : 0 ≤ k
  · have hk : k.toNat = j := by
      rw [seqIndex_of h0 h4] at h1
      exact Option.some.inj h1
    exact PySem.W.ki_setAt ho h0 (by omega) (by rw [List.size_toArray, ← hl]; exact h4) (by rw [hk]; exact ⟨_, I', q⟩)
  · have hk : (k + (its.toArray.size : Int)).toNat = j := by
      rw [seqIndex_neg (by omega) h3] at h1
      rw [List.size_toArray, ← hl]
      exact Option.some.inj h1
    exact PySem.W.ki_setBack ho (by omega) (by rw [List.size_toArray, ← hl]; exact h3) (by omega) (by rw [hk]; exact ⟨_, I', q⟩)

/-! ### slices -/
theorem slice_bounds (lo hi : Option Int) (n : Nat) : (sliceBounds lo hi none n).1 = ((HT.sIx n 0 lo : Nat) : Int) ∧ (sliceBounds lo hi none n).2.1 = ((HT.sIx n n hi : Nat) : Int) ∧ (sliceBounds lo hi none n).2.2 = 1 := by
  refine ⟨?_, ?_, rfl⟩
  · cases lo with
    | none => simp [sliceBounds, HT.sIx]
    | some i =>
      simp only [sliceBounds, HT.sIx, Option.getD_none, show (1 : Int) > 0 by decide, if_true]
      by_cases h : i < 0
      · simp only [h, if_true] <;> omega
      · simp only [h, if_false] <;> omega
  · cases hi with
    | none => simp [sliceBounds, HT.sIx]
    | some i =>
      simp only [sliceBounds, HT.sIx, Option.getD_none, show (1 : Int) > 0 by decide, if_true]
      by_cases h : i < 0
      · simp only [h, if_true] <;> omega
      · simp only [h, if_false] <;> omega
theorem slicePick_cut (its : List Value) (lo hi : Option Int) : slicePick its.toArray lo hi none = ((its.drop (HT.sIx its.length 0 lo)).take (HT.sIx its.length its.length hi - HT.sIx its.length 0 lo)).toArray := by
  obtain ⟨h1, h2, h3⟩ := slice_bounds lo hi its.toArray.size
  unfold slicePick
  rw [h1, h2, h3]
  simp only [sliceRange_one, pick_run, List.size_toArray] <;> rfl
/-- xs[lo:hi] of a list: a new list -/
def rSlL (K : PySem.W.Frag) : V → Option Int → Option Int → Hp → VK → Prop := fun x lo hi H Q => ∃ a xs, x = .ref a ∧ SqL K H a xs ∧ ∀ p, H p = none → Q (.ref p) (upd H p (.lst (cutV xs lo hi)))
theorem sl_list : SlR X (rSlL X.K) := by
  intro pins s σ H x v vl vu lo hi sl Q I rx hs pl pu h
  obtain ⟨a, xs, rfl, hx, q⟩ := h
  cases rx
  obtain ⟨its, r, ht, hz⟩ := I.list hx
  have hlen := r.length
  refine ⟨"list", _, slot_list_getitem.lookup, ht.isList.typeIs, ?_⟩
  refine wpAny_getItem_list_slice ht.isList hs pl pu .none (by simp) ?_ (by rw [List.size_toArray] <;> omega)
  rw [slicePick_cut, ← hlen]
  refine ⟨.ref s.heap.objs.size, _, I.laid (t' := s.toks) (o := .lst (cutV xs lo hi)) (fun b ob q => Heap.get?_push_of_some _ q) (Nat.le_refl _) ?_, rfl, q _ (I.hok.fresh (Nat.le_refl _))⟩
  exact ⟨Nat.le_trans (cutV_length xs lo hi) hz, _, 0, (r.drop (HT.sIx xs.length 0 lo)).take (HT.sIx xs.length xs.length hi - HT.sIx xs.length 0 lo), Heap.get?_push_size _ rfl⟩

/-! ### in, not in: flat items -/
def flatV : V → Bool
  | .non => true
  | .bl _ => true
  | .int _ => true
  | .str _ => true
  | _ => false
/-- == of flat values -/
def eqV : V → V → Bool
  | .non, .non => true
  | .bl a, .bl b => a == b
  | .bl a, .int b => (if a then 1 else 0) == b
  | .int a, .bl b => a == (if b then 1 else 0)
  | .int a, .int b => a == b
  | .str a, .str b => a == b
  | _, _ => false
theorem eqAt_V {A : Around} {s : Shared} {y x : V} {u v : Value} (ry : RelV y u) (rx : RelV x v) (fy : flatV y = true) (fx : flatV x = true) : SeqAt.EqAt A s u v (eqV y x) := by
  cases y with
  | non =>
    cases ry
    cases x with
    | non => cases rx; exact SeqAt.EqAt.same _
    | bl b => cases rx; exact SeqAt.EqAt.none_bool b
    | int b => obtain ⟨t, rfl⟩ := rx; exact SeqAt.EqAt.none_int b t
    | str b => obtain ⟨t, rfl⟩ := rx; exact SeqAt.EqAt.none_str b t
    | _ => exact absurd (show false = true from fx) Bool.false_ne_true
  | bl a =>
    cases ry
    cases x with
    | non => cases rx; exact SeqAt.EqAt.bool_none a
    | bl b => cases rx; exact SeqAt.EqAt.bool_bool a b
    | int b => obtain ⟨t, rfl⟩ := rx; exact SeqAt.EqAt.bool_int a b t
    | str b => obtain ⟨t, rfl⟩ := rx; exact SeqAt.EqAt.bool_str a b t
    | _ => exact absurd (show false = true from fx) Bool.false_ne_true
  | int a =>
    obtain ⟨t', rfl⟩ := ry
    cases x with
    | non => cases rx; exact SeqAt.EqAt.int_none a t'
    | bl b => cases rx; exact SeqAt.EqAt.int_bool a t' b
    | int b => obtain ⟨t, rfl⟩ := rx; exact SeqAt.EqAt.int_int a t' b t
    | str b => obtain ⟨t, rfl⟩ := rx; exact SeqAt.EqAt.int_str a t' b t
    | _ => exact absurd (show false = true from fx) Bool.false_ne_true
  | str a =>
    obtain ⟨t', rfl⟩ := ry
    cases x with
    | non => cases rx; exact SeqAt.EqAt.str_none a t'
    | bl b => cases rx; exact SeqAt.EqAt.str_bool a t' b
    | int b => obtain ⟨t, rfl⟩ := rx; exact SeqAt.EqAt.str_int a t' b t
    | str b => obtain ⟨t, rfl⟩ := rx; exact SeqAt.EqAt.str_str a t' b t
    | _ => exact absurd (show false = true from fx) Bool.false_ne_true
  | _ => exact absurd (show false = true from fy) Bool.false_ne_true
/-- the items' answers, read off the values (a value's own answer does not lean on its token) -/
def eqU (x : V) (u : Value) : Bool := match u with
  | .none => eqV .non x
  | .bool b => eqV (.bl b) x
  | .int i _ => eqV (.int i) x
  | .str z _ => eqV (.str z) x
  | _ => false
theorem eqU_of {x y : V} {u : Value} (r : RelV y u) (f : flatV y = true) : eqU x u = eqV y x := by
  cases y with
  | non => cases r; rfl
  | bl b => cases r; rfl
  | int i => obtain ⟨t, rfl⟩ := r; rfl
  | str z => obtain ⟨t, rfl⟩ := r; rfl
  | _ => exact absurd (show false = true from f) Bool.false_ne_true
theorem any_eqU {x : V} : ∀ {xs : List V} {us : List Value}, Vals xs us → xs.all flatV = true → us.any (eqU x) = xs.any fun y => eqV y x
  | _, _, .nil, _ => rfl
  | y :: xs, u :: us, .cons r t, f => by
    rw [List.all_cons, Bool.and_eq_true] at f
    rw [List.any_cons, List.any_cons, eqU_of r f.1, any_eqU t f.2]
theorem mem_eqAt {A : Around} {s : Shared} {x : V} {v : Value} (rx : RelV x v) (fx : flatV x = true) : ∀ {xs : List V} {us : List Value}, Vals xs us → xs.all flatV = true → ∀ u ∈ us, SeqAt.EqAt A s u v (eqU x u)
  | _, _, .nil, _ => fun u hu => by cases hu
  | y :: xs, u :: us, .cons r t, f => fun u' hu => by
    rw [List.all_cons, Bool.and_eq_true] at f
    rcases List.mem_cons.mp hu with rfl | hu
    · rw [eqU_of r f.1]; exact eqAt_V r rx f.1 fx
    · exact mem_eqAt rx fx t f.2 u' hu
def inV (x : V) (xs : List V) : Bool := xs.any fun y => eqV y x
/-- x in a list or tuple of flat items -/
def rIn (K : PySem.W.Frag) (neg : Bool) : R2 := fun x y H Q => ∃ p xs, y = .ref p ∧ (SqL K H p xs ∨ SqT K H p xs) ∧ flatV x = true ∧ xs.all flatV = true ∧ Q (.bl (if neg then !inV x xs else inV x xs)) H
theorem op_in_seq : OpR X (compareOp .In) (rIn X.K false) := by
  intro pins s σ H x y v u Q I rx ry h
  obtain ⟨p, xs, rfl, hq, fx, fs, q⟩ := h
  cases ry
  rcases hq with hq | hq
  · obtain ⟨its, r, pl, hz⟩ := I.list hq
    refine SeqAt.in_listAt (eqU x) pl.isList (fun w hw => mem_eqAt rx fx r fs w (by simpa using hw)) ⟨.bl _, H, I, rfl, ?_⟩
    rw [show its.toArray.any (eqU x) = its.any (eqU x) by simp, any_eqU r fs]
    exact q
  · obtain ⟨its, r, pl, hz⟩ := I.tuple hq
    refine SeqAt.in_tupleAt (eqU x) pl (fun w hw => mem_eqAt rx fx r fs w (by simpa using hw)) ⟨.bl _, H, I, rfl, ?_⟩
    rw [show its.toArray.any (eqU x) = its.any (eqU x) by simp, any_eqU r fs]
    exact q
theorem op_notIn_seq : OpR X (compareOp .NotIn) (rIn X.K true) := by
  intro pins s σ H x y v u Q I rx ry h
  obtain ⟨p, xs, rfl, hq, fx, fs, q⟩ := h
  cases ry
  rcases hq with hq | hq
  · obtain ⟨its, r, pl, hz⟩ := I.list hq
    refine SeqAt.notIn_listAt (eqU x) pl.isList (fun w hw => mem_eqAt rx fx r fs w (by simpa using hw)) ⟨.bl _, H, I, rfl, ?_⟩
    rw [show its.toArray.any (eqU x) = its.any (eqU x) by simp, any_eqU r fs]
    exact q
  · obtain ⟨its, r, pl, hz⟩ := I.tuple hq
    refine SeqAt.notIn_tupleAt (eqU x) pl (fun w hw => mem_eqAt rx fx r fs w (by simpa using hw)) ⟨.bl _, H, I, rfl, ?_⟩
    rw [show its.toArray.any (eqU x) = its.any (eqU x) by simp, any_eqU r fs]
    exact q
theorem op_notIn_str : OpR X (compareOp .NotIn) (fun x y H Q => ∃ i j, x = .str i ∧ y = .str j ∧ Q (.bl (!(!(Builtin.Str.occurrences j i 0 j.length 1).isEmpty))) H) := by
  intro pins s σ H x y v u Q I rx ry h
  obtain ⟨i, j, rfl, rfl, q⟩ := h
  obtain ⟨t, rfl⟩ := rx
  obtain ⟨t', rfl⟩ := ry
  exact notIn_str ⟨.bl _, H, I, rfl, q⟩

/-! ### len, list(x), tuple(x) of any list or tuple that is read -/
theorem call_len_seq : CallR X (.builtin "len") (fun xs H Q => ∃ p ys, xs = [.ref p] ∧ (SqL X.K H p ys ∨ SqT X.K H p ys) ∧ Q (.int ys.length) H) := by
  intro pins s σ H xs us Q I r h
  obtain ⟨p, ys, rfl, hq, q⟩ := h
  obtain ⟨u, rfl, rx⟩ := vals1 r
  cases rx
  have hn := line63
  rcases hq with hq | hq
  · obtain ⟨its, r', pl, hz⟩ := I.list hq
    have hlen := r'.length
    exact Calls.call_len_list pl.isList (by simp only [List.size_toArray] <;> omega) ⟨.int ys.length, H, I.tok _, ⟨s.toks + 1, by rw [List.size_toArray, hlen]⟩, q⟩
  · obtain ⟨its, r', pl, hz⟩ := I.tuple hq
    have hlen := r'.length
    exact len_tuple pl (by simp only [List.size_toArray] <;> omega) ⟨.int ys.length, H, I.tok _, ⟨s.toks + 1, by rw [List.size_toArray, hlen]⟩, q⟩
theorem call_len_str : CallR X (.builtin "len") (fun xs H Q => ∃ z, xs = [.str z] ∧ z.length ≤ sizeLine ∧ Q (.int z.length) H) := by
  intro pins s σ H xs us Q I r h
  obtain ⟨z, rfl, hz, q⟩ := h
  obtain ⟨u, rfl, t, rfl⟩ := vals1 r
  have hn := line63
  exact len_str (by omega) ⟨.int z.length, H, I.tok _, ⟨_, rfl⟩, q⟩
theorem CallR.or {f : Value} {r r' : List V → Hp → VK → Prop} (h : CallR X f r) (h' : CallR X f r') : CallR X f (fun xs H Q => r xs H Q ∨ r' xs H Q) := by
  intro pins s σ H xs us Q I rs q
  rcases q with q | q
  · exact h pins s σ H xs us Q I rs q
  · exact h' pins s σ H xs us Q I rs q
theorem call_list_of : CallR X (.type "list") (fun xs H Q => ∃ p ys, xs = [.ref p] ∧ (SqL X.K H p ys ∨ SqT X.K H p ys) ∧ ∀ l, H l = none → Q (.ref l) (upd H l (.lst ys))) := by
  intro pins s σ H xs us Q I r h
  obtain ⟨p, ys, rfl, hq, q⟩ := h
  obtain ⟨u, rfl, rx⟩ := vals1 r
  cases rx
  have fin : ∀ (its : List Value), Vals ys its → ys.length ≤ sizeLine → ∀ (h' : Heap) (c' : Nat), (∀ b o', s.heap.get? b = some o' → h'.get? b = some o') →
      h'.get? s.heap.objs.size = some { cls := .type "list", dict := none, data := .seq its.toArray c', slots := #[] } → EP X pins σ Q (.ref s.heap.objs.size) { s with heap := h' } := fun its r' hz h' c' kp e =>
    ⟨.ref s.heap.objs.size, _, I.laid (t' := s.toks) kp (Nat.le_refl _) (show ObjOk X.prog X.w _ h' _ (.lst ys) from ⟨hz, its, c', r', e⟩), rfl, q _ (I.hok.fresh (Nat.le_refl _))⟩
  rcases hq with hq | hq
  · obtain ⟨its, r', pl, hz⟩ := I.list hq
    have hlen := r'.length
    obtain ⟨o, ho, hc, n, hd⟩ := pl.isList
    exact call_list_seq p (.inl rfl) ho hc hd (fun h' c' kp e => fin its r' hz h' c' kp e) (by simp only [List.size_toArray] <;> omega)
  · obtain ⟨its, r', pl, hz⟩ := I.tuple hq
    have hlen := r'.length
    obtain ⟨o, ho, hc, n, hd⟩ := pl
    exact call_list_seq p (.inr rfl) ho hc hd (fun h' c' kp e => fin its r' hz h' c' kp e) (by simp only [List.size_toArray] <;> omega)
theorem call_tuple_of : CallR X (.type "tuple") (fun xs H Q => ∃ p ys, xs = [.ref p] ∧ ((SqL X.K H p ys ∧ ∀ l, H l = none → Q (.ref l) (upd H l (.tup ys))) ∨ (SqT X.K H p ys ∧ Q (.ref p) H))) := by
  intro pins s σ H xs us Q I r h
  obtain ⟨p, ys, rfl, h⟩ := h
  obtain ⟨u, rfl, rx⟩ := vals1 r
  cases rx
  rcases h with ⟨hq, q⟩ | ⟨hq, q⟩
  · obtain ⟨its, r', pl, hz⟩ := I.list hq
    have hlen := r'.length
    refine call_tuple_list pl.isList (fun h' kp => ?_) (by simp only [List.size_toArray] <;> omega)
    have I1 : Inv X pins σ H { s with heap := h' } := I.kept (t' := s.toks) kp
    have I2 : Inv X pins σ (upd H h'.objs.size (.tup ys)) { s with heap := h'.push { cls := .type "tuple", data := .seq its.toArray } } :=
      I1.laid (t' := s.toks) (fun b o e => Heap.get?_push_of_some _ e) (Nat.le_refl _) (show ObjOk X.prog X.w _ _ _ (.tup ys) from ⟨hz, its, r', IsTup.new _ _⟩)
    exact ⟨.ref h'.objs.size, _, I2, rfl, q _ (I1.hok.fresh (Nat.le_refl _))⟩
  · obtain ⟨its, r', pl, hz⟩ := I.tuple hq
    exact call_tuple_same pl ⟨.ref p, H, I, rfl, q⟩

/-! ### the call of a builtin's method: o.m(..) -/
/-- the value is of that builtin type -/
def tyV (K : PySem.W.Frag) (T : String) (x : V) (H : Hp) : Prop := match x with
  | .str _ => T = "str"
  | .int _ => T = "int"
  | .ref p => (T = "list" ∧ ∃ xs, SqL K H p xs) ∨ (T = "tuple" ∧ ∃ o, K.lookup p = some o ∧ o.cls = .type "tuple" ∧ o.dict = none) ∨
      (T = "dict" ∧ ((∃ kvs, H p = some (.dK kvs)) ∨ ∃ kvs, H p = some (.dT kvs))) ∨ (T = "set" ∧ ∃ S n, H p = some (.set S n))
  | _ => False
theorem tyV_is {pins : List (Addr × Obj)} {σ : St} {H : Hp} {s : Shared} {T : String} {x : V} {v : Value} (I : Inv X pins σ H s) (r : RelV x v) (ty : tyV X.K T x H) :
    s.TypeIs v T ∧ ∀ a, v = .ref a → ∃ ob, s.heap.get? a = some ob ∧ ob.dict = none := by
  cases x with
  | str z =>
    obtain ⟨t, rfl⟩ := r
    cases (show T = "str" from ty)
    exact ⟨typeIs_str s z t, fun _ e => nomatch e⟩
  | int i =>
    obtain ⟨t, rfl⟩ := r
    cases (show T = "int" from ty)
    exact ⟨typeIs_int s i t, fun _ e => nomatch e⟩
  | ref p =>
    cases r
    rcases ty with ⟨rfl, xs, hq⟩ | ⟨rfl, o, hk, hc, hd⟩ | ⟨rfl, hk⟩ | ⟨rfl, S, n, hk⟩
    · obtain ⟨its, _, pl, _⟩ := I.list hq
      refine ⟨pl.isList.typeIs, fun a e => ?_⟩
      cases e
      obtain ⟨o, n, e, c, hd, _⟩ := pl
      exact ⟨o, e, hd⟩
    · refine ⟨⟨o, I.kIn p o hk, hc⟩, fun a e => ?_⟩
      cases e
      exact ⟨o, I.kIn _ o hk, hd⟩
    · have z : ∃ o, s.heap.get? p = some o ∧ o.ExactDict := by
        rcases hk with ⟨kvs, hk⟩ | ⟨kvs, hk⟩
        · obtain ⟨_, _, _, _, o, _, _, e, ex, _⟩ := I.hok p _ hk
          exact ⟨o, e, ex⟩
        · obtain ⟨_, _, _, _, o, _, _, e, ex, _⟩ := I.hok p _ hk
          exact ⟨o, e, ex⟩
      obtain ⟨o, e, ex⟩ := z
      refine ⟨⟨o, e, ex.1⟩, fun a e2 => ?_⟩
      cases e2
      exact ⟨o, e, ex.2.1⟩
    · obtain ⟨o, _, _, _, e, ex, _⟩ := I.hok p _ hk
      refine ⟨⟨o, e, ex.1⟩, fun a e2 => ?_⟩
      cases e2
      exact ⟨o, e, ex.2.1⟩
  | _ => exact False.elim ty
def tBM0 (K : PySem.W.Frag) (T : String) (r : V → List V → Hp → VK → Prop) (to : TE) : TE := fun σ H Q => to σ H fun x H1 => tyV K T x H1 ∧ r x [] H1 Q
def tBM (K : PySem.W.Frag) (T : String) (r : V → List V → Hp → VK → Prop) (to : TE) (t : TA) : TE := fun σ H Q => to σ H fun x H1 => tyV K T x H1 ∧ t σ H1 fun xs H2 => r x xs H2 Q
variable {o e : Expr} {es : List Expr} {to : TE} {t : TA} {name : Str} {apos cpos : Pos} {T id : String} {r : V → List V → Hp → VK → Prop}
theorem pe_bm0 (pa : PlainAttrs T) (slot : Slot T name id) (hty : typeOf (.builtin id) = pure (.type "method_descriptor")) (hm : MtR X id r) (ho : PE X o to)
    (hbase : attributeBase o name X.env (eval o X.env) = eval o X.env := by rfl) (hline : (apos.endLine == cpos.line) = true := by rfl) : PE X (.Call (.Attribute o name apos) [] [] cpos) (tBM0 X.K T r to) := by
  intro pins s σ H Q I h
  refine wpAny_Call_method0_late hbase hline (thn (ho pins s σ H _ I h) fun v s1 ⟨x, H1, I1, r1, ty, q1⟩ => ?_)
  obtain ⟨h1, h2⟩ := tyV_is I1 r1 ty
  exact ⟨T, id, pa, slot, hty, h1, h2, Calls.callWith_builtin rfl (PySem.evalArgs_none (hm pins s1 σ H1 x [] v [] Q I1 r1 .nil q1))⟩
theorem pe_bm (pa : PlainAttrs T) (slot : Slot T name id) (hty : typeOf (.builtin id) = pure (.type "method_descriptor")) (hm : MtR X id r) (ho : PE X o to) (ha : PA X (e :: es) t)
    (hbase : attributeBase o name X.env (eval o X.env) = eval o X.env := by rfl)
    (hfew : ((backTo cpos (starEach (e :: es) X.env)).all (fun x => !x.1) && (backToKw cpos (keywordEach [] X.env)).all (fun x => x.1.isSome)
      && decide ((e :: es).length + ([] : List Keyword).length + (if ([] : List Keyword).isEmpty then 0 else 1) < 30)) = true := by rfl)
    (hline : (apos.endLine == cpos.line) = true := by rfl) (hs : starEach (e :: es) X.env = (false, eval e X.env) :: starEach es X.env := by rfl) (hplain : (backTo cpos (starEach es X.env)).any (·.1) = false := by rfl) :
    PE X (.Call (.Attribute o name apos) (e :: es) [] cpos) (tBM X.K T r to t) := by
  intro pins s σ H Q I h
  refine wpAny_Call_method_late hbase hfew hline rfl (thn (ho pins s σ H _ I h) fun v s1 ⟨x, H1, I1, r1, ty, q1⟩ => ?_)
  obtain ⟨h1, h2⟩ := tyV_is I1 r1 ty
  refine ⟨T, id, pa, slot, hty, h1, h2, ?_⟩
  have hA := ha cpos pins s1 σ H1 _ I1 q1
  rw [hs] at hA ⊢
  refine Calls.callWith_builtin (by show (false || (backTo cpos (starEach es X.env)).any (·.1)) = false; rw [hplain] <;> rfl) (Calls.evalArgs_plain ?_)
  exact thn hA fun us s2 ⟨vs, H2, I2, r2, q2⟩ => hm pins s2 σ H2 x vs v us Q I2 r1 r2 q2
/- xs.append(e), list.index on a module's tuple .. are MtR facts of 06m -/
end
end L2

namespace L2
open PySem PySem.Spec PyProof.Rows

def MtM (X : Cx) (id : String) (r : V → List V → Hp → VK → Prop) : Prop :=
  ∀ (pins : List (Addr × Obj)) (s : Shared) (σ : St) (H : Hp) (x : V) (xs : List V) (v : Value) (us : List Value) (Q : VK), Inv X pins σ H s → RelV x v → Vals xs us → r x xs H Q →
    wpAny (model X.prog X.w) X.A (call (.builtin id) (v :: us)) (EP X pins σ Q) X.xe s

/-! ### lists of values -/
theorem Vals.one : ∀ {x : V} {us : List Value}, Vals [x] us → ∃ u, us = [u] ∧ RelV x u
  | _, _, .cons r .nil => ⟨_, rfl, r⟩
theorem Vals.two : ∀ {x y : V} {us : List Value}, Vals [x, y] us → ∃ u v, us = [u, v] ∧ RelV x u ∧ RelV y v
  | _, _, _, .cons r (.cons q .nil) => ⟨_, _, rfl, r, q⟩
theorem Vals.zero : ∀ {us : List Value}, Vals [] us → us = []
  | _, .nil => rfl
theorem Vals.dropLast {xs : List V} {us : List Value} (h : Vals xs us) : Vals xs.dropLast us.dropLast := by
  induction h with
  | nil => exact .nil
  | cons r t ih =>
    cases t with
    | nil => exact .nil
    | cons q t' => exact .cons r ih
theorem Vals.eraseIdx : ∀ {xs : List V} {us : List Value} (i : Nat), Vals xs us → Vals (xs.eraseIdx i) (us.eraseIdx i)
  | _, _, _, .nil => .nil
  | _, _, 0, .cons _ t => t
  | _, _, i + 1, .cons r t => .cons r (Vals.eraseIdx i t)
theorem Vals.reverse {xs : List V} {us : List Value} (h : Vals xs us) : Vals xs.reverse us.reverse := by
  induction h with
  | nil => exact .nil
  | cons r t ih => rw [List.reverse_cons, List.reverse_cons]; exact Vals.append ih (.cons r .nil)
theorem Vals.rep {xs : List V} {us : List Value} (h : Vals xs us) : ∀ k : Nat, Vals (List.replicate k xs).flatten (List.replicate k us).flatten
  | 0 => .nil
  | k + 1 => by
    rw [List.replicate_succ, List.replicate_succ, List.flatten_cons, List.flatten_cons]
    exact Vals.append h (Vals.rep h k)
theorem erase_last {α : Type} (l : List α) : l.eraseIdx (l.length - 1) = l.dropLast := by
  induction l with
  | nil => rfl
  | cons a r ih =>
    cases r with
    | nil => rfl
    | cons b r =>
      have e : (a :: b :: r).length - 1 = ((b :: r).length - 1) + 1 := by
        have h1 : (a :: b :: r).length = r.length + 2 := rfl
        have h2 : (b :: r).length = r.length + 1 := rfl
        omega
      rw [e, List.eraseIdx_cons_succ, ih]
      all_goals rfl
theorem len_erase {α : Type} : ∀ (l : List α) (i : Nat), (l.eraseIdx i).length ≤ l.length
  | [], _ => Nat.le_refl _
  | _ :: _, 0 => Nat.le_succ _
  | _ :: r, i + 1 => Nat.succ_le_succ (len_erase r i)
theorem foldl_rep (its : List Value) : ∀ (k : Nat) (acc : List Value),
    List.foldl (fun x1 x2 => x1 ++ x2) acc.toArray (List.replicate k its.toArray) = (acc ++ (List.replicate k its).flatten).toArray
  | 0, acc => by simp
  | k + 1, acc => by
    have e : acc.toArray ++ its.toArray = (acc ++ its).toArray := by simp
    have e2 : (acc ++ its) ++ (List.replicate k its).flatten = acc ++ (List.replicate (k + 1) its).flatten := by
      rw [List.replicate_succ, List.flatten_cons, List.append_assoc]
    rw [← e2, ← foldl_rep its k (acc ++ its), ← e, List.replicate_succ, List.foldl_cons]

section
variable {X : Cx} {pins : List (Addr × Obj)} {σ : St} {H : Hp} {s : Shared} {l b : Addr} {xs ys zs : List V}

/-! ### the two steps: a tracked list is rewritten, a new list is laid -/
theorem Inv.lset {its its' : List Value} {n : Nat} {f : Array Value → Array Value} {t' : Nat} (I : Inv X pins σ H s) (hH : H l = some (.lst xs))
    (e : s.heap.get? l = some { cls := .type "list", data := .seq its.toArray n }) (hf : f its.toArray = its'.toArray) (hv : Vals ys its') (hz : ys.length ≤ sizeLine) :
    Inv X pins σ (upd H l (.lst ys)) { s with heap := s.heap.update l (Obj.mapSeq f), toks := t' } := by
  have q := PySem.IsL.update e f
  rw [hf] at q
  refine I.write (x := l) (e := l) (by rw [hH]; exact trivial) (.inl rfl) (fun b' u hb hu => (Heap.get?_update_other s.heap (Obj.mapSeq f) (Ne.symm hb)).trans hu) ⟨_, q⟩ ?_
  exact ⟨hz, its', _, hv, q⟩
theorem Inv.lnew {its : List Value} {t' : Nat} (I : Inv X pins σ H s) (hv : Vals ys its) (hz : ys.length ≤ sizeLine) :
    Inv X pins σ (upd H s.heap.objs.size (.lst ys)) { s with heap := s.heap.push { cls := .type "list", data := .seq its.toArray }, toks := t' } :=
  I.laid (fun _ _ q => Heap.get?_push_of_some _ q) (Nat.le_refl _) ⟨hz, its, 0, hv, Heap.get?_push_size _ rfl⟩
theorem Inv.fresh (I : Inv X pins σ H s) : H s.heap.objs.size = none := I.hok.fresh (Nat.le_refl _)
theorem Inv.lstM (I : Inv X pins σ H s) (hH : H l = some (.lst xs)) : xs.length ≤ sizeLine ∧ ∃ (its : List Value) (n : Nat), Vals xs its ∧ xs.length = its.length ∧ s.heap.get? l = some { cls := .type "list", data := .seq its.toArray n } := by
  obtain ⟨z, its, n, r, e⟩ := I.hok l _ hH
  exact ⟨z, its, n, r, r.length, e⟩

theorem notLongL {n : Nat} (h : n ≤ sizeLine) : Builtin.List.listTooLong n = false := by
  unfold Builtin.List.listTooLong
  exact decide_eq_false (by omega)
end

section
variable {X : Cx}

/-! ### methods -/
def rAppend : V → List V → Hp → VK → Prop := fun x vs H Q => ∃ l xs y, x = .ref l ∧ vs = [y] ∧ H l = some (.lst xs) ∧ xs.length < sizeLine ∧ Q .non (upd H l (.lst (xs ++ [y])))
theorem mt_append : MtM X "list.append" rAppend := by
  intro pins s σ H x vs v us Q I rx rv h
  obtain ⟨l, xs, y, rfl, rfl, hH, hz, q⟩ := h
  cases rx
  obtain ⟨u, rfl, ru⟩ := rv.one
  obtain ⟨z, its, n, r, hl, e⟩ := I.lstM hH
  refine call_meets F.slot_list_append ⟨_, e, rfl⟩ F.entry_list_append (F.args_list_append_2 _ _) (PySem.list_append l its.toArray n u (by rw [List.size_toArray]; omega)) ⟨e, ?_⟩
  refine ⟨.non, _, I.lset (its' := its ++ [u]) hH e (by simp) (r.append (.cons ru .nil)) ?_, rfl, q⟩
  rw [List.length_append, List.length_singleton]
  omega

def rExtend : V → List V → Hp → VK → Prop := fun x vs H Q => ∃ l b xs zs, x = .ref l ∧ vs = [.ref b] ∧ H l = some (.lst xs) ∧ H b = some (.lst zs) ∧ xs.length + zs.length ≤ sizeLine ∧ Q .non (upd H l (.lst (xs ++ zs)))
theorem mt_extend : MtM X "list.extend" rExtend := by
  intro pins s σ H x vs v us Q I rx rv h
  obtain ⟨l, b, xs, zs, rfl, rfl, hH, hB, hz, q⟩ := h
  cases rx
  obtain ⟨u, rfl, ru⟩ := rv.one
  cases ru
  obtain ⟨z, its, n, r, hl, e⟩ := I.lstM hH
  obtain ⟨z2, its2, n2, r2, hl2, e2⟩ := I.lstM hB
  have hsz : its.toArray.size + its2.toArray.size ≤ sizeLine := by rw [List.size_toArray, List.size_toArray]; omega
  have hlong : ¬ (!its.toArray.isEmpty && Builtin.List.listTooLong (its.toArray.size + its2.toArray.size)) = true := by
    rw [notLongL hsz, Bool.and_false]
    exact Bool.false_ne_true
  refine call_meets F.slot_list_extend ⟨_, e, rfl⟩ F.entry_list_extend (F.args_list_extend_2 _ _)
    (AutoSeq1.list_extend_list_list_0 l its.toArray n b its2.toArray n2 hlong (by rw [List.size_toArray]; omega) (by omega)) ⟨e, e2, ?_⟩
  refine ⟨.non, _, I.lset (its' := its ++ its2) hH e (by simp) (r.append r2) ?_, rfl, q⟩
  rw [List.length_append]
  omega

def rPop : V → List V → Hp → VK → Prop := fun x vs H Q => ∃ l xs y, x = .ref l ∧ vs = [] ∧ H l = some (.lst xs) ∧ xs[xs.length - 1]? = some y ∧ Q y (upd H l (.lst xs.dropLast))
theorem mt_pop : MtM X "list.pop" rPop := by
  intro pins s σ H x vs v us Q I rx rv h
  obtain ⟨l, xs, y, rfl, rfl, hH, hy, q⟩ := h
  cases rx
  have hus := rv.zero
  subst hus
  obtain ⟨z, its, n, r, hl, e⟩ := I.lstM hH
  obtain ⟨u, hu, ru⟩ := r.get hy
  have hy' : its.toArray[its.toArray.size - 1]? = some u := by
    show its.toArray[its.length - 1]? = some u
    rw [← Array.getElem?_toList, ← hl]
    exact hu
  refine call_meets F.slot_list_pop ⟨_, e, rfl⟩ F.entry_list_pop (F.args_list_pop_1 _) (MeetsSeq.list_pop_last l its.toArray n u hy' (by rw [List.size_toArray]; omega)) ⟨e, ?_⟩
  refine ⟨y, _, I.lset (its' := its.dropLast) hH e ?_ r.dropLast ?_, ru, q⟩
  · show its.toArray.eraseIdxIfInBounds (its.toArray.size - 1) = its.dropLast.toArray
    rw [List.size_toArray, List.eraseIdxIfInBounds_toArray, erase_last]
  · rw [List.length_dropLast]
    omega

def rPopAt : V → List V → Hp → VK → Prop := fun x vs H Q => ∃ l xs i k y, x = .ref l ∧ vs = [.int i] ∧ H l = some (.lst xs) ∧ -(2 ^ 63) ≤ i ∧ i < 2 ^ 63 ∧ seqIndex? i xs.length = some k ∧ xs[k]? = some y ∧ Q y (upd H l (.lst (xs.eraseIdx k)))
theorem mt_popAt : MtM X "list.pop" rPopAt := by
  intro pins s σ H x vs v us Q I rx rv h
  obtain ⟨l, xs, i, k, y, rfl, rfl, hH, h1, h2, hk, hy, q⟩ := h
  cases rx
  obtain ⟨u, rfl, ru⟩ := rv.one
  obtain ⟨t, rfl⟩ := ru
  obtain ⟨z, its, n, r, hl, e⟩ := I.lstM hH
  obtain ⟨w, hw, rw'⟩ := r.get hy
  refine call_meets F.slot_list_pop ⟨_, e, rfl⟩ F.entry_list_pop (F.args_list_pop_2 _ _)
    (MeetsSeq.list_pop_at l its.toArray n i t k w (fitsIndex_both h1 h2) (by rw [List.size_toArray, ← hl]; exact hk) (by rw [← Array.getElem?_toList]; exact hw) (by rw [List.size_toArray]; omega)) ⟨e, ?_⟩
  refine ⟨y, _, I.lset (its' := its.eraseIdx k) hH e ?_ (r.eraseIdx k) ?_, rw', q⟩
  · show its.toArray.eraseIdxIfInBounds k = (its.eraseIdx k).toArray
    rw [List.eraseIdxIfInBounds_toArray]
  · have := len_erase xs k
    omega

def rReverse : V → List V → Hp → VK → Prop := fun x vs H Q => ∃ l xs, x = .ref l ∧ vs = [] ∧ H l = some (.lst xs) ∧ Q .non (upd H l (.lst xs.reverse))
theorem mt_reverse : MtM X "list.reverse" rReverse := by
  intro pins s σ H x vs v us Q I rx rv h
  obtain ⟨l, xs, rfl, rfl, hH, q⟩ := h
  cases rx
  have hus := rv.zero
  subst hus
  obtain ⟨z, its, n, r, hl, e⟩ := I.lstM hH
  refine call_meets F.slot_list_reverse ⟨_, e, rfl⟩ F.entry_list_reverse (F.args_list_reverse_1 _) (AutoSeq1.list_reverse_list_0 l its.toArray n (by rw [List.size_toArray]; omega)) ⟨e, ?_⟩
  refine ⟨.non, _, I.lset (its' := its.reverse) hH e (by simp) r.reverse ?_, rfl, q⟩
  rw [List.length_reverse]
  omega

def rClear : V → List V → Hp → VK → Prop := fun x vs H Q => ∃ l xs, x = .ref l ∧ vs = [] ∧ H l = some (.lst xs) ∧ Q .non (upd H l (.lst []))
theorem mt_clear : MtM X "list.clear" rClear := by
  intro pins s σ H x vs v us Q I rx rv h
  obtain ⟨l, xs, rfl, rfl, hH, q⟩ := h
  cases rx
  have hus := rv.zero
  subst hus
  obtain ⟨z, its, n, r, hl, e⟩ := I.lstM hH
  refine call_meets F.slot_list_clear ⟨_, e, rfl⟩ F.entry_list_clear (F.args_list_clear_1 _) (AutoSeq1.list_clear_list_0 l its.toArray n (by rw [List.size_toArray]; omega)) ⟨e, ?_⟩
  exact ⟨.non, _, I.lset (its' := []) (ys := []) hH e rfl .nil (Nat.zero_le _), rfl, q⟩

/-! ### list + list, list += list, list * int -/
def rCat : R2 := fun x y H Q => ∃ l b xs zs, x = .ref l ∧ y = .ref b ∧ H l = some (.lst xs) ∧ H b = some (.lst zs) ∧ xs.length + zs.length ≤ sizeLine ∧ ∀ p, H p = none → Q (.ref p) (upd H p (.lst (xs ++ zs)))
theorem op_cat : OpR X (binaryOp .Add) rCat := by
  intro pins s σ H x y v u Q I rx ry h
  obtain ⟨l, b, xs, zs, rfl, rfl, hH, hB, hz, q⟩ := h
  cases rx
  cases ry
  obtain ⟨z, its, n, r, hl, e⟩ := I.lstM hH
  obtain ⟨z2, its2, n2, r2, hl2, e2⟩ := I.lstM hB
  refine PySem.P.add_list e e2 ?_ (by rw [List.size_toArray, List.size_toArray]; omega)
  have ea : its.toArray ++ its2.toArray = (its ++ its2).toArray := by simp
  rw [ea]
  exact ⟨.ref _, _, I.lnew (t' := s.toks) (r.append r2) (by rw [List.length_append]; omega), rfl, q _ I.fresh⟩
/-- a list times an int (a negative one is nothing) -/
def rRep : R2 := fun x y H Q => ∃ l k xs, x = .ref l ∧ y = .int k ∧ H l = some (.lst xs) ∧ -(2 ^ 63) ≤ k ∧ k < 2 ^ 63 ∧ xs.length * k.toNat ≤ sizeLine ∧
  ∀ p, H p = none → Q (.ref p) (upd H p (.lst (List.replicate k.toNat xs).flatten))
theorem len_rep {α : Type} (xs : List α) (k : Nat) : (List.replicate k xs).flatten.length = k * xs.length := by
  induction k with
  | zero => simp
  | succ k ih => rw [List.replicate_succ, List.flatten_cons, List.length_append, ih, Nat.succ_mul, Nat.add_comm]
theorem op_rep : OpR X (binaryOp .Mult) rRep := by
  intro pins s σ H x y v u Q I rx ry h
  obtain ⟨l, k, xs, rfl, rfl, hH, h1, h2, hz, q⟩ := h
  cases rx
  obtain ⟨t, rfl⟩ := ry
  obtain ⟨z, its, n, r, hl, e⟩ := I.lstM hH
  have hlen : its.toArray.size * k.toNat ≤ sizeLine := by rw [List.size_toArray, ← hl]; exact hz
  have hcap : ¬ its.toArray.size * k.toNat > (2 ^ 63 - 1) / 8 := by
    have : (sizeLine : Nat) ≤ (2 ^ 63 - 1) / 8 := by decide
    omega
  have hfit : ¬ (!Builtin.List.listFitsIndex k) = true := by
    rw [fitsIndex_both h1 h2]
    exact Bool.false_ne_true
  have hlong : ¬ Builtin.List.listTooLong (its.toArray.size * k.toNat) = true := by
    rw [notLongL hlen]
    exact Bool.false_ne_true
  have hnew : List.foldl (fun x1 x2 => x1 ++ x2) #[] (List.replicate (if its.toArray.isEmpty = true then 0 else k.toNat) its.toArray) = (List.replicate k.toNat its).flatten.toArray := by
    have f0 : ∀ m : Nat, List.foldl (fun x1 x2 => x1 ++ x2) #[] (List.replicate m its.toArray) = (List.replicate m its).flatten.toArray := fun m => by
      have := foldl_rep its m []
      rw [List.nil_append] at this
      exact this
    rw [f0]
    cases its with
    | nil => simp
    | cons a r' => rw [if_neg (by simp)]
  refine wpAny_binaryOp_repeat_ref (T := "list") (U := "int") (by decide) ⟨_, e, rfl⟩ (fun s' => typeIs_int s' k t) noFill_list_mul F.fills_int_mul F.slot_int_rmul repeat_list F.slot_int_index.lookup
    (call_meets F.slot_int_rmul (typeIs_int s k t) F.entry_int_rmul (F.args_int_rmul_2 _ _) (int___rmul___int_list k t l its.toArray n)
      ⟨e, rfl, ⟨_, e, rfl⟩, call_meets F.slot_list_mul ⟨_, e, rfl⟩ F.entry_list_mul (F.args_list_mul_2 _ _) (AutoListH.list___mul___list_int_3 l its.toArray n k t hfit hcap hlong) ⟨e, ?_⟩⟩)
  rw [hnew]
  exact ⟨.ref _, _, I.lnew (t' := s.toks) (r.rep k.toNat) (by rw [len_rep, Nat.mul_comm]; exact hz), rfl, q _ I.fresh⟩

/-! ### del xs[i] -/
theorem del_list {pins : List (Addr × Obj)} {s : Shared} {σ : St} {H : Hp} {l : Addr} {xs : List V} {i : Int} {t : Tok} {k : Nat} {Q : Unit → Shared → Prop} (I : Inv X pins σ H s) (hH : H l = some (.lst xs))
    (h1 : -(2 ^ 63) ≤ i) (h2 : i < 2 ^ 63) (hk : seqIndex? i xs.length = some k) (h : ∀ s', Inv X pins σ (upd H l (.lst (xs.eraseIdx k))) s' → Q () s') :
    wpAny (model X.prog X.w) X.A (delItem (.ref l) (.int i t)) Q X.xe s := by
  obtain ⟨z, its, n, r, hl, e⟩ := I.lstM hH
  refine PySem.P.delItem_list (k := k) e (fitsIndex_both h1 h2) (by rw [List.size_toArray, ← hl]; exact hk) (h _ ?_) (by rw [List.size_toArray]; omega)
  refine I.lset (its' := its.eraseIdx k) (t' := s.toks) hH e ?_ (r.eraseIdx k) ?_
  · show its.toArray.eraseIdxIfInBounds k = (its.eraseIdx k).toArray
    rw [List.eraseIdxIfInBounds_toArray]
  · have := len_erase xs k
    omega
end

/-! ### xs[a:b] = ys -/
section
variable {prog : Program} {w : World} {A : Around} {E : Value → Shared → Prop} {s : Shared}
theorem splice_eq (its its2 : List Value) (a c : Nat) : its.toArray.extract 0 a ++ its2.toArray ++ its.toArray.extract c its.toArray.size = (its.take a ++ its2 ++ its.drop c).toArray := by
  apply Array.toList_inj.mp
  first
    | (simp
       exact List.take_of_length_le (by simp))
    | simp [List.take_of_length_le]
    | simp
theorem bounds_run {a c n : Nat} (hac : a ≤ c) (hc : c ≤ n) : sliceBounds (some (a : Int)) (some (c : Int)) none n = ((a : Int), (c : Int), 1) := by
  simp only [sliceBounds, Option.getD_none]
  have h1 : ¬ ((a : Int) < 0) := by omega
  have h2 : ¬ ((c : Int) < 0) := by omega
  simp only [h1, h2, if_false, show (1 : Int) > 0 by decide, if_true]
  congr 1
  · omega
  · congr 1; omega
set_option maxRecDepth 100000 in
/-- list.__setitem__ with a slice of step one and another list -/
theorem setItem_slice {l b sl : Addr} {items new : Array Value} {n n2 : Nat} {vl vu : Value} {a c : Nat} {Q : Unit → Shared → Prop}
    (e : s.heap.get? l = some { cls := .type "list", data := .seq items n }) (e2 : s.heap.get? b = some { cls := .type "list", data := .seq new n2 }) (hne : l ≠ b)
    (hs : s.heap.IsSliceOf sl vl vu .none) (pl : IsPart vl (some (a : Int))) (pu : IsPart vu (some (c : Int))) (hac : a ≤ c) (hc : c ≤ items.size)
    (hsz : items.size + new.size ≤ sizeLine) (h : Q () { s with heap := s.heap.update l (Obj.mapSeq fun xs => xs.extract 0 a ++ new ++ xs.extract c xs.size) }) :
    wpAny (model prog w) A (setItem (.ref l) (.ref sl) (.ref b)) Q E s := by
  have hl : s.heap.IsList l items := PySem.IsL.isList e
  have hb : s.heap.IsList b new := PySem.IsL.isList e2
  obtain ⟨os, hos, hcs, hds⟩ := id hs
  have hTs : s.TypeIs (.ref sl) "slice" := ⟨os, hos, hcs⟩
  have hstep : ¬ ((rawPart none == rawInt 0) = true) := Bool.false_ne_true
  have hsame : Builtin.List.listSameRef (.ref l) (.ref b) = false := by
    unfold Builtin.List.listSameRef
    exact beq_eq_false_iff_ne.mpr hne
  have hmax : (max (a : Int) (c : Int)).toNat = c := by omega
  have hz' : ((fun xs : Array Value => xs.extract 0 a ++ new ++ xs.extract c xs.size) items).size ≤ sizeLine + 1 := by
    simp only [Array.size_append, Array.size_extract]
    omega
  unfold setItem
  try with_reducible refine wpAny_holding ?_
  first | refine wpAny_bind (wpAny_pure ?_) | skip
  refine wpAny_bind (wpAny_sequenceKey hl.typeIs (by decide) ?_)
  refine wpAny_bind (wpAny_callSpecial?_slot (name := Str.ofString "__setitem__") hl.typeIs slot_list_setitem
    (wpAny_call_entry slot_list_setitem hl.typeIs entry_list_setitem ?_ (args_list_setitem _ _ _)))
  show wpAny _ _ (Builtin.List.listSubscript? (.ref sl) >>= _) _ _ s
  refine wpAny_bind ?_
  unfold Builtin.List.listSubscript?
  refine wpAny_bind (wpAny_specialOf hTs slice_no_index ?_)
  simp only [Option.isNone_none, if_true]
  refine wpAny_pure ?_
  show wpAny _ _ (typeOf (.ref sl) >>= _) _ _ s
  refine wpAny_bind (wpAny_typeOf hTs ?_)
  first
    | rw [if_neg (by decide)]
    | refine PySem.W.KFB.if_not (by decide) ?_
  rw [listSliceParts_eq]
  refine wpAny_bind (wpAny_bind (wpAny_field hos hds (x := .none) rfl (wpAny_bind (wpAny_listPart .none ?_))))
  rw [if_neg hstep]
  refine wpAny_bind (wpAny_field hos hds (x := vl) rfl (wpAny_bind (wpAny_listPart pl ?_)))
  refine wpAny_bind (wpAny_field hos hds (x := vu) rfl (wpAny_bind (wpAny_listPart pu (wpAny_pure ?_))))
  first
    | simp only [hsame, Bool.false_eq_true, if_false]
    | refine PySem.W.KFB.if_not hsame ?_
    | (dsimp only
       rw [if_neg (by rw [hsame]; exact Bool.false_ne_true)])
  refine wpAny_bind (m := Builtin.List.listAllItems (.ref b) "must assign iterable to extended slice") ?_
  unfold Builtin.List.listAllItems
  refine wpAny_bind (wpAny_typeOf hb.typeIs ?_)
  first
    | refine PySem.W.KFB.if_so (by decide) ?_
    | rw [if_pos (by decide)]
    | simp only [beq_self_eq_true, Bool.true_or, if_true]
  unfold Builtin.List.listItems
  refine wpAny_bind (wpAny_seqItems e2 rfl (wpAny_pure ?_))
  refine wpAny_bind (wpAny_bind (wpAny_seqItems e rfl (wpAny_pure ?_)))
  refine wpAny_bind (wpAny_of_eq ((sliceIndices_raw (some (a : Int)) (some (c : Int)) none items.size (by simp)).trans (congrArg (pure : Int × Int × Int → Sem (Int × Int × Int)) (bounds_run hac hc))) ?_)
  show wpAny _ _ (if ((1 : Int) == 1) = true then _ else _) _ _ s
  rw [if_pos (by decide)]
  refine wpAny_bind (wpAny_rule ?_)
  first
    | simp only [notLongL hsz, Bool.false_eq_true, if_false]
    | refine PySem.W.KFB.if_not (notLongL hsz) ?_
  first | refine wpAny_bind (wpAny_pure ?_) | skip
  show wpAny _ _ (updateSeq l (fun xs => xs.extract 0 ((a : Int)).toNat ++ new ++ xs.extract (max (a : Int) (c : Int)).toNat xs.size) >>= _) _ _ s
  rw [hmax, Int.toNat_natCast]
  refine wpAny_bind (wpAny_updateSeq (hz := Nat.le_trans (Nat.le_add_right _ _) hsz) (_hz' := hz') e rfl ?_)
  refine wpAny_bind (wpAny_letGo ?_)
  first
    | exact wpAny_bind (wpAny_pure (wpAny_pure ⟨.none, rfl, wpAny_pure h⟩))
    | exact wpAny_pure ⟨.none, rfl, wpAny_pure h⟩
end

section
variable {X : Cx}
/-- xs[a:c] = ys of another list, at the value level: sl is the slice object that was just made -/
theorem set_slice {pins : List (Addr × Obj)} {s : Shared} {σ : St} {H : Hp} {l b sl : Addr} {xs ys : List V} {a c : Int} {vl vu : Value} {Q : Unit → Shared → Prop} (I : Inv X pins σ H s)
    (hH : H l = some (.lst xs)) (hB : H b = some (.lst ys)) (hne : l ≠ b) (hs : s.heap.IsSliceOf sl vl vu .none) (ra : RelV (.int a) vl) (rc : RelV (.int c) vu) (h0 : 0 ≤ a) (hac : a ≤ c) (hc : c ≤ xs.length)
    (hz : xs.length + ys.length ≤ sizeLine) (h : ∀ s', Inv X pins σ (upd H l (.lst (xs.take a.toNat ++ ys ++ xs.drop c.toNat))) s' → Q () s') :
    wpAny (model X.prog X.w) X.A (setItem (.ref l) (.ref sl) (.ref b)) Q X.xe s := by
  obtain ⟨ta, rfl⟩ := ra
  obtain ⟨tc, rfl⟩ := rc
  obtain ⟨z, its, n, r, hl, e⟩ := I.lstM hH
  obtain ⟨z2, its2, n2, r2, hl2, e2⟩ := I.lstM hB
  obtain ⟨a', rfl⟩ := Int.eq_ofNat_of_zero_le h0
  obtain ⟨c', rfl⟩ := Int.eq_ofNat_of_zero_le (Int.le_trans h0 hac)
  simp only [Int.toNat_natCast] at h
  refine setItem_slice (a := a') (c := c') e e2 hne hs (.int _ _) (.int _ _) (by omega) (by rw [List.size_toArray]; omega) (by rw [List.size_toArray, List.size_toArray]; omega) (h _ ?_)
  refine I.lset (its' := its.take a' ++ its2 ++ its.drop c') (t' := s.toks) hH e ?_ (Vals.append (Vals.append (r.take _) r2) (r.drop _)) ?_
  · exact splice_eq its its2 a' c'
  · rw [List.length_append, List.length_append, List.length_take, List.length_drop]
    omega
end
end L2

namespace Att
open PySem PySem.W PySem.Calls PyProof.Rows

/-! ### the script -/
theorem ints_of_wellAll {P : Params} {h : Heap} : ∀ (ns : List Int) (vs : List Value), WellAll P h vs (ns.map WData.int) → IntsAre vs ns := by
  intro ns
  induction ns with
  | nil =>
    intro vs w
    rw [List.map_nil] at w
    cases w
    exact .nil
  | cons n ns ih =>
    intro vs w
    rw [List.map_cons] at w
    cases w with
    | cons a b =>
      cases a
      exact .cons _ _ (ih _ b)

theorem script_of {l : OpenLaw} {n : Nat} (hn : l.most = some n) {P : Params} {h : Heap} {args : List WData} {vals : List Value}
    (hpre : l.row.toRowW.claim.pre args = true) (hwl : WellAll P h vals args) :
    ∃ a vs ns, vals = [Value.ref a] ∧ args = [WData.list (ns.map WData.int)] ∧ h.get? a = some { cls := .type "list", data := .seq vs.toArray } ∧ IntsAre vs ns ∧ ns.length ≤ n := by
  have hsh : WShape.hasAll [] args [.list .int] = true := (pre_splitW hpre).1
  have hc : l.pre.holds [] { args := args } = true := (pre_splitW hpre).2
  obtain ⟨d, r, rfl, h1, h2⟩ := hasAllW_cons hsh
  obtain rfl := hasAllW_nil h2
  obtain ⟨xs, rfl, h3⟩ := hasW_list h1
  obtain ⟨ns, rfl⟩ := items_int h3
  have hlen : ns.length ≤ n := by
    unfold OpenLaw.pre at hc
    have h4 : (WTm.not (.lt (.lit (.int (n : Int))) (.len (.arg 0)))).holds [] { args := [.list (ns.map .int)] } = true := by
      have h4 := (holds_andW hc).1
      rw [hn] at h4
      exact h4
    have h5 := condW_of h4 (w_not (w_lt w_lit (w_len_list (w_arg rfl))))
    rw [List.length_map] at h5
    refine Nat.le_of_not_lt fun q => ?_
    have q' : (n : Int) < ((ns.length : Nat) : Int) := by omega
    first
      | (rw [decide_eq_true q'] at h5; exact absurd h5 (by decide))
      | (simp at h5; omega)
  cases hwl with
  | cons w1 w2 =>
    cases w2
    cases w1 with
    | list ho hall => exact ⟨_, _, ns, rfl, rfl, ho, ints_of_wellAll ns _ hall, hlen⟩

theorem post_true (l : OpenLaw) (args : List WData) : l.row.toRowW.claim.post args (.bool true) args = true :=
  postW_of (r := l.row.toRowW) (X := (true == true))
    (show WShape.has [] (.bool true) .bool = true by first | rfl | decide | simp [WShape.has, WShape.arms, WShape.armsAll])
    (show (WTm.eq .res (.lit (.bool true))).value [] { args := args, res := some (.bool true), after := args } = some (.bool (true == true)) from w_eq_bool (w_res rfl) w_lit) rfl

/-! ### the attachment: holds_open's last premise (the goal 'hc' behind k_head) from a wpAny of the law's body -/
theorem attach {l : OpenLaw} {n : Nat} {q : Program} {loose : List Str} {XP : (Str → Option Value) → Heap → Prop} {YP : World → Heap → Prop} {d : DefRec} {x : Str}
    (hn : l.most = some n) (hdf : d.params.defaults = [])
    (hbind : ∀ pm cd doc v : Value, bindArgs (docDef d.name d.params d.body d.scope pm cd doc) ⟨[v], []⟩ = pure [(x, v)])
    (hx : d.scope.names.lookup x = some .local ∨ d.scope.names.lookup x = some .cell)
    (hk : d.scope.kind = .function) (hco : d.scope.isCoroutine = false) (hgen : d.scope.isGenerator = false)
    (body : ∀ (w : World) (s₀ s₁ s : Shared) (mg mb : Str → Option Value) (fa : Addr) (o : Obj) (pm cd doc : Value) (a : Addr) (vs : List Value) (ns : List Int),
      Ground q loose [] XP w s₀ mg mb s₁.heap → YP w s₁.heap →
      s₁.heap.get? fa = some o → o.data = .func (docDef d.name d.params d.body d.scope pm cd doc) → s₁.heap.CodeRec cd d.name → mg d.name = some (.ref fa) →
      s₁.heap.get? a = some { cls := .type "list", data := .seq vs.toArray } → IntsAre vs ns → ns.length ≤ n →
      s.gens = #[] → s.os = s₁.os →
      Fr s₁.heap s₁.heap.objs.size s.heap (bindL (envOfC d.name d.scope s₁.heap.objs.size fa cd).kindOf [(x, .ref a)] fun _ => none) →
      Cl s₁.heap.objs.size (cellsFrom (s₁.heap.objs.size + 1) d.scope.names []) s.heap (bindC (envOfC d.name d.scope s₁.heap.objs.size fa cd).kindOf [(x, .ref a)] fun _ => none) →
      wpAny (model l.prog w) (callerA.deeper (envOfC d.name d.scope s₁.heap.objs.size fa cd)) (execs d.body (envOfC d.name d.scope s₁.heap.objs.size fa cd))
        (fun f s' => f = .ret (.bool true) ∧ OldK s₁.heap s'.heap ∧ s'.os = s₁.os ∧ AllBare s'.gens) (fun _ _ => False) s) :
    WalkO q loose XP YP l.row.toRowW d [] (fun f vs => PySem.call f vs) := by
  intro w s₀ s₁ mg mb G Y fa o pm cd doc dV kV ho hd hcd hD hmg hg args vals as hpre hlay hrd hwl hlo
  obtain rfl : dV = .none := Dflts.none hD hdf
  obtain rfl : kV = .none := Dflts.noKw hD
  obtain ⟨a, vs, ns, rfl, rfl, hobj, hints, hlen⟩ := script_of hn hpre hwl
  refine enter_call ?_
  refine call_cells_ret (o := o) (by rw [depth_caller]; decide) ho (fd_plain hd) G.T.nolimit hcd (hbind pm cd doc (.ref a)) (fun y hy => ?_) (fun h₁ tk F X => ?_) hco hgen hk
  · obtain rfl : y = (x, Value.ref a) := List.mem_singleton.mp hy
    rcases hx with e | e
    · exact .inl e
    · exact .inr ⟨e, cellsFrom_some _ _ _ (.inl e)⟩
  · refine wpAny_mono (body w s₀ s₁ { s₁ with heap := h₁, toks := tk } mg mb fa o pm cd doc a vs ns G Y ho (fd_plain hd) hcd hmg hobj hints hlen hg rfl F X) (fun f s' hq => ?_) (fun _ _ hq => hq)
    obtain ⟨rfl, h2, h3, h4⟩ := hq
    exact ⟨.inl ⟨.bool true, .bool true, [], rfl, fun _ => rfl, .bool true, post_true l _, fun _ => ⟨List.Pairwise.nil, fun _ hm => (nomatch hm)⟩⟩, h2, h3, h4⟩

/-- the same from a codeAny of the CALL (for a layer whose function contracts speak of calls) -/
theorem attach_call {l : OpenLaw} {n : Nat} {q : Program} {loose : List Str} {XP : (Str → Option Value) → Heap → Prop} {YP : World → Heap → Prop} {d : DefRec}
    (hn : l.most = some n) (hdf : d.params.defaults = [])
    (call : ∀ (w : World) (s₀ s₁ : Shared) (mg mb : Str → Option Value) (fa : Addr) (o : Obj) (pm cd doc : Value) (a : Addr) (vs : List Value) (ns : List Int),
      Ground q loose [] XP w s₀ mg mb s₁.heap → YP w s₁.heap →
      s₁.heap.get? fa = some o → o.data = .func (docDef d.name d.params d.body d.scope pm cd doc) → s₁.heap.CodeRec cd d.name → mg d.name = some (.ref fa) →
      s₁.heap.get? a = some { cls := .type "list", data := .seq vs.toArray } → IntsAre vs ns → ns.length ≤ n → s₁.gens = #[] →
      codeAny (model l.prog w) callerA (.call (.ref fa) ⟨[.ref a], []⟩) (fun r s' => r = .ok (.ret (.bool true)) ∧ OldK s₁.heap s'.heap ∧ s'.os = s₁.os ∧ AllBare s'.gens) s₁) :
    WalkO q loose XP YP l.row.toRowW d [] (fun f vs => PySem.call f vs) := by
  intro w s₀ s₁ mg mb G Y fa o pm cd doc dV kV ho hd hcd hD hmg hg args vals as hpre hlay hrd hwl hlo
  obtain rfl : dV = .none := Dflts.none hD hdf
  obtain rfl : kV = .none := Dflts.noKw hD
  obtain ⟨a, vs, ns, rfl, rfl, hobj, hints, hlen⟩ := script_of hn hpre hwl
  refine enter_call (codeAny_mono (call w s₀ s₁ mg mb fa o pm cd doc a vs ns G Y ho (fd_plain hd) hcd hmg hobj hints hlen hg) fun r s' hq => ?_)
  obtain ⟨rfl, h2, h3, h4⟩ := hq
  exact ⟨.inl ⟨.bool true, .bool true, [], rfl, fun _ => rfl, .bool true, post_true l _, fun _ => ⟨List.Pairwise.nil, fun _ hm => (nomatch hm)⟩⟩, h2, h3, h4⟩

/-- the same where the top left finished generators (o_head chose holds_openN): nothing may have changed at all and no generator may be left -/
theorem attachN {l : OpenLaw} {n : Nat} {q : Program} {loose : List Str} {XP : (Str → Option Value) → Heap → Prop} {YP : World → Heap → Prop} {d : DefRec} {x : Str}
    (hn : l.most = some n) (hdf : d.params.defaults = [])
    (hbind : ∀ pm cd doc v : Value, bindArgs (docDef d.name d.params d.body d.scope pm cd doc) ⟨[v], []⟩ = pure [(x, v)])
    (hx : d.scope.names.lookup x = some .local ∨ d.scope.names.lookup x = some .cell)
    (hk : d.scope.kind = .function) (hco : d.scope.isCoroutine = false) (hgen : d.scope.isGenerator = false)
    (body : ∀ (w : World) (s₀ s₁ s : Shared) (mg mb : Str → Option Value) (fa : Addr) (o : Obj) (pm cd doc : Value) (a : Addr) (vs : List Value) (ns : List Int),
      Ground q loose [] XP w s₀ mg mb s₁.heap → YP w s₁.heap →
      s₁.heap.get? fa = some o → o.data = .func (docDef d.name d.params d.body d.scope pm cd doc) → s₁.heap.CodeRec cd d.name → mg d.name = some (.ref fa) →
      s₁.heap.get? a = some { cls := .type "list", data := .seq vs.toArray } → IntsAre vs ns → ns.length ≤ n →
      s.gens = #[] → s.os = s₁.os →
      Fr s₁.heap s₁.heap.objs.size s.heap (bindL (envOfC d.name d.scope s₁.heap.objs.size fa cd).kindOf [(x, .ref a)] fun _ => none) →
      Cl s₁.heap.objs.size (cellsFrom (s₁.heap.objs.size + 1) d.scope.names []) s.heap (bindC (envOfC d.name d.scope s₁.heap.objs.size fa cd).kindOf [(x, .ref a)] fun _ => none) →
      wpAny (model l.prog w) (callerA.deeper (envOfC d.name d.scope s₁.heap.objs.size fa cd)) (execs d.body (envOfC d.name d.scope s₁.heap.objs.size fa cd))
        (fun f s' => f = .ret (.bool true) ∧ (∀ b o, s₁.heap.get? b = some o → s'.heap.get? b = some o) ∧ s'.os = s₁.os ∧ s'.gens = #[]) (fun _ _ => False) s) :
    WalkN q loose XP YP l.row.toRowW d [] (fun f vs => PySem.call f vs) := by
  intro w s₀ s₁ mg mb G Y fa o pm cd doc dV kV ho hd hcd hD hmg hg args vals as hpre hlay hrd hwl hlo
  obtain rfl : dV = .none := Dflts.none hD hdf
  obtain rfl : kV = .none := Dflts.noKw hD
  obtain ⟨a, vs, ns, rfl, rfl, hobj, hints, hlen⟩ := script_of hn hpre hwl
  refine enter_callW ?_
  refine call_cells_ret (o := o) (by rw [depth_caller]; decide) ho (fd_plain hd) G.T.nolimit hcd (hbind pm cd doc (.ref a)) (fun y hy => ?_) (fun h₁ tk F X => ?_) hco hgen hk
  · obtain rfl : y = (x, Value.ref a) := List.mem_singleton.mp hy
    rcases hx with e | e
    · exact .inl e
    · exact .inr ⟨e, cellsFrom_some _ _ _ (.inl e)⟩
  · refine wpAny_mono (body w s₀ s₁ { s₁ with heap := h₁, toks := tk } mg mb fa o pm cd doc a vs ns G Y ho (fd_plain hd) hcd hmg hobj hints hlen hg rfl F X) (fun f s' hq => ?_) (fun _ _ hq => hq)
    obtain ⟨rfl, h2, h3, h4⟩ := hq
    exact ⟨.inl ⟨.bool true, .bool true, [], rfl, fun _ => rfl, .bool true, post_true l _, fun _ => ⟨List.Pairwise.nil, fun _ hm => (nomatch hm)⟩⟩, h2, h3, h4⟩

/-! ### rules over ANY heap (no ledger) from facts about the written part K: the library's own take a ledger (News) for what they write -/
section
variable {prog : Program} {w : World} {A : Around} {E : Value → Shared → Prop} {s : Shared} {K : Frag}

/-- a def of the module, or a method (qual 'C.m'), entered: the frame is the next address; cells behind it -/
theorem call_fn {R : Result → Shared → Prop} {name qual : Str} {params : Arguments} {body : List Stmt} {scope : Scope} {dV kV doc pm cdv ct oc : Value} {an od : Option Addr} {osl : Array (Option Value)} {f : Addr} {args : Args} {binds : List (Str × Value)}
    (X : K.In s.heap) (hlim : s.heap.NoLimit) (ho : K.lookup f = some ⟨oc, od, .func (fnOf name qual params body scope dV kV doc pm an cdv ct), osl⟩) (hcd : codeIn K cdv qual = true) (hroom : A.depth < recursionLimit)
    (hbind : BindsTo s (fnOf name qual params body scope dV kV doc pm an cdv ct) args binds)
    (hkind : (binds.all fun y => scope.names.lookup y.1 == some .local || scope.names.lookup y.1 == some .cell) = true)
    (h : ∀ s₁, InCallC s s.heap.objs.size (bindL (envOfC qual scope s.heap.objs.size f cdv).kindOf binds fun _ => none) (cellsFrom (s.heap.objs.size + 1) scope.names [])
        (bindC (envOfC qual scope s.heap.objs.size f cdv).kindOf binds fun _ => none) s₁ →
      wpAny (model prog w) (A.deeper (envOfC qual scope s.heap.objs.size f cdv)) (execs body (envOfC qual scope s.heap.objs.size f cdv))
        (fun fl s' => R (.ok (.ret (match fl with | .ret v => v | _ => .none))) s')
        (fun e s' => wpAny (model prog w) (A.deeper (envOfC qual scope s.heap.objs.size f cdv)) (leaving (envOfC qual scope s.heap.objs.size f cdv) e) (fun _ s'' => R (.error e) s'') (fun e' s'' => R (.error e') s'') s') s₁)
    (hco : scope.isCoroutine = false) (hgen : scope.isGenerator = false) (hk : scope.kind = .function) : codeAny (model prog w) A (.call (.ref f) args) R s := by
  refine codeAny_call_function hroom (X _ _ ho) rfl hco hgen rfl (codeRec_of X hcd) (hbind _ _ _ _ ?_)
  refine wpAny_newFunctionEnv_cells hk (kindsX hkind _) fun env he s₁ x => ?_
  subst he
  exact ⟨hlim.keeps x.toInCall.keep, codeAny_func (h s₁ x)⟩

/-- C(..): dict at size, instance at size + 1, then __init__ -/
theorem make_obj {R : Result → Shared → Prop} {C fI : Addr} {rest : List Value} {kw : List (Str × Value)}
    (X : K.In s.heap) (hm : makesIn K C = true) (hi : findIn K (.ref C) "__init__" = some (some (.ref fI))) (hf : isFn K (.ref fI) = true)
    (h : codeAny (model prog w) (A.under (.builtin "type.__call__" ⟨.ref C :: rest, kw⟩)) (.call (.ref fI) ⟨.ref (s.heap.objs.size + 1) :: rest, kw⟩) (InitBack (s.heap.objs.size + 1) R)
      { s with heap := (s.heap.push emptyDict).push (instObj C s.heap.objs.size) }) : codeAny (model prog w) A (.call (.ref C) ⟨rest, kw⟩) R s := by
  obtain ⟨hh, g, d, t, os⟩ := s
  exact make_core (makes_of X hm) (looks_findIn X hi) (fun self => bind_fn X self (beq_iff_eq.mp hf)) (.inl rfl) h

/-- x.name where the instance's dict holds the name and the class does not -/
theorem get_field {x C : Addr} {ox : Obj} {es : List DictEntry} {n : Nat} {name : Str} {expr : Bool} {v : Value} {Q : Value → Shared → Prop}
    (X : K.In s.heap) (I : PySem.W.InstAt s.heap x ox C (some (dictOf es n))) (hg : plainGet K C name = true) (hh : hasDictIn K C = true) (ha : findIn K (.ref C) name = some none)
    (hl : getL name es = some (some v)) (hv : handedIn v = true) (h : Q v { s with toks := s.toks + 1 }) : wpAny (model prog w) A (getAttr (.ref x) name expr) Q E s :=
  get_value X I (plainGet_of hg).1 (findObj_own hh ha rfl hl) hv h

/-- x.m(..): the method found in the class -/
theorem get_method {x C f : Addr} {ox : Obj} {es : List DictEntry} {n : Nat} {name : Str} {pl : Sem Bool} {Q : Value × List Value → Shared → Prop}
    (X : K.In s.heap) (I : PySem.W.InstAt s.heap x ox C (some (dictOf es n))) (hg : plainGet K C name = true) (hf : findIn K (.ref C) name = some (some (.ref f))) (ht : isFn K (.ref f) = true)
    (hl : getL name es = some none) (h : Q (.ref f, [.ref x]) s) : wpAny (model prog w) A (getMethod (.ref x) name pl) Q E s :=
  method_fn X I (plainGet_of hg).1 (plainGet_of hg).2 hf (beq_iff_eq.mp ht) (by show (lookIn name (dictOf es n)).map _ = _; rw [lookIn_dict, hl]; rfl) h

/-! the whole heap as the ledger: makes every rule that writes through a ledger a rule over any heap -/
def noObjs (h : Heap) : Heap := { h with objs := #[] }
theorem noObjs_get (h : Heap) (b : Addr) : (noObjs h).get? b = none := by
  cases e : (noObjs h).get? b with
  | none => rfl
  | some o => exact absurd (Heap.lt_size e) (Nat.not_lt_zero _)
def ledger (h : Heap) (L d : Addr) : List (Addr × Obj) := (List.range h.objs.size).filterMap fun a => if a = L ∨ a = d then none else (h.get? a).map fun o => (a, o)
theorem mem_ledger {h : Heap} {L d a : Addr} {o : Obj} : (a, o) ∈ ledger h L d ↔ a ≠ L ∧ a ≠ d ∧ h.get? a = some o := by
  unfold ledger
  rw [List.mem_filterMap]
  constructor
  · rintro ⟨b, _, e⟩
    split at e
    · cases e
    · rename_i hb
      obtain ⟨o', ho, e'⟩ := Option.map_eq_some_iff.mp e
      cases e'
      exact ⟨fun q => hb (.inl q), fun q => hb (.inr q), ho⟩
  · rintro ⟨n1, n2, ho⟩
    refine ⟨a, List.mem_range.mpr (Heap.lt_size ho), ?_⟩
    rw [if_neg (show ¬ (a = L ∨ a = d) from fun q => q.elim n1 n2), ho] <;> rfl
theorem news_ledger {h : Heap} {L d : Addr} {od : Obj} (hne : d ≠ L) (ho : h.get? d = some od) : News (noObjs h) L h ([] ++ (d, od) :: ledger h L d) := by
  rintro ⟨a, o⟩ hp
  rcases List.mem_cons.mp hp with e | hp
  · cases e
    exact ⟨ho, hne, noObjs_get _ _⟩
  · obtain ⟨n1, n2, e⟩ := mem_ledger.mp hp
    exact ⟨e, n1, noObjs_get _ _⟩
theorem fr_all {h : Heap} {L : Addr} {m : Str → Option Value} (n : h.Ns L m) : Fr (noObjs h) L h m :=
  ⟨n, fun b o e => (by rw [noObjs_get] at e; cases e), Nat.zero_le _⟩
/-- Upd of the head entry (for append_K, setItem_K ..) -/
theorem upd_ledger {h : Heap} {L d : Addr} {o o' : Obj} : Upd d o o' ((d, o) :: ledger h L d) ((d, o') :: ledger h L d) :=
  .head fun ⟨_, _⟩ hp => (mem_ledger.mp hp).2.1

/-- x.name = v over any heap: L is any namespace of the heap (the frame's, say): its map stays, its object is not told; all else but the dict stays -/
theorem set_field {x C dx L : Addr} {ox : Obj} {m : Str → Option Value} {es es' : List DictEntry} {n n' : Nat} {name : Str} {v : Value} {Q : Unit → Shared → Prop}
    (X : K.In s.heap) (I : PySem.W.InstAt s.heap x ox C (some (dictOf es n))) (hd : ox.dict = some dx) (hL : s.heap.Ns L m) (hne : dx ≠ L)
    (hs : findIn K (.ref C) "__setattr__" = some (some (.builtin "object.__setattr__"))) (hp : plainOver K C = true) (ht : takerIn K C name = some none) (hh : hasDictIn K C = true) (hl : (getL name es).isSome = true)
    (e : (putL name (PyData.keyHash w.params name) (.str name (s.toks + 1)) v es, putN name es n) = (es', n')) (hz : es'.length ≤ 1000)
    (h : ∀ h' : Heap, h'.Ns L m → h'.get? dx = some (dictOf es' n') → (∀ b o, b ≠ dx → b ≠ L → s.heap.get? b = some o → h'.get? b = some o) → Q () { s with heap := h', toks := s.toks + 2 }) :
    wpAny (model prog w) A (setAttr (.ref x) name v) Q E s := by
  obtain ⟨e1, e2⟩ := Prod.mk.inj e
  have hdx : s.heap.get? dx = some (dictOf es n) := by
    have := I.dict
    rw [hd] at this
    exact this
  refine set_plain X I hs (osa_dict (s := { s with toks := s.toks + 1 }) (h₀ := noObjs s.heap) (L := L) (m := m) (od := dictOf es n) (od' := dictOf es' n') (es := es') (n := n') (pre := []) (post := ledger s.heap L dx)
    (fr_all hL) (news_ledger hne hdx) X I hd hp ht hh hl (fun _ q => nomatch q) (fun ⟨_, _⟩ q => (mem_ledger.mp q).2.1) (by rw [putName_dict, e1, e2]) rfl hz fun h' F' N' => ?_)
  exact h h' F'.ns (N'.get (List.Mem.head _)) fun b o n1 n2 ho => N'.get (List.Mem.tail _ (mem_ledger.mpr ⟨n2, n1, ho⟩))
end
end Att

namespace L2
open PySem PySem.Spec PyProof.Rows

theorem vals_ints : ∀ {vs : List Value} {ns : List Int}, IntsAre vs ns → Vals (ns.map V.int) vs
  | _, _, .nil => .nil
  | _, _, .cons n t h => .cons ⟨t, rfl⟩ (vals_ints h)

/-- nothing is tracked but the script, known to the object (or it is an object of the module) -/
def Only (H : Hp) : Prop := ∀ b, H b = none ∨ ∃ o xs, H b = some (.frz o (.lst xs))

/-- THE HEAD: the law's promise, at the heap behind the top. F, the promise of the law's def, may use that base is part of the heap (so K.In base, base.Ns mainGlobals mg stand in Mod) -/
theorem law_call {P : Program} {w : World} {K : PySem.W.Frag} {mg mb : Str → Option Value} {CX : CXT} {k : Nat} {fa a : Addr} {fd : FuncData} {x : Str} {sp : Sp} {s₁ : Shared} {vs : List Value} {ns : List Int}
    (KX : K.In s₁.heap) (hns : s₁.heap.Ns mainGlobals mg) (hb : s₁.heap.Ns builtinsNs mb) (hbb : ∀ x : Str, x ≠ "__name__" → mb x = bootBuiltins x) (hlim : s₁.heap.NoLimit) (hg : s₁.gens = #[])
    (ha : s₁.heap.get? a = some { cls := .type "list", data := .seq vs.toArray }) (hi : IntsAre vs ns) (hl : ns.length ≤ sizeLine) (hr : Room k callerA)
    (F : ∀ base : Heap, K.In base → base.Ns mainGlobals mg → FnOk P w K mg base CX k fa fd [x] sp) (hbind : ∀ (s : Shared) (u : Value), BindsTo s fd ⟨[u], []⟩ [(x, u)])
    (hsp : ∀ H : Hp, Only H → SqL K H a (ns.map V.int) → sp [.ref a] H (fun v _ => v = .bl true) fun _ _ _ => False)
    (hCX : ∀ H e s', CX [] H s₁ (fun _ _ _ => False) e s' → False) :
    codeAny (model P w) callerA (.call (.ref fa) ⟨[.ref a], []⟩) (fun r s' => r = .ok (.ret (.bool true)) ∧ OldK s₁.heap s'.heap ∧ s'.os = s₁.os ∧ AllBare s'.gens) s₁ := by
  have rv := vals_ints hi
  have lenV := hi.length
  -- from an abstract heap in which nothing but the script may be tracked
  have core : ∀ H : Hp, Only H → SqL K H a (ns.map V.int) → HOk P w H s₁.heap → (∀ b, H b ≠ none → b = a) → (H a ≠ none → K.lookup a = none) →
      codeAny (model P w) callerA (.call (.ref fa) ⟨[.ref a], []⟩) (fun r s' => r = .ok (.ret (.bool true)) ∧ OldK s₁.heap s'.heap ∧ s'.os = s₁.os ∧ AllBare s'.gens) s₁ := by
    intro H hO hS hok hA hK
    have base_of : ∀ {b : Addr} {o : Obj}, s₁.heap.get? b = some o → H b = none → (hidT s₁.heap H).get? b = some o := fun e n => hidT_get e n
    have noA : ∀ {b : Addr} {o : Obj} {es : Array DictEntry} {ep : Nat}, s₁.heap.get? b = some o → o.data = .dict es ep → H b = none := fun {b o es ep} e d => by
      cases q : H b with
      | none => rfl
      | some u =>
        have e' : b = a := hA b (by rw [q]; simp)
        subst e'
        rw [ha] at e; cases e
        have d' : Data.seq vs.toArray _ = Data.dict es ep := d
        cases d'
    have nsK : ∀ {b : Addr} {m : Str → Option Value}, s₁.heap.Ns b m → (hidT s₁.heap H).Ns b m := fun {b m} ⟨o, es, ep, e, d, r⟩ => ⟨o, es, ep, base_of e (noA e d), d, r⟩
    have hKb : K.In (hidT s₁.heap H) := fun b o e => base_of (KX b o e) (by
      cases q : H b with
      | none => rfl
      | some u =>
        have e' : b = a := hA b (by rw [q]; simp)
        subst e'
        rw [hK (by rw [q]; simp)] at e; cases e)
    have hM : Mod K mg (hidT s₁.heap H) := ⟨hKb, nsK hns, ⟨mb, nsK hb, hbb⟩, let ⟨mc, h1, h2⟩ := hlim; ⟨mc, nsK h1, h2⟩⟩
    have e0 : Env0 P w K mg (hidT s₁.heap H) callerA [] s₁ H := ⟨rfl, hM, fun b o e => of_hidT e, Nat.le_of_eq (hidT_size _ _), trivial, fun b hb => absurd (show b ∈ ([] : List Addr) from hb) (by simp), hok, .of_eq hg⟩
    refine codeAny_mono ((F _ hKb (nsK hns)).run callerA [] s₁ H ⟨[.ref a], []⟩ [.ref a] [.ref a] _ _ hr e0 (hbind s₁ (.ref a)) (.cons rfl .nil) (hsp H hO hS)) fun r s' h => ?_
    cases r with
    | error e => exact (hCX H e s' h).elim
    | ok fl =>
      cases fl with
      | next => exact False.elim h
      | brk => exact False.elim h
      | cont => exact False.elim h
      | ret u =>
        obtain ⟨v, H', os, bare, un, hok', r', q⟩ := h
        have q' : v = .bl true := q
        subst q'
        obtain rfl : u = Value.bool true := r'
        refine ⟨rfl, OldK.of_keep fun b o e => ?_, os, bare⟩
        cases q : H b with
        | none => exact un.keep b o e q (by intro z; exact absurd (show b ∈ ([] : List Addr) from z) (by simp)) (by simp)
        | some u =>
          rcases hO b with z | ⟨ob, xs, z⟩
          · rw [q] at z; cases z
          · have z2 := un.frzs b ob _ z
            obtain ⟨e1, _⟩ := hok b _ z
            obtain ⟨e2, _⟩ := hok' b _ z2
            rw [e] at e1; cases e1
            exact e2
  cases hk : K.lookup a with
  | some o =>
    -- the script is one of the module's own objects
    have e := KX a o hk
    rw [ha] at e
    cases e
    refine core (fun _ => none) (fun _ => .inl rfl) (.inr ⟨_, vs.toArray, _, hk, rfl, rfl, rfl, by rw [List.size_toArray, lenV]; exact hl, by simpa using rv⟩) (fun b u z => by have z' : (none : Option HO) = some u := z; cases z') (fun b z => absurd rfl z) fun z => absurd rfl z
  | none =>
    refine core (fun b => if b = a then some (.frz { cls := .type "list", data := .seq vs.toArray } (.lst (ns.map V.int))) else none) (fun b => ?_) (.inl (.inr ⟨{ cls := .type "list", data := .seq vs.toArray }, if_pos rfl⟩)) (fun b u z => ?_) (fun b z => ?_) fun _ => hk
    · by_cases hb : b = a
      · exact .inr ⟨_, _, if_pos hb⟩
      · exact .inl (if_neg hb)
    · by_cases hb : b = a
      · have z' := (if_pos hb).symm.trans z
        cases z'
        subst hb
        exact ⟨ha, by rw [List.length_map]; exact hl, vs, _, rv, ha⟩
      · have z' := (if_neg hb).symm.trans z
        cases z'
    · by_cases hb : b = a
      · exact hb
      · exact absurd (if_neg hb) z
end L2

namespace L2
open PySem PySem.Spec PyProof.Rows

abbrev KOf {K : PySem.W.Frag} {h : Heap} (_ : K.In h) : PySem.W.Frag := K

/-- the goal that k_head leaves (case hc), from the law's promise. F gives the function object fd (K's own) once, then the promise over every base -/
theorem walk_of {l : PySem.W.OpenLaw} {n k : Nat} {q : Program} {loose : List Str} {XP : (Str → Option Value) → Heap → Prop} {YP : World → Heap → Prop} {d : DefRec} {K : Params → PySem.W.Frag} {CX : World → CXT} {sp : World → Sp} {x : Str}
    (hn : l.most = some n) (hn2 : n ≤ sizeLine) (hdf : d.params.defaults = []) (hr : Room k callerA)
    (hY : ∀ (w : World) (h : Heap), YP w h → (K w.params).In h)
    (F : ∀ (w : World) (mg : Str → Option Value) (fa : Addr) (h : Heap), (K w.params).In h → h.Ns mainGlobals mg → mg d.name = some (.ref fa) →
      ∃ fd : FuncData, (∀ (s : Shared) (u : Value), BindsTo s fd ⟨[u], []⟩ [(x, u)]) ∧
        ∀ base : Heap, (K w.params).In base → base.Ns mainGlobals mg → FnOk l.prog w (K w.params) mg base (CX w) k fa fd [x] (sp w))
    (hsp : ∀ (w : World) (H : Hp) (a : Addr) (ns : List Int), ns.length ≤ n → Only H → SqL (K w.params) H a (ns.map V.int) → sp w [.ref a] H (fun v _ => v = .bl true) fun _ _ _ => False)
    (hCX : ∀ (w : World) (H : Hp) (s : Shared) (e : Value) (s' : Shared), CX w [] H s (fun _ _ _ => False) e s' → False) :
    PySem.W.WalkO q loose XP YP l.row.toRowW d [] (fun f vs => PySem.call f vs) := by
  refine Att.attach_call hn hdf fun w s₀ s₁ mg mb fa o pm cd doc a vs ns G Y ho hd hcd hmg hobj hints hlen hg => ?_
  have KX := hY w _ Y
  obtain ⟨fd, hb, hF⟩ := F w mg fa _ KX G.T.g hmg
  exact law_call KX G.T.g G.T.b G.T.builtins G.T.nolimit hg hobj hints (Nat.le_trans hlen hn2) hr hF hb (fun H hO hS => hsp w H a ns hlen hO hS) fun H e s' => hCX w H s₁ e s'
/-- the same where the promise hangs on the written part alone: (sp := My.sp_law), no hole under a binder -/
theorem walk_ofK {l : PySem.W.OpenLaw} {n k : Nat} {q : Program} {loose : List Str} {XP : (Str → Option Value) → Heap → Prop} {YP : World → Heap → Prop} {d : DefRec} {K : Params → PySem.W.Frag} {CX : CXT} {sp : PySem.W.Frag → Sp} {x : Str}
    (hn : l.most = some n) (hn2 : n ≤ sizeLine) (hdf : d.params.defaults = []) (hr : Room k callerA)
    (hY : ∀ (w : World) (h : Heap), YP w h → (K w.params).In h)
    (F : ∀ (w : World) (mg : Str → Option Value) (fa : Addr) (h : Heap), (K w.params).In h → h.Ns mainGlobals mg → mg d.name = some (.ref fa) →
      ∃ fd : FuncData, (∀ (s : Shared) (u : Value), BindsTo s fd ⟨[u], []⟩ [(x, u)]) ∧
        ∀ base : Heap, (K w.params).In base → base.Ns mainGlobals mg → FnOk l.prog w (K w.params) mg base CX k fa fd [x] (sp (K w.params)))
    (hsp : ∀ (K : PySem.W.Frag) (H : Hp) (a : Addr) (ns : List Int), ns.length ≤ n → Only H → SqL K H a (ns.map V.int) → sp K [.ref a] H (fun v _ => v = .bl true) fun _ _ _ => False)
    (hCX : ∀ (H : Hp) (s : Shared) (e : Value) (s' : Shared), CX [] H s (fun _ _ _ => False) e s' → False) :
    PySem.W.WalkO q loose XP YP l.row.toRowW d [] (fun f vs => PySem.call f vs) :=
  walk_of (K := K) (CX := fun _ => CX) (sp := fun w => sp (K w.params)) hn hn2 hdf hr hY F (fun w H a ns h1 h2 h3 => hsp (K w.params) H a ns h1 h2 h3) fun _ H s e s' => hCX H s e s'
end L2

/- THE LAST THEOREM (shape; LID, My.* are yours):
   My.Adr: a structure of the addresses that your layer names (classes, functions); My.Txt K t: a structure (Prop) of the equations over K;
   My.txt_mk : {K} {implicit addresses ..} (e1 : nsIn K mainGlobals "law" = some (some (.ref f))) (e2 : K.lookup f = some ⟨oc, od, .func (fnOf "law" "law" params body scope dV kV doc pm an cdv ct), sl⟩) (e3 : codeIn K cdv "law" = true) .. : ∃ t, My.Txt K t

set_option maxRecDepth 100000 in
set_option maxHeartbeats 0 in
theorem PySem.Challenge.cw_LID_holds : PySem.Challenge.rw_LID.Holds := by
  w_on; o_law; k_head; (case hw => w_witness2)
  k_fill
  refine L2.walk_of (l := PySem.Challenge.rw_LID) (n := 63) (k := 40) (x := "script") (CX := fun w => ..) (sp := fun _ => My.sp_law) rfl (by decide) rfl ⟨rfl, by decide, by decide⟩ (fun w h Y => PySem.W.kIn_of Y) ?F ?S ?C
  case F =>
    intro w mg fa h KX G hmg
    have T : ∃ t, My.Txt (L2.KOf KX) t := by
      dsimp only [L2.KOf]                          -- K must stand as «<heap const> w.params» for k_is
      refine' My.txt_mk ?e1 ?e2 ?e3 ..
      (case e1 => PySem.W.k_is)                    -- in the order: a name -> its address -> its object -> its parts
      (case e2 => PySem.W.k_is)
      ..
    obtain ⟨t, T⟩ := T
    have e0 := hmg.symm.trans (PySem.W.mg_of KX G T.law)
    cases e0                                       -- fa is the law's own address
    exact ⟨_, fun s u => .of_eq rfl, fun base kb nb => My.law_fn T kb nb⟩     -- if «.of_eq rfl» comes too early: refine' ⟨_, ?b, fun base kb nb => My.law_fn T kb nb⟩; exact fun s u => .of_eq rfl
  case S => exact fun w H a ns hl hO hS => ..
  case C => exact ..
(the tactic k_is has no namespace: write k_is) -/

/-! SHORT WORDS over the layer: a def of the text, its body, what a loop and a test want. -/
namespace L2
open PySem PySem.Spec PyProof.Rows

/-! ### the text by places -/
/-- the j-th statement of a class's body -/
def inClass (s : Stmt) (j : Nat) : Stmt := match s with
  | .ClassDef _ _ _ body _ _ _ _ _ _ _ => body.getD j (.Pass ⟨0, 0, 0, 0⟩)
  | _ => .Pass ⟨0, 0, 0, 0⟩
def defArgs (s : Stmt) : Arguments := match s with
  | .FunctionDef _ a _ _ _ _ _ _ _ _ => a
  | _ => { posonlyargs := [], args := [], vararg := none, kwonlyargs := [], kw_defaults := [], kwarg := none, defaults := [] }
def defBody (s : Stmt) : List Stmt := match s with
  | .FunctionDef _ _ b _ _ _ _ _ _ _ => b
  | _ => []
def defScope (s : Stmt) : Scope := match s with
  | .FunctionDef _ _ _ _ _ _ sc _ _ _ => sc
  | _ => { kind := .function, names := [], isGenerator := false, isCoroutine := false }

/-! ### no exception leaves a def -/
abbrev CX0 : CXT := fun _ _ _ _ _ _ => False
abbrev E0 : XK := fun _ _ _ => False
theorem pass0 {X : Cx} : Passes CX0 X E0 := fun _ _ _ _ _ _ _ h => h.elim

/-! ### a def (or method) of the text as it stands behind the top -/
structure Fun (K : PySem.W.Frag) (x qual : Str) (st : Stmt) (f : Addr) (fd : FuncData) : Prop where
  ex : ∃ (oc : Value) (od : Option Addr) (kV doc pm : Value) (an : Option Addr) (cdv ct : Value) (osl : Array (Option Value)),
    fd = PySem.W.fnOf x qual (defArgs st) (defBody st) (defScope st) .none kV doc pm an cdv ct ∧ K.lookup f = some ⟨oc, od, .func fd, osl⟩ ∧ PySem.W.codeIn K cdv qual = true
  kp : PySem.W.keepIn K (.ref f) = true
section
variable {P : Program} {w : World} {K : PySem.W.Frag} {mg : Str → Option Value} {base : Heap}
/-- THE RULE for a def: its body as a term of rules, and the reading of that term -/
theorem Fun.ok {x qual : Str} {st : Stmt} {f : Addr} {fd : FuncData} {N ps : List Str} {k : Nat} {sp : Sp} (F : Fun K x qual st f fd) (S : FnScope N ps (defScope st)) (len : ∀ vs H Q E, sp vs H Q E → vs.length = ps.length)
    (hbody : ∀ (cdv : Value) (A : Around) (outer : List Env) (s : Shared) (H : Hp) (vs : List V) (Q : VK) (E : XK), Room k (A.deeper (envOfC qual (defScope st) s.heap.objs.size f cdv)) → sp vs H Q E →
      ∃ t, PSs (cxOf CX0 P w K mg base N qual (defScope st) f cdv A outer s H E).nox (defBody st) t ∧ t { nx := fun _ H' => Q .non H', rt := Q } (start N vs) H) : FnOk P w K mg base CX0 (k + 1) f fd ps sp := by
  obtain ⟨oc, od, kV, doc, pm, an, cdv, ct, osl, rfl, lk, hcd⟩ := F.ex
  refine fn_of lk hcd S len fun A outer s H vs Q E hr hsp => ?_
  obtain ⟨t, h, q⟩ := hbody cdv A outer s H vs Q E hr hsp
  exact ⟨t, h.nox, q⟩
/-- how its arguments bind (no defaults): h is «fun _ _ _ _ _ _ us hl => match us, hl with | [_, _], _ => rfl», one _ a parameter -/
theorem Fun.binds {x qual : Str} {st : Stmt} {f : Addr} {fd : FuncData} {ps : List Str} (F : Fun K x qual st f fd)
    (h : ∀ (kV doc pm : Value) (an : Option Addr) (cdv ct : Value) (us : List Value), us.length = ps.length → bindArgs (PySem.W.fnOf x qual (defArgs st) (defBody st) (defScope st) .none kV doc pm an cdv ct) ⟨us, []⟩ = pure (ps.zip us)) : Binds K fd ps [] := by
  obtain ⟨oc, od, kV, doc, pm, an, cdv, ct, osl, rfl, lk, hcd⟩ := F.ex
  exact .all (h kV doc pm an cdv ct)
theorem fun_mk {x qual : Str} {st : Stmt} {f : Addr} {oc : Value} {od an : Option Addr} {osl : Array (Option Value)} {kV doc pm cdv ct : Value} (l : K.lookup f = some ⟨oc, od, .func (PySem.W.fnOf x qual (defArgs st) (defBody st) (defScope st) .none kV doc pm an cdv ct), osl⟩)
    (c : PySem.W.codeIn K cdv qual = true) (k : PySem.W.keepIn K (.ref f) = true) : Fun K x qual st f (PySem.W.fnOf x qual (defArgs st) (defBody st) (defScope st) .none kV doc pm an cdv ct) := ⟨⟨oc, od, kV, doc, pm, an, cdv, ct, osl, rfl, l, c⟩, k⟩
end
theorem hu_of {A : Around} {k : Nat} (hr : Room k A) : A.units + 1 < cLine := Nat.lt_of_le_of_lt (Nat.add_le_add_left (by decide : 1 ≤ 64) _) hr.units
theorem small1000 {n : Nat} (h : n ≤ 1000) : n < sizeLine := Nat.lt_of_le_of_lt h (by decide)

/-! ### expressions in short: the name that stands in the i-th slot -/
section
variable {X : Cx}
theorem pv (i : Nat) {x : Str} {pos : Pos} (hN : X.N[i]? = some x := by rfl) (hv : Vis X.env.scope x := by first | exact Or.inl rfl | exact Or.inr (Or.inl rfl) | exact Or.inr (Or.inr rfl)) (hd : (x == ("__debug__" : Str)) = false := by decide)
    (hcd : (x == ("__classdict__" : Str)) = false := by decide) : PE X (.Name x pos) (tVar i) := pe_var hN hv hd hcd
end

/-! ### tests -/
theorem iteF {A B : Prop} (h : B) : if false = true then A else B := by
  rw [if_neg Bool.false_ne_true]
  exact h
theorem iteT {A B : Prop} (h : A) : if true = true then A else B := by
  rw [if_pos rfl]
  exact h
theorem ite2 {c A B : Prop} [Decidable c] (h1 : c → A) (h2 : ¬ c → B) : if c then A else B := by
  by_cases h : c
  · rw [if_pos h]
    exact h1 h
  · rw [if_neg h]
    exact h2 h
theorem iteNS {c A B : Prop} [Decidable c] (hc : c) (h : B) : if (!decide c) = true then A else B := by
  rw [decide_eq_true hc]
  exact iteF h

/-! ### heaps -/
/-- all that was tracked is as it was -/
def Same (H H' : Hp) : Prop := ∀ b o, H b = some o → H' b = some o
theorem Same.refl (H : Hp) : Same H H := fun _ _ h => h
theorem Same.trans {H H1 H2 : Hp} (a : Same H H1) (b : Same H1 H2) : Same H H2 := fun c o h => b c o (a c o h)
theorem Same.free {H H' : Hp} (e : Same H H') {l : Addr} (h : H' l = Option.none) : H l = Option.none := by
  cases q : H l with
  | none => rfl
  | some o =>
    rw [e l o q] at h
    cases h
theorem Same.seq {K : PySem.W.Frag} {H H' : Hp} {a : Addr} {xs : List V} (e : Same H H') (h : SqL K H a xs) : SqL K H' a xs := by
  rcases h with (h | ⟨o, h⟩) | h
  · exact .inl (.inl (e _ _ h))
  · exact .inl (.inr ⟨o, e _ _ h⟩)
  · exact .inr h

end L2
set_option Elab.async false
set_option linter.all false
set_option maxRecDepth 100000
set_option maxHeartbeats 4000000
/-! own rules over the hand layer -/
namespace L2
open PySem PySem.Spec PyProof.Rows
/-! ### a def that is known by its promise -/
structure Has (P : Program) (w : World) (K : PySem.W.Frag) (mg : Str → Option Value) (base : Heap) (k : Nat) (x : Str) (ps : List Str) (sp : Sp) : Prop where
  ex : ∃ f fd, FnOk P w K mg base CX0 k f fd ps sp ∧ Binds K fd ps [] ∧ PySem.W.keepIn K (.ref f) = true ∧ mg x = some (.ref f) ∧ ∃ oc od osl, K.lookup f = some ⟨oc, od, .func fd, osl⟩
theorem Has.mono {P : Program} {w : World} {K : PySem.W.Frag} {mg : Str → Option Value} {base : Heap} {j k : Nat} {x : Str} {ps : List Str} {sp : Sp} (h : Has P w K mg base j x ps sp) (hjk : j ≤ k) : Has P w K mg base k x ps sp := by
  obtain ⟨f, fd, a, b, c, d, l⟩ := h.ex
  exact ⟨f, fd, a.mono hjk, b, c, d, l⟩
theorem Has.imp {P : Program} {w : World} {K : PySem.W.Frag} {mg : Str → Option Value} {base : Heap} {k : Nat} {x : Str} {ps : List Str} {sp sp' : Sp} (h : Has P w K mg base k x ps sp) (i : ∀ vs H Q E, sp' vs H Q E → sp vs H Q E) : Has P w K mg base k x ps sp' := by
  obtain ⟨f, fd, a, b, c, d, l⟩ := h.ex
  exact ⟨f, fd, a.imp i, b, c, d, l⟩
section
variable {X : Cx} {k : Nat} {x : Str} {ps : List Str} {sp : Sp} {p pos : Pos} {e : Expr} {es : List Expr} {t : TA}
def tCallH (sp : Sp) (t : TA) : TE := fun σ H Q => t σ H fun vs H1 => sp vs H1 Q E0
theorem pe_callH (F : Has X.prog X.w X.K X.mg X.base k x ps sp) (hr : Room k X.A) (ha : PA X (e :: es) t) (hg : Gl X x := by rfl)
    (hdb : (x == ("__debug__" : Str)) = false := by decide) (he : starEach (e :: es) X.env = (false, eval e X.env) :: starEach es X.env := by rfl) (hpl : (backTo pos (starEach es X.env)).any (·.1) = false := by rfl) :
    PE X (.Call (.Name x p) (e :: es) [] pos) (tCallH sp t) := by
  obtain ⟨f, fd, G, b, c, d, _⟩ := F.ex
  intro pins s σ H Q I h
  refine (pe_call (E := E0) G hr hg d c b .nil pass0 ha hdb he hpl) pins s σ H Q I ?_
  show t σ H fun vs H1 => sp (vs ++ []) H1 Q E0
  simp only [List.append_nil]
  exact h
end
/-! ### products of any size -/
section
variable {X : Cx}
theorem op_mulB : OpR X (binaryOp .Mult) (rI IntMulOk fun i j => .int (i * j)) := opI fun _ _ _ _ _ _ _ hc q => mul_int q hc
theorem call_isinst : CallR X (.builtin "isinstance") (fun xs H Q => ∃ x t n b, xs = [x, .ty n] ∧ TyOf X.K H x t ∧ PySem.W.kitOne X.K t (.type n) = some b ∧ Q (.bl b) H) := by
  intro pins s σ H xs us Q I r h
  obtain ⟨x, t, n, b, rfl, ty, e, q⟩ := h
  obtain ⟨u, w', rfl, rx, ry⟩ := vals2 r
  cases ry
  exact isinst_ok I rx ty e fun tk => ⟨.bl b, H, I.tok _, rfl, q⟩
end
/-! ### a range by steps -/
def Itrs (lo c : Int) (n : Nat) : It := ⟨fun i _ => i < n, fun i H x H' => H' = H ∧ x = .int (lo + i * c), fun i _ => n ≤ i⟩
theorem turn_rangeS {P : Program} {w : World} {K : PySem.W.Frag} {tg : Expr} (it : Addr) (lo c : Int) (n : Nat) : Turn P w K tg (Itrs lo c n) [it] it (fun i h => IsRangeIter h it (lo + (i : Nat) * c) ((n : Int) - (i : Nat)) c) where
  mem := by simp
  obj := fun i h st b hb => by
    have e : b = it := by simpa using hb
    subst e
    exact ⟨_, st, fun v z => by
      have z' : Data.fields _ = Data.cell v := z
      cases z'⟩
  keep := fun i h h' st k => k it (by simp) _ st
  item := by
    intro X hP hw hK hc i pins s σ H E I hf st hg
    subst hP hw hK
    obtain ⟨f0, f1, f2, f3, f4, f5⟩ := hf it (by simp)
    have W := Walks.range (prog := X.prog) (w := X.w) (I.ok.hd hc) it lo c n
    refine W.item i s _ _ hg st fun v h' tk hv st' kk => ?_
    obtain ⟨t, rfl⟩ := hv
    have I1 : Inv X pins σ H { s with heap := h', toks := tk } := I.turned (fun b o hb e => kk b o (by simpa using hb) e) f0 f1 f3 f4 f5
    exact ⟨_, rfl, go_of (s := { s with heap := h', toks := tk }) (n := "range_iterator") st' rfl rfl (by decide) ⟨.int (lo + i * c), H, I1, ⟨t, rfl⟩, ⟨rfl, rfl⟩, st', fun b hb => (hf b hb).1⟩⟩
  done := by
    intro X hP hw hK hc i pins s σ H E I hf st hg
    subst hP hw hK
    obtain ⟨f0, f1, f2, f3, f4, f5⟩ := hf it (by simp)
    exact wpAny_pyNext_range_end (I.ok.hd hc) st (by have : n ≤ i := hg; omega) fun h' eb => ⟨rfl, I.turned (t' := s.toks) (fun b o hb e => eb b o hb e) f0 f1 f3 f4 f5⟩
  self := fun _ _ _ _ _ st h => wpAny_pyIter_rangeiter st h
section
variable {X : Cx} {tg : Expr}
theorem rangeS_it {pins : List (Addr × Obj)} {σ : St} {H : Hp} {s : Shared} {R : It → Hp → Prop} {E : Value → Shared → Prop} {lo hi c : Int} {t u v : Tok} {tk : Nat} (I : Inv X pins σ H s) (hs : Builtin.Range.small lo hi c = true) (h0 : 0 ≤ Builtin.Range.rangeSize lo hi c)
    (q : R (Itrs lo c (Builtin.Range.rangeSize lo hi c).toNat) H) : wpAny (model X.prog X.w) X.A (pyIter (.ref s.heap.objs.size)) (PIE X pins σ tg R) E { s with heap := s.heap.push { cls := .type "range", data := .fields #[.int lo t, .int hi u, .int c v] }, toks := tk } := by
  refine wpAny_pyIter_range (IsRange.new ..) hs ?_
  have I1 : Inv X pins σ H { s with heap := s.heap.push { cls := .type "range", data := .fields #[.int lo t, .int hi u, .int c v] }, toks := tk } := I.kept fun b o e => Heap.get?_push_of_some _ e
  refine ⟨(s.heap.push { cls := .type "range", data := .fields #[.int lo t, .int hi u, .int c v] }).objs.size, [(s.heap.push { cls := .type "range", data := .fields #[.int lo t, .int hi u, .int c v] }).objs.size], _, _, H, rfl,
    I1.kept (t' := tk) fun b o e => Heap.get?_push_of_some _ e, turn_rangeS _ lo c (Builtin.Range.rangeSize lo hi c).toNat, ?_, fun b hb => ?_, q⟩
  · have e1 : lo + ((0 : Nat) : Int) * c = lo := by simp
    have e2 : (((Builtin.Range.rangeSize lo hi c).toNat : Nat) : Int) - ((0 : Nat) : Int) = Builtin.Range.rangeSize lo hi c := by omega
    show IsRangeIter _ _ (lo + ((0 : Nat) : Int) * c) ((((Builtin.Range.rangeSize lo hi c).toNat : Nat) : Int) - ((0 : Nat) : Int)) c
    rw [e1, e2]
    exact Heap.get?_push_size _ rfl
  · have e : b = (s.heap.push { cls := .type "range", data := .fields #[.int lo t, .int hi u, .int c v] }).objs.size := by simpa using hb
    subst e
    exact I1.fpOk (Nat.le_refl _) (I1.hok.fresh (Nat.le_refl _))
/-- range(a, b, c), c a small step up or down -/
def iRng3 (ta : TA) : TI := fun σ H R => ta σ H fun vs H1 => ∃ i j c : Int, vs = [.int i, .int j, .int c] ∧ (c ≠ 0 ∧ -1000000 < c ∧ c < 1000000) ∧ (Builtin.Range.small i j c = true ∧ 0 ≤ Builtin.Range.rangeSize i j c) ∧ R (Itrs i c (Builtin.Range.rangeSize i j c).toNat) H1
theorem pi_range3 {a b c : Expr} {ta : TA} {p pos : Pos} (hg : Gl X "range") (hm : X.mg "range" = none) (ha : PA X [a, b, c] ta) (hs : starEach [a, b, c] X.env = [(false, eval a X.env), (false, eval b X.env), (false, eval c X.env)] := by rfl) (hs2 : starEach [b, c] X.env = [(false, eval b X.env), (false, eval c X.env)] := by rfl) :
    PI X tg (.Call (.Name "range" p) [a, b, c] [] pos) (iRng3 ta) := by
  intro pins s σ H R I h
  refine Call_ (ld_blt I hg hm boot_range (PyProof.Rows.callWith_type1 (thn (ha pos pins s σ H _ I h) fun us s1 ⟨vs, H1, I1, r1, q1⟩ => ?_) (by rw [hs, hs2]) (by rw [hs2]; rfl)))
  obtain ⟨i, j, c', e, ⟨q1, q2, q3⟩, ⟨q4, q5⟩, q⟩ := q1
  subst e
  cases r1 with
  | cons r rr =>
    cases rr with
    | cons r' rr =>
      cases rr with
      | cons r'' rr =>
        cases rr
        obtain ⟨t, rfl⟩ := r
        obtain ⟨t', rfl⟩ := r'
        obtain ⟨t'', rfl⟩ := r''
        exact call_range_3 q1 (rangeS_it I1 q4 q5 q) (.inl (PyProof.noPylong_small (by omega)))
end
theorem for_rangeS {lo c : Int} {n : Nat} {g : TG} {tb : TS} {D : Ends} {σ : St} {H : Hp} (Pv : Nat → St → Hp → Prop) (h0 : Pv 0 σ H)
    (hs : ∀ i σ H, i < n → Pv i σ H → g (.int (lo + i * c)) σ H fun σ2 H2 => tb { D with nx := Pv (i + 1), ct := Pv (i + 1), bk := D.nx } σ2 H2) (hd : ∀ σ H, Pv n σ H → D.nx σ H) :
    ∃ W : Nat → Nat → St → Hp → Prop, (∃ m, W 0 m σ H) ∧ ∀ i m σ H, W i m σ H →
      ((Itrs lo c n).stop i H ∧ D.nx σ H) ∨ ((Itrs lo c n).go i H ∧ ∃ N : St → Hp → Prop, (∀ σ' H', N σ' H' → ∃ m', m' < m ∧ W (i + 1) m' σ' H') ∧ ∀ x H', (Itrs lo c n).yld i H x H' → g x σ H' fun σ2 H2 => tb { D with nx := N, ct := N, bk := D.nx } σ2 H2) := by
  refine ⟨fun i m σ H => m = n - i ∧ i ≤ n ∧ Pv i σ H, ⟨n, by simp, Nat.zero_le _, h0⟩, ?_⟩
  rintro i m σ H ⟨rfl, hi, p⟩
  by_cases hlt : i < n
  · refine .inr ⟨hlt, Pv (i + 1), fun σ' H' p' => ⟨n - (i + 1), by omega, rfl, hlt, p'⟩, fun x H' y => ?_⟩
    obtain ⟨e, y⟩ := y
    subst e y
    exact hs i σ _ hlt p
  · have e : i = n := by omega
    subst e
    exact .inl ⟨Nat.le_refl _, hd σ H p⟩
/-! ### products: the bits -/
theorem mulOk_of {a b : Int} {m n : Nat} (ha : a.natAbs < 2 ^ m) (hb : b.natAbs < 2 ^ n) (h : m + n ≤ 134217728) : IntMulOk a b := IntMulOk.of_le (intBits_le_iff.mpr ha) (intBits_le_iff.mpr hb) h
end L2
namespace L2
open PySem PySem.Spec PyProof.Rows
/-! ### a def of the text, its name, its parameters -/
structure Def (K : PySem.W.Frag) (mg : Str → Option Value) (x : Str) (st : Stmt) (ps : List Str) : Prop where
  ex : ∃ f fd, Fun K x x st f fd ∧ Binds K fd ps [] ∧ mg x = some (.ref f)
section
variable {P : Program} {w : World} {K : PySem.W.Frag} {mg : Str → Option Value} {base : Heap}
theorem Def.has {x : Str} {st : Stmt} {N ps : List Str} {k : Nat} {sp : Sp} (F : Def K mg x st ps) (S : FnScope N ps (defScope st)) (len : ∀ vs H Q E, sp vs H Q E → vs.length = ps.length)
    (hbody : ∀ (f : Addr) (cdv : Value) (A : Around) (outer : List Env) (s : Shared) (H : Hp) (vs : List V) (Q : VK) (E : XK), Room k (A.deeper (envOfC x (defScope st) s.heap.objs.size f cdv)) → sp vs H Q E →
      ∃ t, PSs (cxOf CX0 P w K mg base N x (defScope st) f cdv A outer s H E).nox (defBody st) t ∧ t { nx := fun _ H' => Q .non H', rt := Q } (start N vs) H) : Has P w K mg base (k + 1) x ps sp := by
  obtain ⟨f, fd, F, b, m⟩ := F.ex
  refine ⟨f, fd, F.ok S len (hbody f), b, F.kp, m, ?_⟩
  obtain ⟨oc, od, kV, doc, pm, an, cdv, ct, osl, e, lk, hcd⟩ := F.ex
  exact ⟨oc, od, osl, lk⟩
/-- the law's own def, for the last theorem -/
theorem fin_of {x y : Str} {st : Stmt} {fa : Addr} {k : Nat} {sp : Sp} (D : Def K mg x st [y]) (hfa : mg x = some (.ref fa)) (h : ∀ base : Heap, Has P w K mg base k x [y] sp)
    (b : ∀ (kV doc pm : Value) (an : Option Addr) (cdv ct u : Value), bindArgs (PySem.W.fnOf x x (defArgs st) (defBody st) (defScope st) .none kV doc pm an cdv ct) ⟨[u], []⟩ = pure [(y, u)]) :
    ∃ fd : FuncData, (∀ (s : Shared) (u : Value), BindsTo s fd ⟨[u], []⟩ [(y, u)]) ∧ ∀ base : Heap, FnOk P w K mg base CX0 k fa fd [y] sp := by
  obtain ⟨f, fd, F, _, m⟩ := D.ex
  rw [hfa] at m
  cases m
  obtain ⟨oc, od, kV, doc, pm, an, cdv, ct, osl, rfl, lk, hcd⟩ := F.ex
  refine ⟨PySem.W.fnOf x x (defArgs st) (defBody st) (defScope st) .none kV doc pm an cdv ct, fun s u => .of_eq (b ..), fun base => ?_⟩
  obtain ⟨f', fd', G, _, _, m', oc', od', osl', lk'⟩ := (h base).ex
  rw [hfa] at m'
  cases m'
  rw [lk] at lk'
  cases lk'
  exact G
theorem def_mk {x : Str} {st : Stmt} {f : Addr} {ps : List Str} {h : Heap} {oc : Value} {od an : Option Addr} {osl : Array (Option Value)} {kV doc pm cdv ct : Value} (X : K.In h) (G : h.Ns mainGlobals mg) (a : PySem.W.nsIn K mainGlobals x = some (some (.ref f)))
    (l : K.lookup f = some ⟨oc, od, .func (PySem.W.fnOf x x (defArgs st) (defBody st) (defScope st) .none kV doc pm an cdv ct), osl⟩) (c : PySem.W.codeIn K cdv x = true) (k : PySem.W.keepIn K (.ref f) = true)
    (b : ∀ (kV doc pm : Value) (an : Option Addr) (cdv ct : Value) (us : List Value), us.length = ps.length → bindArgs (PySem.W.fnOf x x (defArgs st) (defBody st) (defScope st) .none kV doc pm an cdv ct) ⟨us, []⟩ = pure (ps.zip us)) : Def K mg x st ps :=
  let F := fun_mk (st := st) l c k
  ⟨f, _, F, F.binds b, PySem.W.mg_of X G a⟩
end
/-! ### promises by the number of arguments -/
def sp1 (φ : V → Hp → VK → Prop) : Sp := fun vs H Q _ => ∃ a, vs = [a] ∧ φ a H Q
def sp2 (φ : V → V → Hp → VK → Prop) : Sp := fun vs H Q _ => ∃ a b, vs = [a, b] ∧ φ a b H Q
def sp3 (φ : V → V → V → Hp → VK → Prop) : Sp := fun vs H Q _ => ∃ a b c, vs = [a, b, c] ∧ φ a b c H Q
def sp4 (φ : V → V → V → V → Hp → VK → Prop) : Sp := fun vs H Q _ => ∃ a b c d, vs = [a, b, c, d] ∧ φ a b c d H Q
theorem len1 {φ : V → Hp → VK → Prop} {x : Str} : ∀ vs H Q E, sp1 φ vs H Q E → vs.length = [x].length := fun _ _ _ _ ⟨_, e, _⟩ => by rw [e]; rfl
theorem len2 {φ : V → V → Hp → VK → Prop} {x y : Str} : ∀ vs H Q E, sp2 φ vs H Q E → vs.length = [x, y].length := fun _ _ _ _ ⟨_, _, e, _⟩ => by rw [e]; rfl
theorem len3 {φ : V → V → V → Hp → VK → Prop} {x y z : Str} : ∀ vs H Q E, sp3 φ vs H Q E → vs.length = [x, y, z].length := fun _ _ _ _ ⟨_, _, _, e, _⟩ => by rw [e]; rfl
theorem len4 {φ : V → V → V → V → Hp → VK → Prop} {x y z u : Str} : ∀ vs H Q E, sp4 φ vs H Q E → vs.length = [x, y, z, u].length := fun _ _ _ _ ⟨_, _, _, _, e, _⟩ => by rw [e]; rfl
/-! ### small conditions -/
theorem mulS1 {i j : Int} (h1 : -(2 ^ 64) < i) (h2 : i < 2 ^ 64) : IntMulOk i j := IntMulOk.of_left (intBits_le_64 h1 h2)
theorem mulS2 {i j : Int} (h1 : -(2 ^ 64) < j) (h2 : j < 2 ^ 64) : IntMulOk i j := IntMulOk.of_right (intBits_le_64 h1 h2)
theorem range_up {lo hi c : Int} (h1 : -(2 ^ 60) ≤ lo) (h2 : lo < 2 ^ 60) (h3 : -(2 ^ 60) ≤ hi) (h4 : hi < 2 ^ 60) (h5 : 0 < c) (h6 : c < 2 ^ 20) : Builtin.Range.small lo hi c = true ∧ 0 ≤ Builtin.Range.rangeSize lo hi c ∧ Builtin.Range.rangeSize lo hi c ≤ 2 ^ 61 := by
  have e : Builtin.Range.rangeSize lo hi c = if lo < hi then (hi - lo - 1) / c + 1 else 0 := by unfold Builtin.Range.rangeSize; rw [if_pos h5]
  have k0 : lo < hi → 0 ≤ (hi - lo - 1) / c := fun h => Int.ediv_nonneg (by omega) (by omega)
  have k1 : lo < hi → (hi - lo - 1) / c ≤ hi - lo - 1 := fun h => Int.ediv_le_self _ (by omega)
  have k2 : lo < hi → (hi - lo - 1) / c * c ≤ hi - lo - 1 := fun h => Int.ediv_mul_le _ (by omega)
  have k3 : 0 ≤ Builtin.Range.rangeSize lo hi c ∧ Builtin.Range.rangeSize lo hi c ≤ 2 ^ 61 := by
    rw [e]
    split
    · rename_i h; have := k0 h; have := k1 h; omega
    · omega
  refine ⟨?_, k3⟩
  unfold Builtin.Range.small
  rw [if_pos (show c > 0 from h5)]
  simp only [Builtin.Range.rangeFitsLong, Bool.and_eq_true, Bool.or_eq_true, decide_eq_true_eq, beq_iff_eq]
  generalize Builtin.Range.rangeSize lo hi c = r at k3 ⊢
  clear e k0 k1 k2
  omega
end L2
set_option Elab.async false
set_option linter.all false
set_option maxRecDepth 100000
set_option maxHeartbeats 4000000
/-! list comprehensions over the hand layer -/
namespace L2
open PySem PySem.Spec PyProof.Rows
/-! ### the captured cells -/
def closG (names : List (Str × NameKind)) (cells : List (Str × Addr)) (cs : List (Str × Addr)) : List (Str × Addr) :=
  match names with
  | [] => cs
  | (n, k) :: r => closG r cells (if k == .free then (n, (cells.lookup n).getD 0) :: cs else cs)
theorem closureFor_go {env : Env} : ∀ (names : List (Str × NameKind)) (cs : List (Str × Addr)), (∀ x ∈ names, x.2 = .free → ∃ c, env.cells.lookup x.1 = some c) →
    (forIn names cs fun (x : Str × NameKind) (cs : List (Str × Addr)) => (if (x.2 == NameKind.free) = true then (do let c ← cellOf env x.1; pure (ForInStep.yield ((x.1, c) :: cs))) else pure (ForInStep.yield cs) : Sem (ForInStep (List (Str × Addr))))) = pure (closG names env.cells cs)
  | [], cs, _ => rfl
  | (n, k) :: r, cs, h => by
    rw [List.forIn_cons]
    have hr : ∀ x ∈ r, x.2 = .free → ∃ c, env.cells.lookup x.1 = some c := fun x hx => h x (List.mem_cons_of_mem _ hx)
    by_cases hk : k = .free
    · subst hk
      obtain ⟨c, hc⟩ := h (n, .free) List.mem_cons_self rfl
      have hc : env.cells.lookup n = some c := hc
      have e : cellOf env n = pure c := by unfold cellOf; rw [hc]
      rw [if_pos (by rfl), e, pure_bind, pure_bind]
      show (forIn r ((n, c) :: cs) _ : Sem _) = _
      rw [closureFor_go r _ hr]
      show _ = pure (closG r env.cells (if (NameKind.free == NameKind.free) = true then (n, (env.cells.lookup n).getD 0) :: cs else cs))
      rw [if_pos (by rfl), hc]
      rfl
    · have hb : (k == NameKind.free) = false := by simpa using hk
      rw [if_neg (by rw [hb]; decide), pure_bind]
      show (forIn r cs _ : Sem _) = _
      rw [closureFor_go r _ hr]
      show _ = pure (closG r env.cells (if (k == NameKind.free) = true then (n, (env.cells.lookup n).getD 0) :: cs else cs))
      rw [if_neg (by rw [hb]; decide)]
theorem closureFor_is {scope : Scope} {env : Env} (h : ∀ x ∈ scope.names, x.2 = .free → ∃ c, env.cells.lookup x.1 = some c) : closureFor scope env = pure (closG scope.names env.cells []) := by
  have e := closureFor_go (env := env) scope.names [] h
  unfold closureFor
  rw [← e]
  first | rfl | simp
theorem closG_look {cells : List (Str × Addr)} {x : Str} {c : Addr} : ∀ (names : List (Str × NameKind)) (cs : List (Str × Addr)), (∀ y ∈ names, y.2 = .free → ∃ c, cells.lookup y.1 = some c) → (cs.lookup x = some c → cells.lookup x = some c) →
    (closG names cells cs).lookup x = some c → cells.lookup x = some c
  | [], cs, _, h0, h => h0 h
  | (n, k) :: r, cs, hf, h0, h => by
    have hr : ∀ x ∈ r, x.2 = .free → ∃ c, cells.lookup x.1 = some c := fun x hx => hf x (List.mem_cons_of_mem _ hx)
    unfold closG at h
    by_cases hk : k = .free
    · subst hk
      obtain ⟨c', hc⟩ := hf (n, .free) List.mem_cons_self rfl
      have hc : cells.lookup n = some c' := hc
      rw [if_pos (by rfl), hc] at h
      refine closG_look r _ hr (fun q => ?_) h
      rw [List.lookup_cons] at q
      cases e : x == n with
      | true =>
        rw [e] at q
        have e' : x = n := by simpa using e
        subst e'
        cases q
        exact hc
      | false => rw [e] at q; exact h0 q
    · have hb : (k == NameKind.free) = false := by simpa using hk
      rw [if_neg (by rw [hb]; decide)] at h
      exact closG_look r _ hr h0 h
theorem closG_has {cells : List (Str × Addr)} {x : Str} : ∀ (names : List (Str × NameKind)) (cs : List (Str × Addr)), ((x, NameKind.free) ∈ names ∨ ∃ c, cs.lookup x = some c) → ∃ c, (closG names cells cs).lookup x = some c
  | [], cs, h => by
    rcases h with h | h
    · cases h
    · exact h
  | (n, k) :: r, cs, h => by
    unfold closG
    refine closG_has r _ ?_
    rcases h with h | ⟨c, h⟩
    · rcases List.mem_cons.mp h with e | e
      · cases e
        refine .inr ⟨(cells.lookup x).getD 0, ?_⟩
        rw [if_pos (by rfl), List.lookup_cons]
        simp
      · exact .inl e
    · split
      · rw [List.lookup_cons]
        cases e : x == n with
        | true => exact .inr ⟨_, rfl⟩
        | false => exact .inr ⟨c, h⟩
      · exact .inr ⟨c, h⟩

/-! ### the loop of a comprehension, without exceptions -/
section
variable {prog : Program} {w : World} {A : Around} {R : Result → Shared → Prop} {s : Shared}
abbrev F0 : Value → Shared → Prop := fun _ _ => False
abbrev testsOf (ifs : List Expr) (env : Env) : Sem Bool := forIn ifs true fun c r => if r = true then do let ok ← isTrue c env (eval c env); pure (ForInStep.yield ok) else pure (ForInStep.yield r)
theorem compLoop_any {elt target iter : Expr} {ifs : List Expr} {scope : Scope} {pos : Pos} {it acc : Value} {env : Env} (I : Nat → Shared → Prop)
    (turn : ∀ n s, I n s → wpAny (model prog w) A (pyNext it) (fun r s1 => match r with
      | none => R (.ok .next) s1
      | some v => wpAny (model prog w) A (letOwnedTupleGo target it v) (fun _ s2 => wpAny (model prog w) A (assign target env v) (fun _ s3 =>
          wpAny (model prog w) A (testsOf ifs env) (fun ok s4 =>
            if ok = true then wpAny (model prog w) A (eval elt env) (fun x s5 =>
              wpAny (model prog w) A (call (.builtin "list.append") [acc, x]) (fun _ s6 => ∃ m, m < n ∧ I m s6) F0 s5) F0 s4
            else ∃ m, m < n ∧ I m s4) F0 s3) F0 s2) F0 s1) F0 s)
    (n : Nat) (h : I n s) :
    codeAny (model prog w) A (.compLoop (.ListComp elt [⟨target, iter, ifs, 0⟩] scope pos) 0 it acc env) R s := by
  refine codeAny_loop rfl I (fun n s hI => ?_) n h
  show wpAny _ A ((compTurn (.ListComp elt [⟨target, iter, ifs, 0⟩] scope pos) 0 it acc env).onRaise (fun x => do noteFrame x env; theTreesLotGoes x)) _ _ s
  refine wpAny_noted ?_
  rw [compTurn_list]
  refine wpAny_bind (wpAny_standAt (wpAny_bind (wpAny_mono (turn n s hI) (fun r s1 h1 => ?_) fun _ _ z => False.elim z)))
  cases r with
  | none => exact wpAny_pure h1
  | some v =>
    refine wpAny_bind (wpAny_mono h1 (fun _ s2 h2 => ?_) fun _ _ z => False.elim z)
    refine wpAny_bind (wpAny_mono h2 (fun _ s3 h3 => wpAny_bind (wpAny_mono h3 (fun ok s4 h4 => ?_) fun _ _ z => False.elim z)) fun _ _ z => False.elim z)
    cases ok with
    | false => exact wpAny_pure ⟨rfl, h4⟩
    | true =>
      exact wpAny_bind (wpAny_bind (wpAny_mono h4 (fun x s5 h5 => wpAny_bind (wpAny_mono h5 (fun _ s6 h6 => wpAny_pure (wpAny_pure ⟨rfl, h6⟩)) fun _ _ z => False.elim z)) fun _ _ z => False.elim z))
end
/-! ### the block's context -/
def compCx (X : Cx) (N' : List Str) (scope : Scope) (s3 : Shared) (H3 : Hp) (fp : List Addr) (pins : List (Addr × Obj)) : Cx :=
  { prog := X.prog, w := X.w, K := X.K, mg := X.mg, base := X.base, A := X.A, N := N', s₀ := s3, H₀ := H3, env := compEnvC scope (closG scope.names X.env.cells []) s3.heap.objs.size X.env,
    outer := X.stack, stack := X.stack, ex := fp, fn := fun _ => false, calm := X.calm, pn := X.pn ++ pins, xe := F0 }
/-- the names of the block: its own, then those of the def that it reads, by their slots there -/
def compN (X : Cx) (vars : List Str) (caps : List Nat) : List Str := vars ++ caps.map fun j => X.N.getD j ""
def compS (vars : List Str) (caps : List Nat) (σ : St) : St := vars.map (fun _ => none) ++ caps.map fun j => σ.getD j none
structure CompScope (X : Cx) (scope : Scope) (caps : List Nat) : Prop where
  kind : scope.kind = .function
  loc : ∀ x ∈ scope.names, x.2 = .local → scope.names.lookup x.1 = some .local
  nocell : ∀ x ∈ scope.names, x.2 ≠ .cell
  free : ∀ x ∈ scope.names, x.2 = .free → X.env.kindOf x.1 = some .cell
  caps : ∀ j ∈ caps, ∃ x, X.N[j]? = some x ∧ X.env.kindOf x = some .cell ∧ (x, NameKind.free) ∈ scope.names ∧ (relabel scope X.env).names.lookup x = some .cell
section
variable {X : Cx} {scope : Scope} {caps : List Nat} {pins : List (Addr × Obj)} {σ : St} {H : Hp} {s : Shared} {fp : List Addr}
theorem CompScope.cells (S : CompScope X scope caps) (I : Inv X pins σ H s) : ∀ x ∈ scope.names, x.2 = .free → ∃ c, X.env.cells.lookup x.1 = some c := fun x hx hf => I.ok.has x.1 (.inl (S.free x hx hf))
theorem CompScope.look (S : CompScope X scope caps) (I : Inv X pins σ H s) {x : Str} {c : Addr} (h : (closG scope.names X.env.cells []).lookup x = some c) : X.env.cells.lookup x = some c :=
  closG_look scope.names [] (S.cells I) (fun q => by cases q) h
theorem relabel_kind {env : Env} {x : Str} : ∀ {names : List (Str × NameKind)} {k : NameKind}, (names.map fun (n, k) => if (k == NameKind.free && env.scope.kind == .function && env.kindOf n == some .cell) then (n, NameKind.cell) else (n, k)).lookup x = some k →
    ((x, k) ∈ names) ∨ (k = .cell ∧ (x, NameKind.free) ∈ names)
  | [], _, h => by simp at h
  | (n, k0) :: r, k, h => by
    have ih := @relabel_kind env x r k
    have g : List.lookup x ((if (k0 == NameKind.free && env.scope.kind == .function && env.kindOf n == some .cell) = true then (n, NameKind.cell) else (n, k0)) :: (r.map fun (n, k) => if (k == NameKind.free && env.scope.kind == .function && env.kindOf n == some .cell) then (n, NameKind.cell) else (n, k))) = some k := h
    by_cases hc : (k0 == NameKind.free && env.scope.kind == .function && env.kindOf n == some .cell) = true
    · rw [if_pos hc, List.lookup_cons] at g
      have hk0 : k0 = .free := by
        simp only [Bool.and_eq_true] at hc
        simpa using hc.1.1
      cases hx : x == n with
      | true =>
        rw [hx] at g
        have e : x = n := by simpa using hx
        subst e
        have g : some NameKind.cell = some k := g
        cases g
        exact .inr ⟨rfl, by rw [hk0]; exact List.mem_cons_self⟩
      | false =>
        rw [hx] at g
        rcases ih g with z | ⟨z1, z2⟩
        · exact .inl (List.mem_cons_of_mem _ z)
        · exact .inr ⟨z1, List.mem_cons_of_mem _ z2⟩
    · rw [if_neg hc, List.lookup_cons] at g
      cases hx : x == n with
      | true =>
        rw [hx] at g
        have e : x = n := by simpa using hx
        subst e
        have g : some k0 = some k := g
        cases g
        exact .inl List.mem_cons_self
      | false =>
        rw [hx] at g
        rcases ih g with z | ⟨z1, z2⟩
        · exact .inl (List.mem_cons_of_mem _ z)
        · exact .inr ⟨z1, List.mem_cons_of_mem _ z2⟩
theorem CompScope.ok (S : CompScope X scope caps) {N' : List Str} (I : Inv X pins σ H s) (hf : ∀ b ∈ fp, FpOk X pins H b) (hob : ∀ b ∈ fp, ∃ o, s.heap.get? b = some o) : (compCx X N' scope s H fp pins).Ok where
  mod := I.ok.mod
  kind := S.kind
  glob := I.ok.glob
  blt := I.ok.blt
  above := Nat.le_refl _
  inj := fun x y c h1 h2 => I.ok.inj x y c (S.look I h1) (S.look I h2)
  has := fun x h => by
    refine closG_has scope.names [] (.inl ?_)
    rcases h with h | h
    · rcases relabel_kind h with z | ⟨_, z⟩
      · exact absurd rfl (S.nocell _ z)
      · exact z
    · rcases relabel_kind h with z | ⟨z, _⟩
      · exact z
      · cases z
  cab := fun _ _ h => by cases h
  hd := I.ok.hd
  frames := I.ok.frames
  stk := .inl rfl
  exf := fun b hb => by
    obtain ⟨o, ho⟩ := hob b hb
    refine ⟨Nat.ne_of_lt (Heap.lt_size ho), fun x c e => (hf b hb).2.2.2.2.1 x c (S.look I e)⟩
  bs := I.bs
  bsz := Nat.le_trans I.ok.bsz I.sz
  noex := fun b o e hb => by
    rcases (hf b hb).2.2.2.1 with z | z
    · exact I.ok.noex b o e z
    · exact absurd (Nat.lt_of_lt_of_le (Heap.lt_size e) (Nat.le_trans I.ok.bsz z)) (Nat.lt_irrefl _)
  exfs := fun b hb z => by
    rcases List.mem_cons.mp (I.stkSub b z) with e | e
    · exact (hf b hb).2.1 e
    · exact (hf b hb).2.2.1 e
  funs := I.stack
  frf := I.stkFree
/-- the block's first state -/
theorem CompScope.start (S : CompScope X scope caps) {vars : List Str} {h' : Heap} {tk : Nat} (I : Inv X pins σ H s) (hf : ∀ b ∈ fp, FpOk X pins H b) (hob : ∀ b ∈ fp, ∃ o, s.heap.get? b = some o)
    (hn : h'.Ns s.heap.objs.size (fun _ => none)) (hk : ∀ b o, s.heap.get? b = some o → h'.get? b = some o) : Inv (compCx X (compN X vars caps) scope s H fp pins) [] (compS vars caps σ) H { s with heap := h', toks := tk } := by
  refine ⟨S.ok I hf hob, rfl, I.bare, Un.kept hk, ⟨_, hn, fun i x v h1 h2 h3 => ?_⟩, fun x c h => ?_, I.hok.fresh (Nat.le_refl _), fun x c h => I.freeC x c (S.look I h), fun p hp => ?_, I.hok.kept hk, ?_⟩
  · have h1 : (vars ++ caps.map fun j => X.N.getD j "")[i]? = some x := h1
    have h2 : (vars.map (fun _ => (none : Option V)) ++ caps.map fun j => σ.getD j none)[i]? = some (some v) := h2
    have hi : ¬ i < vars.length := fun hi => by
      rw [List.getElem?_append_left (by simpa using hi), List.getElem?_map] at h2
      cases e : vars[i]? with
      | none => rw [e] at h2; cases h2
      | some z => rw [e] at h2; cases h2
    rw [List.getElem?_append_right (by simpa using hi), List.getElem?_map, List.length_map] at h2
    rw [List.getElem?_append_right (by omega), List.getElem?_map] at h1
    cases e : caps[i - vars.length]? with
    | none => rw [e] at h2; cases h2
    | some j =>
      rw [e] at h1 h2
      obtain ⟨y, hy, hyk, hyf, hyl⟩ := S.caps j (List.mem_of_getElem? e)
      have exy : y = x := by
        have : X.N.getD j "" = x := by simpa using h1
        rw [← this]
        simp [List.getD, hy]
      subst exy
      have hσ : σ[j]? = some (some v) := by
        have q : σ.getD j none = some v := by simpa using h2
        cases e2 : σ[j]? with
        | none => simp [List.getD, e2] at q
        | some z =>
          simp [List.getD, e2] at q
          rw [q]
      obtain ⟨m, _, hl⟩ := I.loc
      obtain ⟨u, r, l⟩ := hl j y v hy hσ (.inr (.inl hyk))
      refine ⟨u, r, ?_⟩
      rcases l with ⟨k, _⟩ | ⟨_, c, hc, hcell⟩
      · rw [hyk] at k; cases k
      · obtain ⟨c', hc'⟩ := closG_has (cells := X.env.cells) (x := y) scope.names [] (.inl hyf)
        have ecc : c = c' := by
          have := S.look I hc'
          rw [hc] at this
          exact Option.some.inj this
        subst ecc
        refine .inr ⟨?_, c, hc', ?_⟩
        · exact .inl hyl
        · obtain ⟨o, ho, hd⟩ := hcell
          exact ⟨o, hk c o ho, hd⟩
  · obtain ⟨v, o, ho, hd⟩ := I.cell x c (S.look I h)
    exact ⟨v, o, hk c o ho, hd⟩
  · have hp : p ∈ X.pn ++ pins := by
      have : p ∈ (X.pn ++ pins) ++ [] := hp
      simpa using this
    obtain ⟨e, n, ne, nf, d⟩ := I.pin p hp
    refine ⟨hk _ _ e, n, Nat.ne_of_lt (Heap.lt_size e), fun z => ?_, d⟩
    rcases List.mem_cons.mp (I.stkSub _ z) with q | q
    · exact ne q
    · exact nf q
  · show (compS vars caps σ).length = (compN X vars caps).length
    simp [compS, compN]

/-- behind the block -/
theorem CompScope.behind (S : CompScope X scope caps) {N' : List Str} {σ' : St} {H' : Hp} {s' : Shared} {pl : List (Addr × Obj)} (I : Inv X pins σ H s) (hf : ∀ b ∈ fp, FpOk X pins H b) (J : Inv (compCx X N' scope s H fp pins) pl σ' H' s') : Inv X pins σ H' s' :=
  I.call' (ch := fp) J.os J.base J.hok J.bare fun b hb => ⟨(hf b hb).2.2.2.1, (hf b hb).2.1, (hf b hb).2.2.2.2.1, (hf b hb).2.2.2.2.2⟩
end
/-! ### the rule -/
abbrev TT1 := TT
def tTrue : TT := fun _ H Q => Q true H
def PTs (X : Cx) (ifs : List Expr) (t : TT) : Prop :=
  ∀ (pins : List (Addr × Obj)) (s : Shared) (σ : St) (H : Hp) (Q : Bool → Hp → Prop), Inv X pins σ H s → t σ H Q → wpAny (model X.prog X.w) X.A (testsOf ifs X.env) (TP X pins σ Q) X.xe s
theorem pts_nil {X : Cx} : PTs X [] tTrue := fun pins s σ H Q I h => wpAny_tests_nil ⟨H, I, h⟩
theorem pts_one {X : Cx} {c : Expr} {t : TT} (h : PT X c t) : PTs X [c] t := fun pins s σ H Q I q => wpAny_tests_one (h pins s σ H Q I q)
/-- the list at acc is built; W: an invariant by the turn and a measure -/
def rComp (vars : List Str) (caps : List Nat) (J : It) (g : TG) (tt : TT) (te : TE) (σ : St) (H1 : Hp) (Q : VK) : Prop :=
  ∀ acc, H1 acc = none → ∃ W : Nat → Nat → St → Hp → Prop, (∃ m, W 0 m (compS vars caps σ) (upd H1 acc (.lst []))) ∧ ∀ i m σ' H', W i m σ' H' →
    (J.stop i H' ∧ Q (.ref acc) H') ∨ (J.go i H' ∧ ∃ N : St → Hp → Prop, (∀ σ'' H'', N σ'' H'' → ∃ m', m' < m ∧ W (i + 1) m' σ'' H'') ∧ ∀ x H2, J.yld i H' x H2 → g x σ' H2 fun σ2 H3 => tt σ2 H3 fun b H4 =>
      if b = true then te σ2 H4 fun v H5 => ∃ ys, H5 acc = some (.lst ys) ∧ ys.length < sizeLine ∧ N σ2 (upd H5 acc (.lst (ys ++ [v]))) else N σ2 H4)
def tComp (vars : List Str) (caps : List Nat) (wi : TI) (g : TG) (tt : TT) (te : TE) : TE := fun σ H Q => wi σ H fun J H1 => rComp vars caps J g tt te σ H1 Q
structure CompBody (X : Cx) (vars : List Str) (caps : List Nat) (scope : Scope) (tg : Expr) (ifs : List Expr) (elt : Expr) (g : TG) (tt : TT) (te : TE) : Prop where
  ok : ∀ (s3 : Shared) (H3 : Hp) (fp : List Addr) (pins : List (Addr × Obj)), PG (compCx X (compN X vars caps) scope s3 H3 fp pins) tg g ∧ PTs (compCx X (compN X vars caps) scope s3 H3 fp pins) ifs tt ∧ PE (compCx X (compN X vars caps) scope s3 H3 fp pins) elt te
section
variable {X : Cx} {vars : List Str} {caps : List Nat} {scope : Scope} {tg iter elt : Expr} {ifs : List Expr} {pos : Pos} {wi : TI} {g : TG} {tt : TT} {te : TE}
/-- from the iterator on: the new list, the block's frame, the loop; RR: what is wanted behind the loop, at the list, the block's frame -/
theorem comp_run (S : CompScope X scope caps) (hc : X.calm = true) (B : CompBody X vars caps scope tg ifs elt g tt te) {pins : List (Addr × Obj)} {s2 : Shared} {σ : St} {H1 : Hp} {Q : VK} {it : Addr} {fp : List Addr} {tn : Nat → Heap → Prop} {J : It} {E : Value → Shared → Prop}
    {RR : Value → Addr → Result → Shared → Prop} (I2 : Inv X pins σ H1 s2) (T : Turn X.prog X.w X.K tg J fp it tn) (st2 : tn 0 s2.heap) (f2 : ∀ b ∈ fp, FpOk X pins H1 b) (q : rComp vars caps J g tt te σ H1 Q)
    (hRR : ∀ acc C s' H' m, Inv X pins σ H' s' → s'.heap.Ns C m → s2.heap.objs.size ≤ C → H' C = none → Q (.ref acc) H' → RR (.ref acc) C (.ok .next) s') :
    wpAny (model X.prog X.w) X.A (newList []) (fun acc s3 => wpAny (model X.prog X.w) X.A (newFunctionEnv scope X.env.globals (closG scope.names X.env.cells []) [] X.env.qual none .none (some X.env)) (fun cenv s4 =>
      codeAny (model X.prog X.w) X.A (.compStart (.ListComp elt [⟨tg, iter, ifs, 0⟩] scope pos) 0 (.ref it) acc { cenv with scope := relabel scope X.env }) (RR acc cenv.locals) s4) E s3) E s2 := by
  refine wpAny_newObj_type ?_
  have hfr : H1 s2.heap.objs.size = none := I2.hok.fresh (Nat.le_refl _)
  obtain ⟨W, ⟨m0, w0⟩, turn⟩ := q s2.heap.objs.size hfr
  generalize hs3 : ({ s2 with heap := s2.heap.push { cls := .type "list", dict := none, data := .seq ([] : List Value).toArray } } : Shared) = s3
  have hsz : s3.heap.objs.size = s2.heap.objs.size + 1 := by rw [← hs3]; simp [Heap.size_push]
  have old : ∀ b o, s2.heap.get? b = some o → s3.heap.get? b = some o := fun b o e => by rw [← hs3]; exact Heap.get?_push_of_some _ e
  have I3 : Inv X pins σ (upd H1 s2.heap.objs.size (.lst [])) s3 := by
    rw [← hs3]
    exact I2.laid (t' := s2.toks) (fun b u e => Heap.get?_push_of_some _ e) (Nat.le_refl _) ⟨by show 0 ≤ sizeLine; decide, [], 0, .nil, Heap.get?_push_size _ rfl⟩
  have hob : ∀ b ∈ fp, ∃ o, s2.heap.get? b = some o := fun b hb => by
    obtain ⟨o, ho, _⟩ := T.obj 0 _ st2 b hb
    exact ⟨o, ho⟩
  have f3 : ∀ b ∈ fp, FpOk X pins (upd H1 s2.heap.objs.size (.lst [])) b := fun b hb => by
    obtain ⟨o, ho⟩ := hob b hb
    exact ⟨by rw [upd_ne (Nat.ne_of_lt (Heap.lt_size ho))]; exact (f2 b hb).1, (f2 b hb).2⟩
  have hob3 : ∀ b ∈ fp, ∃ o, s3.heap.get? b = some o := fun b hb => by
    obtain ⟨o, ho⟩ := hob b hb
    exact ⟨o, old b o ho⟩
  refine wpAny_newFunctionEnv S.nocell (by intro y hy; simp at hy) (fun h4 hn4 hs4 => ?_) S.kind
  have keep4 : ∀ b o, s3.heap.get? b = some o → h4.get? b = some o := fun b o e => hs4.extBut b o (Nat.ne_of_lt (Heap.lt_size e)) (Heap.get?_push_of_some _ e)
  have I4 := S.start (vars := vars) (tk := s3.toks + ([] : List (Str × Value)).length) I3 f3 hob3 hn4 keep4
  obtain ⟨PG', PT', PE'⟩ := B.ok s3 (upd H1 s2.heap.objs.size (.lst [])) fp pins
  generalize hX : compCx X (compN X vars caps) scope s3 (upd H1 s2.heap.objs.size (.lst [])) fp pins = X' at *
  have st4 : tn 0 h4 := T.keep 0 _ _ st2 fun b _ o e => keep4 b o (old b o e)
  have eA : X'.A = X.A := by rw [← hX]; rfl
  have eP : X'.prog = X.prog := by rw [← hX]; rfl
  have eW : X'.w = X.w := by rw [← hX]; rfl
  have eK : X'.K = X.K := by rw [← hX]; rfl
  have ec : X'.calm = true := by rw [← hX]; exact hc
  have ex : X'.xe = F0 := by rw [← hX]; rfl
  have eE : X'.env = compEnvC scope (closG scope.names X.env.cells []) s3.heap.objs.size X.env := by rw [← hX]; rfl
  have stat : ∀ {H' : Hp}, (∀ b ∈ fp, H' b = none) → ∀ b ∈ fp, FpOk X' [] H' b := fun {H'} hn b hb => by
    obtain ⟨a1, a2, a3, a4, a5, a6⟩ := f3 b hb
    obtain ⟨o, ho⟩ := hob3 b hb
    rw [← hX]
    refine ⟨hn b hb, Nat.ne_of_lt (Heap.lt_size ho), fun z => ?_, .inl hb, fun x c e => a5 x c (S.look I3 e), fun p hp => a6 p ?_⟩
    · rcases List.mem_cons.mp (I3.stkSub b z) with e | e
      · exact a2 e
      · exact a3 e
    · have hp : p ∈ (X.pn ++ pins) ++ [] := hp
      simpa using hp
  have loop : ∀ s5 : Shared, s5 = { s3 with heap := h4, toks := s3.toks + ([] : List (Str × Value)).length } →
      codeAny (model X.prog X.w) X.A (.compLoop (.ListComp elt [⟨tg, iter, ifs, 0⟩] scope pos) 0 (.ref it) (.ref s2.heap.objs.size) (compEnvC scope (closG scope.names X.env.cells []) s3.heap.objs.size X.env)) (RR (.ref s2.heap.objs.size) s3.heap.objs.size) s5 := by
    rintro s5 rfl
    refine compLoop_any (fun n s' => ∃ i σ' H', Inv X' [] σ' H' s' ∧ tn i s'.heap ∧ (∀ b ∈ fp, H' b = none) ∧ W i n σ' H') ?_ m0 ⟨0, _, _, I4, st4, fun b hb => (f3 b hb).1, w0⟩
    rintro n s6 ⟨i, σ6, H6, I6, st6, fr6, w6⟩
    rw [← eA, ← eE, ← eP, ← eW]
    rcases turn i n σ6 H6 w6 with ⟨stop, qn⟩ | ⟨go, N, hN, step⟩
    · have z := T.done X' eP eW eK ec i [] s6 σ6 H6 F0 I6 (stat fr6) st6 stop
      rw [← eP, ← eW] at z
      refine thn z fun r s7 ⟨hr, I7⟩ => ?_
      subst hr
      obtain ⟨m, hm, _⟩ := id I7.loc
      have I7' : Inv X pins σ H6 s7 := by
        rw [← hX] at I7
        exact S.behind I3 f3 I7
      have hm : s7.heap.Ns s3.heap.objs.size m := by rw [eE] at hm; exact hm
      have hC : H6 s3.heap.objs.size = none := by
        have := I7.free
        rw [eE] at this
        exact this
      exact hRR s2.heap.objs.size s3.heap.objs.size s7 H6 m I7' hm (by omega) hC qn
    · have z := T.item X' eP eW eK ec i [] s6 σ6 H6 F0 I6 (stat fr6) st6 go
      rw [← eP, ← eW] at z
      refine thn z fun r s7 ⟨u, hr, h7⟩ => ?_
      subst hr
      refine thn h7 fun _ s8 ⟨x, H8, I8, r8, y8, st8, fr8⟩ => ?_
      have I8' := I8.pinned (stat fr8) (T.obj _ _ st8)
      have z9 := PG' _ s8 σ6 H8 x u _ I8' r8 (step x H8 y8)
      rw [ex] at z9
      refine thn z9 fun _ s9 ⟨σ9, H9, I9, q9⟩ => ?_
      have z10 := PT' _ s9 σ9 H9 _ I9 q9
      rw [ex] at z10
      refine thn z10 fun ok s10 ⟨H10, I10, q10⟩ => ?_
      have again : ∀ {s11 : Shared} {H11 : Hp}, Inv X' ([] ++ pinsAt fp s8.heap) σ9 H11 s11 → N σ9 H11 → ∃ m, m < n ∧ ∃ i σ' H', Inv X' [] σ' H' s11 ∧ tn i s11.heap ∧ (∀ b ∈ fp, H' b = none) ∧ W i m σ' H' := fun {s11 H11} I11 n11 => by
        obtain ⟨m', hm, w11⟩ := hN σ9 H11 n11
        refine ⟨m', hm, i + 1, σ9, H11, I11.unpinned, T.keep _ _ _ st8 fun b hb o e => (I11.pin (b, o) (List.mem_append_right _ (List.mem_append_right _ (mem_pinsAt hb e)))).1, fun b hb => ?_, w11⟩
        obtain ⟨o, e, d⟩ := T.obj _ _ st8 b hb
        exact (I11.pin (b, o) (List.mem_append_right _ (List.mem_append_right _ (mem_pinsAt hb e)))).2.1
      cases ok with
      | false =>
        rw [if_neg Bool.false_ne_true] at q10 ⊢
        exact again I10 q10
      | true =>
        rw [if_pos rfl] at q10 ⊢
        have z11 := PE' _ s10 σ9 H10 _ I10 q10
        rw [ex] at z11
        refine thn z11 fun v s11 ⟨y, H11, I11, r11, ys, hy, hlen, n11⟩ => ?_
        have z12 := mt_append (X := X') _ s11 σ9 H11 (.ref s2.heap.objs.size) [y] _ [v] (fun _ H12 => N σ9 H12) I11 rfl (.cons r11 .nil) ⟨_, ys, y, rfl, rfl, hy, hlen, n11⟩
        rw [ex] at z12
        exact thn z12 fun _ s12 ⟨_, H12, I12, _, n12⟩ => again I12 n12
  exact codeAny_compStart_list (loop _ rfl) (T.self X.A 0 _ _ _ st4 (loop _ rfl))
/-- [elt for tg in iter if ..], as a value -/
theorem pe_comp (S : CompScope X scope caps) (hc : X.calm = true) (hi : PI X tg iter wi) (B : CompBody X vars caps scope tg ifs elt g tt te) (hs : ∀ x, foldedSetIterable iter X.env x = pure x := by intro _; rfl) :
    PE X (.ListComp elt [⟨tg, iter, ifs, 0⟩] scope pos) (tComp vars caps wi g tt te) := by
  intro pins s σ H Q I h
  rw [eval_ListComp]
  refine wpAny_comprehension_free (use := none) rfl hs (closureFor_is (S.cells I)) S.kind S.loc ?_
  refine thn (hi pins s σ H _ I h) fun v s1 h1 => thn h1 fun itv s2 h2 => ?_
  obtain ⟨it, fp, tn, J, H2, e, I2, T, st2, f2, q⟩ := h2
  subst e
  refine comp_run (RR := fun acc C => compPost (model X.prog X.w) X.A X.xe none (EP X pins σ Q) acc C) S hc B I2 T st2 f2 q fun acc C s' H' m I' hm hC hn q' => ?_
  refine ⟨m, hm, fun h'' hs'' => ?_⟩
  have hCL : C ≠ X.env.locals := fun z => absurd (Nat.lt_of_lt_of_le I2.lt (z ▸ hC)) (Nat.lt_irrefl _)
  exact ⟨.ref acc, H', I'.turned (t' := s'.toks) (fun b o hb e => hs''.extBut b o hb e) hn hCL (.inr (Nat.le_trans I2.sz hC)) (fun x c e z => by
    obtain ⟨v, hv⟩ := I2.cell x c e
    exact absurd (Nat.lt_of_lt_of_le hv.lt (z ▸ hC)) (Nat.lt_irrefl _)) (fun p hp z => by
    exact absurd (Nat.lt_of_lt_of_le (Heap.lt_size (I2.pin p hp).1) (z ▸ hC)) (Nat.lt_irrefl _)), rfl, q'⟩
end
/-! ### the scope's conditions, by the written scopes alone -/
structure CompScopeC (outer : Scope) (N : List Str) (scope : Scope) (caps : List Nat) : Prop where
  ok : outer.kind = .function ∧ scope.kind = .function ∧ (∀ x ∈ scope.names, x.2 = .local → scope.names.lookup x.1 = some .local) ∧ (∀ x ∈ scope.names, x.2 ≠ .cell) ∧ (∀ x ∈ scope.names, x.2 = .free → outer.names.lookup x.1 = some .cell) ∧
    ∀ j ∈ caps, j < N.length ∧ outer.names.lookup (N.getD j "") = some .cell ∧ (N.getD j "", NameKind.free) ∈ scope.names ∧ scope.names.lookup (N.getD j "") = some .free
theorem relabel_free {env : Env} {x : Str} (hk : env.scope.kind = .function) (hx : env.kindOf x = some .cell) : ∀ {names : List (Str × NameKind)}, names.lookup x = some .free →
    (names.map fun (n, k) => if (k == NameKind.free && env.scope.kind == .function && env.kindOf n == some .cell) then (n, NameKind.cell) else (n, k)).lookup x = some .cell
  | [], h => by simp at h
  | (n, k) :: r, h => by
    have ih := @relabel_free env x hk hx r
    show List.lookup x ((if (k == NameKind.free && env.scope.kind == .function && env.kindOf n == some .cell) = true then (n, NameKind.cell) else (n, k)) :: _) = _
    rw [List.lookup_cons] at h
    cases e : x == n with
    | true =>
      rw [e] at h
      have e' : x = n := by simpa using e
      subst e'
      have hk' : k = .free := Option.some.inj h
      subst hk'
      have hc : (NameKind.free == NameKind.free && env.scope.kind == .function && env.kindOf x == some .cell) = true := by rw [hk, hx]; rfl
      rw [if_pos hc, List.lookup_cons]
      simp
    | false =>
      rw [e] at h
      have q := ih h
      by_cases hc : (k == NameKind.free && env.scope.kind == .function && env.kindOf n == some .cell) = true
      · rw [if_pos hc, List.lookup_cons, e]; exact q
      · rw [if_neg hc, List.lookup_cons, e]; exact q
theorem CompScope.of {X : Cx} {outer : Scope} {N : List Str} {scope : Scope} {caps : List Nat} (h1 : X.env.scope = outer) (h2 : X.N = N) (h : CompScopeC outer N scope caps) : CompScope X scope caps := by
  subst h1; subst h2
  obtain ⟨a, b, c, d, e, f⟩ := h.ok
  refine ⟨b, c, d, e, fun j hj => ?_⟩
  obtain ⟨f1, f2, f3, f4⟩ := f j hj
  have g : X.N.getD j "" = X.N[j] := by simp [List.getD, List.getElem?_eq_getElem f1]
  rw [g] at f2 f3 f4
  exact ⟨X.N[j], List.getElem?_eq_getElem f1, f2, f3, relabel_free (env := X.env) a f2 f4⟩
end L2
set_option Elab.async false
set_option linter.all false
set_option maxRecDepth 100000
set_option maxHeartbeats 4000000
namespace L2
open PySem PySem.Spec PyProof.Rows
/-! ### == and != of lists, at any depth -/
inductive DEq (K : PySem.W.Frag) (H : Hp) : Nat → V → V → Bool → Prop where
  | flat {n : Nat} {x y : V} : flatV x = true → flatV y = true → DEq K H n x y (eqV x y)
  | same {n : Nat} (a : Addr) : DEq K H n (.ref a) (.ref a) true
  | list {n : Nat} {a b : Addr} {xs ys : List V} (e : Nat → Bool) : a ≠ b → SqL K H a xs → SqL K H b ys → xs.length = ys.length → (∀ (i : Nat) (x y : V), xs[i]? = some x → ys[i]? = some y → DEq K H n x y (e i)) →
      DEq K H (n + 1) (.ref a) (.ref b) ((List.range xs.length).all e)
  | short {n : Nat} {a b : Addr} {xs ys : List V} : a ≠ b → SqL K H a xs → SqL K H b ys → xs.length ≠ ys.length → DEq K H (n + 1) (.ref a) (.ref b) false
  | tup {n : Nat} {a b : Addr} {xs ys : List V} (e : Nat → Bool) : a ≠ b → SqT K H a xs → SqT K H b ys → (∀ (i : Nat) (x y : V), xs[i]? = some x → ys[i]? = some y → DEq K H n x y (e i)) →
      DEq K H (n + 1) (.ref a) (.ref b) ((List.range (min xs.length ys.length)).all e && xs.length == ys.length)
section
variable {X : Cx} {pins : List (Addr × Obj)} {σ : St} {H : Hp} {s : Shared}
theorem Vals.getA {xs : List V} {us : List Value} {j : Nat} (r : Vals xs us) (h : j < us.toArray.size) : ∃ x, xs[j]? = some x ∧ RelV x us.toArray[j] := by
  have hl := r.length
  have hj : j < xs.length := by simp at h; omega
  obtain ⟨u, e1, e2⟩ := r.get (List.getElem?_eq_getElem hj)
  refine ⟨xs[j], List.getElem?_eq_getElem hj, ?_⟩
  have : us.toArray[j] = u := by
    have q : us[j]? = some us[j] := List.getElem?_eq_getElem (by omega)
    rw [q] at e1
    simpa using e1
  rw [this]
  exact e2
theorem DEq.eqAt {n : Nat} {x y : V} {b : Bool} (I : Inv X pins σ H s) (d : DEq X.K H n x y b) : ∀ {A : Around} {u v : Value}, RelV x u → RelV y v → A.units + n < cLine → SeqAt.EqAt A s u v b := by
  induction d with
  | flat f1 f2 => intro A u v r1 r2 _; exact eqAt_V r1 r2 f1 f2
  | same a => intro A u v r1 r2 _; cases r1; cases r2; exact SeqAt.EqAt.same _
  | @list n a b xs ys e hne h1 h2 hl hd ih =>
    intro A u v r1 r2 hu
    cases r1; cases r2
    obtain ⟨its, q1, p1, _⟩ := I.list h1
    obtain ⟨its2, q2, p2, _⟩ := I.list h2
    have l1 := q1.length
    have l2 := q2.length
    have z := SeqAt.RcAt.lists (A := A) (e := e) p1.isList p2.isList (by simp; omega) (by omega) (fun j g1 g2 => by
      obtain ⟨x, ex, rx⟩ := q1.getA g1
      obtain ⟨y, ey, ry⟩ := q2.getA g2
      exact ih j x y ex ey rx ry (by show A.units + 1 + n < cLine; omega))
    rw [show its.toArray.size = xs.length by simp; omega] at z
    exact SeqAt.EqAt.of_refs hne z
  | @short n a b xs ys hne h1 h2 hl =>
    intro A u v r1 r2 hu
    cases r1; cases r2
    obtain ⟨its, q1, p1, _⟩ := I.list h1
    obtain ⟨its2, q2, p2, _⟩ := I.list h2
    have l1 := q1.length
    have l2 := q2.length
    exact SeqAt.EqAt.of_refs hne (SeqAt.RcAt.lists_lengths p1.isList p2.isList (by simp; omega) (by omega))
  | @tup n a b xs ys e hne h1 h2 hd ih =>
    intro A u v r1 r2 hu
    cases r1; cases r2
    obtain ⟨its, q1, p1, _⟩ := I.tuple h1
    obtain ⟨its2, q2, p2, _⟩ := I.tuple h2
    have l1 := q1.length
    have l2 := q2.length
    have z := SeqAt.RcAt.tuples (A := A) (e := e) p1 p2 (by omega) (fun j g1 g2 => by
      obtain ⟨x, ex, rx⟩ := q1.getA g1
      obtain ⟨y, ey, ry⟩ := q2.getA g2
      exact ih j x y ex ey rx ry (by show A.units + 1 + n < cLine; omega))
    rw [show its.toArray.size = xs.length by simp; omega, show its2.toArray.size = ys.length by simp; omega] at z
    exact SeqAt.EqAt.of_refs hne z
/-- the answer of == on two lists whose items are compared by e -/
def rEqD (K : PySem.W.Frag) (neg : Bool) : R2 := fun x y H Q => ∃ a b xs ys, x = .ref a ∧ y = .ref b ∧ SqL K H a xs ∧ SqL K H b ys ∧
  ((xs.length ≠ ys.length ∧ Q (.bl neg) H) ∨ (xs.length = ys.length ∧ ∃ e : Nat → Bool, (∀ (i : Nat) (x y : V), xs[i]? = some x → ys[i]? = some y → DEq K H 40 x y (e i)) ∧ Q (.bl (if neg then !((List.range xs.length).all e) else (List.range xs.length).all e)) H))
theorem op_eqD (hu : X.A.units + 64 < cLine) : OpR X (compareOp .Eq) (rEqD X.K false) := by
  intro pins s σ H x y v u Q I rx ry h
  obtain ⟨a, b, xs, ys, rfl, rfl, h1, h2, q⟩ := h
  cases rx; cases ry
  obtain ⟨its, q1, p1, _⟩ := I.list h1
  obtain ⟨its2, q2, p2, _⟩ := I.list h2
  have l1 := q1.length
  have l2 := q2.length
  rcases q with ⟨hl, q⟩ | ⟨hl, e, he, q⟩
  · exact SeqAt.eq_list_lengthsAt p1.isList p2.isList (by simp; omega) (by omega) ⟨.bl false, H, I, rfl, q⟩
  · refine SeqAt.eq_listAt (e := e) p1.isList p2.isList (by simp; omega) (by omega) (fun j g1 g2 => ?_) ⟨.bl _, H, I, rfl, ?_⟩
    · obtain ⟨x, ex, rx⟩ := q1.getA g1
      obtain ⟨y, ey, ry⟩ := q2.getA g2
      exact (he j x y ex ey).eqAt I rx ry (by show X.A.units + 1 + 40 < cLine; omega)
    · rw [show its.toArray.size = xs.length by simp; omega]
      exact q
theorem op_neD (hu : X.A.units + 64 < cLine) : OpR X (compareOp .NotEq) (rEqD X.K true) := by
  intro pins s σ H x y v u Q I rx ry h
  obtain ⟨a, b, xs, ys, rfl, rfl, h1, h2, q⟩ := h
  cases rx; cases ry
  obtain ⟨its, q1, p1, _⟩ := I.list h1
  obtain ⟨its2, q2, p2, _⟩ := I.list h2
  have l1 := q1.length
  have l2 := q2.length
  rcases q with ⟨hl, q⟩ | ⟨hl, e, he, q⟩
  · exact SeqAt.RcNeAt.lists_lengths p1.isList p2.isList (by simp; omega) (by omega) _ _ _ _ ⟨.bl true, H, I, rfl, q⟩
  · refine SeqAt.RcNeAt.lists (e := e) p1.isList p2.isList (by simp; omega) (by omega) (fun j g1 g2 => ?_) _ _ _ _ ⟨.bl _, H, I, rfl, ?_⟩
    · obtain ⟨x, ex, rx⟩ := q1.getA g1
      obtain ⟨y, ey, ry⟩ := q2.getA g2
      exact (he j x y ex ey).eqAt I rx ry (by show X.A.units + 1 + 40 < cLine; omega)
    · rw [show its.toArray.size = xs.length by simp; omega]
      exact q
/-- two lists of ints -/
def rEqL (K : PySem.W.Frag) (neg : Bool) : R2 := fun x y H Q => ∃ (a b : Addr) (ns ms : List Int), x = .ref a ∧ y = .ref b ∧ SqL K H a (ns.map V.int) ∧ SqL K H b (ms.map V.int) ∧ Q (.bl (if neg then !decide (ns = ms) else decide (ns = ms))) H
theorem all_eq_ints {ns ms : List Int} (h : ns.length = ms.length) : ((List.range ns.length).all fun i => ns.getD i 0 == ms.getD i 0) = decide (ns = ms) := by
  by_cases e : ns = ms
  · subst e; simp
  · rw [decide_eq_false e]
    cases q : ((List.range ns.length).all fun i => ns.getD i 0 == ms.getD i 0) with
    | false => rfl
    | true =>
      exfalso
      apply e
      apply List.ext_getElem h
      intro i h1 h2
      have z := List.all_eq_true.mp q i (List.mem_range.mpr h1)
      simp [List.getD, List.getElem?_eq_getElem h1, List.getElem?_eq_getElem h2] at z
      exact z
theorem eqL_D {K : PySem.W.Frag} {neg : Bool} {x y : V} {H : Hp} {Q : VK} (h : rEqL K neg x y H Q) : rEqD K neg x y H Q := by
  obtain ⟨a, b, ns, ms, rfl, rfl, h1, h2, q⟩ := h
  refine ⟨a, b, _, _, rfl, rfl, h1, h2, ?_⟩
  by_cases hl : ns.length = ms.length
  · refine .inr ⟨by simpa using hl, fun i => ns.getD i 0 == ms.getD i 0, fun i x y hx hy => ?_, ?_⟩
    · rw [List.getElem?_map] at hx hy
      cases e1 : ns[i]? with
      | none => rw [e1] at hx; cases hx
      | some p =>
        cases e2 : ms[i]? with
        | none => rw [e2] at hy; cases hy
        | some p' =>
          rw [e1] at hx; rw [e2] at hy
          cases hx; cases hy
          have : (ns.getD i 0 == ms.getD i 0) = eqV (.int p) (.int p') := by
            simp [List.getD, e1, e2, eqV]
          show DEq K H 40 _ _ (ns.getD i 0 == ms.getD i 0)
          rw [this]
          exact .flat rfl rfl
    · rw [List.length_map, all_eq_ints hl]
      exact q
  · refine .inl ⟨by simpa using hl, ?_⟩
    have : decide (ns = ms) = false := decide_eq_false fun e => hl (by rw [e])
    rw [this] at q
    cases neg with
    | true => exact q
    | false => exact q
theorem op_eqL (hu : X.A.units + 64 < cLine) : OpR X (compareOp .Eq) (rEqL X.K false) := fun pins s σ H x y v u Q I rx ry h => op_eqD hu pins s σ H x y v u Q I rx ry (eqL_D h)
theorem op_neL (hu : X.A.units + 64 < cLine) : OpR X (compareOp .NotEq) (rEqL X.K true) := fun pins s σ H x y v u Q I rx ry h => op_neD hu pins s σ H x y v u Q I rx ry (eqL_D h)
end

/-! ### an iterator of two records, that makes a tuple at each turn: enumerate -/
section
variable {X : Cx} {pins : List (Addr × Obj)} {σ : St} {H : Hp} {s : Shared} {h' : Heap}
theorem Inv.turnedNew {ch : List Addr} {T : Addr} {o : HO} {tk : Nat} (I : Inv X pins σ H s) (k : ∀ b u, b ∉ ch → s.heap.get? b = some u → h'.get? b = some u) (hf : ∀ b ∈ ch, FpOk X pins H b) (hT : s.heap.objs.size ≤ T) (th : ∃ u, h'.get? T = some u)
    (new : ObjOk X.prog X.w (upd H T o) h' T o) : Inv X pins σ (upd H T o) { s with heap := h', toks := tk } := by
  have hn : H T = none := I.hok.fresh hT
  have nch : ∀ b u, H b = some u → b ∉ ch := fun b u e z => by
    have := (hf b z).1
    rw [e] at this
    cases this
  refine I.step (g' := s.gens) (d' := s.drawn) (ch := ch) (fun b hb => ⟨(hf b hb).2.2.2.1, (hf b hb).2.1, (hf b hb).2.2.2.2.1, (hf b hb).2.2.2.2.2⟩) (fun b u _ _ hc e _ => k b u hc e) (fun b u _ _ hc e _ => ⟨u.slots, k b u hc e⟩)
    (fun b u _ e n => by rw [upd_ne (fun (z : b = T) => absurd (Nat.lt_of_lt_of_le (Heap.lt_size e) (z ▸ hT)) (Nat.lt_irrefl _))]; exact n) (fun b u hc e => ⟨u, k b u hc e⟩)
    (fun b xs e => by rw [upd_ne (ne_of_none e hn)]; exact e) (fun b u v e => by rw [upd_ne (ne_of_none e hn)]; exact e) (fun b ps e => ⟨#[], by rw [upd_ne (ne_of_none e hn), e]; simp⟩) (fun m hm => ?_) (fun b u e => ?_) I.bare
  · obtain ⟨ob, es, ep, ho, r⟩ := hm
    refine ⟨ob, es, ep, k _ ob (fun z => (hf _ z).2.1 rfl) ho, r⟩
  · by_cases hb : b = T
    · subst hb; rw [upd_same] at e; cases e; exact new
    · rw [upd_ne hb] at e
      refine (I.hok b u e).stay (fun c v hc q => k c v ?_ q) (fun c q => by rw [upd_ne (ne_of_none q hn)]; exact q) fun c xs q => by rw [upd_ne (ne_of_none q hn)]; exact q
      rcases hc with z | z
      · rw [z]; exact nch b u e
      · exact nch c _ z
theorem Inv.turnedMany {ch : List Addr} {tk : Nat} (I : Inv X pins σ H s) (k : ∀ b u, b ∉ ch → s.heap.get? b = some u → h'.get? b = some u) (hf : ∀ b ∈ ch, FpOk X pins H b) : Inv X pins σ H { s with heap := h', toks := tk } := by
  have nch : ∀ b u, H b = some u → b ∉ ch := fun b u e z => by
    have := (hf b z).1
    rw [e] at this
    cases this
  refine I.step (g' := s.gens) (d' := s.drawn) (ch := ch) (fun b hb => ⟨(hf b hb).2.2.2.1, (hf b hb).2.1, (hf b hb).2.2.2.2.1, (hf b hb).2.2.2.2.2⟩) (fun b u _ _ hc e _ => k b u hc e) (fun b u _ _ hc e _ => ⟨u.slots, k b u hc e⟩)
    (fun b u _ e n => n) (fun b u hc e => ⟨u, k b u hc e⟩) (fun b xs e => e) (fun b u v e => e) (fun b ps e => ⟨#[], by rw [e]; simp⟩) (fun m hm => ?_) (fun b u e => ?_) I.bare
  · obtain ⟨ob, es, ep, ho, r⟩ := hm
    refine ⟨ob, es, ep, k _ ob (fun z => (hf _ z).2.1 rfl) ho, r⟩
  · refine (I.hok b u e).stay (fun c v hc q => k c v ?_ q) (fun c q => q) fun c xs q => q
    rcases hc with z | z
    · rw [z]; exact nch b u e
    · exact nch c _ z
end
def Ite (K : PySem.W.Frag) (a : Addr) : It :=
  ⟨fun i H => ∃ xs x, SqL K H a xs ∧ xs[i]? = some x, fun i H x H' => ∃ T v, x = .ref T ∧ H T = none ∧ H' = upd H T (.tup [.int i, v]) ∧ ∀ xs, SqL K H a xs → xs[i]? = some v, fun i H => ∃ xs, SqL K H a xs ∧ xs.length = i⟩
theorem turn_enum {P : Program} {w : World} {K : PySem.W.Frag} {elts : List Expr} {k : Nat} {tp : Pos} (a it e : Addr) (hei : e ≠ it) : Turn P w K (.Tuple elts k tp) (Ite K a) [e, it] e (fun i h => (∃ old, IsEnum h e it i old) ∧ h.IsListIter it a i) where
  mem := by simp
  obj := fun i h st b hb => by
    obtain ⟨⟨old, he⟩, hi⟩ := st
    rcases List.mem_cons.mp hb with z | hb
    · subst z
      exact ⟨_, he, fun v z => by
        have z' : Data.fields _ = Data.cell v := z
        cases z'⟩
    · have z : b = it := by simpa using hb
      subst z
      obtain ⟨o, e, c, d⟩ := hi
      exact ⟨o, e, fun v z => by rw [d] at z; cases z⟩
  keep := fun i h h' st kk => by
    obtain ⟨⟨old, he⟩, hi⟩ := st
    exact ⟨⟨old, kk e (by simp) _ he⟩, hi.at fun o z => kk it (by simp) o z⟩
  item := by
    intro X hP hw hK hc i pins s σ H E I hf st hg
    subst hP hw hK
    obtain ⟨⟨old, he⟩, hi⟩ := st
    obtain ⟨xs, x, hq, hx⟩ := hg
    obtain ⟨its, rv, p, hz⟩ := I.list hq
    obtain ⟨u, hu, ru⟩ := rv.get hx
    have hil : i < its.toArray.size := by
      have := (List.getElem?_eq_some_iff.mp hu).1
      simpa using this
    have hai : a ≠ it := fun z => by
      obtain ⟨o, ho, hc', _⟩ := hi
      obtain ⟨o2, ho2, hc2, _⟩ := p.isList
      rw [z, ho] at ho2
      cases ho2
      rw [hc'] at hc2
      exact absurd hc2 (by decide)
    have hea : e ≠ a := fun z => by
      obtain ⟨o2, ho2, hc2, _⟩ := p.isList
      have he2 : s.heap.get? e = some _ := he
      rw [← z, he2] at ho2
      cases ho2
      have hc2 : Value.type "enumerate" = Value.type "list" := hc2
      exact absurd hc2 (by decide)
    have D := Draws.list (prog := X.prog) (w := X.w) (A := X.A.in1) (I.ok.hd hc) it a hai its.toArray
    refine wpAny_pyNext_enum_itemD D he ⟨hi, p.isList⟩ hil hei (by simp [hei, hea]) fun y h1 tk hy hout hst hT hsz hk => ?_
    have ey : y = u := by
      have q : its.toArray[i]? = some y := hy
      have q2 : its.toArray[i]? = some u := by simpa using hu
      rw [q2] at q
      exact (Option.some.inj q).symm
    subst ey
    refine ⟨_, rfl, ?_⟩
    refine wpAny_letOwnedTupleGo_enum hout fun h2 he2 hs2 => ?_
    have hTe : s.heap.objs.size ≠ e := fun z => absurd (Heap.lt_size he) (by rw [← z]; exact Nat.lt_irrefl _)
    have keep : ∀ b o, b ∉ [e, it] → s.heap.get? b = some o → h2.get? b = some o := fun b o hb q => by
      have h1' : b ≠ e := fun z => hb (by simp [z])
      have h2' : b ≠ it := fun z => hb (by simp [z])
      exact (hs2.2 b h1').trans (hk b o h1' h2' q)
    have hT2 : h2.get? s.heap.objs.size = some { cls := .type "tuple", data := .seq #[.int i tk, y] } := (hs2.2 _ hTe).trans hT
    refine ⟨.ref s.heap.objs.size, upd H s.heap.objs.size (.tup [.int i, x]), I.turnedNew (tk := tk + 1) keep hf (Nat.le_refl _) ⟨_, hT2⟩ ?_, rfl, ⟨_, x, rfl, I.hok.fresh (Nat.le_refl _), rfl, fun ys hys => by rw [I.list_inj hys hq]; exact hx⟩, ⟨⟨_, by simpa using he2⟩, ?_⟩, fun b hb => ?_⟩
    · exact ⟨by show 2 ≤ sizeLine; decide, [.int i tk, y], .cons ⟨_, rfl⟩ (.cons ru .nil), ⟨_, hT2, rfl, _, rfl⟩⟩
    · exact hst.1.at fun o z => (hs2.2 it (Ne.symm hei)).trans z
    · have hbn := (hf b hb).1
      rw [upd_ne]
      · exact hbn
      · intro z
        rcases List.mem_cons.mp hb with q | hb
        · exact hTe (z ▸ q)
        · have q : b = it := by simpa using hb
          obtain ⟨o, ho, _⟩ := hi
          have := Heap.lt_size ho
          rw [← q, z] at this
          exact absurd this (Nat.lt_irrefl _)
  done := by
    intro X hP hw hK hc i pins s σ H E I hf st hg
    subst hP hw hK
    obtain ⟨⟨old, he⟩, hi⟩ := st
    obtain ⟨xs, hq, hx⟩ := hg
    obtain ⟨its, rv, p, hz⟩ := I.list hq
    have hl := rv.length
    have hai : a ≠ it := fun z => by
      obtain ⟨o, ho, hc', _⟩ := hi
      obtain ⟨o2, ho2, hc2, _⟩ := p.isList
      rw [z, ho] at ho2
      cases ho2
      rw [hc'] at hc2
      exact absurd hc2 (by decide)
    have D := Draws.list (prog := X.prog) (w := X.w) (A := X.A.in1) (I.ok.hd hc) it a hai its.toArray
    have hsz : its.toArray.size = i := by simp; omega
    refine wpAny_pyNext_enum_endD D he ⟨by rw [hsz]; exact hi, p.isList⟩ fun h1 hx1 => ⟨rfl, ?_⟩
    exact I.turnedMany (ch := [e, it]) (tk := s.toks) (fun b o hb q => hx1 b o (fun z => hb (by simp [z])) q) hf
  self := fun _ _ _ _ _ st h => by
    obtain ⟨⟨old, he⟩, _⟩ := st
    exact wpAny_pyIter_enum he h
section
variable {X : Cx} {elts : List Expr} {k : Nat} {tp : Pos}
def iEnum (K : PySem.W.Frag) (ta : TA) : TI := fun σ H R => ta σ H fun vs H1 => ∃ a, vs = [.ref a] ∧ (∃ xs, SqL K H1 a xs) ∧ R (Ite K a) H1
theorem pi_enum {l : Expr} {ta : TA} {p pos : Pos} (hg : Gl X "enumerate") (hm : X.mg "enumerate" = none) (ha : PA X [l] ta) (hs : starEach [l] X.env = [(false, eval l X.env)] := by rfl) : PI X (.Tuple elts k tp) (.Call (.Name "enumerate" p) [l] [] pos) (iEnum X.K ta) := by
  intro pins s σ H R I h
  refine Call_ (ld_blt I hg hm boot_enumerate (PyProof.Rows.callWith_type1 (thn (ha pos pins s σ H _ I h) fun us s1 ⟨vs, H1, I1, r1, q1⟩ => ?_) hs rfl))
  obtain ⟨a, e, ⟨xs, hq⟩, q⟩ := q1
  subst e
  obtain ⟨u, rfl, r⟩ := vals1 r1
  cases r
  obtain ⟨its, rv, pl, hz⟩ := I1.list hq
  refine call_enumerate_list pl.isList fun h1 he hit hsz hk => ?_
  refine wpAny_pyIter_enum he ?_
  refine ⟨s1.heap.objs.size + 1, [s1.heap.objs.size + 1, s1.heap.objs.size], _, _, H1, rfl, I1.kept (t' := s1.toks) hk, turn_enum a s1.heap.objs.size (s1.heap.objs.size + 1) (Nat.succ_ne_self _), ⟨⟨_, he⟩, hit⟩, fun b hb => ?_, q⟩
  have hb : s1.heap.objs.size ≤ b := by
    rcases List.mem_cons.mp hb with z | hb
    · rw [z]; exact Nat.le_succ _
    · have z : b = s1.heap.objs.size := by simpa using hb
      rw [z]; exact Nat.le_refl _
  exact I1.fpOk hb (I1.hok.fresh hb)
end
/-- for i, x in enumerate(xs), where the body leaves xs as it is -/
theorem for_enum {K : PySem.W.Frag} {a : Addr} {xs : List V} {g : TG} {tb : TS} {D : Ends} {σ : St} {H : Hp} (Pv : Nat → St → Hp → Prop) (h0 : Pv 0 σ H) (hl : ∀ i σ H, i ≤ xs.length → Pv i σ H → SqL K H a xs)
    (hs : ∀ i x σ H T, xs[i]? = some x → Pv i σ H → H T = none → g (.ref T) σ (upd H T (.tup [.int i, x])) fun σ2 H2 => tb { D with nx := Pv (i + 1), ct := Pv (i + 1), bk := D.nx } σ2 H2) (hd : ∀ σ H, Pv xs.length σ H → D.nx σ H) :
    ∃ W : Nat → Nat → St → Hp → Prop, (∃ m, W 0 m σ H) ∧ ∀ i m σ H, W i m σ H →
      ((Ite K a).stop i H ∧ D.nx σ H) ∨ ((Ite K a).go i H ∧ ∃ N : St → Hp → Prop, (∀ σ' H', N σ' H' → ∃ m', m' < m ∧ W (i + 1) m' σ' H') ∧ ∀ x H', (Ite K a).yld i H x H' → g x σ H' fun σ2 H2 => tb { D with nx := N, ct := N, bk := D.nx } σ2 H2) := by
  refine ⟨fun i m σ H => m = xs.length - i ∧ i ≤ xs.length ∧ Pv i σ H, ⟨xs.length, by simp, Nat.zero_le _, h0⟩, ?_⟩
  rintro i m σ H ⟨rfl, hi, p⟩
  have q := hl i σ H hi p
  by_cases hlt : i < xs.length
  · refine .inr ⟨⟨xs, xs[i], q, by simp [hlt]⟩, Pv (i + 1), fun σ' H' p' => ⟨xs.length - (i + 1), by omega, rfl, hlt, p'⟩, fun x H' y => ?_⟩
    obtain ⟨T, v, rfl, hT, rfl, y⟩ := y
    exact hs i v σ H T (y xs q) p hT
  · have e : i = xs.length := by omega
    subst e
    exact .inl ⟨⟨xs, q, rfl⟩, hd σ H p⟩
end L2
set_option Elab.async false
set_option linter.all false
set_option maxRecDepth 100000
set_option maxHeartbeats 4000000
namespace L2
open PySem PySem.Spec PyProof.Rows
/-! ### list(range(..)) -/
/-- lo, lo + 1, .., n of them -/
def rangeL (lo : Int) (n : Nat) : List Int := (List.range n).map fun i => lo + (i : Nat)
theorem rangeL_length (lo : Int) (n : Nat) : (rangeL lo n).length = n := by simp [rangeL]
theorem vals_range {lo : Int} {n : Nat} {acc : Array Value} (h : ItemsOf (fun i v => ∃ t, v = .int (lo + i * 1) t) acc n) : Vals ((rangeL lo n).map V.int) acc.toList := by
  obtain ⟨h1, h2⟩ := h
  have key : ∀ (xs : List V) (us : List Value), xs.length = us.length → (∀ (i : Nat) x u, xs[i]? = some x → us[i]? = some u → RelV x u) → Vals xs us := by
    intro xs
    induction xs with
    | nil => intro us hl _; cases us with | nil => exact .nil | cons _ _ => cases hl
    | cons x xs ih =>
      intro us hl h
      cases us with
      | nil => cases hl
      | cons u us => exact .cons (h 0 x u rfl rfl) (ih us (by simpa using hl) fun i y v a b => h (i + 1) y v (by simpa using a) (by simpa using b))
  refine key _ _ (by simp [rangeL, h1]) fun i x u hx hu => ?_
  obtain ⟨t, rfl⟩ := h2 i u (by simpa using hu)
  have hi : i < n := by
    have := (List.getElem?_eq_some_iff.mp hu).1
    simp at this
    omega
  have : x = .int (lo + i) := by
    simp [rangeL, hi] at hx
    exact hx.symm
  subst this
  exact ⟨t, by rw [Int.mul_one]⟩
section
variable {X : Cx} {pos pos2 p p2 : Pos} {a b : Expr} {ta : TA}
def rMade (xs : List V) (H : Hp) (Q : VK) : Prop := ∀ l, H l = none → Q (.ref l) (upd H l (.lst xs))
def tListRange1 (ta : TA) : TE := fun σ H Q => ta σ H fun vs H1 => ∃ j : Int, vs = [.int j] ∧ -1000000 < j ∧ j < 1000000 ∧ rMade ((rangeL 0 j.toNat).map V.int) H1 Q
def tListRange2 (ta : TA) : TE := fun σ H Q => ta σ H fun vs H1 => ∃ i j : Int, vs = [.int i, .int j] ∧ (-1000000 < i ∧ i < 1000000 ∧ -1000000 < j ∧ j < 1000000) ∧ rMade ((rangeL i (j - i).toNat).map V.int) H1 Q
/-- a range object just made, listed -/
theorem list_rng {pins : List (Addr × Obj)} {σ : St} {H : Hp} {s : Shared} {E : Value → Shared → Prop} {Q : VK} {lo hi : Int} {t u v : Tok} {tk : Nat} (hc : X.calm = true) (I : Inv X pins σ H s) (h1 : -1000000 < lo) (h2 : lo < 1000000) (h3 : -1000000 < hi) (h4 : hi < 1000000)
    (q : rMade ((rangeL lo (hi - lo).toNat).map V.int) H Q) :
    wpAny (model X.prog X.w) X.A (call (.type "list") [.ref s.heap.objs.size]) (EP X pins σ Q) E { s with heap := s.heap.push { cls := .type "range", data := .fields #[.int lo t, .int hi u, .int 1 v] }, toks := tk } := by
  have I1 : Inv X pins σ H { s with heap := s.heap.push { cls := .type "range", data := .fields #[.int lo t, .int hi u, .int 1 v] }, toks := tk } := I.kept fun b o e => Heap.get?_push_of_some _ e
  have hsz : Builtin.Range.rangeSize lo hi 1 = ((hi - lo).toNat : Int) := by rw [rangeSize_one]; split <;> omega
  refine call_list_range (n := (hi - lo).toNat) (I1.ok.hd hc) (IsRange.new ..) (small_one (by omega) (by omega) (by omega) (by omega)) hsz (by omega) fun h' tk' acc' c' hk hl hit => ?_
  have hf := I1.hok.fresh (Nat.le_refl (s.heap.push { cls := .type "range", data := .fields #[.int lo t, .int hi u, .int 1 v] }).objs.size)
  refine ⟨.ref _, upd H _ (.lst ((rangeL lo (hi - lo).toNat).map V.int)), I1.laid (t' := tk') hk (Nat.le_refl _) ?_, rfl, q _ hf⟩
  refine ⟨?_, acc'.toList, c', vals_range hit, by simpa using hl⟩
  rw [List.length_map, rangeL_length, sizeLine_eq]
  omega
theorem pe_listRange1 (hc : X.calm = true) (hg : Gl X "list") (hm : X.mg "list" = none) (hg2 : Gl X "range") (hm2 : X.mg "range" = none) (ha : PA X [a] ta) (hs : starEach [a] X.env = [(false, eval a X.env)] := by rfl)
    (hs2 : starEach [.Call (.Name "range" p2) [a] [] pos2] X.env = [(false, eval (.Call (.Name "range" p2) [a] [] pos2) X.env)] := by rfl) : PE X (.Call (.Name "list" p) [.Call (.Name "range" p2) [a] [] pos2] [] pos) (tListRange1 ta) := by
  intro pins s σ H Q I h
  refine wpAny_Call_Name_kw (ld_blt I hg hm boot_list ?_)
  refine PyProof.Rows.callWith_type1 ?_ hs2 rfl
  rw [hs2]
  refine Calls.spliced_cons ?_
  refine Call_ (ld_blt I hg2 hm2 boot_range (PyProof.Rows.callWith_type1 (thn (ha pos2 pins s σ H _ I h) fun us s1 ⟨vs, H1, I1, r1, q1⟩ => ?_) hs rfl))
  obtain ⟨j, e, q1, q2, q⟩ := q1
  subst e
  obtain ⟨u, rfl, t, rfl⟩ := vals1 r1
  refine call_range_1 (Calls.spliced_nil ?_)
  exact list_rng hc I1 (by omega) (by omega) q1 q2 (by simpa using q)
theorem pe_listRange2 (hc : X.calm = true) (hg : Gl X "list") (hm : X.mg "list" = none) (hg2 : Gl X "range") (hm2 : X.mg "range" = none) (ha : PA X [a, b] ta) (hs : starEach [a, b] X.env = [(false, eval a X.env), (false, eval b X.env)] := by rfl) (hs3 : starEach [b] X.env = [(false, eval b X.env)] := by rfl)
    (hs2 : starEach [.Call (.Name "range" p2) [a, b] [] pos2] X.env = [(false, eval (.Call (.Name "range" p2) [a, b] [] pos2) X.env)] := by rfl) : PE X (.Call (.Name "list" p) [.Call (.Name "range" p2) [a, b] [] pos2] [] pos) (tListRange2 ta) := by
  intro pins s σ H Q I h
  refine wpAny_Call_Name_kw (ld_blt I hg hm boot_list ?_)
  refine PyProof.Rows.callWith_type1 ?_ hs2 rfl
  rw [hs2]
  refine Calls.spliced_cons ?_
  refine Call_ (ld_blt I hg2 hm2 boot_range (PyProof.Rows.callWith_type1 (thn (ha pos2 pins s σ H _ I h) fun us s1 ⟨vs, H1, I1, r1, q1⟩ => ?_) (by rw [hs, hs3]) (by rw [hs3]; rfl)))
  obtain ⟨i, j, e, ⟨q1, q2, q3, q4⟩, q⟩ := q1
  subst e
  obtain ⟨u, w', rfl, ⟨t, rfl⟩, ⟨t', rfl⟩⟩ := vals2 r1
  refine call_range_2 (Calls.spliced_nil ?_)
  exact list_rng hc I1 q1 q2 q3 q4 q
end
/-! ### xs.index(y), sorted(xs), all(xs), sum(xs) -/
theorem intsIn : ∀ {ns : List Int} {us : List Value}, Vals (ns.map V.int) us → IntsAre us ns
  | [], _, .nil => .nil
  | n :: r, _, .cons ⟨t, e⟩ h => by subst e; exact .cons n t (intsIn h)
theorem ofIntsIn : ∀ {ns : List Int} {us : List Value}, IntsAre us ns → Vals (ns.map V.int) us
  | _, _, .nil => .nil
  | _, _, .cons n t h => .cons ⟨t, rfl⟩ (ofIntsIn h)
section
variable {X : Cx}
def rIndex (K : PySem.W.Frag) : V → List V → Hp → VK → Prop := fun x vs H Q => ∃ (l : Addr) (ns : List Int) (y : Int), x = .ref l ∧ vs = [.int y] ∧ SqL K H l (ns.map V.int) ∧ y ∈ ns ∧ Q (.int (ns.idxOf y : Nat)) H
theorem mt_index : MtR X "list.index" (rIndex X.K) := by
  intro pins s σ H x xs v us Q I rx rs h
  obtain ⟨l, ns, y, rfl, rfl, hq, hy, q⟩ := h
  cases rx
  obtain ⟨u, rfl, t, rfl⟩ := vals1 rs
  obtain ⟨its, r, p, hz⟩ := I.list hq
  obtain ⟨⟨cls, dd, data, sl⟩, ho, hc, n, hd⟩ := id p.isList
  simp only at hc hd
  subst hc hd
  have hlen : ns.length = its.length := by have := r.length; simpa using this
  have hj : ns.idxOf y < ns.length := List.idxOf_lt_length_iff.mpr hy
  have eqU_get : ∀ (j : Nat) (hj : j < its.length), eqU (.int y) its[j] = (ns.getD j 0 == y) := fun j hj => by
    have e1 : ns[j]? = some (ns.getD j 0) := by
      rw [List.getElem?_eq_getElem (by omega)]
      simp [List.getD, List.getElem?_eq_getElem (show j < ns.length by omega)]
    obtain ⟨u, e2, ru⟩ := r.get (i := j) (x := .int (ns.getD j 0)) (by rw [List.getElem?_map, e1]; rfl)
    have e3 : its[j] = u := by
      rw [List.getElem?_eq_getElem hj] at e2
      exact Option.some.inj e2
    rw [e3, eqU_of ru rfl]
    rfl
  have hz' : ns.length ≤ 16777216 := by rw [List.length_map, sizeLine_eq] at hz; exact hz
  refine call_meets F.slot_list_index p.isList.typeIs F.entry_list_index (F.args_list_index_2 _ _)
    (SeqAt.list_indexAt l its.toArray n dd sl (.int y t) (eqU (.int y)) (ns.idxOf y) (by simp; omega) (by omega) ?_ ?_) ⟨ho, fun u hu => ?_, ?_⟩
  · have := eqU_get (ns.idxOf y) (by omega)
    simp only [List.getElem_toArray]
    rw [this]
    simp [List.getD, List.getElem?_eq_getElem hj, List.getElem_idxOf]
  · intro m hm hlt
    have := eqU_get m (by simpa using hm)
    simp only [List.getElem_toArray]
    rw [this]
    have hm' : m < ns.length := by omega
    simp only [List.getD, List.getElem?_eq_getElem hm', Option.getD_some]
    have := List.not_of_lt_findIdx (p := (· == y)) (xs := ns) (i := m) (by simpa [List.idxOf] using hlt)
    simpa using this
  · exact mem_eqAt (x := .int y) ⟨t, rfl⟩ rfl r (by simp [flatV]) u (by simpa using hu)
  · exact ⟨.int _, H, I.tok _, ⟨_, rfl⟩, q⟩
def rSorted (K : PySem.W.Frag) : List V → Hp → VK → Prop := fun xs H Q => ∃ (p : Addr) (ns : List Int), xs = [.ref p] ∧ SqL K H p (ns.map V.int) ∧ ns.length < 64 ∧ ∀ ms : List Int, ms.Perm ns → ms.Pairwise (· ≤ ·) → rMade (ms.map V.int) H Q
theorem call_sorted : CallR X (.builtin "sorted") (rSorted X.K) := by
  intro pins s σ H xs us Q I r h
  obtain ⟨p, ns, rfl, hq, h64, q⟩ := h
  obtain ⟨u, rfl, rx⟩ := vals1 r
  cases rx
  obtain ⟨its, rv, pl, hz⟩ := I.list hq
  have hl := rv.length
  refine sorted_ints (vs := its) pl.isList (intsIn rv) (by simp at hl; omega) fun out ms ho hp hs => ?_
  obtain ⟨e, he⟩ := sortedAll_at s.heap its out
  have hf : H (s.heap.objs.size + 1) = none := I.hok.fresh (Nat.le_succ _)
  refine ⟨.ref _, upd H (s.heap.objs.size + 1) (.lst (ms.map V.int)), I.laid (t' := s.toks) (fun b o e => sortedAll_old e) (Nat.le_succ _) ?_, rfl, q ms hp hs _ hf⟩
  refine ⟨?_, out.toList, e, ofIntsIn ho, by simpa using he⟩
  rw [List.length_map, hp.length_eq, sizeLine_eq]
  omega
theorem call_sum (hc : X.calm = true) : CallR X (.builtin "sum") (fun xs H Q => ∃ (p : Addr) (ns : List Int), xs = [.ref p] ∧ SqL X.K H p (ns.map V.int) ∧ Q (.int ns.sum) H) := by
  intro pins s σ H xs us Q I r h
  obtain ⟨p, ns, rfl, hq, q⟩ := h
  obtain ⟨u, rfl, rx⟩ := vals1 r
  cases rx
  obtain ⟨its, rv, pl, hz⟩ := I.list hq
  have hi := intsIn rv
  obtain ⟨ps, e⟩ := hi.allInts.items
  have hn : numsOf its = ps.toList.map (·.1) := by
    have := nums_intItems ps
    rw [← e] at this
    simpa using this
  rw [hi.numsOf] at hn
  have hl := pl.isList
  rw [e] at hl
  refine sum_intListG (I.ok.hd hc) hl fun h' tk t' hk => ⟨.int ns.sum, H, I.kept hk, ⟨t', ?_⟩, q⟩
  rw [preSum_eq, hn, List.take_of_length_le (by simp)]
/-- all(xs), xs a list of truths -/
theorem call_all (hc : X.calm = true) : CallR X (.builtin "all") (fun xs H Q => ∃ (p : Addr) (bs : List Bool), xs = [.ref p] ∧ SqL X.K H p (bs.map V.bl) ∧ Q (.bl (bs.all id)) H) := by
  intro pins s σ H xs us Q I r h
  obtain ⟨p, bs, rfl, hq, q⟩ := h
  obtain ⟨u, rfl, rx⟩ := vals1 r
  cases rx
  obtain ⟨its, rv, pl, hz⟩ := I.list hq
  have hl := rv.length
  refine call_all_walk (wpAny_pyIter_list pl.isList ?_)
  have hne : p ≠ s.heap.objs.size := Nat.ne_of_lt (by obtain ⟨o, ho, _⟩ := pl.isList; exact Heap.lt_size ho)
  refine ⟨s.heap.objs.size, _, _, _, _, _, fun i => bs.getD i true, rfl, Walks.list (A := X.A.in1) (I.ok.hd hc) _ p hne its.toArray, ⟨⟨_, Heap.get?_push_size _ rfl, rfl, rfl⟩, pl.isList.at fun o e => Heap.get?_push_of_some _ e⟩, ?_, fun h' tk hk => ?_⟩
  · intro i v s' Q' E' hv hq'
    have hv : its[i]? = some v := by simpa using hv
    have hi : i < bs.length := by
      have := (List.getElem?_eq_some_iff.mp hv).1
      simp at hl
      omega
    obtain ⟨u, e2, ru⟩ := rv.get (i := i) (x := .bl bs[i]) (by simp [hi])
    rw [hv] at e2
    cases e2
    cases ru
    simp only [List.getD, List.getElem?_eq_getElem hi, Option.getD_some] at hq'
    exact wpAny_truthy_bool hq'
  · have e : ((List.range its.toArray.size).all fun i => bs.getD i true) = bs.all id := by
      have : its.toArray.size = bs.length := by simp at hl ⊢; omega
      rw [this]
      rw [Bool.eq_iff_iff, List.all_eq_true, List.all_eq_true]
      constructor
      · intro h b hb
        obtain ⟨i, hi, rfl⟩ := List.getElem_of_mem hb
        have := h i (List.mem_range.mpr hi)
        simpa [List.getD, List.getElem?_eq_getElem hi] using this
      · intro h i hi
        have hi := List.mem_range.mp hi
        have := h bs[i] (List.getElem_mem hi)
        simpa [List.getD, List.getElem?_eq_getElem hi] using this
    refine ⟨.bl (bs.all id), H, I.kept (t' := tk) (fun b o z => hk b o ?_ (Heap.get?_push_of_some _ z)), ?_, q⟩
    · have := Heap.lt_size z
      intro hm
      have hm : b = s.heap.objs.size := by simpa using hm
      rw [hm] at this
      exact absurd this (Nat.lt_irrefl _)
    · rw [e]; rfl
/-- xs[i], for xs[i] op= .. -/
def gIx (K : PySem.W.Frag) : V → V → Hp → VK → Prop := fun x y H Q => ∃ p xs i v, x = .ref p ∧ y = .int i ∧ SqL K H p xs ∧ 0 ≤ i ∧ xs[i.toNat]? = some v ∧ Q v H
theorem get_list : PGet X (gIx X.K) := by
  intro pins s σ H o i ov iv Q I ro ri h
  obtain ⟨p, xs, k, v, rfl, rfl, hq, h0, he, q⟩ := h
  cases ro
  obtain ⟨t, rfl⟩ := ri
  obtain ⟨its, r, pl, hz⟩ := I.list hq
  obtain ⟨w, ew, rw'⟩ := r.get he
  have hk : k.toNat < xs.length := (List.getElem?_eq_some_iff.mp he).1
  rw [sizeLine_eq] at hz
  exact wpAny_getItem_list pl.isList h0 (by omega) (by simpa using ew) ⟨v, H, I, rw', q⟩
end
/-! ### x = [.. for ..]: the store comes ahead of the end of the block -/
section
variable {X : Cx} {vars : List Str} {caps : List Nat} {scope : Scope} {tg iter elt : Expr} {ifs : List Expr} {pos py spos : Pos} {wi : TI} {g : TG} {tt : TT} {te : TE}
theorem ps_setC {i : Nat} {y : Str} (S : CompScope X scope caps) (hc : X.calm = true) (hN : X.N.Nodup) (hi : X.N[i]? = some y) (hy : X.env.scope.names.lookup y = some .local) (hit : PI X tg iter wi) (B : CompBody X vars caps scope tg ifs elt g tt te)
    (hsw : swapsWith (.ListComp elt [⟨tg, iter, ifs, 0⟩] scope pos) (some (.Name y py)) spos.line X.env = pure true := by rfl) (hs : ∀ x, foldedSetIterable iter X.env x = pure x := by intro _; rfl) :
    PS X (.Assign [.Name y py] (.ListComp elt [⟨tg, iter, ifs, 0⟩] scope pos) spos) (tAsg (tComp vars caps wi g tt te) (gName i)) := by
  intro pins s σ H D I h
  rw [exec_Assign_Name_used _ _ _ _ hsw]
  refine wpAny_bind (wpAny_standAt (wpAny_bind ?_))
  show wpAny _ X.A (do let _ ← comprehension (.ListComp elt [⟨tg, iter, ifs, 0⟩] scope pos) scope X.env _ (newList []) false (eval iter X.env) (some (assign (.Name y py) X.env))) _ _ s
  refine wpAny_bind (wpAny_mono (wpAny_comprehension_free (use := some (assign (.Name y py) X.env)) (Q := fun _ s' => SP X pins D .next s') rfl hs (closureFor_is (S.cells I)) S.kind S.loc ?_) (fun _ s' hq => wpAny_pure (wpAny_pure hq)) fun _ _ e => e)
  refine thn (hit pins s σ H _ I h) fun v s1 h1 => thn h1 fun itv s2 h2 => ?_
  obtain ⟨it, fp, tn, J, H2, e, I2, T, st2, f2, q⟩ := h2
  subst e
  refine comp_run (RR := fun acc C => compPost (model X.prog X.w) X.A X.xe (some (assign (.Name y py) X.env)) (fun _ s' => SP X pins D .next s') acc C) S hc B I2 T st2 f2 q fun acc C s' H' m I' hm hC hn q' => ?_
  have hCL : C ≠ X.env.locals := fun z => absurd (Nat.lt_of_lt_of_le I2.lt (z ▸ hC)) (Nat.lt_irrefl _)
  have hCc : ∀ x c, X.env.cells.lookup x = some c → c ≠ C := fun x c e z => by
    obtain ⟨v, hv⟩ := I2.cell x c e
    exact absurd (Nat.lt_of_lt_of_le hv.lt (z ▸ hC)) (Nat.lt_irrefl _)
  show wpAny _ X.A (assign (.Name y py) X.env (.ref acc)) _ _ s'
  refine wpAny_assign_Name (store_ok2 I' hN hi (.inl hy) (v := .ref acc) rfl (fun s'' I'' ⟨b, hsb, hb⟩ => ?_) (.inr hy))
  have hbC : b ≠ C := by
    rcases hb with z | z
    · rw [z]; exact Ne.symm hCL
    · exact hCc y b z
  refine ⟨m, hm.sameBut hsb (Ne.symm hbC), fun h'' hs'' => ?_⟩
  exact ⟨_, H', I''.turned (t' := s''.toks) (fun b o hb e => hs''.extBut b o hb e) hn hCL (.inr (Nat.le_trans I2.sz hC)) hCc (fun p hp z => by
    exact absurd (Nat.lt_of_lt_of_le (Heap.lt_size (I2.pin p hp).1) (z ▸ hC)) (Nat.lt_irrefl _)), q'⟩
end
end L2
set_option Elab.async false
set_option linter.all false
set_option maxRecDepth 100000
set_option maxHeartbeats 4000000
namespace L2
open PySem PySem.Spec PyProof.Rows
theorem Same.new {H : Hp} {p : Addr} (h : H p = none) (o : HO) : Same H (upd H p o) := fun b u q => by rw [upd_ne (ne_of_none q h)]; exact q
theorem Same.seqT {K : PySem.W.Frag} {H H' : Hp} {a : Addr} {xs : List V} (e : Same H H') (h : SqT K H a xs) : SqT K H' a xs := by
  rcases h with (h | ⟨o, h⟩) | h
  · exact .inl (.inl (e _ _ h))
  · exact .inl (.inr ⟨o, e _ _ h⟩)
  · exact .inr h
/-- what was made anew here may be changed -/
theorem Same.put {H H' : Hp} {l : Addr} {o : HO} (e : Same H H') (h : H l = none) : Same H (upd H' l o) := fun b u q => by rw [upd_ne (ne_of_none q h)]; exact e b u q
theorem SqL.at {K : PySem.W.Frag} {H : Hp} {a : Addr} {xs : List V} (h : H a = some (.lst xs)) : SqL K H a xs := .inl (.inl h)
/-- a new list is handed back, all that was tracked stays -/
def rNew (xs : List V) (H : Hp) (Q : VK) : Prop := ∀ r H', Same H H' → H r = none → H' r = some (.lst xs) → Q (.ref r) H'
theorem rNew.made {xs : List V} {H : Hp} {Q : VK} (h : rNew xs H Q) : rMade xs H Q := fun l hl => h l _ (Same.new hl _) hl upd_same
/-! ### comprehensions whose items change nothing -/
section
variable {K : PySem.W.Frag} {a : Addr} {xs : List V} {x : Str} {caps : List Nat} {g : TG} {tt : TT} {te : TE} {σ : St} {H : Hp} {Q : VK}
theorem filter_succ {p : Nat → Bool} (i : Nat) : (List.range (i + 1)).filter p = (List.range i).filter p ++ (if p i = true then [i] else []) := by
  rw [List.range_succ, List.filter_append]
  cases h : p i <;> simp [h]
theorem comp_pure {J : It} {n : Nat} {item : Nat → V → Prop} (F : Nat → V) (p : Nat → Bool) (hn : n ≤ sizeLine)
    (hgo : ∀ i acc ys, i < n → H acc = none → J.go i (upd H acc (.lst ys))) (hst : ∀ acc ys, H acc = none → J.stop n (upd H acc (.lst ys)))
    (hy : ∀ i acc ys v H', i < n → H acc = none → J.yld i (upd H acc (.lst ys)) v H' → H' = upd H acc (.lst ys) ∧ item i v)
    (hs : ∀ (i : Nat) (v : V) (t : Option V) (acc : Addr) (ys : List V) (N : St → Hp → Prop) (Kt : V → St → Hp → Prop), i < n → item i v → H acc = none → (∀ t', p i = true → Kt (F i) (t' :: caps.map fun j => σ.getD j none) (upd H acc (.lst ys))) → (∀ t', p i = false → N (t' :: caps.map fun j => σ.getD j none) (upd H acc (.lst ys))) →
      g v (t :: caps.map fun j => σ.getD j none) (upd H acc (.lst ys)) fun σ2 H3 => tt σ2 H3 fun b H4 => if b = true then te σ2 H4 fun v H5 => Kt v σ2 H5 else N σ2 H4)
    (hQ : rMade (((List.range n).filter p).map F) H Q) : rComp [x] caps J g tt te σ H Q := by
  intro acc hacc
  refine ⟨fun i m σ' H' => m = n - i ∧ i ≤ n ∧ (∃ t, σ' = t :: caps.map fun j => σ.getD j none) ∧ H' = upd H acc (.lst (((List.range i).filter p).map F)), ⟨n, rfl, Nat.zero_le _, ⟨none, rfl⟩, rfl⟩, ?_⟩
  rintro i m σ' H' ⟨rfl, hi, ⟨t, rfl⟩, rfl⟩
  by_cases hlt : i < n
  · refine .inr ⟨hgo i acc _ hlt hacc, fun σ2 H2 => (∃ t, σ2 = t :: caps.map fun j => σ.getD j none) ∧ H2 = upd H acc (.lst (((List.range (i + 1)).filter p).map F)), fun σ'' H'' ⟨h1, h2⟩ => ⟨n - (i + 1), by omega, rfl, hlt, h1, h2⟩, fun v H2 y => ?_⟩
    obtain ⟨rfl, hv⟩ := hy i acc _ v H2 hlt hacc y
    refine hs i v t acc _ _ (fun v σ2 H5 => ∃ ys, H5 acc = some (.lst ys) ∧ ys.length < sizeLine ∧ (∃ t, σ2 = t :: caps.map fun j => σ.getD j none) ∧ upd H5 acc (.lst (ys ++ [v])) = upd H acc (.lst (((List.range (i + 1)).filter p).map F))) hlt hv hacc (fun t' hp => ?_) fun t' hp => ?_
    · refine ⟨_, upd_same, ?_, ⟨t', rfl⟩, ?_⟩
      · rw [List.length_map]
        have := List.length_filter_le p (List.range i)
        rw [List.length_range] at this
        omega
      · rw [upd_upd, filter_succ, if_pos hp, List.map_append]
        rfl
    · refine ⟨⟨t', rfl⟩, ?_⟩
      rw [filter_succ, if_neg (by rw [hp]; decide), List.append_nil]
  · have e : i = n := by omega
    subst e
    exact .inl ⟨hst acc _ hacc, hQ acc hacc⟩
/-- over a list -/
theorem comp_list (F : Nat → V) (p : Nat → Bool) (hn : xs.length ≤ sizeLine) (hq : SqL K H a xs)
    (hs : ∀ (i : Nat) (v : V) (t : Option V) (acc : Addr) (ys : List V) (N : St → Hp → Prop) (Kt : V → St → Hp → Prop), i < xs.length → xs[i]? = some v → H acc = none → (∀ t', p i = true → Kt (F i) (t' :: caps.map fun j => σ.getD j none) (upd H acc (.lst ys))) → (∀ t', p i = false → N (t' :: caps.map fun j => σ.getD j none) (upd H acc (.lst ys))) →
      g v (t :: caps.map fun j => σ.getD j none) (upd H acc (.lst ys)) fun σ2 H3 => tt σ2 H3 fun b H4 => if b = true then te σ2 H4 fun v H5 => Kt v σ2 H5 else N σ2 H4)
    (hQ : rMade (((List.range xs.length).filter p).map F) H Q) : rComp [x] caps (Itl K a) g tt te σ H Q :=
  comp_pure (item := fun i v => xs[i]? = some v) F p hn (fun i acc ys hi h => ⟨xs, xs[i], (Same.new h _).seq hq, List.getElem?_eq_getElem hi⟩) (fun acc ys h => ⟨xs, (Same.new h _).seq hq, Nat.le_refl _⟩)
    (fun i acc ys v H' hi h y => ⟨y.1, y.2 xs ((Same.new h _).seq hq)⟩) hs hQ
/-- over a range -/
theorem comp_range {lo : Int} {n : Nat} (F : Nat → V) (p : Nat → Bool) (hn : n ≤ sizeLine)
    (hs : ∀ (i : Nat) (t : Option V) (acc : Addr) (ys : List V) (N : St → Hp → Prop) (Kt : V → St → Hp → Prop), i < n → H acc = none → (∀ t', p i = true → Kt (F i) (t' :: caps.map fun j => σ.getD j none) (upd H acc (.lst ys))) → (∀ t', p i = false → N (t' :: caps.map fun j => σ.getD j none) (upd H acc (.lst ys))) →
      g (.int (lo + i)) (t :: caps.map fun j => σ.getD j none) (upd H acc (.lst ys)) fun σ2 H3 => tt σ2 H3 fun b H4 => if b = true then te σ2 H4 fun v H5 => Kt v σ2 H5 else N σ2 H4)
    (hQ : rMade (((List.range n).filter p).map F) H Q) : rComp [x] caps (Itr lo n) g tt te σ H Q :=
  comp_pure (item := fun i v => v = .int (lo + i)) F p hn (fun i acc ys hi h => hi) (fun acc ys h => Nat.le_refl _)
    (fun i acc ys v H' hi h y => y) (fun i v t acc ys N Kt hi hv h k1 k2 => by subst hv; exact hs i t acc ys N Kt hi h k1 k2) hQ
end
theorem filter_true {n : Nat} : (List.range n).filter (fun _ => true) = List.range n := by simp
theorem DEq.ints {K : PySem.W.Frag} {H : Hp} {n : Nat} {a b : Addr} {ns : List Int} (h1 : SqL K H a (ns.map V.int)) (h2 : SqL K H b (ns.map V.int)) : DEq K H (n + 1) (.ref a) (.ref b) true := by
  by_cases e : a = b
  · subst e; exact .same a
  · have z := DEq.list (n := n) (fun _ => true) e h1 h2 rfl fun i x y hx hy => by
      rw [hx] at hy
      cases hy
      rw [List.getElem?_map] at hx
      cases q : ns[i]? with
      | none => rw [q] at hx; cases hx
      | some v =>
        rw [q] at hx
        cases hx
        have : eqV (.int v) (.int v) = true := by simp [eqV]
        rw [← this]
        exact .flat rfl rfl
    have e : ((List.range (ns.map V.int).length).all fun _ => true) = true := by simp
    rw [e] at z
    exact z
/-! ### reading lists of ints -/
theorem atI_int {ns : List Int} {k : Int} (h0 : 0 ≤ k) (h : k < (ns.length : Int)) : atI (ns.map V.int) k = some (.int (ns.getD k.toNat 0)) := by
  have hk : k.toNat < ns.length := by omega
  have ek : k = ((k.toNat : Nat) : Int) := by omega
  have q : atI (ns.map V.int) ((k.toNat : Nat) : Int) = some (.int (ns.getD k.toNat 0)) := atI_nat (by simp [List.getD, hk])
  rw [← ek] at q
  exact q
theorem atV {xs : List V} {k : Int} {v : V} (h0 : 0 ≤ k) (h : xs[k.toNat]? = some v) : atI xs k = some v := by
  have ek : k = ((k.toNat : Nat) : Int) := by omega
  have q : atI xs ((k.toNat : Nat) : Int) = some v := atI_nat h
  rw [← ek] at q
  exact q
/-! ### the rules by a named written part: no context stands in a reading -/
section
variable {X : Cx} {K : PySem.W.Frag}
theorem k_ix_list (h : X.K = K := by rfl) : IxR X (rIxL K) := h ▸ ix_list
theorem k_ix_tup (h : X.K = K := by rfl) : IxR X (rIxT K) := h ▸ ix_tup
theorem k_len (h : X.K = K := by rfl) : CallR X (.builtin "len") (fun xs H Q => ∃ p ys, xs = [.ref p] ∧ (SqL K H p ys ∨ SqT K H p ys) ∧ Q (.int ys.length) H) := h ▸ call_len_seq
theorem k_index (h : X.K = K := by rfl) : MtR X "list.index" (rIndex K) := h ▸ mt_index
theorem k_sl_list (h : X.K = K := by rfl) : SlR X (rSlL K) := h ▸ sl_list
theorem k_sl_tup (h : X.K = K := by rfl) : SlR X (rSlT K) := h ▸ sl_tup
theorem k_eqL (hu : X.A.units + 64 < cLine) (h : X.K = K := by rfl) : OpR X (compareOp .Eq) (rEqL K false) := h ▸ op_eqL hu
theorem k_neL (hu : X.A.units + 64 < cLine) (h : X.K = K := by rfl) : OpR X (compareOp .NotEq) (rEqL K true) := h ▸ op_neL hu
theorem k_eqD (hu : X.A.units + 64 < cLine) (h : X.K = K := by rfl) : OpR X (compareOp .Eq) (rEqD K false) := h ▸ op_eqD hu
theorem k_neD (hu : X.A.units + 64 < cLine) (h : X.K = K := by rfl) : OpR X (compareOp .NotEq) (rEqD K true) := h ▸ op_neD hu
theorem k_in (h : X.K = K := by rfl) : OpR X (compareOp .In) (rIn K false) := h ▸ op_in_seq
theorem k_notIn (h : X.K = K := by rfl) : OpR X (compareOp .NotIn) (rIn K true) := h ▸ op_notIn_seq
theorem k_list_of (h : X.K = K := by rfl) : CallR X (.type "list") (fun xs H Q => ∃ p ys, xs = [.ref p] ∧ (SqL K H p ys ∨ SqT K H p ys) ∧ ∀ l, H l = none → Q (.ref l) (upd H l (.lst ys))) := h ▸ call_list_of
theorem k_tuple_of (h : X.K = K := by rfl) : CallR X (.type "tuple") (fun xs H Q => ∃ p ys, xs = [.ref p] ∧ ((SqL K H p ys ∧ ∀ l, H l = none → Q (.ref l) (upd H l (.tup ys))) ∨ (SqT K H p ys ∧ Q (.ref p) H))) := h ▸ call_tuple_of
theorem k_isinst (h : X.K = K := by rfl) : CallR X (.builtin "isinstance") (fun xs H Q => ∃ x t n b, xs = [x, .ty n] ∧ TyOf K H x t ∧ PySem.W.kitOne K t (.type n) = some b ∧ Q (.bl b) H) := h ▸ call_isinst
theorem k_sorted (h : X.K = K := by rfl) : CallR X (.builtin "sorted") (rSorted K) := h ▸ call_sorted
theorem k_sum (hc : X.calm = true) (h : X.K = K := by rfl) : CallR X (.builtin "sum") (fun xs H Q => ∃ (p : Addr) (ns : List Int), xs = [.ref p] ∧ SqL K H p (ns.map V.int) ∧ Q (.int ns.sum) H) := h ▸ call_sum hc
theorem k_all (hc : X.calm = true) (h : X.K = K := by rfl) : CallR X (.builtin "all") (fun xs H Q => ∃ (p : Addr) (bs : List Bool), xs = [.ref p] ∧ SqL K H p (bs.map V.bl) ∧ Q (.bl (bs.all id)) H) := h ▸ call_all hc
theorem k_get (h : X.K = K := by rfl) : PGet X (gIx K) := h ▸ get_list
theorem k_catT (h : X.K = K := by rfl) : OpR X (binaryOp .Add) (rCatT K) := h ▸ op_catT
theorem k_pi_list {tg l : Expr} {tl : TE} (hl : PE X l tl) (h : X.K = K := by rfl) : PI X tg l (iList K tl) := h ▸ pi_list hl
theorem k_pi_tup {tg l : Expr} {tl : TE} (hl : PE X l tl) (h : X.K = K := by rfl) : PI X tg l (iTup K tl) := h ▸ pi_tup hl
theorem k_pi_enum {elts : List Expr} {k : Nat} {tp : Pos} {l : Expr} {ta : TA} {p pos : Pos} (hg : Gl X "enumerate") (hm : X.mg "enumerate" = none) (ha : PA X [l] ta) (hs : starEach [l] X.env = [(false, eval l X.env)] := by rfl) (h : X.K = K := by rfl) :
    PI X (.Tuple elts k tp) (.Call (.Name "enumerate" p) [l] [] pos) (iEnum K ta) := h ▸ pi_enum hg hm ha hs
theorem k_pg_tup {pos : Pos} {es : List Expr} {k : Nat} {t : TGs} {n : Nat} (hc : X.calm = true) (hh : PGs X es t) (hn : (assignEach es X.env).length = n := by rfl) (hst : (assignEach es X.env).findIdx? (·.1) = none := by rfl) (h : X.K = K := by rfl) : PG X (.Tuple es k pos) (gTup K n t) := h ▸ pg_tup hc hh hn hst
end
section
variable {X : Cx} {K : PySem.W.Frag} {T : String} {name : Str} {id : String} {r : V → List V → Hp → VK → Prop} {o e : Expr} {es : List Expr} {to : TE} {t : TA} {cpos apos : Pos}
theorem k_bm0 (pa : PlainAttrs T) (slot : Slot T name id) (hty : typeOf (.builtin id) = pure (.type "method_descriptor")) (hm : MtR X id r) (ho : PE X o to)
    (hbase : attributeBase o name X.env (eval o X.env) = eval o X.env := by rfl) (hline : (apos.endLine == cpos.line) = true := by rfl) (h : X.K = K := by rfl) : PE X (.Call (.Attribute o name apos) [] [] cpos) (tBM0 K T r to) := h ▸ pe_bm0 pa slot hty hm ho hbase hline
theorem k_bm (pa : PlainAttrs T) (slot : Slot T name id) (hty : typeOf (.builtin id) = pure (.type "method_descriptor")) (hm : MtR X id r) (ho : PE X o to) (ha : PA X (e :: es) t)
    (hbase : attributeBase o name X.env (eval o X.env) = eval o X.env := by rfl)
    (hfew : ((backTo cpos (starEach (e :: es) X.env)).all (fun x => !x.1) && (backToKw cpos (keywordEach [] X.env)).all (fun x => x.1.isSome)
      && decide ((e :: es).length + ([] : List Keyword).length + (if ([] : List Keyword).isEmpty then 0 else 1) < 30)) = true := by rfl)
    (hline : (apos.endLine == cpos.line) = true := by rfl) (hs : starEach (e :: es) X.env = (false, eval e X.env) :: starEach es X.env := by rfl) (hplain : (backTo cpos (starEach es X.env)).any (·.1) = false := by rfl) (h : X.K = K := by rfl) :
    PE X (.Call (.Attribute o name apos) (e :: es) [] cpos) (tBM K T r to t) := h ▸ pe_bm pa slot hty hm ho ha hbase hfew hline hs hplain
end
end L2
set_option Elab.async false
set_option linter.all false
set_option maxRecDepth 100000
set_option maxHeartbeats 4000000
namespace L2
open PySem PySem.Spec PyProof.Rows
namespace RV
theorem no_len : typeLookup (.type "list_reverseiterator") "__len__" = pure none := by rw [typeLookup_type, builtinLookup_eq_fast]; kernel_rfl
theorem slot_hint : Slot "list_reverseiterator" "__length_hint__" "list_reverseiterator.__length_hint__" :=
  .of (owner := "list_reverseiterator") (n := "__length_hint__") (by rw [typeLookup_type, builtinLookup_eq_fast]; kernel_rfl) (by decide +kernel) (by decide +kernel) (by decide +kernel)
    (by first | exact .inl (by decide +kernel) | exact .inr (by decide +kernel)) (by rw [isSubtype_type]; kernel_rfl)
section
variable {prog : Program} {w : World} {A : Around} {E : Value → Shared → Prop} {s : Shared}
theorem hint {it l : Addr} {i : Int} {Q : Bool → Shared → Prop} (hit : s.heap.IsRevIter it l i) (h : Q false s) : wpAny (model prog w) A (Builtin.List.listLengthHint (.ref it)) Q E s := by
  unfold Builtin.List.listLengthHint
  refine wpAny_bind (wpAny_specialOf hit.typeIs no_len ?_)
  show wpAny _ A (specialOf (Value.ref it) (Str.ofString "__length_hint__") >>= _) _ _ _
  refine wpAny_bind (wpAny_specialOf hit.typeIs slot_hint.lookup ?_)
  generalize hid : ("list_reverseiterator.__length_hint__" : String) = id0
  wp_delta
  rw [show splitId id0 = some ("list_reverseiterator", "__length_hint__") from by subst hid; decide +kernel]
  subst hid
  refine wpAny_bind (wpAny_isInstance (T := "list_reverseiterator") (b := true) hit.typeIs (by rw [isSubtype_type]; kernel_rfl) ?_)
  refine wpAny_ite_split (fun hab => absurd hab (by decide)) (fun _ => ?_)
  refine wpAny_ite_split (fun _ => ?_) (fun hab => absurd (by decide +kernel) hab)
  refine wpAny_ite_split (fun hab => absurd hab (by decide +kernel)) (fun _ => ?_)
  exact wpAny_pure h
/-- list(reversed(l)) -/
theorem extend {R : Result → Shared → Prop} {it l : Addr} {items : Array Value} (hh : A.handled = none) (hit : s.heap.IsRevIter it l ((items.size : Int) - 1)) (hl : s.heap.IsList l items) (hlit : l ≠ it) (hz : items.size ≤ sizeLine) (S : Addr) (res : Value) (c0 : Nat) (hSl : S ≠ l) (hSit : S ≠ it)
    (hS : s.heap.get? S = some { cls := .type "list", data := .seq #[] c0 })
    (hR : ∀ h' tk acc' c', (∀ b o, b ≠ S → b ≠ it → s.heap.get? b = some o → h'.get? b = some o) → h'.get? S = some { cls := .type "list", dict := none, data := .seq acc' c', slots := #[] } →
      ItemsOf (fun i v => items[items.size - 1 - i]? = some v) acc' items.size → R (.ok (.ret res)) { s with heap := h', toks := tk }) :
    wpAny (model prog w) A.in1 (Builtin.List.listExtendWith (.ref S) (.ref it) res)
      (fun fin s' => match fin with | .done f => R (.ok f) s' | .again c' => c'.quiet = true ∧ codeAny (model prog w) A c' R s') (fun e s' => R (.error e) s') s := by
  have W := (Walks.listRev (prog := prog) (w := w) (A := A.in1) hh it l hlit items).toS
  have hSf : S ∉ [it, l] := by simp [hSl, hSit]
  unfold Builtin.List.listExtendWith
  refine wpAny_bind (wpAny_typeOf (T := "list_reverseiterator") hit.typeIs ?_)
  have h1 : Builtin.List.listSameRef (.ref S) (.ref it) = false := by simp [Builtin.List.listSameRef, hSit]
  have h2 : (Value.type "list_reverseiterator" == Value.type "list") = false := by decide
  have h3 : (Value.type "list_reverseiterator" == Value.type "tuple") = false := by decide
  simp only [h1, h2, h3, Bool.or_false, Bool.false_eq_true, if_false]
  refine wpAny_bind (wpAny_pyIter_revIter hit ?_)
  refine wpAny_bind (wpAny_holding (hint hit ?_))
  refine wpAny_ite_split (fun hab => absurd hab (by decide)) (fun _ => ?_)
  refine wpAny_pure ⟨plainId_quiet F.plain_extend_loop _, ?_⟩
  refine codeAny_extend_loopS W hz S hSf res items.size 0 _ #[] c0 rfl (Nat.zero_le _) ⟨Nat.zero_le _, by simpa using hit, hl⟩ hS (ItemsOf.nil _) fun s' acc' c' hm hS' hacc => ?_
  rw [Moved.eq_with hm]
  refine hR s'.heap s'.toks acc' c' (fun b o hb hb2 e => hm.heap b o (fun hmem => ?_) e) hS' hacc
  rcases List.mem_cons.mp hmem with e' | hmem
  · exact hb e'
  · exact hb2 (by simpa using hmem)
theorem init {R : Result → Shared → Prop} {it l : Addr} {items : Array Value} (hh : A.handled = none) (hit : s.heap.IsRevIter it l ((items.size : Int) - 1)) (hl : s.heap.IsList l items) (hlit : l ≠ it) (hz : items.size ≤ sizeLine) (S : Addr) (hSl : S ≠ l) (hSit : S ≠ it)
    (hS : s.heap.get? S = some { cls := .type "list", data := .seq #[] })
    (hR : ∀ h' tk acc' c', (∀ b o, b ≠ S → b ≠ it → s.heap.get? b = some o → h'.get? b = some o) → h'.get? S = some { cls := .type "list", dict := none, data := .seq acc' c', slots := #[] } →
      ItemsOf (fun i v => items[items.size - 1 - i]? = some v) acc' items.size → R (.ok (.ret .none)) { s with heap := h', toks := tk }) :
    wpAny (model prog w) A.in1 (Builtin.«list.__init__» ⟨[.ref S, .ref it], []⟩)
      (fun fin s' => match fin with | .done f => R (.ok f) s' | .again c' => c'.quiet = true ∧ codeAny (model prog w) A c' R s') (fun e s' => R (.error e) s') s := by
  show wpAny _ _ (do let old ← Builtin.List.listItems (.ref S); Builtin.List.listUpdate (.ref S) (fun _ => #[]); letGo old.toList.reverse; Builtin.List.listExtendWith (.ref S) (.ref it) .none) _ _ s
  refine wpAny_bind ?_
  unfold Builtin.List.listItems
  refine wpAny_bind (wpAny_seqItems hS rfl (wpAny_pure ?_))
  show wpAny _ _ (updateSeq S (fun _ => #[]) >>= fun _ => letGo (#[] : Array Value).toList.reverse >>= fun _ => Builtin.List.listExtendWith (.ref S) (.ref it) .none) _ _ s
  refine wpAny_bind (wpAny_updateSeq hS rfl ?_)
  have hS2 := Heap.get?_update_self (Obj.mapSeq (fun _ => (#[] : Array Value))) hS rfl
  have oth : ∀ b o, b ≠ S → s.heap.get? b = some o → (s.heap.update S (Obj.mapSeq (fun _ => (#[] : Array Value)))).get? b = some o :=
    fun b o hb e => (Heap.get?_update_other _ _ (Ne.symm hb)).trans e
  refine wpAny_bind (wpAny_letGo ?_)
  refine extend hh (hit.at fun o e => oth it o (Ne.symm hSit) e) (hl.at fun o e => oth l o (Ne.symm hSl) e) hlit hz S .none _ hSl hSit hS2 fun h' tk acc' c' hk hS' hacc => ?_
  exact hR h' tk acc' c' (fun b o hb hb2 e => hk b o hb hb2 (oth b o hb e)) hS' hacc
theorem call_list {it l : Addr} {items : Array Value} {Q : Value → Shared → Prop} (hh : A.handled = none) (hit : s.heap.IsRevIter it l ((items.size : Int) - 1)) (hl : s.heap.IsList l items) (hlit : l ≠ it) (hz : items.size ≤ sizeLine)
    (hQ : ∀ h' tk acc' c', (∀ b o, b ≠ it → s.heap.get? b = some o → h'.get? b = some o) → h'.get? s.heap.objs.size = some { cls := .type "list", dict := none, data := .seq acc' c', slots := #[] } →
      ItemsOf (fun i v => items[items.size - 1 - i]? = some v) acc' items.size → Q (.ref s.heap.objs.size) { s with heap := h', toks := tk }) :
    wpAny (model prog w) A (call (.type "list") [.ref it]) Q E s := by
  refine callType_codes (Q₁ := fun obj s1 => obj = .ref s.heap.objs.size ∧ s1 = { s with heap := s.heap.push { cls := .type "list", data := .seq #[] } }) F.called_list (F.typeCall_list_1 _) F.entry_list_init
    (code_list_new _ ⟨rfl, rfl⟩) fun obj s1 h1 => ?_
  obtain ⟨rfl, rfl⟩ := h1
  have hS : (s.heap.push { cls := .type "list", data := .seq #[] }).get? s.heap.objs.size = some { cls := .type "list", data := .seq #[] } := Heap.get?_push_size _ rfl
  have l1 : s.heap.objs.size ≠ l := by obtain ⟨o, ho, _⟩ := hl; exact Nat.ne_of_gt (Heap.lt_size ho)
  have l2 : s.heap.objs.size ≠ it := by obtain ⟨o, ho, _⟩ := hit; exact Nat.ne_of_gt (Heap.lt_size ho)
  refine ⟨⟨_, hS, rfl⟩, F.args_list_init_2 _ _, init (A := A.in1) hh (hit.at fun o e => Heap.get?_push_of_some _ e) (hl.at fun o e => Heap.get?_push_of_some _ e) hlit hz _ l1 l2 hS fun h' tk acc' c' hk hS' hacc => ?_⟩
  exact ⟨rfl, hQ h' tk acc' c' (fun b o hb e => hk b o (Nat.ne_of_lt (Heap.lt_size e)) hb (Heap.get?_push_of_some _ e)) hS' hacc⟩
end
end RV
theorem vals_rev {xs : List V} {its : List Value} {acc : Array Value} (r : Vals xs its) (h : ItemsOf (fun i v => its.toArray[its.toArray.size - 1 - i]? = some v) acc its.toArray.size) : Vals xs.reverse acc.toList := by
  obtain ⟨h1, h2⟩ := h
  have e : acc.toList = its.reverse := by
    apply List.ext_getElem?
    intro i
    by_cases hi : i < its.length
    · have hia : i < acc.size := by rw [h1]; simpa using hi
      have := h2 i acc[i] (by simp [hia])
      rw [List.getElem?_reverse hi]
      simp at this
      rw [this]
      simp [hia]
    · rw [List.getElem?_eq_none (by simp [h1]; omega), List.getElem?_eq_none (by simp; omega)]
  rw [e]
  have rev : ∀ {xs : List V} {us : List Value}, Vals xs us → Vals xs.reverse us.reverse := by
    intro xs us r
    induction r with
    | nil => exact .nil
    | cons a _ ih => rw [List.reverse_cons, List.reverse_cons]; exact ih.append (.cons a .nil)
  exact rev r
section
variable {X : Cx} {pos pos2 p p2 : Pos} {a : Expr} {ta : TA} {K : PySem.W.Frag}
def tListRev (K : PySem.W.Frag) (ta : TA) : TE := fun σ H Q => ta σ H fun vs H1 => ∃ q xs, SqL K H1 q xs ∧ vs = [.ref q] ∧ rMade xs.reverse H1 Q
theorem pe_listRev (hc : X.calm = true) (hg : Gl X "list") (hm : X.mg "list" = none) (hg2 : Gl X "reversed") (hm2 : X.mg "reversed" = none) (ha : PA X [a] ta) (hs : starEach [a] X.env = [(false, eval a X.env)] := by rfl)
    (hs2 : starEach [.Call (.Name "reversed" p2) [a] [] pos2] X.env = [(false, eval (.Call (.Name "reversed" p2) [a] [] pos2) X.env)] := by rfl) (hK : X.K = K := by rfl) : PE X (.Call (.Name "list" p) [.Call (.Name "reversed" p2) [a] [] pos2] [] pos) (tListRev K ta) := by
  subst hK
  intro pins s σ H Q I h
  refine wpAny_Call_Name_kw (ld_blt I hg hm boot_list ?_)
  refine PyProof.Rows.callWith_type1 ?_ hs2 rfl
  rw [hs2]
  refine Calls.spliced_cons ?_
  refine Call_ (ld_blt I hg2 hm2 boot_reversed (PyProof.Rows.callWith_type1 (thn (ha pos2 pins s σ H _ I h) fun us s1 ⟨vs, H1, I1, r1, q1⟩ => ?_) hs rfl))
  obtain ⟨q', xs, hq, e, q⟩ := q1
  subst e
  obtain ⟨u, rfl, r⟩ := vals1 r1
  cases r
  obtain ⟨its, rv, pl, hz⟩ := I1.list hq
  refine call_reversed_list pl.isList ?_
  refine Calls.spliced_nil ?_
  have hl := rv.length
  have I2 : Inv X pins σ H1 { s1 with heap := s1.heap.push (revObj q' ((its.toArray.size : Int) - 1)) } := I1.kept (t' := s1.toks) fun b o e => Heap.get?_push_of_some _ e
  have hlt : q' < s1.heap.objs.size := by obtain ⟨o, ho, _⟩ := pl.isList; exact Heap.lt_size ho
  refine RV.call_list (I2.ok.hd hc) ⟨_, Heap.get?_push_size _ rfl, rfl, rfl⟩ (pl.isList.at fun o e => Heap.get?_push_of_some _ e) (Nat.ne_of_lt hlt) (by simp; omega) fun h' tk acc' c' hk hl' hit => ?_
  have hsz : (s1.heap.push (revObj q' ((its.toArray.size : Int) - 1))).objs.size = s1.heap.objs.size + 1 := by simp [Heap.size_push]
  have hf : H1 (s1.heap.push (revObj q' ((its.toArray.size : Int) - 1))).objs.size = none := I2.hok.fresh (Nat.le_refl _)
  have fp : ∀ b ∈ [s1.heap.objs.size], FpOk X pins H1 b := fun b hb => by
    have e : b = s1.heap.objs.size := by simpa using hb
    subst e
    exact I1.fpOk (Nat.le_refl _) (I1.hok.fresh (Nat.le_refl _))
  refine ⟨.ref _, upd H1 _ (.lst xs.reverse), I2.turnedNew (tk := tk) (ch := [s1.heap.objs.size]) (fun b u hb e => hk b u (by simpa using hb) e) fp (Nat.le_refl _) ⟨_, hl'⟩ ?_, rfl, q _ hf⟩
  exact ⟨by rw [List.length_reverse]; exact hz, acc'.toList, c', vals_rev rv hit, by simpa using hl'⟩
end
end L2
set_option Elab.async false
set_option linter.all false
set_option maxRecDepth 100000
set_option maxHeartbeats 4000000
namespace L2
open PySem PySem.Spec PyProof.Rows
/-! ### for x, y in zip(xs, ys): two lists of one length -/
def Itz (K : PySem.W.Frag) (a b : Addr) : It :=
  ⟨fun i H => ∃ xs ys x y, SqL K H a xs ∧ SqL K H b ys ∧ xs[i]? = some x ∧ ys[i]? = some y,
   fun i H x H' => ∃ T u v, x = .ref T ∧ H T = none ∧ H' = upd H T (.tup [u, v]) ∧ ∀ xs ys, SqL K H a xs → SqL K H b ys → xs[i]? = some u ∧ ys[i]? = some v,
   fun i H => ∃ xs ys, SqL K H a xs ∧ SqL K H b ys ∧ min xs.length ys.length = i⟩
theorem ne_cls {h : Heap} {a b : Addr} {o u : Obj} {m n : String} (h1 : h.get? a = some o) (h2 : h.get? b = some u) (c1 : o.cls = .type m) (c2 : u.cls = .type n) (hc : m ≠ n) : a ≠ b := fun e => by
  subst e
  rw [h1] at h2
  cases h2
  rw [c1] at c2
  exact hc (Value.type.inj c2)
structure ZAt (h : Heap) (z TI TO i1 i2 l1 l2 : Addr) (i : Nat) : Prop where
  hz : IsZip h z TI TO .none
  hTI : IsPair h TI (.ref i1) (.ref i2)
  hTO : ∃ a b, IsPair h TO a b
  h1 : h.IsListIter i1 l1 i
  h2 : h.IsListIter i2 l2 i
theorem z_apart {h : Heap} {z TI TO i1 i2 l1 l2 : Addr} {i : Nat} {xs ys : Array Value} (n1 : TI ≠ TO) (n2 : i1 ≠ i2) (Z : ZAt h z TI TO i1 i2 l1 l2 i) (q1 : h.IsList l1 xs) (q2 : h.IsList l2 ys) : ZipApart z TI TO i1 i2 l1 l2 := by
  obtain ⟨hz, hTI, ⟨a, b, hTO⟩, ⟨o1, g1, c1, _⟩, ⟨o2, g2, c2, _⟩⟩ := Z
  obtain ⟨p1, k1, d1, _⟩ := q1
  obtain ⟨p2, k2, d2, _⟩ := q2
  refine ⟨?_, ?_, ?_, ?_, n1, ?_, ?_, ?_, ?_, n2, ?_, ?_, ?_, ?_, ?_, ?_, ?_, ?_⟩
  · exact ne_cls hTI hz rfl rfl (by decide)
  · exact ne_cls hTO hz rfl rfl (by decide)
  · exact ne_cls g1 hz c1 rfl (by decide)
  · exact ne_cls g2 hz c2 rfl (by decide)
  · exact ne_cls hTI g1 rfl c1 (by decide)
  · exact ne_cls hTI g2 rfl c2 (by decide)
  · exact ne_cls hTO g1 rfl c1 (by decide)
  · exact ne_cls hTO g2 rfl c2 (by decide)
  · exact ne_cls k1 hz d1 rfl (by decide)
  · exact ne_cls k1 hTO d1 rfl (by decide)
  · exact ne_cls k1 g1 d1 c1 (by decide)
  · exact ne_cls k1 g2 d1 c2 (by decide)
  · exact ne_cls k2 hz d2 rfl (by decide)
  · exact ne_cls k2 hTO d2 rfl (by decide)
  · exact ne_cls k2 g1 d2 c1 (by decide)
  · exact ne_cls k2 g2 d2 c2 (by decide)
theorem turn_zip {P : Program} {w : World} {K : PySem.W.Frag} {elts : List Expr} {k : Nat} {tp : Pos} (l1 l2 z TI TO i1 i2 : Addr) (n1 : TI ≠ TO) (n2 : i1 ≠ i2) :
    Turn P w K (.Tuple elts k tp) (Itz K l1 l2) [z, TI, TO, i1, i2] z (fun i h => ZAt h z TI TO i1 i2 l1 l2 i) where
  mem := by simp
  obj := fun i h st b hb => by
    obtain ⟨hz, hTI, ⟨a, c, hTO⟩, ⟨o1, g1, c1, d1⟩, ⟨o2, g2, c2, d2⟩⟩ := st
    simp only [List.mem_cons, List.not_mem_nil, or_false] at hb
    rcases hb with rfl | rfl | rfl | rfl | rfl
    · exact ⟨_, hz, fun v z => by have z' : Data.fields _ = Data.cell v := z; cases z'⟩
    · exact ⟨_, hTI, fun v z => by have z' : Data.seq _ _ = Data.cell v := z; cases z'⟩
    · exact ⟨_, hTO, fun v z => by have z' : Data.seq _ _ = Data.cell v := z; cases z'⟩
    · exact ⟨o1, g1, fun v z => by rw [d1] at z; cases z⟩
    · exact ⟨o2, g2, fun v z => by rw [d2] at z; cases z⟩
  keep := fun i h h' st kk => by
    obtain ⟨hz, hTI, ⟨a, c, hTO⟩, h1, h2⟩ := st
    exact ⟨kk z (by simp) _ hz, kk TI (by simp) _ hTI, ⟨a, c, kk TO (by simp) _ hTO⟩, h1.at fun o e => kk i1 (by simp) o e, h2.at fun o e => kk i2 (by simp) o e⟩
  item := by
    intro X hP hw hK hc i pins s σ H E I hf st hg
    subst hP hw hK
    obtain ⟨xs, ys, x, y, hq1, hq2, hx, hy⟩ := hg
    obtain ⟨its1, rv1, p1, hz1⟩ := I.list hq1
    obtain ⟨its2, rv2, p2, hz2⟩ := I.list hq2
    obtain ⟨u1, hu1, ru1⟩ := rv1.get hx
    obtain ⟨u2, hu2, ru2⟩ := rv2.get hy
    have D := z_apart n1 n2 st p1.isList p2.isList
    obtain ⟨hz, hTI, ⟨a, c, hTO⟩, h1, h2⟩ := st
    refine wpAny_pyNext_zip_item D hz hTI hTO h1 h2 p1.isList p2.isList (x := u1) (y := u2) (by simpa using hu1) (by simpa using hu2) fun h' a1 a2 a3 a4 a5 a6 a7 => ?_
    refine ⟨_, rfl, ?_⟩
    refine wpAny_letOwnedTupleGo_zip a1 fun h3 hz3 hs3 => ?_
    have lt : ∀ {c o}, s.heap.get? c = some o → s.heap.objs.size ≠ c := fun e => Nat.ne_of_gt (Heap.lt_size e)
    have tz := lt hz
    have tTI := lt hTI
    have tTO := lt hTO
    have ti1 : s.heap.objs.size ≠ i1 := by obtain ⟨_, e, _⟩ := h1; exact lt e
    have ti2 : s.heap.objs.size ≠ i2 := by obtain ⟨_, e, _⟩ := h2; exact lt e
    have keep : ∀ b o, b ∉ [z, TI, TO, i1, i2] → s.heap.get? b = some o → h3.get? b = some o := fun b o hb q => by
      simp only [List.mem_cons, List.not_mem_nil, or_false, not_or] at hb
      exact hs3.extBut _ _ hb.1 (a7 b o hb.1 hb.2.2.1 hb.2.2.2.1 hb.2.2.2.2 q)
    have hT3 : IsPair h3 s.heap.objs.size u1 u2 := hs3.extBut _ _ tz a5
    refine ⟨.ref s.heap.objs.size, upd H s.heap.objs.size (.tup [x, y]), I.turnedNew (tk := s.toks) keep hf (Nat.le_refl _) ⟨_, hT3⟩ ?_, rfl, ⟨_, x, y, rfl, I.hok.fresh (Nat.le_refl _), rfl, fun as bs ha hb => ?_⟩, ⟨hz3, ?_, ?_, ?_, ?_⟩, fun b hb => ?_⟩
    · exact ⟨by show 2 ≤ sizeLine; decide, [u1, u2], .cons ru1 (.cons ru2 .nil), ⟨_, hT3, rfl, _, rfl⟩⟩
    · rw [I.list_inj ha hq1, I.list_inj hb hq2]; exact ⟨hx, hy⟩
    · exact hs3.extBut _ _ D.TIz (a7 _ _ D.TIz D.TITO D.TIi1 D.TIi2 hTI)
    · exact ⟨_, _, hs3.extBut _ _ D.TOz a2⟩
    · exact a3.at fun o e => hs3.extBut _ _ D.i1z e
    · exact a4.at fun o e => hs3.extBut _ _ D.i2z e
    · rw [upd_ne]
      · exact (hf b hb).1
      · intro e
        simp only [List.mem_cons, List.not_mem_nil, or_false] at hb
        rcases hb with q | q | q | q | q
        · exact tz (e.symm.trans q)
        · exact tTI (e.symm.trans q)
        · exact tTO (e.symm.trans q)
        · exact ti1 (e.symm.trans q)
        · exact ti2 (e.symm.trans q)
  done := by
    intro X hP hw hK hc i pins s σ H E I hf st hg
    subst hP hw hK
    obtain ⟨xs, ys, hq1, hq2, hm⟩ := hg
    obtain ⟨its1, rv1, p1, hz1⟩ := I.list hq1
    obtain ⟨its2, rv2, p2, hz2⟩ := I.list hq2
    have hl1 := rv1.length
    have hl2 := rv2.length
    have D := z_apart n1 n2 st p1.isList p2.isList
    obtain ⟨hz, hTI, ⟨a, c, hTO⟩, h1, h2⟩ := st
    have hend : its1.toArray[i]? = none ∨ its2.toArray[i]? = none := by
      rcases Nat.le_total xs.length ys.length with q | q
      · left; rw [Array.getElem?_eq_none]; simp; omega
      · right; rw [Array.getElem?_eq_none]; simp; omega
    refine wpAny_pyNext_zip_end (I.ok.hd hc) D hz hTI hTO h1 h2 p1.isList p2.isList hend fun h' hk => ⟨rfl, ?_⟩
    refine I.turnedMany (ch := [z, TI, TO, i1, i2]) (tk := s.toks) (fun b o hb q => ?_) hf
    simp only [List.mem_cons, List.not_mem_nil, or_false, not_or] at hb
    exact hk b o hb.1 hb.2.2.1 hb.2.2.2.1 hb.2.2.2.2 q
  self := fun _ _ _ _ _ st h => wpAny_pyIter_zip st.hz h
section
variable {X : Cx} {elts : List Expr} {k : Nat} {tp : Pos}
def iZip (K : PySem.W.Frag) (ta : TA) : TI := fun σ H R => ta σ H fun vs H1 => ∃ a b, vs = [.ref a, .ref b] ∧ (∃ xs, SqL K H1 a xs) ∧ (∃ ys, SqL K H1 b ys) ∧ R (Itz K a b) H1
theorem pi_zip {l l' : Expr} {ta : TA} {p pos : Pos} (hg : Gl X "zip") (hm : X.mg "zip" = none) (ha : PA X [l, l'] ta) (hs : starEach [l, l'] X.env = [(false, eval l X.env), (false, eval l' X.env)] := by rfl) (hs2 : starEach [l'] X.env = [(false, eval l' X.env)] := by rfl) :
    PI X (.Tuple elts k tp) (.Call (.Name "zip" p) [l, l'] [] pos) (iZip X.K ta) := by
  intro pins s σ H R I h
  refine Call_ (ld_blt I hg hm boot_zip (PyProof.Rows.callWith_type1 (thn (ha pos pins s σ H _ I h) fun us s1 ⟨vs, H1, I1, r1, q1⟩ => ?_) (by rw [hs, hs2]) (by rw [hs2]; rfl)))
  obtain ⟨a, b, e, ⟨xs, hq1⟩, ⟨ys, hq2⟩, q⟩ := q1
  subst e
  obtain ⟨u, v, rfl, ru, rv⟩ : ∃ u v, us = [u, v] ∧ RelV (.ref a) u ∧ RelV (.ref b) v := by
    cases r1 with
    | cons r rr =>
      cases rr with
      | cons r' rr => cases rr; exact ⟨_, _, rfl, r, r'⟩
  cases ru
  cases rv
  obtain ⟨its1, rv1, p1, hz1⟩ := I1.list hq1
  obtain ⟨its2, rv2, p2, hz2⟩ := I1.list hq2
  refine call_zip_2 p1.isList p2.isList fun h1 hz hTI hTO hi1 hi2 hsz hk => ?_
  refine wpAny_pyIter_zip hz ?_
  refine ⟨s1.heap.objs.size + 4, [s1.heap.objs.size + 4, s1.heap.objs.size + 2, s1.heap.objs.size + 3, s1.heap.objs.size, s1.heap.objs.size + 1], _, _, H1, rfl, I1.kept (t' := s1.toks) hk, turn_zip a b _ _ _ _ _ (Nat.ne_of_lt (Nat.lt_succ_self _)) (Nat.ne_of_lt (Nat.lt_succ_self _)), ⟨hz, hTI, ⟨_, _, hTO⟩, hi1, hi2⟩, fun b hb => ?_, q⟩
  have hb : s1.heap.objs.size ≤ b := by
    simp only [List.mem_cons, List.not_mem_nil, or_false] at hb
    rcases hb with q | q | q | q | q <;> rw [q] <;> omega
  exact I1.fpOk hb (I1.hok.fresh hb)
end
/-- for x, y in zip(xs, ys), where the body leaves both as they are -/
theorem for_zip {K : PySem.W.Frag} {a b : Addr} {xs ys : List V} {g : TG} {tb : TS} {D : Ends} {σ : St} {H : Hp} (he : xs.length = ys.length) (Pv : Nat → St → Hp → Prop) (h0 : Pv 0 σ H) (hl : ∀ i σ H, i ≤ xs.length → Pv i σ H → SqL K H a xs ∧ SqL K H b ys)
    (hs : ∀ i x y σ H T, xs[i]? = some x → ys[i]? = some y → Pv i σ H → H T = none → g (.ref T) σ (upd H T (.tup [x, y])) fun σ2 H2 => tb { D with nx := Pv (i + 1), ct := Pv (i + 1), bk := D.nx } σ2 H2) (hd : ∀ σ H, Pv xs.length σ H → D.nx σ H) :
    ∃ W : Nat → Nat → St → Hp → Prop, (∃ m, W 0 m σ H) ∧ ∀ i m σ H, W i m σ H →
      ((Itz K a b).stop i H ∧ D.nx σ H) ∨ ((Itz K a b).go i H ∧ ∃ N : St → Hp → Prop, (∀ σ' H', N σ' H' → ∃ m', m' < m ∧ W (i + 1) m' σ' H') ∧ ∀ x H', (Itz K a b).yld i H x H' → g x σ H' fun σ2 H2 => tb { D with nx := N, ct := N, bk := D.nx } σ2 H2) := by
  refine ⟨fun i m σ H => m = xs.length - i ∧ i ≤ xs.length ∧ Pv i σ H, ⟨xs.length, by simp, Nat.zero_le _, h0⟩, ?_⟩
  rintro i m σ H ⟨rfl, hi, p⟩
  obtain ⟨q1, q2⟩ := hl i σ H hi p
  by_cases hlt : i < xs.length
  · refine .inr ⟨⟨xs, ys, xs[i], ys[i], q1, q2, by simp [hlt], by simp⟩, Pv (i + 1), fun σ' H' p' => ⟨xs.length - (i + 1), by omega, rfl, hlt, p'⟩, fun x H' y => ?_⟩
    obtain ⟨T, u, v, rfl, hT, rfl, y⟩ := y
    exact hs i u v σ H T (y xs ys q1 q2).1 (y xs ys q1 q2).2 p hT
  · have e : i = xs.length := by omega
    subst e
    exact .inl ⟨⟨xs, ys, q1, q2, by omega⟩, hd σ H p⟩
/-! ### a comprehension over zip: the tuples it makes stay behind -/
section
variable {K : PySem.W.Frag} {a b : Addr} {xs ys : List V} {x y : Str} {caps : List Nat} {g : TG} {tt : TT} {te : TE} {σ : St} {H : Hp} {Q : VK}
theorem comp_zip (F : Nat → V) (he : xs.length = ys.length) (hn : xs.length ≤ sizeLine) (hq1 : SqL K H a xs) (hq2 : SqL K H b ys)
    (hs : ∀ (i : Nat) (u v : V) (t1 t2 : Option V) (T : Addr) (H1 : Hp) (N : St → Hp → Prop) (Kt : V → St → Hp → Prop), xs[i]? = some u → ys[i]? = some v → Same H H1 → H1 T = none → (∀ t1' t2' H2, Same (upd H1 T (.tup [u, v])) H2 → Kt (F i) (t1' :: t2' :: caps.map fun j => σ.getD j none) H2) →
      g (.ref T) (t1 :: t2 :: caps.map fun j => σ.getD j none) (upd H1 T (.tup [u, v])) fun σ2 H3 => tt σ2 H3 fun b H4 => if b = true then te σ2 H4 fun v H5 => Kt v σ2 H5 else N σ2 H4)
    (hQ : rNew ((List.range xs.length).map F) H Q) : rComp [x, y] caps (Itz K a b) g tt te σ H Q := by
  intro acc hacc
  have S0 : ∀ ys', Same H (upd H acc (.lst ys')) := fun ys' => Same.new hacc _
  refine ⟨fun i m σ' H' => m = xs.length - i ∧ i ≤ xs.length ∧ (∃ t1 t2, σ' = t1 :: t2 :: caps.map fun j => σ.getD j none) ∧ Same H H' ∧ H' acc = some (.lst ((List.range i).map F)), ⟨xs.length, rfl, Nat.zero_le _, ⟨none, none, rfl⟩, S0 _, upd_same⟩, ?_⟩
  rintro i m σ' H' ⟨rfl, hi, ⟨t1, t2, rfl⟩, sm, ea⟩
  by_cases hlt : i < xs.length
  · refine .inr ⟨⟨xs, ys, xs[i], ys[i], sm.seq hq1, sm.seq hq2, by simp [hlt], by simp⟩, fun σ2 H2 => (∃ t1 t2, σ2 = t1 :: t2 :: caps.map fun j => σ.getD j none) ∧ Same H H2 ∧ H2 acc = some (.lst ((List.range (i + 1)).map F)), fun σ'' H'' ⟨h1, h2, h3⟩ => ⟨xs.length - (i + 1), by omega, rfl, hlt, h1, h2, h3⟩, fun v H2 y => ?_⟩
    obtain ⟨T, u, v, rfl, hT, rfl, y⟩ := y
    refine hs i u v t1 t2 T H' _ _ (y xs ys (sm.seq hq1) (sm.seq hq2)).1 (y xs ys (sm.seq hq1) (sm.seq hq2)).2 sm hT fun t1' t2' H3 s3 => ?_
    have sT : Same H' (upd H' T (.tup [u, v])) := Same.new hT _
    have e3 := s3 _ _ (sT _ _ ea)
    refine ⟨_, e3, ?_, ⟨t1', t2', rfl⟩, ?_, ?_⟩
    · rw [List.length_map, List.length_range]; omega
    · exact (sm.trans (sT.trans s3)).put hacc
    · rw [upd_same, List.range_succ, List.map_append]; rfl
  · have e : i = xs.length := by omega
    subst e
    exact .inl ⟨⟨xs, ys, sm.seq hq1, sm.seq hq2, by omega⟩, hQ acc H' sm hacc ea⟩
end
/-! ### xs.count(x) -/
section
variable {X : Cx}
def rCount (K : PySem.W.Frag) : V → List V → Hp → VK → Prop := fun x vs H Q => ∃ (l : Addr) (xs : List V) (y : V), x = .ref l ∧ vs = [y] ∧ SqL K H l xs ∧ flatV y = true ∧ xs.all flatV = true ∧ Q (.int (xs.countP fun z => eqV z y : Nat)) H
theorem countP_eqU {x : V} : ∀ {xs : List V} {us : List Value}, Vals xs us → xs.all flatV = true → us.countP (eqU x) = xs.countP fun y => eqV y x
  | _, _, .nil, _ => rfl
  | y :: xs, u :: us, .cons r t, f => by
    rw [List.all_cons, Bool.and_eq_true] at f
    rw [List.countP_cons, List.countP_cons, eqU_of r f.1, countP_eqU t f.2]
theorem mt_count : MtR X "list.count" (rCount X.K) := by
  intro pins s σ H x xs v us Q I rx rs h
  obtain ⟨l, ys, y, rfl, rfl, hq, hy, hf, q⟩ := h
  cases rx
  obtain ⟨u, rfl, ru⟩ := vals1 rs
  obtain ⟨its, r, p, hz⟩ := I.list hq
  obtain ⟨⟨cls, dd, data, sl⟩, ho, hc, n, hd⟩ := id p.isList
  simp only at hc hd
  subst hc hd
  refine call_meets F.slot_list_count p.isList.typeIs F.entry_list_count (F.args_list_count_2 _ _) (SeqAt.list_countAt l its.toArray n dd sl u (eqU y)) ⟨ho, fun w hw => ?_, ?_⟩
  · exact mem_eqAt ru hy r hf w (by simpa using hw)
  · rw [show its.toArray.toList = its from rfl, countP_eqU r hf]
    exact ⟨.int _, H, I.tok _, ⟨_, rfl⟩, q⟩
theorem k_count {K : PySem.W.Frag} (h : X.K = K := by rfl) : MtR X "list.count" (rCount K) := h ▸ mt_count
theorem k_pi_zip {K : PySem.W.Frag} {elts : List Expr} {k : Nat} {tp : Pos} {l l' : Expr} {ta : TA} {p pos : Pos} (hg : Gl X "zip") (hm : X.mg "zip" = none) (ha : PA X [l, l'] ta) (hs : starEach [l, l'] X.env = [(false, eval l X.env), (false, eval l' X.env)] := by rfl) (hs2 : starEach [l'] X.env = [(false, eval l' X.env)] := by rfl) (h : X.K = K := by rfl) :
    PI X (.Tuple elts k tp) (.Call (.Name "zip" p) [l, l'] [] pos) (iZip K ta) := h ▸ pi_zip hg hm ha hs hs2
theorem count_ints (ns : List Int) (k : Int) : ((ns.map V.int).countP fun z => eqV z (.int k)) = ns.count k := by
  induction ns with
  | nil => rfl
  | cons a l ih => rw [List.map_cons, List.countP_cons, List.count_cons, ih]; rfl
theorem flat_ints (ns : List Int) : (ns.map V.int).all flatV = true := by simp [flatV]
theorem flat_bls (bs : List Bool) : (bs.map V.bl).all flatV = true := by simp [flatV]
theorem count_k {K : PySem.W.Frag} {l : Addr} {ns : List Int} {k : Int} {H : Hp} {Q : VK} (h : SqL K H l (ns.map V.int)) (q : Q (.int (ns.count k : Nat)) H) : rCount K (.ref l) [.int k] H Q :=
  ⟨l, _, _, rfl, rfl, h, rfl, flat_ints ns, by rw [count_ints]; exact q⟩
/-! ### xs[::-1] -/
theorem pick_rev (its : List Value) : slicePick its.toArray none none (some (-1)) = its.reverse.toArray := by
  unfold slicePick
  have h1 : (sliceBounds none none (some (-1)) its.toArray.size) = ((its.length : Int) - 1, -1, -1) := by
    simp [sliceBounds]
  rw [h1]
  have h2 : sliceRange ((its.length : Int) - 1) (-1) (-1) = (List.range its.length).map fun k => its.length - 1 - k := by
    unfold sliceRange
    have e : (if (-1 : Int) > 0 then (if ((its.length : Int) - 1) < -1 then (-1 - ((its.length : Int) - 1) + -1 - 1) / -1 else 0) else (if ((its.length : Int) - 1) > -1 then (((its.length : Int) - 1) - -1 - -1 - 1) / (- -1) else 0)).toNat = its.length := by
      rw [if_neg (by decide)]
      split <;> simp <;> omega
    simp only [e]
    refine List.map_congr_left fun k hk => ?_
    have := List.mem_range.mp hk
    omega
  rw [h2]
  congr 1
  apply List.ext_getElem?
  intro i
  have e3 : ((List.range its.length).map fun k => its.length - 1 - k).filterMap (fun x => its.toArray[x]?) = (List.range its.length).map fun k => its.getD (its.length - 1 - k) .none := by
    rw [List.filterMap_map]
    rw [show ((fun x => its.toArray[x]?) ∘ fun k => its.length - 1 - k) = fun k => its[its.length - 1 - k]? from by funext k; simp]
    have : ∀ l : List Nat, (∀ k ∈ l, k < its.length) → l.filterMap (fun k => its[its.length - 1 - k]?) = l.map fun k => its.getD (its.length - 1 - k) .none := by
      intro l
      induction l with
      | nil => intro _; rfl
      | cons a l ih =>
        intro h
        have ha := h a (by simp)
        rw [List.filterMap_cons, List.map_cons, ih fun k hk => h k (by simp [hk])]
        have hlt : its.length - 1 - a < its.length := by omega
        simp [List.getD, List.getElem?_eq_getElem hlt]
    exact this _ fun k hk => List.mem_range.mp hk
  rw [e3]
  by_cases hi : i < its.length
  · rw [List.getElem?_map, List.getElem?_range hi, List.getElem?_reverse hi]
    have hlt : its.length - 1 - i < its.length := by omega
    simp [List.getD, List.getElem?_eq_getElem hlt]
  · rw [List.getElem?_eq_none (by simp; omega), List.getElem?_eq_none (by simp; omega)]
theorem vals_reverse : ∀ {xs : List V} {us : List Value}, Vals xs us → Vals xs.reverse us.reverse
  | _, _, .nil => .nil
  | x :: xs, u :: us, .cons r t => by
    rw [List.reverse_cons, List.reverse_cons]
    exact (vals_reverse t).append (.cons r .nil)
def tRev (K : PySem.W.Frag) (te : TE) (ts : TO) : TE := fun σ H Q => te σ H fun x H1 => ts σ H1 fun k H2 => k = some (-1) ∧ ∃ a xs, x = .ref a ∧ SqL K H2 a xs ∧ rMade xs.reverse H2 Q
theorem pe_rev {e st : Expr} {te : TE} {ts : TO} {pos p2 : Pos} (he : PE X e te) (hst : PO X (some st) ts) : PE X (.Subscript e (.Slice none none (some st) p2) pos) (tRev X.K te ts) := by
  intro pins s σ H Q I h
  refine Subscript_ (thn (he pins s σ H _ I h) fun v s1 ⟨x, H1, I1, r1, q1⟩ => ?_)
  refine wpAny_Slice ?_
  rw [evalPart_none]
  refine wpAny_pure ?_
  refine wpAny_pure ?_
  refine thn (hst pins s1 σ H1 _ I1 q1) fun vs s3 ⟨k, H3, I3, pk, q3⟩ => ?_
  obtain ⟨rfl, a, xs, rfl, hx, q⟩ := q3
  cases r1
  have I4 : Inv X pins σ H3 { s3 with heap := s3.heap.push { cls := .type "slice", data := .fields #[.none, .none, vs] } } := I3.kept (t' := s3.toks) fun b ob q => Heap.get?_push_of_some _ q
  obtain ⟨its, r, ht, hz⟩ := I4.list hx
  have hlen := r.length
  show wpAny (model X.prog X.w) X.A (subscriptTail e (.Slice none none (some st) p2) (.ref a) (.ref s3.heap.objs.size)) (EP X pins σ Q) X.xe { s3 with heap := s3.heap.push { cls := .type "slice", data := .fields #[.none, .none, vs] } }
  refine tail_any (ops := [.ref a, .ref s3.heap.objs.size]) ht.isList.typeIs slot_list_getitem.lookup ?_ (by with_unfolding_all rfl)
  refine wpAny_getItem_list_slice ht.isList (Heap.IsSliceOf.new ..) .none .none pk (by simp) ?_ (by rw [List.size_toArray] <;> omega)
  rw [pick_rev]
  refine ⟨.ref _, _, I4.laid (t' := s3.toks) (o := .lst xs.reverse) (fun b ob q => Heap.get?_push_of_some _ q) (Nat.le_refl _) ?_, rfl, q _ (I4.hok.fresh (Nat.le_refl _))⟩
  exact ⟨by rw [List.length_reverse]; exact hz, _, 0, vals_reverse r, Heap.get?_push_size _ rfl⟩
theorem k_rev {K : PySem.W.Frag} {e st : Expr} {te : TE} {ts : TO} {pos p2 : Pos} (he : PE X e te) (hst : PO X (some st) ts) (h : X.K = K := by rfl) : PE X (.Subscript e (.Slice none none (some st) p2) pos) (tRev K te ts) := h ▸ pe_rev he hst
end
/-! ### == of lists that are the same -/
theorem eqV_self : ∀ {x : V}, flatV x = true → eqV x x = true
  | .non, _ => rfl
  | .bl b, _ => by simp [eqV]
  | .int i, _ => by simp [eqV]
  | .str z, _ => by simp [eqV]
  | .ref _, h => by cases h
  | .ty _, h => by cases h
  | .flt _, h => by cases h
  | .byt _, h => by cases h
theorem DEq.flats {K : PySem.W.Frag} {H : Hp} {n : Nat} {a b : Addr} {xs : List V} (h1 : SqL K H a xs) (h2 : SqL K H b xs) (f : xs.all flatV = true) : DEq K H (n + 1) (.ref a) (.ref b) true := by
  by_cases e : a = b
  · subst e; exact .same a
  · have z := DEq.list (n := n) (fun _ => true) e h1 h2 rfl fun i x y hx hy => by
      rw [hx] at hy
      cases hy
      have fx : flatV x = true := List.all_eq_true.mp f x (List.mem_of_getElem? hx)
      have := DEq.flat (K := K) (H := H) (n := n) fx fx
      rw [eqV_self fx] at this
      exact this
    have e : ((List.range xs.length).all fun _ => true) = true := by simp
    rw [e] at z
    exact z
/-- two lists with the same flat items -/
theorem eqD_same {K : PySem.W.Frag} {neg : Bool} {H : Hp} {Q : VK} {a b : Addr} {xs : List V} (h1 : SqL K H a xs) (h2 : SqL K H b xs) (f : xs.all flatV = true) (q : Q (.bl (!neg)) H) : rEqD K neg (.ref a) (.ref b) H Q := by
  refine ⟨a, b, xs, xs, rfl, rfl, h1, h2, .inr ⟨rfl, fun _ => true, fun i x y hx hy => ?_, ?_⟩⟩
  · rw [hx] at hy
    cases hy
    have fx : flatV x = true := List.all_eq_true.mp f x (List.mem_of_getElem? hx)
    have := DEq.flat (K := K) (H := H) (n := 40) fx fx
    rw [eqV_self fx] at this
    exact this
  · have e : ((List.range xs.length).all fun _ => true) = true := by simp
    rw [e]
    cases neg <;> exact q
/-- two lists whose items are the same one by one -/
theorem eqD_all {K : PySem.W.Frag} {neg : Bool} {H : Hp} {Q : VK} {a b : Addr} {xs ys : List V} (h1 : SqL K H a xs) (h2 : SqL K H b ys) (hl : xs.length = ys.length) (f : ∀ (i : Nat) (x y : V), xs[i]? = some x → ys[i]? = some y → DEq K H 40 x y true) (q : Q (.bl (!neg)) H) : rEqD K neg (.ref a) (.ref b) H Q := by
  refine ⟨a, b, xs, ys, rfl, rfl, h1, h2, .inr ⟨hl, fun _ => true, f, ?_⟩⟩
  have e : ((List.range xs.length).all fun _ => true) = true := by simp
  rw [e]
  cases neg <;> exact q
end L2
set_option Elab.async false
set_option linter.all false
set_option maxRecDepth 100000
set_option maxHeartbeats 4000000
namespace L2
open PySem PySem.Spec PyProof.Rows
theorem flat_cut {xs : List V} {lo hi : Option Int} (h : xs.all flatV = true) : (cutV xs lo hi).all flatV = true := by
  rw [List.all_eq_true] at h ⊢
  intro x hx
  unfold cutV at hx
  exact h x (List.mem_of_mem_drop (List.mem_of_mem_take hx))
theorem flat_app {xs ys : List V} (h : xs.all flatV = true) (h' : ys.all flatV = true) : (xs ++ ys).all flatV = true := by rw [List.all_append, h, h']; rfl
theorem atV_flat {xs : List V} {k : Int} (h0 : 0 ≤ k) (h1 : k < (xs.length : Int)) (f : xs.all flatV = true) : ∃ v, atI xs k = some v ∧ flatV v = true := by
  have hk : k.toNat < xs.length := by omega
  exact ⟨xs[k.toNat], atV h0 (List.getElem?_eq_getElem hk), List.all_eq_true.mp f _ (List.getElem_mem hk)⟩
theorem atI_bl {bs : List Bool} {k : Int} (h0 : 0 ≤ k) (h : k < (bs.length : Int)) : atI (bs.map V.bl) k = some (.bl (bs.getD k.toNat false)) := by
  have hk : k.toNat < bs.length := by omega
  refine atV h0 ?_
  rw [List.getElem?_map, List.getElem?_eq_getElem hk]
  simp [List.getD, List.getElem?_eq_getElem hk]
theorem new_is {H H1 : Hp} {g : Addr} {o : HO} (hg : H g = none) (e : upd H g o = H1) : Same H H1 ∧ H1 g = some o := by
  subst e
  exact ⟨Same.new hg _, upd_same⟩
theorem set_is {H H1 H2 : Hp} {g : Addr} {o : HO} (hg : H g = none) (s : Same H H1) (e : upd H1 g o = H2) : Same H H2 ∧ H2 g = some o := by
  subst e
  exact ⟨s.put hg, upd_same⟩
theorem cut_take {xs : List V} {k : Int} (h0 : 0 ≤ k) : cutV xs none (some k) = xs.take k.toNat := by
  unfold cutV
  have e1 : HT.sIx xs.length 0 none = 0 := rfl
  have e2 : HT.sIx xs.length xs.length (some k) = min k.toNat xs.length := by
    show (if k < 0 then (k + (xs.length : Int)).toNat else min k.toNat xs.length) = _
    rw [if_neg (by omega)]
  rw [e1, e2, List.drop_zero, Nat.sub_zero]
  apply List.ext_getElem?
  intro i
  rw [List.getElem?_take, List.getElem?_take]
  by_cases h : i < k.toNat
  · by_cases h2 : i < xs.length
    · rw [if_pos (by omega), if_pos h]
    · rw [List.getElem?_eq_none (by omega)]; simp
  · rw [if_neg (by omega), if_neg h]
theorem cut_drop {xs : List V} {k : Int} (h0 : 0 ≤ k) : cutV xs (some k) none = xs.drop k.toNat := by
  unfold cutV
  have e1 : HT.sIx xs.length xs.length none = xs.length := rfl
  have e2 : HT.sIx xs.length 0 (some k) = min k.toNat xs.length := by
    show (if k < 0 then (k + (xs.length : Int)).toNat else min k.toNat xs.length) = _
    rw [if_neg (by omega)]
  rw [e1, e2]
  rw [List.take_of_length_le (by rw [List.length_drop]; omega)]
  by_cases h : k.toNat ≤ xs.length
  · rw [Nat.min_eq_left h]
  · rw [Nat.min_eq_right (by omega), List.drop_of_length_le (Nat.le_refl _), List.drop_of_length_le (by omega)]
theorem cut_mid {xs : List V} {a b : Nat} (hab : a + b ≤ xs.length) : cutV xs (some (a : Int)) (some ((a : Int) + (b : Int))) = (xs.drop a).take b := by
  unfold cutV
  have e1 : HT.sIx xs.length 0 (some (a : Int)) = a := by rw [HT.sIx_nat]; omega
  have e2 : HT.sIx xs.length xs.length (some ((a : Int) + (b : Int))) = a + b := by
    rw [show ((a : Int) + (b : Int)) = ((a + b : Nat) : Int) by omega, HT.sIx_nat]; omega
  rw [e1, e2]
  congr 1
  omega
theorem cut_both {ls : List Int} {k : Int} (h0 : 0 ≤ k) : cutV (ls.map V.int) none (some k) ++ cutV (ls.map V.int) (some (k + 1)) none = (ls.eraseIdx k.toNat).map V.int := by
  rw [cut_take h0, cut_drop (by omega), List.eraseIdx_eq_take_drop_succ, List.map_append, List.map_take, List.map_drop]
  rw [show (k + 1).toNat = k.toNat + 1 by omega]
def sp5 (φ : V → V → V → V → V → Hp → VK → Prop) : Sp := fun vs H Q _ => ∃ a b c d e, vs = [a, b, c, d, e] ∧ φ a b c d e H Q
theorem len5 {φ : V → V → V → V → V → Hp → VK → Prop} {x y z u v : Str} : ∀ vs H Q E, sp5 φ vs H Q E → vs.length = [x, y, z, u, v].length := fun _ _ _ _ ⟨_, _, _, _, _, e, _⟩ => by rw [e]; rfl
end L2
set_option Elab.async false
set_option linter.all false
set_option maxRecDepth 100000
set_option maxHeartbeats 4000000
namespace L2
open PySem PySem.Spec PyProof.Rows
/-! ### a comprehension over a list whose items may change the heap -/
section
variable {K : PySem.W.Frag} {a : Addr} {xs : List V} {x : Str} {caps : List Nat} {g : TG} {tt : TT} {te : TE} {σ : St} {H : Hp} {Q : VK}
theorem comp_listI (F : Nat → V) (Pv : Addr → Nat → Hp → Prop) (hn : xs.length ≤ sizeLine) (h0 : ∀ acc, H acc = none → Pv acc 0 (upd H acc (.lst []))) (hl : ∀ acc i H', H acc = none → Pv acc i H' → SqL K H' a xs)
    (hs : ∀ (acc : Addr) (i : Nat) (v : V) (t : Option V) (H' : Hp) (N : St → Hp → Prop) (Kt : V → St → Hp → Prop), H acc = none → xs[i]? = some v → Pv acc i H' → H' acc = some (.lst ((List.range i).map F)) →
      (∀ t' H'', H'' acc = some (.lst ((List.range i).map F)) → Pv acc (i + 1) (upd H'' acc (.lst ((List.range (i + 1)).map F))) → Kt (F i) (t' :: caps.map fun j => σ.getD j none) H'') →
      g v (t :: caps.map fun j => σ.getD j none) H' fun σ2 H3 => tt σ2 H3 fun b H4 => if b = true then te σ2 H4 fun v H5 => Kt v σ2 H5 else N σ2 H4)
    (hQ : ∀ acc H', H acc = none → Pv acc xs.length H' → H' acc = some (.lst ((List.range xs.length).map F)) → Q (.ref acc) H') : rComp [x] caps (Itl K a) g tt te σ H Q := by
  intro acc hacc
  refine ⟨fun i m σ' H' => m = xs.length - i ∧ i ≤ xs.length ∧ (∃ t, σ' = t :: caps.map fun j => σ.getD j none) ∧ Pv acc i H' ∧ H' acc = some (.lst ((List.range i).map F)), ⟨xs.length, rfl, Nat.zero_le _, ⟨none, rfl⟩, h0 acc hacc, upd_same⟩, ?_⟩
  rintro i m σ' H' ⟨rfl, hi, ⟨t, rfl⟩, p, ea⟩
  have hq := hl acc i H' hacc p
  by_cases hlt : i < xs.length
  · refine .inr ⟨⟨xs, xs[i], hq, by simp [hlt]⟩, fun σ2 H2 => (∃ t, σ2 = t :: caps.map fun j => σ.getD j none) ∧ Pv acc (i + 1) H2 ∧ H2 acc = some (.lst ((List.range (i + 1)).map F)), fun σ'' H'' ⟨h1, h2, h3⟩ => ⟨xs.length - (i + 1), by omega, rfl, hlt, h1, h2, h3⟩, fun v H2 y => ?_⟩
    obtain ⟨rfl, y⟩ := y
    refine hs acc i v t H2 _ (fun v σ2 H5 => ∃ ys, H5 acc = some (.lst ys) ∧ ys.length < sizeLine ∧ (∃ t, σ2 = t :: caps.map fun j => σ.getD j none) ∧ Pv acc (i + 1) (upd H5 acc (.lst (ys ++ [v]))) ∧ (upd H5 acc (.lst (ys ++ [v]))) acc = some (.lst ((List.range (i + 1)).map F))) hacc (y xs hq) p ea fun t' H'' e2 p2 => ?_
    have er : (List.range i).map F ++ [F i] = (List.range (i + 1)).map F := by rw [List.range_succ, List.map_append]; rfl
    refine ⟨_, e2, ?_, ⟨t', rfl⟩, ?_, ?_⟩
    · rw [List.length_map, List.length_range]; omega
    · rw [er]; exact p2
    · rw [er]; exact upd_same
  · have e : i = xs.length := by omega
    subst e
    exact .inl ⟨⟨xs, hq, Nat.le_refl _⟩, hQ acc H' hacc p ea⟩
end
end L2
set_option Elab.async false
set_option linter.all false
set_option maxRecDepth 100000
set_option maxHeartbeats 4000000
namespace L2
open PySem PySem.Spec PyProof.Rows

/-! ### lists of pairs as tables -/
section
variable {κ : Type} [DecidableEq κ]
def valV (kvs : List (κ × V)) (k : κ) : Option V := (kvs.find? fun kv => decide (kv.1 = k)).map (·.2)
/-- in its place, or at the end -/
def putK (kvs : List (κ × V)) (k : κ) (v : V) : List (κ × V) :=
  if (kvs.any fun kv => decide (kv.1 = k)) = true then kvs.map (fun kv => if kv.1 = k then (kv.1, v) else kv) else kvs ++ [(k, v)]
def dropK (kvs : List (κ × V)) (k : κ) : List (κ × V) := kvs.filter fun kv => decide (kv.1 ≠ k)

theorem valV_nil {k : κ} : valV ([] : List (κ × V)) k = none := rfl
theorem valV_pos {p : κ × V} {r : List (κ × V)} {k : κ} (e : p.1 = k) : valV (p :: r) k = some p.2 := by simp [valV, List.find?_cons, e]
theorem valV_neg {p : κ × V} {r : List (κ × V)} {k : κ} (e : ¬ p.1 = k) : valV (p :: r) k = valV r k := by simp [valV, List.find?_cons, e]
theorem valV_any (k : κ) : ∀ kvs : List (κ × V), (kvs.any fun kv => decide (kv.1 = k)) = (valV kvs k).isSome
  | [] => rfl
  | p :: r => by
    rw [List.any_cons]
    by_cases e : p.1 = k
    · simp only [valV_pos e, decide_eq_true e, Bool.true_or, Option.isSome_some]
    · rw [valV_neg e, decide_eq_false e, Bool.false_or]; exact valV_any k r
theorem valV_map (k j : κ) (y : V) : ∀ kvs : List (κ × V), valV (kvs.map fun kv => if kv.1 = k then (kv.1, y) else kv) j = (valV kvs j).map fun x => if j = k then y else x
  | [] => rfl
  | p :: r => by
    have ih := valV_map k j y r
    rw [List.map_cons]
    by_cases h : p.1 = k
    · rw [if_pos h]
      by_cases e : p.1 = j
      · rw [valV_pos (p := (p.1, y)) e, valV_pos e, Option.map_some, if_pos (e.symm.trans h)]
      · rw [valV_neg (p := (p.1, y)) e, valV_neg e, ih]
    · rw [if_neg h]
      by_cases e : p.1 = j
      · rw [valV_pos (p := p) e, valV_pos e, Option.map_some, if_neg (fun z => h (e.trans z))]
      · rw [valV_neg (p := p) e, valV_neg e, ih]
theorem valV_snoc (k j : κ) (y : V) : ∀ kvs : List (κ × V), valV kvs k = none → valV (kvs ++ [(k, y)]) j = if j = k then some y else valV kvs j
  | [], _ => by
    by_cases e : k = j
    · rw [if_pos e.symm]; exact valV_pos (p := (k, y)) e
    · rw [if_neg (fun z => e z.symm)]; exact valV_neg (p := (k, y)) e
  | p :: r, hn => by
    rw [List.cons_append]
    have hk : ¬ p.1 = k := fun z => by rw [valV_pos z] at hn; cases hn
    rw [valV_neg hk] at hn
    have ih := valV_snoc k j y r hn
    by_cases e : p.1 = j
    · rw [valV_pos e, valV_pos e, if_neg (fun z => hk (e.trans z))]
    · rw [valV_neg e, valV_neg e, ih]
theorem valV_put (kvs : List (κ × V)) (k j : κ) (y : V) : valV (putK kvs k y) j = if j = k then some y else valV kvs j := by
  unfold putK
  by_cases a : (kvs.any fun kv => decide (kv.1 = k)) = true
  · rw [if_pos a, valV_map]
    rw [valV_any] at a
    by_cases e : j = k
    · obtain ⟨x, hx⟩ := Option.isSome_iff_exists.mp a
      rw [if_pos e, e, hx, Option.map_some, if_pos rfl]
    · rw [if_neg e]
      cases valV kvs j with
      | none => rfl
      | some x => rw [Option.map_some, if_neg e]
  · rw [if_neg a]
    refine valV_snoc k j y kvs ?_
    rw [valV_any] at a
    cases q : valV kvs k with
    | none => rfl
    | some x => rw [q] at a; exact (a rfl).elim
theorem length_putK (kvs : List (κ × V)) (k : κ) (v : V) : (putK kvs k v).length ≤ kvs.length + 1 := by
  unfold putK
  split
  · rw [List.length_map]; omega
  · rw [List.length_append, List.length_cons, List.length_nil]; omega
theorem putK_new {kvs : List (κ × V)} {k : κ} (v : V) (h : valV kvs k = none) : putK kvs k v = kvs ++ [(k, v)] := by
  unfold putK
  rw [valV_any, h]
  exact if_neg (by decide)

theorem RelO.isSome_eq {o : Option V} {u : Option Value} (r : RelO o u) : o.isSome = u.isSome := by
  cases o with
  | none => cases u with
    | none => rfl
    | some _ => exact (show False from r).elim
  | some _ => cases u with
    | none => exact (show False from r).elim
    | some _ => rfl
theorem RelO.getD {o : Option V} {u : Option Value} {d : V} {d' : Value} (r : RelO o u) (rd : RelV d d') : RelV (o.getD d) (u.getD d') := by
  cases o with
  | none => cases u with
    | none => exact rd
    | some _ => exact (show False from r).elim
  | some _ => cases u with
    | none => exact (show False from r).elim
    | some _ => exact r

/-- raw tables of the same keys -/
theorem KV.val {kvs : List (κ × V)} {vs : List (κ × Value)} (r : KV kvs vs) (k : κ) : RelO (valV kvs k) (valueAt vs k) := by
  unfold KV at r
  induction r with
  | nil => exact True.intro
  | @cons p q ps qs h t ih =>
    obtain ⟨h1, h2⟩ := h
    by_cases e : p.1 = k
    · have e' : q.1 = k := h1.symm.trans e
      have b : valueAt (q :: qs) k = some q.2 := by simp [valueAt, List.find?_cons, e']
      rw [valV_pos e, b]; exact h2
    · have e' : ¬ q.1 = k := fun z => e (h1.trans z)
      have b : valueAt (q :: qs) k = valueAt qs k := by simp [valueAt, List.find?_cons, e']
      rw [valV_neg e, b]; exact ih
theorem KV.any {kvs : List (κ × V)} {vs : List (κ × Value)} (r : KV kvs vs) (k : κ) : (kvs.any fun kv => decide (kv.1 = k)) = vs.any fun kv => decide (kv.1 = k) := by
  unfold KV at r
  induction r with
  | nil => rfl
  | cons h t ih => rw [List.any_cons, List.any_cons, ih, h.1]
theorem KV.repl {kvs : List (κ × V)} {vs : List (κ × Value)} (r : KV kvs vs) (k : κ) {y : V} {u : Value} (ry : RelV y u) :
    KV (kvs.map fun kv => if kv.1 = k then (kv.1, y) else kv) (vs.map fun kv => if kv.1 = k then (kv.1, u) else kv) := by
  unfold KV at r ⊢
  induction r with
  | nil => exact .nil
  | @cons p q ps qs h t ih =>
    rw [List.map_cons, List.map_cons]
    refine .cons ?_ ih
    obtain ⟨h1, h2⟩ := h
    by_cases e : p.1 = k
    · rw [if_pos e, if_pos (h1.symm.trans e)]; exact ⟨h1, ry⟩
    · rw [if_neg e, if_neg (fun z => e (h1.trans z))]; exact ⟨h1, h2⟩
theorem KV.put {kvs : List (κ × V)} {vs : List (κ × Value)} (r : KV kvs vs) (k : κ) {y : V} {u : Value} (ry : RelV y u) : KV (putK kvs k y) (stored vs k u) := by
  unfold putK stored
  rw [r.any k]
  by_cases e : (vs.any fun kv => decide (kv.1 = k)) = true
  · rw [if_pos e, if_pos e]; exact r.repl k ry
  · rw [if_neg e, if_neg e]; exact Paired.snoc r ⟨rfl, ry⟩
theorem KV.drop {kvs : List (κ × V)} {vs : List (κ × Value)} (r : KV kvs vs) (k : κ) : KV (dropK kvs k) (without vs k) := by
  unfold KV at r ⊢
  unfold dropK without
  induction r with
  | nil => exact .nil
  | @cons p q ps qs h t ih =>
    obtain ⟨h1, h2⟩ := h
    rw [List.filter_cons, List.filter_cons]
    by_cases e : p.1 = k
    · have a : ¬ decide (p.1 ≠ k) = true := by simp [e]
      have b : ¬ decide (q.1 ≠ k) = true := by simp [h1.symm.trans e]
      rw [if_neg a, if_neg b]; exact ih
    · have e' : ¬ q.1 = k := fun z => e (h1.trans z)
      have a : decide (p.1 ≠ k) = true := by simp [e]
      have b : decide (q.1 ≠ k) = true := by simp [e']
      rw [if_pos a, if_pos b]; exact .cons ⟨h1, h2⟩ ih
theorem KV.keys {kvs : List (κ × V)} {vs : List (κ × Value)} (r : KV kvs vs) : kvs.map (·.1) = vs.map (·.1) := by
  unfold KV at r
  induction r with
  | nil => rfl
  | cons h t ih => rw [List.map_cons, List.map_cons, ih, h.1]
theorem KV.length {kvs : List (κ × V)} {vs : List (κ × Value)} (r : KV kvs vs) : kvs.length = vs.length := Paired.length r
theorem dropK_le (kvs : List (κ × V)) (k : κ) : (dropK kvs k).length ≤ kvs.length := List.length_filter_le _ _
end


/-! ### a tracked dict, its keys ints and texts or tuples of these -/
theorem kV_is {P : Program} {w : World} {k : Key} {u : Value} (r : RelV (kV k) u) : (mixKind P w).is k u = true := by
  cases k with
  | inl i => obtain ⟨t, e⟩ := (show ∃ t, u = Value.int i t from r); subst e; exact mixKind_int P w i t
  | inr x => obtain ⟨t, e⟩ := (show ∃ t, u = Value.str x t from r); subst e; exact mixKind_str P w x t
theorem kV_inj {a b : Key} (e : kV a = kV b) : a = b := by
  cases a with
  | inl i => cases b with
    | inl j => have e' : V.int i = V.int j := e; injection e' with e'; rw [e']
    | inr y => exact nomatch (show V.int i = V.str y from e)
  | inr x => cases b with
    | inl j => exact nomatch (show V.str x = V.int j from e)
    | inr y => have e' : V.str x = V.str y := e; injection e' with e'; rw [e']
theorem kVs_inj : ∀ {a b : List Key}, a.map kV = b.map kV → a = b
  | [], [], _ => rfl
  | [], _ :: _, e => by simp at e
  | _ :: _, [], e => by simp at e
  | x :: xs, y :: ys, e => by
    rw [List.map_cons, List.map_cons] at e
    injection e with e1 e2
    rw [kV_inj e1, kVs_inj e2]
theorem items_are {P : Program} {w : World} : ∀ {ks : List Key} {us : List Value}, Vals (ks.map kV) us → ItemsAre (mixKind P w) ks us
  | [], _, r => by rw [List.map_nil] at r; cases r; exact .nil
  | k :: ks, _, r => by
    rw [List.map_cons] at r
    cases r with
    | cons h t => exact .cons (kV_is h) (items_are t)

/-- raw entries of a dict with tuple keys -/
abbrev KT (H : Hp) : List (List Key × V) → List (List Key × Addr × Value) → Prop := Paired fun p q => p.1 = q.1 ∧ H q.2.1 = some (.tup (p.1.map kV)) ∧ RelV p.2 q.2.2
theorem KT.val {H : Hp} {kvs : List (List Key × V)} {xs : List (List Key × Addr × Value)} (r : KT H kvs xs) (k : List Key) : RelO (valV kvs k) ((atKey xs k).map (·.2)) := by
  induction r with
  | nil => exact True.intro
  | @cons p q ps qs h t ih =>
    obtain ⟨h1, _, h2⟩ := h
    by_cases e : p.1 = k
    · have e' : q.1 = k := h1.symm.trans e
      have b : atKey (q :: qs) k = some q.2 := by simp [atKey, List.find?_cons, e']
      rw [valV_pos e, b]; exact h2
    · have e' : ¬ q.1 = k := fun z => e (h1.trans z)
      have b : atKey (q :: qs) k = atKey qs k := by simp [atKey, List.find?_cons, e']
      rw [valV_neg e, b]; exact ih
theorem KT.repl {H : Hp} {kvs : List (List Key × V)} {xs : List (List Key × Addr × Value)} (r : KT H kvs xs) (k : List Key) {y : V} {u : Value} (ry : RelV y u) :
    KT H (kvs.map fun kv => if kv.1 = k then (kv.1, y) else kv) (xs.map (putAt k u)) := by
  induction r with
  | nil => exact .nil
  | @cons p q ps qs h t ih =>
    rw [List.map_cons, List.map_cons]
    refine .cons ?_ ih
    obtain ⟨h1, h2, h3⟩ := h
    unfold putAt
    by_cases e : p.1 = k
    · rw [if_pos e, if_pos (h1.symm.trans e)]; exact ⟨h1, h2, ry⟩
    · rw [if_neg e, if_neg (fun z => e (h1.trans z))]; exact ⟨h1, h2, h3⟩
theorem KT.put {H : Hp} {kvs : List (List Key × V)} {xs : List (List Key × Addr × Value)} (r : KT H kvs xs) (k : List Key) {b : Addr} {y : V} {u : Value} (hb : H b = some (.tup (k.map kV))) (ry : RelV y u) :
    KT H (putK kvs k y) (storedH xs k b u) := by
  have e : (kvs.any fun kv => decide (kv.1 = k)) = (atKey xs k).isSome := by
    rw [valV_any, (r.val k).isSome_eq, Option.isSome_map]
  unfold putK storedH
  rw [e]
  by_cases q : (atKey xs k).isSome = true
  · rw [if_pos q, if_pos q]; exact r.repl k ry
  · rw [if_neg q, if_neg q]; exact Paired.snoc r ⟨rfl, hb, ry⟩
theorem KT.keeps {H H' : Hp} {kvs : List (List Key × V)} {xs : List (List Key × Addr × Value)} (r : KT H kvs xs) (ht : ∀ b ys, H b = some (.tup ys) → H' b = some (.tup ys)) : KT H' kvs xs :=
  Paired.mapP r fun _ _ z => ⟨z.1, ht _ _ z.2.1, z.2.2⟩

section
variable {P : Program} {w : World} {H : Hp} {h : Heap} {a : Addr}
theorem rd_of {u : HO} (ok : HOk P w H h) (e : Rd H a u) : ObjOk P w H h a u := e.ok ok
theorem dk_rd {kvs : List (Key × V)} (ok : HOk P w H h) (e : Rd H a (.dK kvs)) : kvs.length ≤ sizeLine ∧ (a == sysModules) = false ∧ ∃ vs, KV kvs vs ∧ h.DictOf (mixKind P w) a vs :=
  show ObjOk P w H h a (.dK kvs) from rd_of ok e
theorem dk_of {kvs : List (Key × V)} (ok : HOk P w H h) (e : H a = some (.dK kvs)) : kvs.length ≤ sizeLine ∧ (a == sysModules) = false ∧ ∃ vs, KV kvs vs ∧ h.DictOf (mixKind P w) a vs := dk_rd ok (.inl e)
/-- a tracked tuple of ints and texts is a key -/
theorem key_of {ks : List Key} (ok : HOk P w H h) (e : H a = some (.tup (ks.map kV))) : (tupleKind (mixKind P w)).is h ks a := by
  obtain ⟨_, its, r, o, h1, h2, n, h3⟩ := (show ObjOk P w H h a (.tup (ks.map kV)) from ok a _ e)
  exact ⟨o, its.toArray, n, h1, h2, h3, by simpa using items_are r⟩
theorem dt_rd {kvs : List (List Key × V)} (ok : HOk P w H h) (e : Rd H a (.dT kvs)) : kvs.length ≤ sizeLine ∧ (a == sysModules) = false ∧
    ∃ xs, KT H kvs xs ∧ h.DictOfH (tupleKind (mixKind P w)) a xs := by
  obtain ⟨z, y, xs, r, o, es, ep, h1, h2, h3, h4, h5⟩ := (show ObjOk P w H h a (.dT kvs) from rd_of ok e)
  refine ⟨z, y, xs, r, o, es, ep, h1, h2, h3, h4, fun x hx => ?_, h5⟩
  have all : ∀ {l : List (List Key × V)} {m : List (List Key × Addr × Value)}, KT H l m → ∀ x ∈ m, (tupleKind (mixKind P w)).is h x.1 x.2.1 := by
    intro l m q
    induction q with
    | nil => intro x hx; exact nomatch hx
    | @cons p q ps qs hq t ih =>
      intro x hx
      rcases List.mem_cons.mp hx with e | hx
      · subst e
        exact key_of ok (by rw [← hq.1]; exact hq.2.1)
      · exact ih x hx
  exact all r x hx
theorem dt_of {kvs : List (List Key × V)} (ok : HOk P w H h) (e : H a = some (.dT kvs)) : kvs.length ≤ sizeLine ∧ (a == sysModules) = false ∧
    ∃ xs, KT H kvs xs ∧ h.DictOfH (tupleKind (mixKind P w)) a xs := dt_rd ok (.inl e)
end

/-- what the dict at a holds at the key y -/
def DGet (H : Hp) (a : Addr) (y : V) (r : Option V) : Prop :=
  (∃ kvs k, Rd H a (.dK kvs) ∧ y = kV k ∧ r = valV kvs k) ∨ ∃ kvs k b, Rd H a (.dT kvs) ∧ y = .ref b ∧ H b = some (.tup (k.map kV)) ∧ r = valV kvs k
/-- the heap behind a[y] = v -/
def DPut (H : Hp) (a : Addr) (y v : V) (H' : Hp) : Prop :=
  (∃ kvs k, H a = some (.dK kvs) ∧ y = kV k ∧ kvs.length < sizeLine ∧ H' = upd H a (.dK (putK kvs k v))) ∨
  ∃ kvs k b, H a = some (.dT kvs) ∧ y = .ref b ∧ H b = some (.tup (k.map kV)) ∧ kvs.length < sizeLine ∧ H' = upd H a (.dT (putK kvs k v))
theorem DGet.k {H : Hp} {a : Addr} {kvs : List (Key × V)} {k : Key} (e : H a = some (.dK kvs)) : DGet H a (kV k) (valV kvs k) := .inl ⟨kvs, k, .inl e, rfl, rfl⟩
theorem DGet.t {H : Hp} {a b : Addr} {kvs : List (List Key × V)} {k : List Key} (e : H a = some (.dT kvs)) (eb : H b = some (.tup (k.map kV))) : DGet H a (.ref b) (valV kvs k) := .inr ⟨kvs, k, b, .inl e, rfl, eb, rfl⟩
theorem DPut.k {H : Hp} {a : Addr} {kvs : List (Key × V)} {k : Key} {v : V} (e : H a = some (.dK kvs)) (hl : kvs.length < sizeLine) : DPut H a (kV k) v (upd H a (.dK (putK kvs k v))) := .inl ⟨kvs, k, e, rfl, hl, rfl⟩
theorem DPut.t {H : Hp} {a b : Addr} {kvs : List (List Key × V)} {k : List Key} {v : V} (e : H a = some (.dT kvs)) (eb : H b = some (.tup (k.map kV))) (hl : kvs.length < sizeLine) :
    DPut H a (.ref b) v (upd H a (.dT (putK kvs k v))) := .inr ⟨kvs, k, b, e, rfl, eb, hl, rfl⟩


section
variable {X : Cx} {pins : List (Addr × Obj)} {σ : St} {H : Hp} {s : Shared} {a : Addr} {y v : V} {u r : Value} {o : Option V} {A : Around} {E : Value → Shared → Prop}

theorem Inv.big (I : Inv X pins σ H s) : sysModules < s.heap.objs.size := by
  have h : mainGlobals < s.heap.objs.size := (I.mod.glob.keeps I.bk).lt
  exact Nat.lt_trans (by decide) h

/-- d[y], there -/
theorem d_getItem {Q : Value → Shared → Prop} (hu : A.units + 1 < cLine) (I : Inv X pins σ H s) (g : DGet H a y (some v)) (ry : RelV y u) (h : ∀ w' s', Inv X pins σ H s' → RelV v w' → Q w' s') :
    wpAny (model X.prog X.w) A (getItem (.ref a) u) Q E s := by
  rcases g with ⟨kvs, k, e, ey, l⟩ | ⟨kvs, k, b, e, ey, eb, l⟩
  · subst ey
    obtain ⟨z, hd, vs, rel, dd⟩ := dk_rd I.hok e
    obtain ⟨w', hw, rw'⟩ := RelO.some_of (v := v) (o := valueAt vs k) (by rw [l]; exact rel.val k)
    exact wpAny_getItem_of (kV_is ry) dd.mapOf hw (h w' _ (I.tok _) rw')
  · subst ey
    cases (show u = Value.ref b from ry)
    obtain ⟨z, hd, xs, rel, dd⟩ := dt_rd I.hok e
    obtain ⟨w', hw, rw'⟩ := RelO.some_of (v := v) (o := (atKey xs k).map (·.2)) (by rw [l]; exact rel.val k)
    obtain ⟨p, hp, hp2⟩ := Option.map_eq_some_iff.mp hw
    refine wpAny_getItem_heap (tupleKind_room_in1 hu) (key_of I.hok eb) dd hp ?_
    rw [hp2]
    exact h w' _ (I.tok _) rw'
/-- y in d -/
theorem d_in {Q : Value → Shared → Prop} (hu : A.units + 1 < cLine) (I : Inv X pins σ H s) (g : DGet H a y o) (ry : RelV y u) (h : ∀ s', Inv X pins σ H s' → Q (.bool o.isSome) s') :
    wpAny (model X.prog X.w) A (compareOp .In u (.ref a)) Q E s := by
  rcases g with ⟨kvs, k, e, ey, l⟩ | ⟨kvs, k, b, e, ey, eb, l⟩
  · subst ey
    obtain ⟨z, hd, vs, rel, dd⟩ := dk_rd I.hok e
    refine wpAny_in_of (kV_is ry) hd dd.mapOf ?_
    rw [← (rel.val k).isSome_eq, ← l]
    exact h _ (I.tok _)
  · subst ey
    cases (show u = Value.ref b from ry)
    obtain ⟨z, hd, xs, rel, dd⟩ := dt_rd I.hok e
    refine wpAny_in_heap (tupleKind_room_in1 hu) (key_of I.hok eb) hd dd ?_
    have q := (rel.val k).isSome_eq
    rw [Option.isSome_map] at q
    rw [← q, ← l]
    exact h _ (I.tok _)
theorem d_notIn {Q : Value → Shared → Prop} (hu : A.units + 1 < cLine) (I : Inv X pins σ H s) (g : DGet H a y o) (ry : RelV y u) (h : ∀ s', Inv X pins σ H s' → Q (.bool (!o.isSome)) s') :
    wpAny (model X.prog X.w) A (compareOp .NotIn u (.ref a)) Q E s := by
  rcases g with ⟨kvs, k, e, ey, l⟩ | ⟨kvs, k, b, e, ey, eb, l⟩
  · subst ey
    obtain ⟨z, hd, vs, rel, dd⟩ := dk_rd I.hok e
    refine wpAny_notIn_of (kV_is ry) hd dd.mapOf ?_
    rw [← (rel.val k).isSome_eq, ← l]
    exact h _ (I.tok _)
  · subst ey
    cases (show u = Value.ref b from ry)
    obtain ⟨z, hd, xs, rel, dd⟩ := dt_rd I.hok e
    refine wpAny_notIn_heap (tupleKind_room_in1 hu) (key_of I.hok eb) hd dd ?_
    have q := (rel.val k).isSome_eq
    rw [Option.isSome_map] at q
    rw [← q, ← l]
    exact h _ (I.tok _)
/-- a dict's object is replaced -/
theorem d_write {h' : Heap} {t' : Nat} {ob : HO} (I : Inv X pins σ H s) (mu : Mut (H a)) (hs : Heap.SameBut a s.heap h') (he : ∃ q, h'.get? a = some q) (new : ObjOk X.prog X.w (upd H a ob) h' a ob) :
    Inv X pins σ (upd H a ob) { s with heap := h', toks := t' } :=
  I.write (x := a) (e := a) mu (.inl rfl) (fun b q hb z => (hs.2 b hb).trans z) he new
theorem dk_new {P : Program} {w : World} {H' : Hp} {h' : Heap} {kvs : List (Key × V)} {vs : List (Key × Value)} (z : kvs.length ≤ sizeLine) (hd : (a == sysModules) = false) (rel : KV kvs vs) (dd : h'.DictOf (mixKind P w) a vs) :
    ObjOk P w H' h' a (.dK kvs) := ⟨z, hd, vs, rel, dd⟩
/-- d[y] = v -/
theorem d_setItem {H' : Hp} {Q : Unit → Shared → Prop} (hu : A.units + 1 < cLine) (I : Inv X pins σ H s) (g : DPut H a y v H') (ry : RelV y u) (rv : RelV v r) (h : ∀ s', Inv X pins σ H' s' → Q () s') :
    wpAny (model X.prog X.w) A (setItem (.ref a) u r) Q E s := by
  rcases g with ⟨kvs, k, e, ey, l, eH⟩ | ⟨kvs, k, b, e, ey, eb, l, eH⟩
  · subst ey eH
    obtain ⟨z, hd, vs, rel, dd⟩ := dk_of I.hok e
    have hz : vs.length ≤ sizeLine := by rw [← rel.length]; exact z
    have hl : (putK kvs k v).length ≤ sizeLine := by have := length_putK kvs k v; omega
    refine wpAny_setItem_pairs (hsz := hz) (kV_is ry) dd fun h' dd' hs => h _ ?_
    have he : ∃ q, h'.get? a = some q := let ⟨q, _, _, hq, _⟩ := dd'; ⟨q, hq⟩
    exact d_write I (by rw [e]; exact True.intro) hs he (dk_new hl hd (rel.put k rv) dd')
  · subst ey eH
    cases (show u = Value.ref b from ry)
    obtain ⟨z, hd, xs, rel, dd⟩ := dt_of I.hok e
    have hz : xs.length ≤ sizeLine := by rw [← Paired.length rel]; exact z
    have hl : (putK kvs k v).length ≤ sizeLine := by have := length_putK kvs k v; omega
    refine wpAny_setItem_heap (hsz := hz) (tupleKind_room_in1 hu) (key_of I.hok eb) dd fun h' dd' hs => h _ ?_
    obtain ⟨q, es, ep, hq, h2, h3, h4, _, h5⟩ := dd'
    refine d_write I (by rw [e]; exact True.intro) hs ⟨q, hq⟩ ⟨hl, hd, _, (rel.put k eb rv).keeps fun c ys ec => ?_, q, es, ep, hq, h2, h3, h4, h5⟩
    rw [upd_ne (ne_of ec e (fun z => nomatch z))]
    exact ec
end

section
variable {X : Cx} {pins : List (Addr × Obj)} {σ : St} {H : Hp} {s : Shared} {a : Addr} {kvs : List (Key × V)} {k : Key} {u : Value} {A : Around} {E : Value → Shared → Prop}
/-- del d[k] -/
theorem d_delItem {Q : Unit → Shared → Prop} (I : Inv X pins σ H s) (e : H a = some (.dK kvs)) (ry : RelV (kV k) u) (l : (valV kvs k).isSome = true) (h : ∀ s', Inv X pins σ (upd H a (.dK (dropK kvs k))) s' → Q () s') :
    wpAny (model X.prog X.w) A (delItem (.ref a) u) Q E s := by
  obtain ⟨z, hd, vs, rel, dd⟩ := dk_of I.hok e
  refine wpAny_delItem_slot dd.typeIs (by decide) PySem.F.slot_dict_delitem
    (call_meetsIn PySem.F.slot_dict_delitem dd.typeIs PySem.F.entry_dict_delitem (PySem.F.args_dict_delitem_2 _ _) (meets_dict_delitem_pairs (mixKind X.prog X.w) a (kV_is ry)) ⟨vs, dd, by rw [← rel.length]; exact z, by rw [← (rel.val k).isSome_eq]; exact l, fun h' dd' hs => h _ ?_⟩)
  have he : ∃ q, h'.get? a = some q := let ⟨q, _, _, hq, _⟩ := dd'; ⟨q, hq⟩
  exact d_write I (by rw [e]; exact True.intro) hs he (dk_new (Nat.le_trans (dropK_le kvs k) z) hd (rel.drop k) dd')
/-- d.pop(k[, x]), there -/
theorem d_pop {v : V} {more : List Value} {Q : Value → Shared → Prop} (I : Inv X pins σ H s) (e : H a = some (.dK kvs)) (ry : RelV (kV k) u) (l : valV kvs k = some v) (hm : more = [] ∨ ∃ x, more = [x])
    (h : ∀ w' s', Inv X pins σ (upd H a (.dK (dropK kvs k))) s' → RelV v w' → Q w' s') : wpAny (model X.prog X.w) A (call (.builtin "dict.pop") (.ref a :: u :: more)) Q E s := by
  obtain ⟨z, hd, vs, rel, dd⟩ := dk_of I.hok e
  obtain ⟨w', hw, rw'⟩ := RelO.some_of (v := v) (o := valueAt vs k) (by rw [← l]; exact rel.val k)
  have hp : (keyPart u).isSome = true := by
    cases k with
    | inl i => obtain ⟨t, q⟩ := (show ∃ t, u = Value.int i t from ry); subst q; rfl
    | inr x => obtain ⟨t, q⟩ := (show ∃ t, u = Value.str x t from ry); subst q; rfl
  have ha : argsOk "dict.pop" ⟨.ref a :: u :: more, []⟩ := by
    rcases hm with q | ⟨x, q⟩
    · subst q; exact PySem.F.args_dict_pop_2 _ _
    · subst q; exact PySem.F.args_dict_pop_3 _ _ _
  refine call_meetsIn PySem.F.slot_dict_pop dd.typeIs PySem.F.entry_dict_pop ha (meets_dict_pop_there (mixKind X.prog X.w) a (kV_is ry) more hm hp)
    ⟨vs, w', dd, by rw [← rel.length]; exact z, hw, fun h' dd' hs => h w' _ ?_ rw'⟩
  have he : ∃ q, h'.get? a = some q := let ⟨q, _, _, hq, _⟩ := dd'; ⟨q, hq⟩
  exact d_write I (by rw [e]; exact True.intro) hs he (dk_new (Nat.le_trans (dropK_le kvs k) z) hd (rel.drop k) dd')
/-- d.pop(k, x), not there -/
theorem d_popD {r : Value} {Q : Value → Shared → Prop} (I : Inv X pins σ H s) (e : H a = some (.dK kvs)) (ry : RelV (kV k) u) (l : valV kvs k = none) (h : ∀ s', Inv X pins σ H s' → Q r s') :
    wpAny (model X.prog X.w) A (call (.builtin "dict.pop") [.ref a, u, r]) Q E s := by
  obtain ⟨z, hd, vs, rel, dd⟩ := dk_of I.hok e
  have hn : valueAt vs k = none := RelO.none_of (by rw [← l]; exact rel.val k)
  have hp : (keyPart u).isSome = true := by
    cases k with
    | inl i => obtain ⟨t, q⟩ := (show ∃ t, u = Value.int i t from ry); subst q; rfl
    | inr x => obtain ⟨t, q⟩ := (show ∃ t, u = Value.str x t from ry); subst q; rfl
  exact call_meetsIn PySem.F.slot_dict_pop dd.typeIs PySem.F.entry_dict_pop (PySem.F.args_dict_pop_3 _ _ _) (meets_dict_pop_default (mixKind X.prog X.w) a (kV_is ry) hd hp r) ⟨vs, dd, hn, h _ (I.tok _)⟩
/-- d.clear() -/
theorem d_clear {Q : Value → Shared → Prop} (I : Inv X pins σ H s) (e : H a = some (.dK kvs)) (h : ∀ s', Inv X pins σ (upd H a (.dK [])) s' → Q .none s') : wpAny (model X.prog X.w) A (call (.builtin "dict.clear") [.ref a]) Q E s := by
  obtain ⟨z, hd, vs, rel, dd⟩ := dk_of I.hok e
  refine call_meetsIn PySem.F.slot_dict_clear dd.typeIs PySem.F.entry_dict_clear (PySem.F.args_dict_clear_1 _) (meets_dict_clear (mixKind X.prog X.w) a) ⟨vs, dd, by rw [← rel.length]; exact z, fun h' dd' hs => h _ ?_⟩
  have he : ∃ q, h'.get? a = some q := let ⟨q, _, _, hq, _⟩ := dd'; ⟨q, hq⟩
  exact d_write (t' := s.toks) I (by rw [e]; exact True.intro) hs he (dk_new (Nat.zero_le _) hd .nil dd')
/-- len(d) -/
theorem d_len {Q : Value → Shared → Prop} (I : Inv X pins σ H s) (e : Rd H a (.dK kvs)) (h : ∀ t s', Inv X pins σ H s' → Q (.int kvs.length t) s') : wpAny (model X.prog X.w) A (call (.builtin "len") [.ref a]) Q E s := by
  obtain ⟨z, hd, vs, rel, dd⟩ := dk_rd I.hok e
  refine call_len_dict hd dd (by rw [← rel.length]; rw [sizeLine_eq] at z; omega) ?_
  rw [← rel.length]
  exact h _ _ (I.tok _)
/-- if d -/
theorem d_truth {Q : Bool → Shared → Prop} (I : Inv X pins σ H s) (e : Rd H a (.dK kvs)) (h : ∀ s', Inv X pins σ H s' → Q (!kvs.isEmpty) s') : wpAny (model X.prog X.w) A (truthy (.ref a)) Q E s := by
  obtain ⟨z, hd, vs, rel, dd⟩ := dk_rd I.hok e
  refine wpAny_truthy_dict hd dd (by rw [← rel.length]; rw [sizeLine_eq] at z; omega) ?_
  have q : kvs.isEmpty = vs.isEmpty := by cases rel <;> rfl
  rw [← q]
  exact h _ (I.tok _)
end


/-! ### readings and rules -/
/-- the element of a subscription, not a slice -/
def NoSl (i : Expr) : Prop := ∀ ov iv, subscripted i false ov iv = operate [ov, iv] (getItem ov iv)
theorem subD_of {prog : Program} {w : World} {A : Around} {E : Value → Shared → Prop} {s : Shared} {env : Env} {value slice : Expr} {pos : Pos} {T id : String} {Q : Value → Shared → Prop}
    (hl : typeLookup (.type T) "__getitem__" = pure (some (.builtin id))) (hs : NoSl slice)
    (h : wpAny (model prog w) A (eval value env) (fun o s₁ => wpAny (model prog w) A (eval slice env) (fun i s₂ => s₂.TypeIs o T ∧ wpAny (model prog w) A (getItem o i) Q E s₂) E s₁) E s) :
    wpAny (model prog w) A (eval (.Subscript value slice pos) env) Q E s := by
  refine Subscript_ (wpAny_mono h (fun o s₁ h₁ => wpAny_mono h₁ (fun i s₂ h₂ => ?_) fun _ _ x => x) fun _ _ x => x)
  obtain ⟨hT, h₂⟩ := h₂
  unfold subscriptTail
  refine wpAny_bind ?_
  rw [getitemInPython_of_ne hT.not_modules]
  refine wpAny_bind (wpAny_specialOf hT hl ?_)
  have fin : wpAny (model prog w) A (subscripted slice false o i) (fun r s₃ => wpAny (model prog w) A (letTemporaryGo value o r >>= fun _ => pure r) Q E s₃) E s₂ := by
    rw [hs o i]
    exact wpAny_operating (wpAny_mono h₂ (fun r s₃ h₃ => wpAny_bind (wpAny_letTemporaryGo (wpAny_pure h₃))) fun _ _ x => x)
  first
    | exact wpAny_pure (wpAny_bind fin)
    | exact wpAny_bind (wpAny_pure (wpAny_bind fin))
    | exact wpAny_bind fin

theorem dict_typeIs {X : Cx} {pins : List (Addr × Obj)} {σ : St} {H : Hp} {s : Shared} {a : Addr} {y : V} {o : Option V} (I : Inv X pins σ H s) (g : DGet H a y o) : s.TypeIs (.ref a) "dict" := by
  rcases g with ⟨kvs, k, e, _, _⟩ | ⟨kvs, k, b, e, _, _, _⟩
  · obtain ⟨_, _, vs, _, dd⟩ := dk_rd I.hok e
    exact dd.typeIs
  · obtain ⟨_, _, xs, _, dd⟩ := dt_rd I.hok e
    exact dd.typeIs
theorem dict_noDict {X : Cx} {pins : List (Addr × Obj)} {σ : St} {H : Hp} {s : Shared} {a : Addr} {y : V} {o : Option V} (I : Inv X pins σ H s) (g : DGet H a y o) :
    ∀ b, Value.ref a = .ref b → ∃ ob, s.heap.get? b = some ob ∧ ob.dict = none := fun b q => by
  cases q
  rcases g with ⟨kvs, k, e, _, _⟩ | ⟨kvs, k, b, e, _, _, _⟩
  · obtain ⟨_, _, vs, _, ob, _, _, h1, h2, _⟩ := dk_rd I.hok e
    exact ⟨ob, h1, h2.2.1⟩
  · obtain ⟨_, _, xs, _, ob, _, _, h1, h2, _⟩ := dt_rd I.hok e
    exact ⟨ob, h1, h2.2.1⟩

/-- d[y] -/
def tDGet (td ty : TE) : TE := fun σ H Q => td σ H fun x H1 => ty σ H1 fun y H2 => ∃ a v, x = .ref a ∧ DGet H2 a y (some v) ∧ Q v H2
/-- y in d, y not in d -/
def tDIn (ty td : TE) : TE := fun σ H Q => ty σ H fun y H1 => td σ H1 fun x H2 => ∃ a o, x = .ref a ∧ DGet H2 a y o ∧ Q (.bl o.isSome) H2
def tDNotIn (ty td : TE) : TE := fun σ H Q => ty σ H fun y H1 => td σ H1 fun x H2 => ∃ a o, x = .ref a ∧ DGet H2 a y o ∧ Q (.bl (!o.isSome)) H2
/-- d[y] = v -/
def sDPut (td ty tv : TE) : TS := fun D σ H => tv σ H fun v H1 => td σ H1 fun x H2 => ty σ H2 fun y H3 => ∃ a H4, x = .ref a ∧ DPut H3 a y v H4 ∧ D.nx σ H4
/-- d[y] op= v -/
def sDAug (td ty tv : TE) (rd : V → V → Hp → VK → Prop) : TS := fun D σ H => td σ H fun x H1 => ty σ H1 fun y H2 => ∃ a v, x = .ref a ∧ DGet H2 a y (some v) ∧
  tv σ H2 fun y2 H3 => rd v y2 H3 fun z H4 => ∃ H5, DPut H4 a y z H5 ∧ D.nx σ H5
/-- del d[y] -/
def sDDel (td ty : TE) : TS := fun D σ H => td σ H fun x H1 => ty σ H1 fun y H2 => ∃ a kvs k, x = .ref a ∧ H2 a = some (.dK kvs) ∧ y = kV k ∧ (valV kvs k).isSome = true ∧ D.nx σ (upd H2 a (.dK (dropK kvs k)))

section
variable {X : Cx} {o i e value : Expr} {pos pos' tpos : Pos} {td ty tv : TE}
theorem pe_dget (hu : X.A.units + 1 < cLine) (ho : PE X o td) (hi : PE X i ty) (hs : NoSl i) : PE X (.Subscript o i pos) (tDGet td ty) := by
  intro pins s σ H Q I h
  refine subD_of PySem.F.slot_dict_getitem.lookup hs (thn (ho pins s σ H _ I h) fun u s1 ⟨x, H1, I1, rx, q1⟩ => thn (hi pins s1 σ H1 _ I1 q1) fun iv s2 ⟨y, H2, I2, ry, a, v, ex, g, q2⟩ => ?_)
  subst ex
  obtain rfl : u = Value.ref a := rx
  exact ⟨dict_typeIs I2 g, d_getItem hu I2 g ry fun w' s3 I3 rw' => ⟨v, H2, I3, rw', q2⟩⟩
theorem pc_din (hu : X.A.units + 1 < cLine) (hi : PE X i ty) (ho : PE X o td) : PC X .In i o (tDIn ty td) := by
  intro pins s σ H Q I h
  refine thn (hi pins s σ H _ I h) fun iv s1 ⟨y, H1, I1, ry, q1⟩ => thn (ho pins s1 σ H1 _ I1 q1) fun u s2 ⟨x, H2, I2, rx, a, ov, ex, g, q2⟩ => ?_
  subst ex
  obtain rfl : u = Value.ref a := rx
  exact d_in hu I2 g ry fun s3 I3 => ⟨.bl ov.isSome, H2, I3, rfl, q2⟩
theorem pc_dnotin (hu : X.A.units + 1 < cLine) (hi : PE X i ty) (ho : PE X o td) : PC X .NotIn i o (tDNotIn ty td) := by
  intro pins s σ H Q I h
  refine thn (hi pins s σ H _ I h) fun iv s1 ⟨y, H1, I1, ry, q1⟩ => thn (ho pins s1 σ H1 _ I1 q1) fun u s2 ⟨x, H2, I2, rx, a, ov, ex, g, q2⟩ => ?_
  subst ex
  obtain rfl : u = Value.ref a := rx
  exact d_notIn hu I2 g ry fun s3 I3 => ⟨.bl (!ov.isSome), H2, I3, rfl, q2⟩
theorem ps_dput (hu : X.A.units + 1 < cLine) (ho : PE X o td) (hi : PE X i ty) (hv : PE X value tv) (hs : swapsWith value (some (.Subscript o i pos')) pos.line X.env = pure false) :
    PS X (.Assign [.Subscript o i pos'] value pos) (sDPut td ty tv) := by
  intro pins s σ H D I h
  refine wpAny_Assign_Subscript (thn (hv pins s σ H _ I h) fun r s1 ⟨v, H1, I1, rv, q1⟩ => thn (ho pins s1 σ H1 _ I1 q1) fun u s2 ⟨x, H2, I2, rx, q2⟩ => thn (hi pins s2 σ H2 _ I2 q2) fun iv s3 ⟨y, H3, I3, ry, a, H4, ex, g, q3⟩ => ?_) hs
  subst ex
  obtain rfl : u = Value.ref a := rx
  exact d_setItem hu I3 g ry rv fun s4 I4 => ⟨σ, H4, I4, q3⟩
theorem ps_daug {op : Operator} {rd : V → V → Hp → VK → Prop} (hu : X.A.units + 1 < cLine) (ho : PE X o td) (hi : PE X i ty) (hv : PE X value tv) (hop : InOp X op rd)
    (ha : ∀ ov iv new, augStore i ov iv new = (do holding [new, ov, iv] (setItem ov iv new); release [new, ov, iv] []; pure .next)) : PS X (.AugAssign (.Subscript o i tpos) op value pos) (sDAug td ty tv rd) := by
  intro pins s σ H D I h
  refine wpAny_AugAssign_SubscriptAny (thn (ho pins s σ H _ I h) fun u s1 ⟨x, H1, I1, rx, q1⟩ => thn (hi pins s1 σ H1 _ I1 q1) fun iv s2 ⟨y, H2, I2, ry, a, v, ex, g, q2⟩ => ?_) ha
  subst ex
  obtain rfl : u = Value.ref a := rx
  refine d_getItem hu I2 g ry fun w' s3 I3 rw' => thn (hv pins s3 σ H2 _ I3 q2) fun w2 s4 ⟨y2, H3, I4, ry2, q3⟩ => thn (hop pins s4 σ H3 v y2 w' w2 _ I4 rw' ry2 q3) fun w3 s5 ⟨z, H4, I5, rz, H5, g5, q4⟩ => ?_
  exact d_setItem hu I5 g5 ry rz fun s6 I6 => ⟨σ, H5, I6, q4⟩
theorem ps_ddel (ho : PE X o td) (hi : PE X i ty) : PS X (.Delete [.Subscript o i tpos] pos) (sDDel td ty) := by
  intro pins s σ H D I h
  refine wpAny_Delete (wpAny_deleteEach_cons (wpAny_delete_Subscript (thn (ho pins s σ H _ I h) fun u s1 ⟨x, H1, I1, rx, q1⟩ => thn (hi pins s1 σ H1 _ I1 q1) fun iv s2 ⟨y, H2, I2, ry, a, kvs, k, ex, e, ey, l, q2⟩ => ?_)))
  subst ex ey
  obtain rfl : u = Value.ref a := rx
  exact d_delItem I2 e ry l fun s3 I3 => wpAny_deleteEach_nil ⟨σ, _, I3, q2⟩
end


/-! ### displays -/
theorem dk_empty {P : Program} {w : World} {H : Hp} (h : Heap) (hb : sysModules < h.objs.size) : ObjOk P w H (h.push { cls := .type "dict", data := .dict #[] }) h.objs.size (.dK []) :=
  ⟨Nat.zero_le _, beq_eq_false_iff_ne.mpr (Ne.symm (Nat.ne_of_lt hb)), [], .nil, Heap.DictOf.new h⟩
theorem dt_empty {P : Program} {w : World} {H : Hp} (h : Heap) (hb : sysModules < h.objs.size) : ObjOk P w H (h.push { cls := .type "dict", data := .dict #[] }) h.objs.size (.dT []) :=
  ⟨Nat.zero_le _, beq_eq_false_iff_ne.mpr (Ne.symm (Nat.ne_of_lt hb)), [], .nil, _, #[], 0, Heap.get?_push_size _ rfl, ⟨rfl, rfl, rfl⟩, rfl, rfl, List.nodup_nil⟩
/-- {}, to be a dict of the kind that is wanted -/
def tDNewK : TE := fun _ H Q => ∀ p, H p = none → Q (.ref p) (upd H p (.dK []))
def tDNewT : TE := fun _ H Q => ∀ p, H p = none → Q (.ref p) (upd H p (.dT []))
section
variable {X : Cx} {pos : Pos}
theorem pe_dnewK : PE X (.Dict [] [] pos) tDNewK := fun pins s σ H Q I h =>
  wpAny_Dict_empty ⟨.ref s.heap.objs.size, _, I.laid (a := s.heap.objs.size) (o := .dK []) (t' := s.toks) (fun _ _ q => Heap.get?_push_of_some _ q) (Nat.le_refl _) (dk_empty s.heap I.big), rfl, h _ (I.hok.fresh (Nat.le_refl _))⟩
theorem pe_dnewT : PE X (.Dict [] [] pos) tDNewT := fun pins s σ H Q I h =>
  wpAny_Dict_empty ⟨.ref s.heap.objs.size, _, I.laid (a := s.heap.objs.size) (o := .dT []) (t' := s.toks) (fun _ _ q => Heap.get?_push_of_some _ q) (Nat.le_refl _) (dt_empty s.heap I.big), rfl, h _ (I.hok.fresh (Nat.le_refl _))⟩
end

/-- the pairs of a display, from the left -/
def tPairs : List (TE × TE) → St → Hp → (List (V × V) → Hp → Prop) → Prop
  | [], _, H, Q => Q [] H
  | (tk, tv) :: r, σ, H, Q => tk σ H fun x H1 => tv σ H1 fun y H2 => tPairs r σ H2 fun ps H3 => Q ((x, y) :: ps) H3
abbrev VV : List (V × V) → List (Value × Value) → Prop := Paired fun p q => RelV p.1 q.1 ∧ RelV p.2 q.2
def PPs (X : Cx) (pos : Pos) (keys : List (Option Expr)) (values : List Expr) (trs : List (TE × TE)) : Prop :=
  ∀ (pins : List (Addr × Obj)) (s : Shared) (σ : St) (H : Hp) (Q : List (V × V) → Hp → Prop), Inv X pins σ H s → tPairs trs σ H Q →
    wpAny (model X.prog X.w) X.A (evalPairs (pairTrees keys values X.env pos)) (fun vs s' => ∃ ps H', Inv X pins σ H' s' ∧ VV ps vs ∧ Q ps H') X.xe s
theorem pps_nil {X : Cx} {pos : Pos} : PPs X pos [] [] [] := fun pins s σ H Q I h => pairTrees_nil_walk ⟨[], H, I, .nil, h⟩
theorem pps_cons {X : Cx} {pos : Pos} {k v : Expr} {ks : List (Option Expr)} {vs : List Expr} {tk tv : TE} {trs : List (TE × TE)} (hk : PE X k tk) (hv : PE X v tv) (hr : PPs X pos ks vs trs) :
    PPs X pos (some k :: ks) (v :: vs) ((tk, tv) :: trs) := fun pins s σ H Q I h =>
  pairTrees_cons_walk (thn (hk pins s σ H _ I h) fun u s1 ⟨x, H1, I1, rx, q1⟩ => thn (hv pins s1 σ H1 _ I1 q1) fun w2 s2 ⟨y, H2, I2, ry, q2⟩ =>
    thn (hr pins s2 σ H2 _ I2 q2) fun ws s3 ⟨ps, H3, I3, rel, q3⟩ => ⟨(x, y) :: ps, H3, I3, .cons ⟨rx, ry⟩ rel, q3⟩)

def mergeK (kvs more : List (Key × V)) : List (Key × V) := more.foldl (fun acc kv => putK acc kv.1 kv.2) kvs
theorem KV.merge : ∀ {more : List (Key × V)} {rs : List (Key × Value)} {kvs : List (Key × V)} {vs : List (Key × Value)}, KV more rs → KV kvs vs → KV (mergeK kvs more) (merged vs rs) := by
  intro more rs kvs vs r
  unfold KV at r
  induction r generalizing kvs vs with
  | nil => intro q; exact q
  | @cons p q ps qs h t ih =>
    intro r0
    have e : KV (putK kvs p.1 p.2) (stored vs q.1 q.2) := by
      have := r0.put p.1 h.2
      rw [← h.1]; exact this
    exact ih e
theorem length_mergeK : ∀ (more kvs : List (Key × V)), (mergeK kvs more).length ≤ kvs.length + more.length
  | [], kvs => by show kvs.length ≤ kvs.length + 0; omega
  | p :: r, kvs => by
    have h1 := length_mergeK r (putK kvs p.1 p.2)
    have h2 := length_putK kvs p.1 p.2
    show (mergeK (putK kvs p.1 p.2) r).length ≤ _
    rw [List.length_cons]; omega
theorem carries_of {P : Program} {w : World} : ∀ {kvs : List (Key × V)} {ws : List (Value × Value)}, VV (kvs.map fun kv => (kV kv.1, kv.2)) ws → ∃ rs, Carries (mixKind P w) ws rs ∧ KV kvs rs
  | [], _, r => by rw [List.map_nil] at r; cases r; exact ⟨[], True.intro, .nil⟩
  | p :: kvs, _, r => by
    rw [List.map_cons] at r
    cases r with
    | @cons a b as bs h t =>
      obtain ⟨rs, c, q⟩ := carries_of (P := P) (w := w) t
      obtain ⟨b1, b2⟩ := b
      exact ⟨(p.1, b2) :: rs, ⟨kV_is h.1, rfl, c⟩, .cons ⟨rfl, h.2⟩ q⟩
/-- {k: v, ..} with keys ints and texts; the new dict stands empty while the pairs are made -/
def tDisp (trs : List (TE × TE)) : TE := fun σ H Q => ∀ p, H p = none → tPairs trs σ (upd H p (.dK [])) fun ps H2 => H2 p = some (.dK []) ∧ ∃ kvs : List (Key × V), ps = kvs.map (fun kv => (kV kv.1, kv.2)) ∧ kvs.length ≤ 15 ∧ Q (.ref p) (upd H2 p (.dK (mergeK [] kvs)))
theorem pe_disp {X : Cx} {pos : Pos} {keys : List (Option Expr)} {values : List Expr} {trs : List (TE × TE)} (h : PPs X pos keys values trs) (hall : keys.all (·.isSome) = true) (hl : keys.length = values.length) (h0 : keys ≠ [])
    (h15 : keys.length ≤ 15) : PE X (.Dict keys values pos) (tDisp trs) := by
  intro pins s σ H Q I q
  have hn := I.hok.fresh (Nat.le_refl s.heap.objs.size)
  have I1 := I.laid (a := s.heap.objs.size) (o := .dK []) (h' := s.heap.push { cls := .type "dict", data := .dict #[] }) (t' := s.toks) (fun _ _ q => Heap.get?_push_of_some _ q) (Nat.le_refl _) (dk_empty s.heap I.big)
  refine wpAny_Dict_walk (knd := mixKind X.prog X.w) hall hl h0 h15 (thn (h pins _ σ _ _ I1 (q _ hn)) fun ws s2 ⟨ps, H2, I2, rel, e, kvs, ep, lk, q2⟩ => ?_)
  subst ep
  obtain ⟨rs, c, rk⟩ := carries_of (P := X.prog) (w := X.w) rel
  obtain ⟨z, hd, vs0, r0, dd⟩ := dk_of I2.hok e
  cases r0
  refine ⟨rs, c, dd, fun h' dd' hs => ⟨.ref s.heap.objs.size, _, ?_, rfl, q2⟩⟩
  have hz : (mergeK [] kvs).length ≤ sizeLine := by
    have h1 := length_mergeK kvs []
    rw [List.length_nil] at h1
    rw [sizeLine_eq]; omega
  have he : ∃ q, h'.get? s.heap.objs.size = some q := let ⟨q, _, _, hq, _⟩ := dd'; ⟨q, hq⟩
  exact d_write I2 (by rw [e]; exact True.intro) hs he (dk_new hz hd (rk.merge .nil) dd')


/-! ### methods -/
/-- a method call o.m(e) of a built-in, with one argument: what must be seen of the text -/
structure M1 (X : Cx) (o : Expr) (m : Str) (apos : Pos) (e : Expr) (cpos : Pos) : Prop where
  base : attributeBase o m X.env (eval o X.env) = eval o X.env
  few : ((backTo cpos (starEach [e] X.env)).all (fun x => !x.1) && (backToKw cpos (keywordEach [] X.env)).all (fun x => x.1.isSome)
    && decide (([e] : List Expr).length + ([] : List Keyword).length + (if ([] : List Keyword).isEmpty then 0 else 1) < 30)) = true
  line : (apos.endLine == cpos.line) = true
  trees : backTo cpos (starEach [e] X.env) = [(false, eval e X.env)]
structure M2 (X : Cx) (o : Expr) (m : Str) (apos : Pos) (e f : Expr) (cpos : Pos) : Prop where
  base : attributeBase o m X.env (eval o X.env) = eval o X.env
  few : ((backTo cpos (starEach [e, f] X.env)).all (fun x => !x.1) && (backToKw cpos (keywordEach [] X.env)).all (fun x => x.1.isSome)
    && decide (([e, f] : List Expr).length + ([] : List Keyword).length + (if ([] : List Keyword).isEmpty then 0 else 1) < 30)) = true
  line : (apos.endLine == cpos.line) = true
  trees : backTo cpos (starEach [e, f] X.env) = [(false, eval e X.env), (false, eval f X.env)]

/-- a is a dict, whatever its keys -/
def IsD (H : Hp) (a : Addr) : Prop := (∃ kvs, Rd H a (.dK kvs)) ∨ ∃ kvs, Rd H a (.dT kvs)
theorem isD_at {X : Cx} {pins : List (Addr × Obj)} {σ : St} {H : Hp} {s : Shared} {a : Addr} (I : Inv X pins σ H s) (d : IsD H a) :
    s.TypeIs (.ref a) "dict" ∧ (∀ b, Value.ref a = .ref b → ∃ ob, s.heap.get? b = some ob ∧ ob.dict = none) ∧ (a == sysModules) = false := by
  rcases d with ⟨kvs, e⟩ | ⟨kvs, e⟩
  · obtain ⟨_, hd, vs, _, dd⟩ := dk_rd I.hok e
    refine ⟨dd.typeIs, fun b q => ?_, hd⟩
    cases q
    obtain ⟨ob, _, _, h1, h2, _⟩ := dd
    exact ⟨ob, h1, h2.2.1⟩
  · obtain ⟨_, hd, xs, _, dd⟩ := dt_rd I.hok e
    refine ⟨dd.typeIs, fun b q => ?_, hd⟩
    cases q
    obtain ⟨ob, _, _, h1, h2, _⟩ := dd
    exact ⟨ob, h1, h2.2.1⟩

section
variable {X : Cx} {pins : List (Addr × Obj)} {σ : St} {H : Hp} {s : Shared} {a : Addr} {y d : V} {u r : Value} {o : Option V} {A : Around} {E : Value → Shared → Prop}
/-- d.get(y) -/
theorem d_get1 {Q : Value → Shared → Prop} (hu : A.units + 1 < cLine) (I : Inv X pins σ H s) (g : DGet H a y o) (ry : RelV y u) (h : ∀ w' s', Inv X pins σ H s' → RelV (o.getD .non) w' → Q w' s') :
    wpAny (model X.prog X.w) A (call (.builtin "dict.get") [.ref a, u]) Q E s := by
  rcases g with ⟨kvs, k, e, ey, l⟩ | ⟨kvs, k, b, e, ey, eb, l⟩
  · subst ey
    obtain ⟨z, hd, vs, rel, dd⟩ := dk_rd I.hok e
    refine call_meetsIn PySem.F.slot_dict_get dd.typeIs PySem.F.entry_dict_get (PySem.F.args_dict_get_2 _ _) (meets_dict_get (mixKind X.prog X.w) a (kV_is ry) hd) ⟨_, dd.mapOf, h _ _ (I.tok _) ?_⟩
    rw [l]
    exact (rel.val k).getD rfl
  · subst ey
    cases (show u = Value.ref b from ry)
    obtain ⟨z, hd, xs, rel, dd⟩ := dt_rd I.hok e
    refine call_meetsIn PySem.F.slot_dict_get dd.typeIs PySem.F.entry_dict_get (PySem.F.args_dict_get_2 _ _) (meetsH_dict_get (tupleKind (mixKind X.prog X.w)) a b hd) ⟨tupleKind_room_in1 hu, k, xs, key_of I.hok eb, dd, h _ _ (I.tok _) ?_⟩
    rw [l]
    exact (rel.val k).getD rfl
/-- d.get(y, x) -/
theorem d_get2 {Q : Value → Shared → Prop} (hu : A.units + 1 < cLine) (I : Inv X pins σ H s) (g : DGet H a y o) (ry : RelV y u) (rd : RelV d r) (h : ∀ w' s', Inv X pins σ H s' → RelV (o.getD d) w' → Q w' s') :
    wpAny (model X.prog X.w) A (call (.builtin "dict.get") [.ref a, u, r]) Q E s := by
  rcases g with ⟨kvs, k, e, ey, l⟩ | ⟨kvs, k, b, e, ey, eb, l⟩
  · subst ey
    obtain ⟨z, hd, vs, rel, dd⟩ := dk_rd I.hok e
    refine call_meetsIn PySem.F.slot_dict_get dd.typeIs PySem.F.entry_dict_get (PySem.F.args_dict_get_3 _ _ _) (meets_dict_get_default (mixKind X.prog X.w) a (kV_is ry) hd r) ⟨_, dd.mapOf, h _ _ (I.tok _) ?_⟩
    rw [l]
    exact (rel.val k).getD rd
  · subst ey
    cases (show u = Value.ref b from ry)
    obtain ⟨z, hd, xs, rel, dd⟩ := dt_rd I.hok e
    refine call_meetsIn PySem.F.slot_dict_get dd.typeIs PySem.F.entry_dict_get (PySem.F.args_dict_get_3 _ _ _) (meetsH_dict_get_default (tupleKind (mixKind X.prog X.w)) a b hd r) ⟨tupleKind_room_in1 hu, k, xs, key_of I.hok eb, dd, h _ _ (I.tok _) ?_⟩
    rw [l]
    exact (rel.val k).getD rd
end

def tDGet1 (td ty : TE) : TE := fun σ H Q => td σ H fun x H1 => ∃ a, x = .ref a ∧ IsD H1 a ∧ ty σ H1 fun y H2 => ∃ o, DGet H2 a y o ∧ Q (o.getD .non) H2
def tDGet2 (td ty tx : TE) : TE := fun σ H Q => td σ H fun x H1 => ∃ a, x = .ref a ∧ IsD H1 a ∧ ty σ H1 fun y H2 => tx σ H2 fun z H3 => ∃ o, DGet H3 a y o ∧ Q (o.getD z) H3
/-- d.pop(k): there; d.pop(k, x): there or not -/
def tDPop1 (td ty : TE) : TE := fun σ H Q => td σ H fun x H1 => ∃ a, x = .ref a ∧ IsD H1 a ∧ ty σ H1 fun y H2 => ∃ kvs k v, H2 a = some (.dK kvs) ∧ y = kV k ∧ valV kvs k = some v ∧ Q v (upd H2 a (.dK (dropK kvs k)))
def tDPop2 (td ty tx : TE) : TE := fun σ H Q => td σ H fun x H1 => ∃ a, x = .ref a ∧ IsD H1 a ∧ ty σ H1 fun y H2 => tx σ H2 fun z H3 => ∃ kvs k, H3 a = some (.dK kvs) ∧ y = kV k ∧
  (∀ v, valV kvs k = some v → Q v (upd H3 a (.dK (dropK kvs k)))) ∧ (valV kvs k = none → Q z H3)
section
variable {X : Cx} {o e f : Expr} {apos cpos : Pos} {td ty tx : TE}
theorem pe_dget1 (hu : X.A.units + 1 < cLine) (ho : PE X o td) (he : PE X e ty) (m : M1 X o "get" apos e cpos) : PE X (.Call (.Attribute o "get" apos) [e] [] cpos) (tDGet1 td ty) := by
  intro pins s σ H Q I h
  refine wpAny_Call_method m.base m.few m.line PySem.F.plainAttrs_dict PySem.F.slot_dict_get PySem.F.type_dict_get (thn (ho pins s σ H _ I h) fun u s1 ⟨x, H1, I1, rx, a, ex, d, q1⟩ => ?_)
  subst ex
  obtain rfl : u = Value.ref a := rx
  obtain ⟨t1, t2, _⟩ := isD_at I1 d
  refine ⟨t1, t2, ?_⟩
  rw [m.trees]
  refine Calls.callWith_builtin rfl (Calls.evalArgs_plain (Calls.spliced_cons (thn (he pins s1 σ H1 _ I1 q1) fun iv s2 ⟨y, H2, I2, ry, ov, g, q2⟩ => Calls.spliced_nil ?_)))
  exact d_get1 hu I2 g ry fun w' s3 I3 rw' => ⟨_, H2, I3, rw', q2⟩
theorem pe_dget2 (hu : X.A.units + 1 < cLine) (ho : PE X o td) (he : PE X e ty) (hf : PE X f tx) (m : M2 X o "get" apos e f cpos) : PE X (.Call (.Attribute o "get" apos) [e, f] [] cpos) (tDGet2 td ty tx) := by
  intro pins s σ H Q I h
  refine wpAny_Call_method m.base m.few m.line PySem.F.plainAttrs_dict PySem.F.slot_dict_get PySem.F.type_dict_get (thn (ho pins s σ H _ I h) fun u s1 ⟨x, H1, I1, rx, a, ex, d, q1⟩ => ?_)
  subst ex
  obtain rfl : u = Value.ref a := rx
  obtain ⟨t1, t2, _⟩ := isD_at I1 d
  refine ⟨t1, t2, ?_⟩
  rw [m.trees]
  refine Calls.callWith_builtin rfl (Calls.evalArgs_plain (Calls.spliced_cons (thn (he pins s1 σ H1 _ I1 q1) fun iv s2 ⟨y, H2, I2, ry, q2⟩ =>
    Calls.spliced_cons (thn (hf pins s2 σ H2 _ I2 q2) fun fv s3 ⟨z, H3, I3, rz, ov, g, q3⟩ => Calls.spliced_nil ?_))))
  exact d_get2 hu I3 g ry rz fun w' s4 I4 rw' => ⟨_, H3, I4, rw', q3⟩
theorem pe_dpop1 (ho : PE X o td) (he : PE X e ty) (m : M1 X o "pop" apos e cpos) : PE X (.Call (.Attribute o "pop" apos) [e] [] cpos) (tDPop1 td ty) := by
  intro pins s σ H Q I h
  refine wpAny_Call_method m.base m.few m.line PySem.F.plainAttrs_dict PySem.F.slot_dict_pop PySem.F.type_dict_pop (thn (ho pins s σ H _ I h) fun u s1 ⟨x, H1, I1, rx, a, ex, d, q1⟩ => ?_)
  subst ex
  obtain rfl : u = Value.ref a := rx
  obtain ⟨t1, t2, _⟩ := isD_at I1 d
  refine ⟨t1, t2, ?_⟩
  rw [m.trees]
  refine Calls.callWith_builtin rfl (Calls.evalArgs_plain (Calls.spliced_cons (thn (he pins s1 σ H1 _ I1 q1) fun iv s2 ⟨y, H2, I2, ry, kvs, k, v, ea, ey, l, q2⟩ => Calls.spliced_nil ?_)))
  subst ey
  exact d_pop I2 ea ry l (.inl rfl) fun w' s3 I3 rw' => ⟨v, _, I3, rw', q2⟩
theorem pe_dpop2 (ho : PE X o td) (he : PE X e ty) (hf : PE X f tx) (m : M2 X o "pop" apos e f cpos) : PE X (.Call (.Attribute o "pop" apos) [e, f] [] cpos) (tDPop2 td ty tx) := by
  intro pins s σ H Q I h
  refine wpAny_Call_method m.base m.few m.line PySem.F.plainAttrs_dict PySem.F.slot_dict_pop PySem.F.type_dict_pop (thn (ho pins s σ H _ I h) fun u s1 ⟨x, H1, I1, rx, a, ex, d, q1⟩ => ?_)
  subst ex
  obtain rfl : u = Value.ref a := rx
  obtain ⟨t1, t2, _⟩ := isD_at I1 d
  refine ⟨t1, t2, ?_⟩
  rw [m.trees]
  refine Calls.callWith_builtin rfl (Calls.evalArgs_plain (Calls.spliced_cons (thn (he pins s1 σ H1 _ I1 q1) fun iv s2 ⟨y, H2, I2, ry, q2⟩ =>
    Calls.spliced_cons (thn (hf pins s2 σ H2 _ I2 q2) fun fv s3 ⟨z, H3, I3, rz, kvs, k, ea, ey, q3, q4⟩ => Calls.spliced_nil ?_))))
  subst ey
  cases l : valV kvs k with
  | some v => exact d_pop I3 ea ry l (.inr ⟨fv, rfl⟩) fun w' s4 I4 rw' => ⟨v, _, I4, rw', q3 v l⟩
  | none => exact d_popD I3 ea ry l fun s4 I4 => ⟨z, H3, I4, rz, q4 l⟩
end

/-! ### dict(d): a copy -/
section
variable {X : Cx} {pins : List (Addr × Obj)} {σ : St} {H : Hp} {s : Shared} {a : Addr} {kvs : List (Key × V)} {A : Around} {E : Value → Shared → Prop}
theorem d_copyOf {Q : Value → Shared → Prop} (I : Inv X pins σ H s) (e : Rd H a (.dK kvs)) (h : ∀ p s', H p = none → Inv X pins σ (upd H p (.dK kvs)) s' → Q (.ref p) s') : wpAny (model X.prog X.w) A (call (.type "dict") [.ref a]) Q E s := by
  obtain ⟨z, hd, vs, rel, dd⟩ := dk_rd I.hok e
  refine kt_call_dict hd dd (by rw [← rel.length]; exact z) fun h' dd' hs => ?_
  refine h _ _ (I.hok.fresh (Nat.le_refl _)) (I.laid (a := s.heap.objs.size) (o := .dK kvs) (t' := s.toks) (fun b q hq => ?_) (Nat.le_refl _) (dk_new z (beq_eq_false_iff_ne.mpr (Ne.symm (Nat.ne_of_lt I.big))) rel dd'))
  exact (hs.2 b (Nat.ne_of_lt (Heap.lt_size hq))).trans (Heap.get?_push_of_some _ hq)
end


section
variable {X : Cx} {pins : List (Addr × Obj)} {σ : St} {H : Hp} {s : Shared} {a : Addr} {y : V} {u : Value} {A : Around} {E : Value → Shared → Prop}
/-- d[y], not there: a KeyError -/
theorem d_missing {Q : Value → Shared → Prop} (hu : A.units + 1 < cLine) (hh : A.handled = none) (I : Inv X pins σ H s) (g : DGet H a y none) (ry : RelV y u)
    (h : ∀ h' e t', Heap.NewExc s.heap h' e "KeyError" → E (.ref e) { s with heap := h', toks := t' }) : wpAny (model X.prog X.w) A (getItem (.ref a) u) Q E s := by
  rcases g with ⟨kvs, k, e, ey, l⟩ | ⟨kvs, k, b, e, ey, eb, l⟩
  · subst ey
    obtain ⟨z, hd, vs, rel, dd⟩ := dk_rd I.hok e
    have hn : valueAt vs k = none := RelO.none_of (by rw [l]; exact rel.val k)
    exact wpAny_getItem_missing_of (kV_is ry) hd hh dd.mapOf hn fun h' ex ne => h h' ex _ ne
  · subst ey
    cases (show u = Value.ref b from ry)
    obtain ⟨z, hd, xs, rel, dd⟩ := dt_rd I.hok e
    have hn : (atKey xs k).map (·.2) = none := RelO.none_of (by rw [l]; exact rel.val k)
    exact wpAny_getItem_missing_heap (tupleKind_room_in1 hu) (key_of I.hok eb) hd hh dd (Option.map_eq_none_iff.mp hn) fun h' ex ne => h h' ex _ ne
end
end L2
namespace L2
open PySem PySem.Spec PyProof.Rows
/-! ### a dict's pairs: keys that differ -/
section
variable {κ : Type} [DecidableEq κ]
theorem valV_not {kvs : List (κ × V)} {k : κ} (h : valV kvs k = none) : ¬ k ∈ kvs.map (·.1) := by
  intro m
  obtain ⟨p, hp, e⟩ := List.mem_map.mp m
  have q : (kvs.any fun kv => decide (kv.1 = k)) = true := List.any_eq_true.mpr ⟨p, hp, decide_eq_true e⟩
  rw [valV_any, h] at q
  exact absurd q (by simp)
theorem valV_in {kvs : List (κ × V)} {k : κ} {v : V} (h : valV kvs k = some v) : k ∈ kvs.map (·.1) := by
  have q : (kvs.any fun kv => decide (kv.1 = k)) = true := by
    rw [valV_any, h]
    all_goals rfl
  obtain ⟨p, hp, e⟩ := List.any_eq_true.mp q
  exact List.mem_map.mpr ⟨p, hp, of_decide_eq_true e⟩
theorem nd_snoc : ∀ {l : List κ} {k : κ}, l.Nodup → ¬ k ∈ l → (l ++ [k]).Nodup
  | [], k, _, _ => by simp
  | a :: r, k, h, hk => by
    obtain ⟨h1, h2⟩ := List.nodup_cons.mp h
    show (a :: (r ++ [k])).Nodup
    refine List.nodup_cons.mpr ⟨fun m => ?_, nd_snoc h2 fun m => hk (List.mem_cons.mpr (Or.inr m))⟩
    rcases List.mem_append.mp m with q | q
    · exact h1 q
    · exact hk (List.mem_cons.mpr (Or.inl (List.mem_singleton.mp q).symm))
theorem nd_putK {kvs : List (κ × V)} {k : κ} (v : V) (hn : (kvs.map (·.1)).Nodup) (h : valV kvs k = none) : ((putK kvs k v).map (·.1)).Nodup := by
  rw [putK_new v h, List.map_append]
  exact nd_snoc hn (valV_not h)
theorem dropK_pos {p : κ × V} {r : List (κ × V)} {k : κ} (e : p.1 = k) : dropK (p :: r) k = dropK r k := by
  unfold dropK
  rw [List.filter_cons, if_neg (by simp [e])]
theorem dropK_neg {p : κ × V} {r : List (κ × V)} {k : κ} (e : ¬ p.1 = k) : dropK (p :: r) k = p :: dropK r k := by
  unfold dropK
  rw [List.filter_cons, if_pos (by simp [e])]
theorem dropK_no : ∀ {kvs : List (κ × V)} {k : κ}, ¬ k ∈ kvs.map (·.1) → dropK kvs k = kvs
  | [], _, _ => rfl
  | p :: r, k, h => by
    have h' : ¬ k ∈ r.map (·.1) := fun m => by
      obtain ⟨q, hq, e⟩ := List.mem_map.mp m
      exact h (List.mem_map.mpr ⟨q, List.mem_cons.mpr (Or.inr hq), e⟩)
    rw [dropK_neg fun e => h (List.mem_map.mpr ⟨p, List.mem_cons.mpr (Or.inl rfl), e⟩), dropK_no h']
theorem dropK_mem {kvs : List (κ × V)} {k : κ} {p : κ × V} (h : p ∈ dropK kvs k) : p ∈ kvs := (List.mem_filter.mp h).1
theorem nd_dropK : ∀ {kvs : List (κ × V)} {k : κ}, (kvs.map (·.1)).Nodup → ((dropK kvs k).map (·.1)).Nodup
  | [], _, _ => List.nodup_nil
  | p :: r, k, h => by
    have h : (p.1 :: r.map (·.1)).Nodup := h
    obtain ⟨h1, h2⟩ := List.nodup_cons.mp h
    by_cases e : p.1 = k
    · rw [dropK_pos e]
      exact nd_dropK h2
    · rw [dropK_neg e]
      show (p.1 :: (dropK r k).map (·.1)).Nodup
      refine List.nodup_cons.mpr ⟨fun m => h1 ?_, nd_dropK h2⟩
      obtain ⟨q, hq, eq⟩ := List.mem_map.mp m
      exact List.mem_map.mpr ⟨q, dropK_mem hq, eq⟩
theorem dropK_len : ∀ {kvs : List (κ × V)} {k : κ}, (kvs.map (·.1)).Nodup → k ∈ kvs.map (·.1) → (dropK kvs k).length + 1 = kvs.length
  | [], _, _, m => by simp at m
  | p :: r, k, h, m => by
    have h : (p.1 :: r.map (·.1)).Nodup := h
    have m : k = p.1 ∨ k ∈ r.map (·.1) := List.mem_cons.mp m
    obtain ⟨h1, h2⟩ := List.nodup_cons.mp h
    by_cases e : p.1 = k
    · subst e
      rw [dropK_pos rfl, dropK_no h1]
      all_goals rfl
    · have m' : k ∈ r.map (·.1) := m.resolve_left fun z => e z.symm
      have q := dropK_len h2 m'
      rw [dropK_neg e, List.length_cons, List.length_cons]
      omega
end
end L2
set_option Elab.async false
set_option linter.all false
set_option maxRecDepth 100000
set_option maxHeartbeats 4000000
/-! ### enumerate(l, start=1) -/
namespace L2
open PySem PySem.Spec PyProof.Rows
abbrev kw1 (t : Tok) : List (Str × Value) := [(Str.ofString "start", .int 1 t)]
theorem en_type (a : Value) (t : Tok) : checkTypeCall "enumerate" ⟨[a], kw1 t⟩ = pure () := by kernel_rfl
theorem en_new (a : Value) (t : Tok) : checkBuiltinCall "enumerate.__new__" ⟨[.type "enumerate", a], kw1 t⟩ = pure () := by kernel_rfl
theorem en_init (o a : Value) (t : Tok) : argsOk "object.__init__" ⟨[o, a], kw1 t⟩ := by kernel_rfl
abbrev liAt (l : Addr) : Obj := { cls := .type "list_iterator", data := .fields #[.ref l, .int 0 0] }
abbrev enAt (it : Addr) (n : Int) : Obj := { cls := .type "enumerate", data := .fields #[.none, .bool false, .ref it, rawInt n, .none, .none] }
theorem en_meets (l : Addr) (items : Array Value) (n : Nat) (dct : Option Addr) (sl : Array (Option Value)) (t : Tok) :
    Meets (Builtin.«enumerate.__new__» ⟨[.type "enumerate", .ref l], kw1 t⟩) (fun _ R s => s.heap.get? l = some { cls := .type "list", dict := dct, data := .seq items n, slots := sl } ∧
      R (.ok (.ret (.ref (s.heap.push (liAt l)).objs.size))) { s with heap := (s.heap.push (liAt l)).push (enAt s.heap.objs.size 1) }) :=
  .of_wp fun prog w A R s hh => by
    obtain ⟨hp, gg, dd, tk, os⟩ := s
    obtain ⟨hl, hR⟩ := hh
    have hsub := sub_enumerate
    have hL : Heap.IsList (Shared.heap ⟨hp, gg, dd, tk, os⟩) l items := ⟨_, hl, rfl, n, rfl⟩
    wp_walk using AutoSeq1.wpAny_loadPart' hl
    refine wpAny_stack_any fun st => ?_
    refine wpAny_pure ?_
    split
    · rename_i c _ _ _ _ _
      cases (c == Value.type "enumerate") <;>
      · wp_walk using AutoSeq1.wpAny_loadPart' hl, wpAny_pyIter_list hL
        exact ⟨_, rfl, hR⟩
    · wp_walk using AutoSeq1.wpAny_loadPart' hl, wpAny_pyIter_list hL
      exact ⟨_, rfl, hR⟩
section
variable {prog : Program} {w : World} {A : Around} {E : Value → Shared → Prop} {s : Shared}
theorem en_init_meets {me a : Value} {t : Tok} : Meets (Builtin.«object.__init__» ⟨[me, a], kw1 t⟩) (fun _ R s => s.TypeIs me "enumerate" ∧ R (.ok (.ret .none)) s) := by
  have l1 := F.called_enumerate.init.lookup
  have l2 := F.called_enumerate.made
  refine Meets.of_wp fun _ _ _ _ _ z => ?_
  obtain ⟨z1, z2⟩ := z
  repeat (any_goals (first | assumption | wp_step))
  exact ⟨_, rfl, z2⟩
theorem call_enum1 {l : Addr} {items : Array Value} {t : Tok} {Q : Value → Shared → Prop} (hL : s.heap.IsList l items)
    (hq : ∀ h', IsEnum h' (s.heap.objs.size + 1) s.heap.objs.size 1 .none → h'.IsListIter s.heap.objs.size l 0 → h'.objs.size = s.heap.objs.size + 2 → (∀ b u, s.heap.get? b = some u → h'.get? b = some u) → Q (.ref (s.heap.objs.size + 1)) { s with heap := h' }) :
    wpAny (model prog w) A (call (.type "enumerate") [.ref l] (kw1 t)) Q E s := by
  obtain ⟨⟨c, dct, dt, sl⟩, hl, hc, n, hd⟩ := hL
  have hc' : c = .type "list" := hc
  have hd' : dt = .seq items n := hd
  subst hc' hd'
  have ft := F.called_enumerate
  obtain ⟨c0, tl0, m0⟩ := ft.mro
  have m1 := ft.made
  have m2 := ft.sub
  have m3 := en_type (.ref l) t
  have m4 := ft.notType
  have m5 := ft.canCreate
  refine wpAny_call (codeAny_of_tree ?_)
  show wpAny _ _ (callAny (.type "enumerate") _) _ _ _
  refine wpAny_pure ⟨Code.quiet_builtin _ (by decide +kernel), ?_⟩
  refine codeAny_builtin F.entry_type_call ?_
  rw [Around.under_plain (weight_type_call_type "enumerate" [.ref l] (kw1 t)) (units_type_call_type "enumerate" [.ref l] (kw1 t))]
  repeat (any_goals (first | assumption | wp_step))
  have hz : (s.heap.push (liAt l)).objs.size = s.heap.objs.size + 1 := Heap.size_push ..
  have he : IsEnum ((s.heap.push (liAt l)).push (enAt s.heap.objs.size 1)) (s.heap.objs.size + 1) s.heap.objs.size 1 .none := by
    have z := Heap.get?_push_size (s.heap.push (liAt l)) (o := enAt s.heap.objs.size 1) rfl
    rw [hz] at z
    exact z
  refine codeAny_mono (codeAny_call_builtin (R := wants (fun v s1 => v = .ref (s.heap.objs.size + 1) ∧ s1 = { s with heap := (s.heap.push (liAt l)).push (enAt s.heap.objs.size 1) }) E) ft.plain F.entry_enumerate_new (wpAny_of_eq (en_new (.ref l) t) (en_meets l items n dct sl t prog w A.in1 _ s ⟨hl, ⟨by rw [hz], rfl⟩⟩))) fun r s1 hr => ?_
  cases r with
  | error e => exact hr
  | ok fl =>
    cases fl with
    | ret v =>
      obtain ⟨rfl, rfl⟩ := hr
      have hT : Shared.TypeIs { s with heap := (s.heap.push (liAt l)).push (enAt s.heap.objs.size 1) } (.ref (s.heap.objs.size + 1)) "enumerate" := ⟨_, he, rfl⟩
      have n1 := ft.init.lookup
      have n2 := ft.init.bind (.ref (s.heap.objs.size + 1))
      repeat (any_goals (first | assumption | wp_step))
      refine codeAny_mono (codeAny_call_builtin (R := wants (fun v s2 => v = .none ∧ s2 = { s with heap := (s.heap.push (liAt l)).push (enAt s.heap.objs.size 1) }) E) ft.init.plain F.entry_object_init (ft.init.check _ _ _ _ _ _ _ _ hT (en_init _ _ t) (en_init_meets prog w A.in1 _ _ ⟨hT, rfl, rfl⟩))) fun r2 s2 hr2 => ?_
      cases r2 with
      | error e => exact hr2
      | ok fl2 =>
        cases fl2 with
        | ret v2 =>
          obtain ⟨rfl, rfl⟩ := hr2
          have fin := hq _ he ⟨_, Heap.get?_push_of_some _ (Heap.get?_push_size _ rfl), rfl, rfl⟩ (by rw [Heap.size_push, hz]) fun b u z => Heap.get?_push_of_some _ (Heap.get?_push_of_some _ z)
          repeat (any_goals (first | assumption | wp_step))
        | _ => exact hr2.elim
    | _ => exact hr.elim
end
theorem drawsUp {prog : Program} {w : World} {A : Around} {it : Addr} {fp : List Addr} {n : Nat} {P : Nat → Value → Prop} {St : Nat → Heap → Prop} (D : Draws prog w A it fp n P St) : Draws prog w A it fp (n + 1) (fun j x => P (j - 1) x) (fun j h => 1 ≤ j ∧ St (j - 1) h) where
  live := fun i h z => D.live (i - 1) h z.2
  frame := fun i h h' z k => ⟨z.1, D.frame (i - 1) h h' z.2 k⟩
  item := fun i s Q E hi z hQ => D.item (i - 1) s Q E (by have := z.1; omega) z.2 fun x h' tk hP hS same => hQ x h' tk hP ⟨by omega, by rw [show i + 1 - 1 = i - 1 + 1 by have := z.1; omega]; exact hS⟩ same
  done := fun s Q E z hE => D.done s Q E z.2 hE
/-- the list at a, each item with its number, from 1 on -/
def Ite1 (K : PySem.W.Frag) (a : Addr) : It :=
  ⟨fun i H => ∃ xs x, SqL K H a xs ∧ xs[i]? = some x, fun i H x H' => ∃ T v, x = .ref T ∧ H T = none ∧ H' = upd H T (.tup [.int ((i : Int) + 1), v]) ∧ ∀ xs, SqL K H a xs → xs[i]? = some v, fun i H => ∃ xs, SqL K H a xs ∧ xs.length = i⟩
theorem turn_enum1 {P : Program} {w : World} {K : PySem.W.Frag} {elts : List Expr} {k : Nat} {tp : Pos} (a it e : Addr) (hei : e ≠ it) : Turn P w K (.Tuple elts k tp) (Ite1 K a) [e, it] e (fun i h => (∃ old, IsEnum h e it ((i + 1 : Nat) : Int) old) ∧ h.IsListIter it a i) where
  mem := by simp
  obj := fun i h st b hb => by
    obtain ⟨⟨old, he⟩, hi⟩ := st
    rcases List.mem_cons.mp hb with z | hb
    · subst z
      exact ⟨_, he, fun v z => by
        have z' : Data.fields _ = Data.cell v := z
        cases z'⟩
    · have z : b = it := by simpa using hb
      subst z
      obtain ⟨o, e, c, d⟩ := hi
      exact ⟨o, e, fun v z => by rw [d] at z; cases z⟩
  keep := fun i h h' st kk => by
    obtain ⟨⟨old, he⟩, hi⟩ := st
    exact ⟨⟨old, kk e (by simp) _ he⟩, hi.at fun o z => kk it (by simp) o z⟩
  item := by
    intro X hP hw hK hc i pins s σ H E I hf st hg
    subst hP hw hK
    obtain ⟨⟨old, he⟩, hi⟩ := st
    obtain ⟨xs, x, hq, hx⟩ := hg
    obtain ⟨its, rv, p, hz⟩ := I.list hq
    obtain ⟨u, hu, ru⟩ := rv.get hx
    have hil : i < its.toArray.size := by
      have := (List.getElem?_eq_some_iff.mp hu).1
      simpa using this
    have hai : a ≠ it := fun z => by
      obtain ⟨o, ho, hc', _⟩ := hi
      obtain ⟨o2, ho2, hc2, _⟩ := p.isList
      rw [z, ho] at ho2
      cases ho2
      rw [hc'] at hc2
      exact absurd hc2 (by decide)
    have hea : e ≠ a := fun z => by
      obtain ⟨o2, ho2, hc2, _⟩ := p.isList
      have he2 : s.heap.get? e = some _ := he
      rw [← z, he2] at ho2
      cases ho2
      have hc2 : Value.type "enumerate" = Value.type "list" := hc2
      exact absurd hc2 (by decide)
    have D := drawsUp (Draws.list (prog := X.prog) (w := X.w) (A := X.A.in1) (I.ok.hd hc) it a hai its.toArray)
    refine wpAny_pyNext_enum_itemD (i := i + 1) D he ⟨Nat.succ_le_succ (Nat.zero_le _), hi, p.isList⟩ (Nat.succ_lt_succ hil) hei (by simp [hei, hea]) fun y h1 tk hy hout hst hT hsz hk => ?_
    have ey : y = u := by
      have q : its.toArray[i]? = some y := hy
      have q2 : its.toArray[i]? = some u := by simpa using hu
      rw [q2] at q
      exact (Option.some.inj q).symm
    subst ey
    refine ⟨_, rfl, ?_⟩
    refine wpAny_letOwnedTupleGo_enum hout fun h2 he2 hs2 => ?_
    have hTe : s.heap.objs.size ≠ e := fun z => absurd (Heap.lt_size he) (by rw [← z]; exact Nat.lt_irrefl _)
    have keep : ∀ b o, b ∉ [e, it] → s.heap.get? b = some o → h2.get? b = some o := fun b o hb q => by
      have h1' : b ≠ e := fun z => hb (by simp [z])
      have h2' : b ≠ it := fun z => hb (by simp [z])
      exact (hs2.2 b h1').trans (hk b o h1' h2' q)
    have hT2 : h2.get? s.heap.objs.size = some { cls := .type "tuple", data := .seq #[.int ((i + 1 : Nat) : Int) tk, y] } := (hs2.2 _ hTe).trans hT
    refine ⟨.ref s.heap.objs.size, upd H s.heap.objs.size (.tup [.int ((i : Int) + 1), x]), I.turnedNew (tk := tk + 1) keep hf (Nat.le_refl _) ⟨_, hT2⟩ ?_, rfl, ⟨_, x, rfl, I.hok.fresh (Nat.le_refl _), rfl, fun ys hys => by rw [I.list_inj hys hq]; exact hx⟩, ⟨⟨_, by simpa using he2⟩, ?_⟩, fun b hb => ?_⟩
    · exact ⟨by show 2 ≤ sizeLine; decide, [.int ((i + 1 : Nat) : Int) tk, y], .cons ⟨_, rfl⟩ (.cons ru .nil), ⟨_, hT2, rfl, _, rfl⟩⟩
    · exact hst.2.1.at fun o z => (hs2.2 it (Ne.symm hei)).trans z
    · have hbn := (hf b hb).1
      rw [upd_ne]
      · exact hbn
      · intro z
        rcases List.mem_cons.mp hb with q | hb
        · exact hTe (z ▸ q)
        · have q : b = it := by simpa using hb
          obtain ⟨o, ho, _⟩ := hi
          have := Heap.lt_size ho
          rw [← q, z] at this
          exact absurd this (Nat.lt_irrefl _)
  done := by
    intro X hP hw hK hc i pins s σ H E I hf st hg
    subst hP hw hK
    obtain ⟨⟨old, he⟩, hi⟩ := st
    obtain ⟨xs, hq, hx⟩ := hg
    obtain ⟨its, rv, p, hz⟩ := I.list hq
    have hl := rv.length
    have hai : a ≠ it := fun z => by
      obtain ⟨o, ho, hc', _⟩ := hi
      obtain ⟨o2, ho2, hc2, _⟩ := p.isList
      rw [z, ho] at ho2
      cases ho2
      rw [hc'] at hc2
      exact absurd hc2 (by decide)
    have D := Draws.list (prog := X.prog) (w := X.w) (A := X.A.in1) (I.ok.hd hc) it a hai its.toArray
    have hsz : its.toArray.size = i := by simp; omega
    refine wpAny_pyNext_enum_endD D he ⟨by rw [hsz]; exact hi, p.isList⟩ fun h1 hx1 => ⟨rfl, ?_⟩
    exact I.turnedMany (ch := [e, it]) (tk := s.toks) (fun b o hb q => hx1 b o (fun z => hb (by simp [z])) q) hf
  self := fun _ _ _ _ _ st h => by
    obtain ⟨⟨old, he⟩, _⟩ := st
    exact wpAny_pyIter_enum he h

section
variable {M : Model} {A : Around} {E : Value → Shared → Prop} {s : Shared}
theorem kw_type {pos : Pos} {T : String} {as : List (Bool × Sem Value)} {ks : List (Option Str × Sem Value)} {Q : Value → Shared → Prop} (h1 : as.any (·.1) = false) (h2 : ks.any (·.1.isNone) = false)
    (h : wpAny M A (evalArgs (.type T) true as ks) (fun a s1 => wpAny M A (call (.type T) a.pos a.kw) Q E s1) E s) : wpAny M A (callWith pos (.type T) [] as ks) Q E s := by
  unfold callWith
  refine wpAny_bind ?_
  refine wpAny_holding (wpAny_mono h (fun a s1 z => ?_) fun _ _ z => z)
  refine wpAny_bind (wpAny_standAt ?_)
  simp only [h1, h2, Bool.or_false]
  refine wpAny_bind (wpAny_pure ?_)
  refine wpAny_bind ?_
  exact wpAny_mono z (fun r s2 q => wpAny_bind (wpAny_holding (wpAny_point (wpAny_pure q)))) fun _ _ q => q
end
section
variable {X : Cx} {elts : List Expr} {k : Nat} {tp : Pos} {K : PySem.W.Frag}
def iEnum1 (K : PySem.W.Frag) (ta : TA) : TI := fun σ H R => ta σ H fun vs H1 => ∃ a, vs = [.ref a] ∧ (∃ xs, SqL K H1 a xs) ∧ R (Ite1 K a) H1
theorem pi_enum1 {l : Expr} {ta : TA} {p pos cp kp : Pos} {j : Nat} (hg : Gl X "enumerate") (hm : X.mg "enumerate" = none) (ha : PA X [l] ta) (hs : starEach [l] X.env = [(false, eval l X.env)] := by rfl) (hK : X.K = K := by rfl) :
    PI X (.Tuple elts k tp) (.Call (.Name "enumerate" p) [l] [⟨some (Str.ofString "start"), .Constant (.int 1) j cp, kp⟩] pos) (iEnum1 K ta) := by
  subst hK
  intro pins s σ H R I h
  refine wpAny_Call_Name_kw (ld_blt I hg hm boot_enumerate ?_)
  have hkw : keywordEach [⟨some (Str.ofString "start"), .Constant (.int 1) j cp, kp⟩] X.env = [(some (Str.ofString "start"), eval (.Constant (.int 1) j cp) X.env)] := by rfl
  rw [hkw]
  refine kw_type (by rw [hs]; rfl) rfl ?_
  rw [hs]
  refine evalArgs_kw (by rfl) ?_
  have hs' : backTo pos [(false, eval l X.env)] = backTo pos (starEach [l] X.env) := by rw [hs]
  show wpAny _ _ (spliced (backTo pos [(false, eval l X.env)])) _ _ _
  rw [hs']
  refine thn (ha pos pins s σ H _ I h) fun us s1 ⟨vs, H1, I1, r1, q1⟩ => ?_
  obtain ⟨a, e, ⟨xs, hq⟩, q⟩ := q1
  subst e
  obtain ⟨u, rfl, r⟩ := vals1 r1
  cases r
  show wpAny _ _ (evalAll [do let v ← eval (.Constant (.int 1) j cp) X.env; standAt pos; pure v]) _ _ _
  refine wpAny_bind ?_
  refine wpAny_bind ?_
  refine thn (pe_int (X := X) pins s1 σ H1 (fun v H2 => v = .int 1 ∧ H2 = H1) I1 ⟨rfl, rfl⟩) fun v s2 ⟨x, H2, I2, r2, q2⟩ => ?_
  obtain ⟨rfl, rfl⟩ := q2
  obtain ⟨t, rfl⟩ := r2
  refine wpAny_bind (wpAny_standAt (wpAny_pure ?_))
  refine wpAny_bind (wpAny_holding ?_)
  show wpAny _ _ (pure []) _ _ _
  refine wpAny_pure (wpAny_pure ?_)
  show wpAny _ _ (call (.type "enumerate") [.ref a] (kw1 t)) _ _ _
  obtain ⟨its, rv, pl, hz⟩ := I2.list hq
  refine call_enum1 pl.isList fun h1 he hit hsz hk => ?_
  refine wpAny_pyIter_enum he ?_
  refine ⟨s2.heap.objs.size + 1, [s2.heap.objs.size + 1, s2.heap.objs.size], _, _, _, rfl, I2.kept (t' := s2.toks) hk, turn_enum1 a s2.heap.objs.size (s2.heap.objs.size + 1) (Nat.succ_ne_self _), ⟨⟨_, he⟩, hit⟩, fun b hb => ?_, q⟩
  have hb : s2.heap.objs.size ≤ b := by
    rcases List.mem_cons.mp hb with z | hb
    · rw [z]; exact Nat.le_succ _
    · have z : b = s2.heap.objs.size := by simpa using hb
      rw [z]; exact Nat.le_refl _
  exact I2.fpOk hb (I2.hok.fresh hb)
end
/-- for i, x in enumerate(xs, start=1), where the body leaves xs as it is -/
theorem for_enum1 {K : PySem.W.Frag} {a : Addr} {xs : List V} {g : TG} {tb : TS} {D : Ends} {σ : St} {H : Hp} (Pv : Nat → St → Hp → Prop) (h0 : Pv 0 σ H) (hl : ∀ i σ H, i ≤ xs.length → Pv i σ H → SqL K H a xs)
    (hs : ∀ i x σ H T, xs[i]? = some x → Pv i σ H → H T = none → g (.ref T) σ (upd H T (.tup [.int ((i : Int) + 1), x])) fun σ2 H2 => tb { D with nx := Pv (i + 1), ct := Pv (i + 1), bk := D.nx } σ2 H2) (hd : ∀ σ H, Pv xs.length σ H → D.nx σ H) :
    ∃ W : Nat → Nat → St → Hp → Prop, (∃ m, W 0 m σ H) ∧ ∀ i m σ H, W i m σ H →
      ((Ite1 K a).stop i H ∧ D.nx σ H) ∨ ((Ite1 K a).go i H ∧ ∃ N : St → Hp → Prop, (∀ σ' H', N σ' H' → ∃ m', m' < m ∧ W (i + 1) m' σ' H') ∧ ∀ x H', (Ite1 K a).yld i H x H' → g x σ H' fun σ2 H2 => tb { D with nx := N, ct := N, bk := D.nx } σ2 H2) := by
  refine ⟨fun i m σ H => m = xs.length - i ∧ i ≤ xs.length ∧ Pv i σ H, ⟨xs.length, by simp, Nat.zero_le _, h0⟩, ?_⟩
  rintro i m σ H ⟨rfl, hi, p⟩
  have q := hl i σ H hi p
  by_cases hlt : i < xs.length
  · refine .inr ⟨⟨xs, xs[i], q, by simp [hlt]⟩, Pv (i + 1), fun σ' H' p' => ⟨xs.length - (i + 1), by omega, rfl, hlt, p'⟩, fun x H' y => ?_⟩
    obtain ⟨T, v, rfl, hT, rfl, y⟩ := y
    exact hs i v σ H T (y xs q) p hT
  · have : i = xs.length := by omega
    subst this
    exact .inl ⟨⟨xs, q, rfl⟩, hd σ H p⟩
end L2
set_option Elab.async false
set_option linter.all false
set_option maxRecDepth 100000
set_option maxHeartbeats 4000000
namespace L2
open PySem PySem.Spec PyProof.Rows
/-! ### a comprehension whose items are values that come to be on the way -/
section
variable {K : PySem.W.Frag} {a : Addr} {xs : List V} {x : Str} {caps : List Nat} {g : TG} {tt : TT} {te : TE} {σ : St} {H : Hp} {Q : VK}
theorem comp_it {J : It} {n : Nat} {item : Nat → V → Prop} (Pv : Addr → Nat → List V → Hp → Prop) (hn : n ≤ sizeLine) (h0 : ∀ acc, H acc = none → Pv acc 0 [] (upd H acc (.lst [])))
    (hgo : ∀ acc i vs H', H acc = none → i < n → Pv acc i vs H' → J.go i H') (hst : ∀ acc vs H', H acc = none → Pv acc n vs H' → J.stop n H')
    (hy : ∀ acc i vs H' v H'', H acc = none → i < n → Pv acc i vs H' → J.yld i H' v H'' → H'' = H' ∧ item i v)
    (hs : ∀ (acc : Addr) (i : Nat) (v : V) (t : Option V) (vs : List V) (H' : Hp) (N : St → Hp → Prop) (Kt : V → St → Hp → Prop), H acc = none → i < n → item i v → vs.length = i → Pv acc i vs H' → H' acc = some (.lst vs) →
      (∀ t' y H'', H'' acc = some (.lst vs) → Pv acc (i + 1) (vs ++ [y]) (upd H'' acc (.lst (vs ++ [y]))) → Kt y (t' :: caps.map fun j => σ.getD j none) H'') →
      g v (t :: caps.map fun j => σ.getD j none) H' fun σ2 H3 => tt σ2 H3 fun b H4 => if b = true then te σ2 H4 fun v H5 => Kt v σ2 H5 else N σ2 H4)
    (hQ : ∀ acc vs H', H acc = none → vs.length = n → Pv acc n vs H' → H' acc = some (.lst vs) → Q (.ref acc) H') : rComp [x] caps J g tt te σ H Q := by
  intro acc hacc
  refine ⟨fun i m σ' H' => m = n - i ∧ i ≤ n ∧ (∃ t, σ' = t :: caps.map fun j => σ.getD j none) ∧ ∃ vs, vs.length = i ∧ Pv acc i vs H' ∧ H' acc = some (.lst vs), ⟨n, rfl, Nat.zero_le _, ⟨none, rfl⟩, [], rfl, h0 acc hacc, upd_same⟩, ?_⟩
  rintro i m σ' H' ⟨rfl, hi, ⟨t, rfl⟩, vs, lv, p, ea⟩
  by_cases hlt : i < n
  · refine .inr ⟨hgo acc i vs H' hacc hlt p, fun σ2 H2 => (∃ t, σ2 = t :: caps.map fun j => σ.getD j none) ∧ ∃ vs, vs.length = i + 1 ∧ Pv acc (i + 1) vs H2 ∧ H2 acc = some (.lst vs), fun σ'' H'' ⟨h1, h2⟩ => ⟨n - (i + 1), by omega, rfl, hlt, h1, h2⟩, fun v H2 y => ?_⟩
    obtain ⟨rfl, iv⟩ := hy acc i vs H' v H2 hacc hlt p y
    refine hs acc i v t vs H2 _ (fun v σ2 H5 => ∃ ys, H5 acc = some (.lst ys) ∧ ys.length < sizeLine ∧ (∃ t, σ2 = t :: caps.map fun j => σ.getD j none) ∧ ∃ vs, vs.length = i + 1 ∧ Pv acc (i + 1) vs (upd H5 acc (.lst (ys ++ [v]))) ∧ (upd H5 acc (.lst (ys ++ [v]))) acc = some (.lst vs)) hacc hlt iv lv p ea fun t' y H'' e2 p2 => ?_
    exact ⟨_, e2, by omega, ⟨t', rfl⟩, vs ++ [y], by rw [List.length_append, lv]; rfl, p2, upd_same⟩
  · have e : i = n := by omega
    subst e
    exact .inl ⟨hst acc vs H' hacc p, hQ acc vs H' hacc lv p ea⟩
end
theorem nd_inj {α : Type} {l : List α} (h : l.Nodup) {i j : Nat} {x : α} (hi : l[i]? = some x) (hj : l[j]? = some x) : i = j := by
  obtain ⟨a1, a2⟩ := List.getElem?_eq_some_iff.mp hi
  obtain ⟨b1, b2⟩ := List.getElem?_eq_some_iff.mp hj
  have p := List.pairwise_iff_getElem.mp h
  rcases Nat.lt_trichotomy i j with q | q | q
  · exact absurd (a2.trans b2.symm) (p i j a1 b1 q)
  · exact q
  · exact absurd (b2.trans a2.symm) (p j i b1 a1 q)
/-! ### tables: lists of lists -/
structure Tb (K : PySem.W.Frag) (H : Hp) (r : Addr) (xss : List (List V)) : Prop where
  ex : ∃ adr : List Addr, SqL K H r (adr.map V.ref) ∧ adr.length = xss.length ∧ ∀ (i : Nat) (a : Addr), adr[i]? = some a → ∃ xs, xss[i]? = some xs ∧ SqL K H a xs
/-- made anew since H0 -/
structure TbN (H0 H : Hp) (r : Addr) (xss : List (List V)) : Prop where
  ex : ∃ adr : List Addr, H r = some (.lst (adr.map V.ref)) ∧ adr.length = xss.length ∧ adr.Nodup ∧ ∀ (i : Nat) (a : Addr), adr[i]? = some a → H0 a = none ∧ a ≠ r ∧ ∃ xs, xss[i]? = some xs ∧ H a = some (.lst xs)
theorem Tb.same {K : PySem.W.Frag} {H H' : Hp} {r : Addr} {xss : List (List V)} (h : Tb K H r xss) (s : Same H H') : Tb K H' r xss := by
  obtain ⟨adr, h1, h2, h3⟩ := h.ex
  refine ⟨adr, s.seq h1, h2, fun i a ha => ?_⟩
  obtain ⟨xs, e, q⟩ := h3 i a ha
  exact ⟨xs, e, s.seq q⟩
theorem TbN.tb {K : PySem.W.Frag} {H0 H : Hp} {r : Addr} {xss : List (List V)} (h : TbN H0 H r xss) : Tb K H r xss := by
  obtain ⟨adr, h1, h2, _, h3⟩ := h.ex
  refine ⟨adr, SqL.of h1, h2, fun i a ha => ?_⟩
  obtain ⟨_, _, xs, e, q⟩ := h3 i a ha
  exact ⟨xs, e, SqL.of q⟩
theorem TbN.same {H0 H H' : Hp} {r : Addr} {xss : List (List V)} (h : TbN H0 H r xss) (s : Same H H') : TbN H0 H' r xss := by
  obtain ⟨adr, h1, h2, hn, h3⟩ := h.ex
  refine ⟨adr, s _ _ h1, h2, hn, fun i a ha => ?_⟩
  obtain ⟨q1, q2, xs, e, q⟩ := h3 i a ha
  exact ⟨q1, q2, xs, e, s _ _ q⟩
def rNewT (xss : List (List V)) (H : Hp) (Q : VK) : Prop := ∀ r H', Same H H' → H r = none → TbN H H' r xss → Q (.ref r) H'
/-- list i of a table -/
theorem Tb.at_ {K : PySem.W.Frag} {H : Hp} {r : Addr} {xss : List (List V)} (h : Tb K H r xss) : ∃ ys, SqL K H r ys ∧ ys.length = xss.length ∧ ∀ (i : Nat), i < xss.length → ∃ a, ys[i]? = some (.ref a) ∧ SqL K H a (xss.getD i []) := by
  obtain ⟨adr, h1, h2, h3⟩ := h.ex
  refine ⟨_, h1, by rw [List.length_map, h2], fun i hi => ?_⟩
  have e : adr[i]? = some adr[i] := List.getElem?_eq_getElem (by omega)
  obtain ⟨xs, e2, q⟩ := h3 i _ e
  refine ⟨_, by rw [List.getElem?_map, e]; rfl, ?_⟩
  rw [List.getD, e2]
  exact q
theorem tb_deq {K : PySem.W.Frag} {H : Hp} {n : Nat} {a b : Addr} {xss : List (List V)} (h1 : Tb K H a xss) (h2 : Tb K H b xss) (f : ∀ xs ∈ xss, xs.all flatV = true) : DEq K H (n + 2) (.ref a) (.ref b) true := by
  by_cases e : a = b
  · subst e; exact .same a
  obtain ⟨ys, y1, y2, y3⟩ := h1.at_
  obtain ⟨zs, z1, z2, z3⟩ := h2.at_
  have z := DEq.list (n := n + 1) (fun _ => true) e y1 z1 (by omega) fun i x y hx hy => by
    have hi : i < xss.length := by have := (List.getElem?_eq_some_iff.mp hx).1; omega
    obtain ⟨p, e1, q1⟩ := y3 i hi
    obtain ⟨q, e2, q2⟩ := z3 i hi
    rw [e1] at hx
    rw [e2] at hy
    cases hx
    cases hy
    refine DEq.flats q1 q2 (f _ ?_)
    rw [List.getD, List.getElem?_eq_getElem hi]
    exact List.getElem_mem hi
  have e : ((List.range ys.length).all fun _ => true) = true := by simp
  rw [e] at z
  exact z
theorem tb_eq {K : PySem.W.Frag} {H : Hp} {neg : Bool} {Q : VK} {a b : Addr} {xss : List (List V)} (h1 : Tb K H a xss) (h2 : Tb K H b xss) (f : ∀ xs ∈ xss, xs.all flatV = true) (q : Q (.bl (!neg)) H) : rEqD K neg (.ref a) (.ref b) H Q := by
  obtain ⟨ys, y1, y2, y3⟩ := h1.at_
  obtain ⟨zs, z1, z2, z3⟩ := h2.at_
  refine eqD_all y1 z1 (by omega) (fun i x y hx hy => ?_) q
  have hi : i < xss.length := by have := (List.getElem?_eq_some_iff.mp hx).1; omega
  obtain ⟨p, e1, q1⟩ := y3 i hi
  obtain ⟨q, e2, q2⟩ := z3 i hi
  rw [e1] at hx
  rw [e2] at hy
  cases hx
  cases hy
  refine DEq.flats q1 q2 (f _ ?_)
  rw [List.getD, List.getElem?_eq_getElem hi]
  exact List.getElem_mem hi
/-! a comprehension whose items are new lists -/
section
variable {K : PySem.W.Frag} {a : Addr} {xs : List V} {x : Str} {caps : List Nat} {g : TG} {tt : TT} {te : TE} {σ : St} {H : Hp} {Q : VK}
theorem comp_rows {J : It} {n : Nat} {item : Nat → V → Prop} (F : Nat → List V) (hn : n ≤ sizeLine) (hgo : ∀ i H', Same H H' → i < n → J.go i H') (hst : ∀ H', Same H H' → J.stop n H')
    (hy : ∀ i H' v H'', Same H H' → i < n → J.yld i H' v H'' → H'' = H' ∧ item i v)
    (hs : ∀ (i : Nat) (v : V) (t : Option V) (H' : Hp) (N : St → Hp → Prop) (Kt : V → St → Hp → Prop), i < n → item i v → Same H H' → (∀ t', rNew (F i) H' fun y H'' => Kt y (t' :: caps.map fun j => σ.getD j none) H'') →
      g v (t :: caps.map fun j => σ.getD j none) H' fun σ2 H3 => tt σ2 H3 fun b H4 => if b = true then te σ2 H4 fun v H5 => Kt v σ2 H5 else N σ2 H4)
    (hQ : rNewT ((List.range n).map F) H Q) : rComp [x] caps J g tt te σ H Q := by
  refine comp_it (item := item) (fun acc i vs H' => Same H H' ∧ ∃ adr : List Addr, vs = adr.map V.ref ∧ adr.length = i ∧ adr.Nodup ∧ ∀ (j : Nat) (b : Addr), adr[j]? = some b → H b = none ∧ b ≠ acc ∧ H' b = some (.lst (F j))) hn
    (fun acc hacc => ⟨Same.new hacc _, [], rfl, rfl, List.nodup_nil, fun j b hb => by cases hb⟩) (fun acc i vs H' _ hi p => hgo i H' p.1 hi) (fun acc vs H' _ p => hst H' p.1) (fun acc i vs H' v H'' _ hi p y => hy i H' v H'' p.1 hi y) ?_ ?_
  · intro acc i v t vs H' N Kt hacc hi iv lv p ea k
    obtain ⟨sm, adr, e1, e2, en, e3⟩ := p
    refine hs i v t H' N Kt hi iv sm fun t' r H'' s2 hr er => ?_
    have hra : r ≠ acc := fun e => by rw [e, ea] at hr; cases hr
    refine k t' (.ref r) H'' (s2 _ _ ea) ⟨(sm.trans s2).put hacc, adr ++ [r], by rw [e1, List.map_append]; rfl, by rw [List.length_append, e2]; rfl, ?_, fun j b hb => ?_⟩
    · rw [List.nodup_append]
      refine ⟨en, by simp, fun b hb c hc e => ?_⟩
      rw [List.mem_singleton] at hc
      subst hc
      subst e
      obtain ⟨j, hj⟩ := List.mem_iff_getElem?.mp hb
      rw [(e3 j b hj).2.2] at hr
      cases hr
    rcases Nat.lt_or_ge j adr.length with h | h
    · rw [List.getElem?_append_left h] at hb
      obtain ⟨q1, q2, q3⟩ := e3 j b hb
      exact ⟨q1, q2, by rw [upd_ne q2]; exact s2 _ _ q3⟩
    · rw [List.getElem?_append_right h] at hb
      have eh : j - adr.length = 0 := by
        rcases Nat.eq_zero_or_pos (j - adr.length) with z | z
        · exact z
        · rw [List.getElem?_eq_none (by simp; omega)] at hb; cases hb
      rw [eh] at hb
      cases hb
      have : j = i := by omega
      subst this
      exact ⟨sm.free hr, hra, by rw [upd_ne hra]; exact er⟩
  · intro acc vs H' hacc lv p ea
    obtain ⟨sm, adr, e1, e2, en, e3⟩ := p
    subst e1
    refine hQ acc H' sm hacc ⟨adr, ea, by simp [e2], en, fun i b hb => ?_⟩
    obtain ⟨q1, q2, q3⟩ := e3 i b hb
    have hi : i < n := by have := (List.getElem?_eq_some_iff.mp hb).1; omega
    exact ⟨q1, q2, F i, by rw [List.getElem?_map, List.getElem?_range hi]; rfl, q3⟩
theorem comp_rowsL (F : Nat → List V) (hn : xs.length ≤ sizeLine) (hq : SqL K H a xs)
    (hs : ∀ (i : Nat) (v : V) (t : Option V) (H' : Hp) (N : St → Hp → Prop) (Kt : V → St → Hp → Prop), i < xs.length → xs[i]? = some v → Same H H' → (∀ t', rNew (F i) H' fun y H'' => Kt y (t' :: caps.map fun j => σ.getD j none) H'') →
      g v (t :: caps.map fun j => σ.getD j none) H' fun σ2 H3 => tt σ2 H3 fun b H4 => if b = true then te σ2 H4 fun v H5 => Kt v σ2 H5 else N σ2 H4)
    (hQ : rNewT ((List.range xs.length).map F) H Q) : rComp [x] caps (Itl K a) g tt te σ H Q :=
  comp_rows (item := fun i v => xs[i]? = some v) F hn (fun i H' s hi => ⟨xs, xs[i], s.seq hq, List.getElem?_eq_getElem hi⟩) (fun H' s => ⟨xs, s.seq hq, Nat.le_refl _⟩) (fun i H' v H'' s hi y => ⟨y.1, y.2 xs (s.seq hq)⟩) hs hQ
theorem comp_rowsR {lo : Int} {n : Nat} (F : Nat → List V) (hn : n ≤ sizeLine)
    (hs : ∀ (i : Nat) (t : Option V) (H' : Hp) (N : St → Hp → Prop) (Kt : V → St → Hp → Prop), i < n → Same H H' → (∀ t', rNew (F i) H' fun y H'' => Kt y (t' :: caps.map fun j => σ.getD j none) H'') →
      g (.int (lo + i)) (t :: caps.map fun j => σ.getD j none) H' fun σ2 H3 => tt σ2 H3 fun b H4 => if b = true then te σ2 H4 fun v H5 => Kt v σ2 H5 else N σ2 H4)
    (hQ : rNewT ((List.range n).map F) H Q) : rComp [x] caps (Itr lo n) g tt te σ H Q :=
  comp_rows (item := fun i v => v = .int (lo + i)) F hn (fun i H' s hi => hi) (fun H' s => Nat.le_refl _) (fun i H' v H'' s hi y => y) (fun i v t H' N Kt hi hv s k => by subst hv; exact hs i t H' N Kt hi s k) hQ
end
/-- a comprehension that takes no name from outside -/
theorem CompScope.closed {X : Cx} {scope : Scope} (h : scope.kind = .function ∧ (∀ x ∈ scope.names, x.2 = .local → scope.names.lookup x.1 = some .local) ∧ (∀ x ∈ scope.names, x.2 ≠ .cell) ∧ ∀ x ∈ scope.names, x.2 ≠ .free) : CompScope X scope [] :=
  ⟨h.1, h.2.1, h.2.2.1, fun x hx hf => absurd hf (h.2.2.2 x hx), fun j hj => by cases hj⟩
end L2
set_option Elab.async false
set_option linter.all false
set_option maxRecDepth 100000
set_option maxHeartbeats 4000000
namespace L2
open PySem PySem.Spec PyProof.Rows
section
variable {X : Cx}
/-- min(xs), xs a list of ints that is not empty -/
def rMinL (K : PySem.W.Frag) : List V → Hp → VK → Prop := fun xs H Q => ∃ (p : Addr) (ns : List Int), xs = [.ref p] ∧ SqL K H p (ns.map V.int) ∧ 0 < ns.length ∧ ∀ m : Int, m ∈ ns → (∀ a ∈ ns, m ≤ a) → Q (.int m) H
def rMaxL (K : PySem.W.Frag) : List V → Hp → VK → Prop := fun xs H Q => ∃ (p : Addr) (ns : List Int), xs = [.ref p] ∧ SqL K H p (ns.map V.int) ∧ 0 < ns.length ∧ ∀ m : Int, m ∈ ns → (∀ a ∈ ns, a ≤ m) → Q (.int m) H
theorem memD {ns : List Int} {i : Nat} (h : i < ns.length) : ns.getD i 0 ∈ ns := by
  rw [List.getD, List.getElem?_eq_getElem h]
  exact List.getElem_mem h
theorem call_minL (hc : X.calm = true) : CallR X (.builtin "min") (rMinL X.K) := by
  intro pins s σ H xs us Q I r h
  obtain ⟨p, ns, rfl, hq, hp0, q⟩ := h
  obtain ⟨u, rfl, rx⟩ := vals1 r
  cases rx
  obtain ⟨its, rv, pl, hz⟩ := I.list hq
  have hi := intsIn rv
  obtain ⟨ps, e⟩ := hi.allInts.items
  have hn : numsOf its = ps.toList.map (·.1) := by
    have := nums_intItems ps
    rw [← e] at this
    simpa using this
  rw [hi.numsOf] at hn
  have hl := pl.isList
  rw [e] at hl
  have hsz : ps.size = ns.length := by rw [hn, List.length_map, Array.length_toList]
  refine min_intList (I.ok.hd hc) hl (by omega) fun v h' tk hv hk => ?_
  obtain ⟨t, rfl⟩ := intItems_at hv
  obtain ⟨h1, h2⟩ := argBest_lt (numAt ps) (ps.size - 1)
  refine ⟨.int _, H, I.kept hk, ⟨t, rfl⟩, q _ ?_ fun a ha => ?_⟩
  · rw [numAt_eq, ← hn]; exact memD (by omega)
  · obtain ⟨j, hj⟩ := List.mem_iff_getElem?.mp ha
    have hjl := (List.getElem?_eq_some_iff.mp hj).1
    have := h2 j (by omega)
    rw [numAt_eq ps j, ← hn, List.getD, hj] at this
    exact this
theorem call_maxL (hc : X.calm = true) : CallR X (.builtin "max") (rMaxL X.K) := by
  intro pins s σ H xs us Q I r h
  obtain ⟨p, ns, rfl, hq, hp0, q⟩ := h
  obtain ⟨u, rfl, rx⟩ := vals1 r
  cases rx
  obtain ⟨its, rv, pl, hz⟩ := I.list hq
  have hi := intsIn rv
  obtain ⟨ps, e⟩ := hi.allInts.items
  have hn : numsOf its = ps.toList.map (·.1) := by
    have := nums_intItems ps
    rw [← e] at this
    simpa using this
  rw [hi.numsOf] at hn
  have hl := pl.isList
  rw [e] at hl
  have hsz : ps.size = ns.length := by rw [hn, List.length_map, Array.length_toList]
  refine max_intList (I.ok.hd hc) hl (by omega) fun v h' tk hv hk => ?_
  obtain ⟨t, rfl⟩ := intItems_at hv
  obtain ⟨h1, h2⟩ := argBest_gt (numAt ps) (ps.size - 1)
  refine ⟨.int _, H, I.kept hk, ⟨t, rfl⟩, q _ ?_ fun a ha => ?_⟩
  · rw [numAt_eq, ← hn]; exact memD (by omega)
  · obtain ⟨j, hj⟩ := List.mem_iff_getElem?.mp ha
    have hjl := (List.getElem?_eq_some_iff.mp hj).1
    have := h2 j (by omega)
    rw [numAt_eq ps j, ← hn, List.getD, hj] at this
    exact this
theorem k_minL {K : PySem.W.Frag} (hc : X.calm = true) (h : X.K = K := by rfl) : CallR X (.builtin "min") (rMinL K) := h ▸ call_minL hc
theorem k_maxL {K : PySem.W.Frag} (hc : X.calm = true) (h : X.K = K := by rfl) : CallR X (.builtin "max") (rMaxL K) := h ▸ call_maxL hc
/-- // by a divisor of many figures -/
def CDivB (_ j : Int) : Prop := j ≠ 0 ∧ j.natAbs < 2 ^ 9000
theorem op_fdivB : OpR X (binaryOp .FloorDiv) (rI CDivB fun i j => .int (i.fdiv j)) := opI fun _ _ _ _ _ _ _ hc q => floordiv_int hc.1 q (.inl (PyProof.noPylong_of_log2 ((Nat.log2_lt (by have := hc.1; omega)).mpr hc.2)))
end
/-! ### != of tuples -/
section
variable {X : Cx}
def rNeT (K : PySem.W.Frag) : R2 := fun x y H Q => ∃ a b xs ys, x = .ref a ∧ y = .ref b ∧ SqT K H a xs ∧ SqT K H b ys ∧ ∃ e : Nat → Bool, (∀ (i : Nat) (x y : V), xs[i]? = some x → ys[i]? = some y → DEq K H 40 x y (e i)) ∧ Q (.bl (!((List.range (min xs.length ys.length)).all e && xs.length == ys.length))) H
theorem op_neT (hu : X.A.units + 64 < cLine) : OpR X (compareOp .NotEq) (rNeT X.K) := by
  intro pins s σ H x y v u Q I rx ry h
  obtain ⟨a, b, xs, ys, rfl, rfl, h1, h2, e, he, q⟩ := h
  cases rx; cases ry
  obtain ⟨its, q1, p1, _⟩ := I.tuple h1
  obtain ⟨its2, q2, p2, _⟩ := I.tuple h2
  have l1 := q1.length
  have l2 := q2.length
  refine SeqAt.RcNeAt.tuples (e := e) p1 p2 (by omega) (fun j g1 g2 => ?_) _ _ _ _ ⟨.bl _, H, I, rfl, ?_⟩
  · obtain ⟨x, ex, rx⟩ := q1.getA g1
    obtain ⟨y, ey, ry⟩ := q2.getA g2
    exact (he j x y ex ey).eqAt I rx ry (by show X.A.units + 1 + 40 < cLine; omega)
  · rw [show its.toArray.size = xs.length by simp; omega, show its2.toArray.size = ys.length by simp; omega]
    exact q
theorem k_neT {K : PySem.W.Frag} (hu : X.A.units + 64 < cLine) (h : X.K = K := by rfl) : OpR X (compareOp .NotEq) (rNeT K) := h ▸ op_neT hu
theorem neT_same {K : PySem.W.Frag} {H : Hp} {Q : VK} {a b : Addr} {xs : List V} (h1 : SqT K H a xs) (h2 : SqT K H b xs) (f : xs.all flatV = true) (q : Q (.bl false) H) : rNeT K (.ref a) (.ref b) H Q := by
  refine ⟨a, b, xs, xs, rfl, rfl, h1, h2, fun _ => true, fun i x y hx hy => ?_, ?_⟩
  · rw [hx] at hy
    cases hy
    have fx : flatV x = true := List.all_eq_true.mp f x (List.mem_of_getElem? hx)
    have := DEq.flat (K := K) (H := H) (n := 40) fx fx
    rw [eqV_self fx] at this
    exact this
  · have e : ((List.range (min xs.length xs.length)).all fun _ => true) = true := by simp
    rw [e, show (xs.length == xs.length) = true by simp]
    exact q
end
/-! ### a comprehension with a test, that makes things on the way -/
section
variable {K : PySem.W.Frag} {a : Addr} {xs : List V} {x : Str} {caps : List Nat} {g : TG} {tt : TT} {te : TE} {σ : St} {H : Hp} {Q : VK}
theorem comp_grow {J : It} {n : Nat} {item : Nat → V → Prop} (F : Nat → V) (p : Nat → Bool) (hn : n ≤ sizeLine)
    (hgo : ∀ i H', Same H H' → i < n → J.go i H') (hst : ∀ H', Same H H' → J.stop n H') (hy : ∀ i H' v H'', Same H H' → i < n → J.yld i H' v H'' → H'' = H' ∧ item i v)
    (hs : ∀ (i : Nat) (v : V) (t : Option V) (H' : Hp) (N : St → Hp → Prop) (Kt : V → St → Hp → Prop), i < n → item i v → Same H H' → (∀ t' H'', Same H' H'' → p i = true → Kt (F i) (t' :: caps.map fun j => σ.getD j none) H'') → (∀ t' H'', Same H' H'' → p i = false → N (t' :: caps.map fun j => σ.getD j none) H'') →
      g v (t :: caps.map fun j => σ.getD j none) H' fun σ2 H3 => tt σ2 H3 fun b H4 => if b = true then te σ2 H4 fun v H5 => Kt v σ2 H5 else N σ2 H4)
    (hQ : rNew (((List.range n).filter p).map F) H Q) : rComp [x] caps J g tt te σ H Q := by
  intro acc hacc
  refine ⟨fun i m σ' H' => m = n - i ∧ i ≤ n ∧ (∃ t, σ' = t :: caps.map fun j => σ.getD j none) ∧ Same H H' ∧ H' acc = some (.lst (((List.range i).filter p).map F)), ⟨n, rfl, Nat.zero_le _, ⟨none, rfl⟩, Same.new hacc _, upd_same⟩, ?_⟩
  rintro i m σ' H' ⟨rfl, hi, ⟨t, rfl⟩, sm, ea⟩
  by_cases hlt : i < n
  · refine .inr ⟨hgo i H' sm hlt, fun σ2 H2 => (∃ t, σ2 = t :: caps.map fun j => σ.getD j none) ∧ Same H H2 ∧ H2 acc = some (.lst (((List.range (i + 1)).filter p).map F)), fun σ'' H'' ⟨h1, h2, h3⟩ => ⟨n - (i + 1), by omega, rfl, hlt, h1, h2, h3⟩, fun v H2 y => ?_⟩
    obtain ⟨rfl, hv⟩ := hy i H' v H2 sm hlt y
    refine hs i v t H2 _ (fun v σ2 H5 => ∃ ys, H5 acc = some (.lst ys) ∧ ys.length < sizeLine ∧ (∃ t, σ2 = t :: caps.map fun j => σ.getD j none) ∧ Same H (upd H5 acc (.lst (ys ++ [v]))) ∧ (upd H5 acc (.lst (ys ++ [v]))) acc = some (.lst (((List.range (i + 1)).filter p).map F))) hlt hv sm (fun t' H'' s2 hp => ?_) fun t' H'' s2 hp => ?_
    · refine ⟨_, s2 _ _ ea, ?_, ⟨t', rfl⟩, (sm.trans s2).put hacc, ?_⟩
      · rw [List.length_map]
        have := List.length_filter_le p (List.range i)
        rw [List.length_range] at this
        omega
      · rw [upd_same, filter_succ, if_pos hp, List.map_append]
        rfl
    · refine ⟨⟨t', rfl⟩, sm.trans s2, ?_⟩
      rw [s2 _ _ ea, filter_succ, if_neg (by rw [hp]; decide), List.append_nil]
  · have e : i = n := by omega
    subst e
    exact .inl ⟨hst H' sm, hQ acc H' sm hacc ea⟩
theorem comp_growR {lo : Int} {n : Nat} (F : Nat → V) (p : Nat → Bool) (hn : n ≤ sizeLine)
    (hs : ∀ (i : Nat) (t : Option V) (H' : Hp) (N : St → Hp → Prop) (Kt : V → St → Hp → Prop), i < n → Same H H' → (∀ t' H'', Same H' H'' → p i = true → Kt (F i) (t' :: caps.map fun j => σ.getD j none) H'') → (∀ t' H'', Same H' H'' → p i = false → N (t' :: caps.map fun j => σ.getD j none) H'') →
      g (.int (lo + i)) (t :: caps.map fun j => σ.getD j none) H' fun σ2 H3 => tt σ2 H3 fun b H4 => if b = true then te σ2 H4 fun v H5 => Kt v σ2 H5 else N σ2 H4)
    (hQ : rNew (((List.range n).filter p).map F) H Q) : rComp [x] caps (Itr lo n) g tt te σ H Q :=
  comp_grow (item := fun i v => v = .int (lo + i)) F p hn (fun i H' s hi => hi) (fun H' s => Nat.le_refl _) (fun i H' v H'' s hi y => y) (fun i v t H' N Kt hi hv s k1 k2 => by subst hv; exact hs i t H' N Kt hi s k1 k2) hQ
end
end L2
namespace M
def iota (n : Nat) : List Int := (List.range n).map fun i => ((i : Nat) : Int)
theorem iota_length (n : Nat) : (iota n).length = n := by simp [iota]
theorem mem_iota {n : Nat} {c : Int} : c ∈ iota n ↔ 0 ≤ c ∧ c < n := by
  simp only [iota, List.mem_map, List.mem_range]
  constructor
  · rintro ⟨i, hi, rfl⟩; omega
  · rintro ⟨h0, h1⟩; exact ⟨c.toNat, by omega, by omega⟩
theorem iota_nodup (n : Nat) : (iota n).Nodup := by
  unfold iota List.Nodup
  rw [List.pairwise_map]
  refine List.Pairwise.imp ?_ (List.nodup_range (n := n))
  intro a b h e
  exact h (by omega)
theorem iota_getElem? {n i : Nat} (h : i < n) : (iota n)[i]? = some (i : Int) := by simp [iota, h]
/-- an order of n cards -/
structure Ord (n : Nat) (ns : List Int) : Prop where
  len : ns.length = n
  nd : ns.Nodup
  bd : ∀ c ∈ ns, 0 ≤ c ∧ c < n
theorem sub_of_full : ∀ {l m : List Int}, l.Nodup → (∀ c ∈ l, c ∈ m) → m.length ≤ l.length → ∀ c ∈ m, c ∈ l
  | [], m, _, _, h, c, hc => by
    have : m = [] := List.eq_nil_of_length_eq_zero (by simpa using h)
    rw [this] at hc; cases hc
  | a :: l, m, nd, hs, h, c, hc => by
    have nd' := List.nodup_cons.mp nd
    by_cases e : c = a
    · rw [e]; exact List.mem_cons_self
    · have ha : a ∈ m := hs a List.mem_cons_self
      refine List.mem_cons_of_mem _ (sub_of_full (m := m.erase a) nd'.2 (fun d hd => ?_) ?_ c ((List.mem_erase_of_ne e).mpr hc))
      · have : d ≠ a := fun z => nd'.1 (z ▸ hd)
        exact (List.mem_erase_of_ne this).mpr (hs d (List.mem_cons_of_mem _ hd))
      · have := List.length_erase_of_mem ha
        simp at h
        omega
theorem Ord.has {n : Nat} {ns : List Int} (o : Ord n ns) {c : Int} (h0 : 0 ≤ c) (h1 : c < n) : c ∈ ns :=
  sub_of_full (m := iota n) o.nd (fun d hd => mem_iota.mpr (o.bd d hd)) (by rw [iota_length, o.len]; exact Nat.le_refl _) c (mem_iota.mpr ⟨h0, h1⟩)
theorem Ord.of_perm {n : Nat} {ns : List Int} (p : ns.Perm (iota n)) : Ord n ns :=
  ⟨by rw [p.length_eq, iota_length], (List.Perm.nodup_iff p).mpr (iota_nodup n), fun c hc => mem_iota.mp (p.mem_iff.mp hc)⟩
theorem ord_iota (n : Nat) : Ord n (iota n) := .of_perm (List.Perm.refl _)
theorem Ord.getD_bd {n : Nat} {ns : List Int} (o : Ord n ns) {i : Nat} (h : i < n) : 0 ≤ ns.getD i 0 ∧ ns.getD i 0 < n := by
  have hi : i < ns.length := by rw [o.len]; exact h
  have : ns.getD i 0 = ns[i] := by simp [List.getD, List.getElem?_eq_getElem hi]
  rw [this]
  exact o.bd _ (List.getElem_mem hi)
theorem take_out_perm : ∀ {l : List Int} {i : Nat} (h : i < l.length), (l[i] :: l.eraseIdx i).Perm l
  | a :: l, 0, _ => List.Perm.refl _
  | a :: l, i + 1, h => by
    have h' : i < l.length := by simpa using h
    show (l[i] :: a :: l.eraseIdx i).Perm (a :: l)
    exact (List.Perm.swap a l[i] _).trans ((take_out_perm h').cons a)
/-- the step of a draw -/
theorem draw_perm {as ls : List Int} {n i : Nat} (h : (as ++ ls).Perm (iota n)) (hi : i < ls.length) : (as ++ [ls[i]] ++ ls.eraseIdx i).Perm (iota n) := by
  refine List.Perm.trans ?_ h
  rw [List.append_assoc]
  refine List.Perm.append_left as ?_
  exact take_out_perm hi
/-! places -/
def plc (n : Nat) (ns : List Int) : List Int := (List.range n).map fun c => ((ns.idxOf ((c : Nat) : Int) : Nat) : Int)
theorem plc_length (n : Nat) (ns : List Int) : (plc n ns).length = n := by simp [plc]
theorem plc_get {n : Nat} {ns : List Int} {c : Nat} (h : c < n) : (plc n ns)[c]? = some ((ns.idxOf (c : Int) : Nat) : Int) := by simp [plc, h]
theorem idx_lt {n : Nat} {ns : List Int} (o : Ord n ns) {c : Int} (h0 : 0 ≤ c) (h1 : c < n) : ns.idxOf c < n := by
  have := List.idxOf_lt_length_iff.mpr (o.has h0 h1)
  rw [o.len] at this
  exact this
theorem getElem_idx {n : Nat} {ns : List Int} (o : Ord n ns) {c : Int} (h0 : 0 ≤ c) (h1 : c < n) : ns[ns.idxOf c]? = some c := by
  have h := List.idxOf_lt_length_iff.mpr (o.has h0 h1)
  rw [List.getElem?_eq_getElem h]
  simp [List.getElem_idxOf]
theorem idx_of_get {n : Nat} {ns : List Int} (o : Ord n ns) {i : Nat} {c : Int} (h : ns[i]? = some c) : ns.idxOf c = i := by
  have hi := (List.getElem?_eq_some_iff.mp h).1
  have hc : c ∈ ns := List.mem_of_getElem? h
  have b := o.bd c hc
  have e := getElem_idx o b.1 b.2
  have hj : ns.idxOf c < ns.length := List.idxOf_lt_length_iff.mpr hc
  rw [← h, List.getElem?_eq_getElem hj, List.getElem?_eq_getElem hi] at e
  exact (List.getElem_inj o.nd).mp (Option.some.inj e)
theorem ord_plc {n : Nat} {ns : List Int} (o : Ord n ns) : Ord n (plc n ns) where
  len := plc_length n ns
  nd := by
    unfold plc List.Nodup
    rw [List.pairwise_map]
    rw [List.pairwise_iff_getElem]
    intro i j hi hj hij e
    simp only [List.length_range] at hi hj
    simp only [List.getElem_range] at e
    have e1 := getElem_idx o (c := (i : Int)) (by omega) (by omega)
    have e2 := getElem_idx o (c := (j : Int)) (by omega) (by omega)
    rw [show ns.idxOf (i : Int) = ns.idxOf (j : Int) by omega, e2] at e1
    have := Option.some.inj e1
    omega
  bd := fun c hc => by
    simp only [plc, List.mem_map, List.mem_range] at hc
    obtain ⟨i, hi, rfl⟩ := hc
    have := idx_lt o (c := (i : Int)) (by omega) (by omega)
    omega
theorem plc_plc {n : Nat} {ns : List Int} (o : Ord n ns) : plc n (plc n ns) = ns := by
  apply List.ext_getElem?
  intro i
  by_cases hi : i < n
  · rw [plc_get hi]
    have hin : i < ns.length := by rw [o.len]; exact hi
    rw [List.getElem?_eq_getElem hin]
    congr 1
    have b := o.bd ns[i] (List.getElem_mem hin)
    have e : (plc n ns)[ns[i].toNat]? = some (i : Int) := by
      rw [plc_get (by omega)]
      congr 1
      rw [show ((ns[i].toNat : Nat) : Int) = ns[i] by omega, idx_of_get o (List.getElem?_eq_getElem hin)]
    have := idx_of_get (ord_plc o) e
    omega
  · rw [List.getElem?_eq_none (by rw [plc_length]; omega), List.getElem?_eq_none (by rw [o.len]; omega)]
/-! one laid by the other -/
def lay (one other : List Int) : List Int := other.map fun c => one.getD c.toNat 0
theorem lay_length (one other : List Int) : (lay one other).length = other.length := by simp [lay]
theorem lay_getD {one other : List Int} {i : Nat} (h : i < other.length) : (lay one other).getD i 0 = one.getD (other.getD i 0).toNat 0 := by
  simp [lay, List.getD, h]
theorem ord_lay {n : Nat} {a b : List Int} (oa : Ord n a) (ob : Ord n b) : Ord n (lay a b) where
  len := by rw [lay_length, ob.len]
  nd := by
    unfold List.Nodup
    rw [List.pairwise_iff_getElem]
    intro i j hi hj hij e
    rw [lay_length] at hi hj
    simp only [lay, List.getElem_map] at e
    have b1 := ob.bd b[i] (List.getElem_mem hi)
    have b2 := ob.bd b[j] (List.getElem_mem hj)
    have h1 : b[i].toNat < a.length := by rw [oa.len]; omega
    have h2 : b[j].toNat < a.length := by rw [oa.len]; omega
    simp only [List.getD, List.getElem?_eq_getElem h1, List.getElem?_eq_getElem h2, Option.getD_some] at e
    have := (List.getElem_inj oa.nd).mp e
    have e2 : b[i] = b[j] := by omega
    have := (List.getElem_inj ob.nd).mp e2
    omega
  bd := fun c hc => by
    simp only [lay, List.mem_map] at hc
    obtain ⟨d, hd, rfl⟩ := hc
    have b1 := ob.bd d hd
    exact oa.getD_bd (by omega)
theorem lay_iota {n : Nat} {a : List Int} (o : Ord n a) : lay (iota n) a = a := by
  unfold lay
  conv => rhs; rw [← List.map_id a]
  apply List.map_congr_left
  intro c hc
  have b := o.bd c hc
  simp only [List.getD, iota_getElem? (show c.toNat < n by omega), Option.getD_some, id]
  omega
theorem lay_plc {n : Nat} {a : List Int} (o : Ord n a) : lay a (plc n a) = iota n := by
  apply List.ext_getElem?
  intro i
  by_cases hi : i < n
  · rw [iota_getElem? hi]
    unfold lay
    rw [List.getElem?_map, plc_get hi]
    simp only [Option.map_some, Int.toNat_natCast]
    have e := getElem_idx o (c := (i : Int)) (by omega) (by omega)
    simp [List.getD, e]
  · rw [List.getElem?_eq_none (by rw [lay_length, plc_length]; omega), List.getElem?_eq_none (by rw [iota_length]; omega)]
theorem lay_assoc {n : Nat} {a b c : List Int} (ob : Ord n b) (oc : Ord n c) : lay (lay a b) c = lay a (lay b c) := by
  unfold lay
  rw [List.map_map]
  apply List.map_congr_left
  intro d hd
  have bd := oc.bd d hd
  have h : d.toNat < b.length := by rw [ob.len]; omega
  simp [List.getD, h]
/-! the loop of places -/
def plcUpTo (n : Nat) (ns : List Int) (i : Nat) : List Int := (List.range n).map fun c => if ((c : Nat) : Int) ∈ ns.take i then ((ns.idxOf ((c : Nat) : Int) : Nat) : Int) else 0
theorem plcUpTo_zero (n : Nat) (ns : List Int) : plcUpTo n ns 0 = List.replicate n 0 := by
  simp [plcUpTo]
  apply List.ext_getElem?
  intro i
  by_cases h : i < n <;> simp [h]
theorem plcUpTo_length (n : Nat) (ns : List Int) (i : Nat) : (plcUpTo n ns i).length = n := by simp [plcUpTo]
theorem plcUpTo_all {n : Nat} {ns : List Int} (o : Ord n ns) : plcUpTo n ns n = plc n ns := by
  unfold plcUpTo plc
  apply List.map_congr_left
  intro c hc
  have hc := List.mem_range.mp hc
  rw [List.take_of_length_le (by rw [o.len]; exact Nat.le_refl _), if_pos (o.has (by omega) (by omega))]
theorem plcUpTo_succ {n : Nat} {ns : List Int} (o : Ord n ns) {i : Nat} {c : Int} (h : ns[i]? = some c) : (plcUpTo n ns i).set c.toNat (i : Int) = plcUpTo n ns (i + 1) := by
  have hi := (List.getElem?_eq_some_iff.mp h).1
  have b := o.bd c (List.mem_of_getElem? h)
  have hx := idx_of_get o h
  apply List.ext_getElem?
  intro j
  by_cases hj : j < n
  · rw [List.getElem?_set]
    have e1 : (plcUpTo n ns i)[j]? = some (if ((j : Nat) : Int) ∈ ns.take i then ((ns.idxOf ((j : Nat) : Int) : Nat) : Int) else 0) := by simp [plcUpTo, hj]
    have e2 : (plcUpTo n ns (i + 1))[j]? = some (if ((j : Nat) : Int) ∈ ns.take (i + 1) then ((ns.idxOf ((j : Nat) : Int) : Nat) : Int) else 0) := by simp [plcUpTo, hj]
    have mem : ∀ d : Int, d ∈ ns.take (i + 1) ↔ d ∈ ns.take i ∨ d = c := fun d => by
      rw [List.take_add_one, h, List.mem_append]
      simp
    rw [e1, e2]
    split
    · rename_i ec
      rw [if_pos (by rw [plcUpTo_length]; omega)]
      have : ((j : Nat) : Int) = c := by omega
      rw [if_pos ((mem _).mpr (.inr this)), this, hx]
    · rename_i ec
      have : ((j : Nat) : Int) ≠ c := by omega
      by_cases hm : ((j : Nat) : Int) ∈ ns.take i
      · rw [if_pos hm, if_pos ((mem _).mpr (.inl hm))]
      · rw [if_neg hm, if_neg (fun z => ((mem _).mp z).elim hm this)]
  · rw [List.getElem?_eq_none (by rw [List.length_set, plcUpTo_length]; omega), List.getElem?_eq_none (by rw [plcUpTo_length]; omega)]
end M
namespace M
def cnt (n : Nat) (P : Nat → Bool) : Nat := ((List.range n).filter P).length
theorem cnt_zero (P : Nat → Bool) : cnt 0 P = 0 := rfl
theorem cnt_succ (n : Nat) (P : Nat → Bool) : cnt (n + 1) P = cnt n P + if P n = true then 1 else 0 := by
  unfold cnt
  rw [List.range_succ, List.filter_append, List.length_append]
  cases h : P n <;> simp [h]
theorem cnt_le (n : Nat) (P : Nat → Bool) : cnt n P ≤ n := by
  induction n with
  | zero => exact Nat.le_refl _
  | succ n ih => rw [cnt_succ]; split <;> omega
theorem cnt_congr {n : Nat} {P Q : Nat → Bool} (h : ∀ i, i < n → P i = Q i) : cnt n P = cnt n Q := by
  induction n with
  | zero => rfl
  | succ n ih => rw [cnt_succ, cnt_succ, ih fun i hi => h i (by omega), h n (by omega)]
theorem cnt_shift (n : Nat) (P : Nat → Bool) : cnt (n + 1) P = (if P 0 = true then 1 else 0) + cnt n fun i => P (i + 1) := by
  induction n generalizing P with
  | zero => rw [cnt_succ]; simp [cnt_zero]
  | succ n ih => rw [cnt_succ, ih, cnt_succ]; omega
theorem cnt_rev (n : Nat) (P : Nat → Bool) : cnt n (fun i => P (n - 1 - i)) = cnt n P := by
  induction n generalizing P with
  | zero => rfl
  | succ n ih =>
    rw [cnt_succ, cnt_shift n P]
    have e : cnt n (fun i => P (n + 1 - 1 - i)) = cnt n fun i => P (i + 1) := by
      rw [← ih fun i => P (i + 1)]
      apply cnt_congr
      intro i hi
      show P (n + 1 - 1 - i) = P (n - 1 - i + 1)
      rw [show n + 1 - 1 - i = n - 1 - i + 1 by omega]
    rw [e, show n + 1 - 1 - n = 0 by omega]
    omega
theorem cnt_not (n : Nat) (P : Nat → Bool) : cnt n (fun i => !P i) = n - cnt n P := by
  induction n with
  | zero => rfl
  | succ n ih =>
    have := cnt_le n P
    rw [cnt_succ, cnt_succ, ih]
    cases P n <;> simp <;> omega
/-- how many falls -/
def flN (ns : List Int) : Nat := cnt (ns.length - 1) fun p => decide (ns.getD (p + 1) 0 < ns.getD p 0)
theorem flN_rev {n : Nat} {ns : List Int} (o : Ord n ns) : flN ns.reverse = n - 1 - flN ns := by
  unfold flN
  rw [List.length_reverse, o.len, ← cnt_not, ← cnt_rev (n - 1)]
  apply cnt_congr
  intro i hi
  have g : ∀ j, j < n → ns.reverse.getD j 0 = ns.getD (n - 1 - j) 0 := fun j hj => by
    simp only [List.getD]
    rw [List.getElem?_reverse (by rw [o.len]; exact hj), o.len]
  rw [g _ (by omega), g _ (by omega)]
  have e1 : n - 1 - (n - 1 - 1 - i + 1) = i := by omega
  have e2 : n - 1 - (n - 1 - 1 - i) = i + 1 := by omega
  rw [e1, e2]
  have ne : ns.getD i 0 ≠ ns.getD (i + 1) 0 := fun e => by
    have h1 : i < ns.length := by rw [o.len]; omega
    have h2 : i + 1 < ns.length := by rw [o.len]; omega
    simp only [List.getD, List.getElem?_eq_getElem h1, List.getElem?_eq_getElem h2, Option.getD_some] at e
    have := (List.getElem_inj o.nd).mp e
    omega
  by_cases h : ns.getD i 0 < ns.getD (i + 1) 0
  · rw [decide_eq_true h, decide_eq_false (by omega)]; rfl
  · rw [decide_eq_false h, decide_eq_true (by omega)]; rfl
/-! cards taken by going through the pack -/
def pos (ns : List Int) (d : Nat) : Nat := ns.idxOf (d : Int)
def dsc (ns : List Int) (d : Nat) : Bool := decide (pos ns (d + 1) < pos ns d)
theorem flN_plc {n : Nat} (ns : List Int) : flN (plc n ns) = cnt (n - 1) (dsc ns) := by
  unfold flN
  rw [plc_length]
  apply cnt_congr
  intro i hi
  have h1 : (plc n ns).getD i 0 = (pos ns i : Int) := by simp only [List.getD]; rw [plc_get (show i < n by omega)]; rfl
  have h2 : (plc n ns).getD (i + 1) 0 = (pos ns (i + 1) : Int) := by simp only [List.getD]; rw [plc_get (show i + 1 < n by omega)]; rfl
  rw [h1, h2]
  unfold dsc
  by_cases h : pos ns (i + 1) < pos ns i
  · rw [decide_eq_true h, decide_eq_true (by omega)]
  · rw [decide_eq_false h, decide_eq_false (by omega)]
/-- going through, from the card c0 on; i cards are looked at, c is wanted -/
structure Pass (n : Nat) (ns : List Int) (c0 i c : Nat) : Prop where
  le0 : c0 ≤ c
  len : c ≤ n
  seen : ∀ d, c0 ≤ d → d < c → pos ns d < i
  up : ∀ d, c0 ≤ d → d + 1 < c → dsc ns d = false
  next : c < n → i ≤ pos ns c ∨ (c0 < c ∧ dsc ns (c - 1) = true)
theorem Pass.start {n : Nat} {ns : List Int} {c0 : Nat} (h : c0 ≤ n) : Pass n ns c0 0 c0 := ⟨Nat.le_refl _, h, fun d h1 h2 => by omega, fun d h1 h2 => by omega, fun _ => .inl (Nat.zero_le _)⟩
theorem pos_inj {n : Nat} {ns : List Int} (o : Ord n ns) {i d : Nat} {x : Int} (h : ns[i]? = some x) : x = (d : Int) → pos ns d = i := fun e => by
  unfold pos; rw [← e]; exact idx_of_get o h
theorem pos_ne {n : Nat} {ns : List Int} (o : Ord n ns) {i d : Nat} {x : Int} (h : ns[i]? = some x) (hd : d < n) (e : x ≠ (d : Int)) : pos ns d ≠ i := fun z => by
  have g := getElem_idx o (c := (d : Int)) (by omega) (by omega)
  have : ns.idxOf (d : Int) = i := z
  rw [this, h] at g
  exact e (Option.some.inj g)
theorem Pass.hit {n : Nat} {ns : List Int} {c0 i c : Nat} {x : Int} (o : Ord n ns) (p : Pass n ns c0 i c) (h : ns[i]? = some x) (e : x = (c : Int)) : Pass n ns c0 (i + 1) (c + 1) := by
  have hc : c < n := by
    have := o.bd x (List.mem_of_getElem? h)
    omega
  have hp := pos_inj o h e
  refine ⟨by have := p.le0; omega, hc, fun d h1 h2 => ?_, fun d h1 h2 => ?_, fun h1 => ?_⟩
  · by_cases hd : d = c
    · subst hd; omega
    · have := p.seen d h1 (by omega); omega
  · by_cases hd : d + 1 = c
    · subst hd
      have := p.seen d h1 (by omega)
      unfold dsc
      exact decide_eq_false (by omega)
    · exact p.up d h1 (by omega)
  · by_cases hq : i + 1 ≤ pos ns (c + 1)
    · exact .inl hq
    · refine .inr ⟨by have := p.le0; omega, ?_⟩
      have hne : pos ns (c + 1) ≠ i := pos_ne o h h1 (by omega)
      unfold dsc
      rw [Nat.add_sub_cancel]
      exact decide_eq_true (by omega)
theorem Pass.miss {n : Nat} {ns : List Int} {c0 i c : Nat} {x : Int} (o : Ord n ns) (p : Pass n ns c0 i c) (h : ns[i]? = some x) (e : x ≠ (c : Int)) : Pass n ns c0 (i + 1) c := by
  refine ⟨p.le0, p.len, fun d h1 h2 => by have := p.seen d h1 h2; omega, p.up, fun hc => ?_⟩
  rcases p.next hc with q | q
  · have := pos_ne o h hc e
    exact .inl (by omega)
  · exact .inr q
theorem Pass.over {n : Nat} {ns : List Int} {c0 c : Nat} (o : Ord n ns) (p : Pass n ns c0 n c) (h : c0 < n) : c0 < c ∧ (c = n ∨ dsc ns (c - 1) = true) := by
  have lt : ∀ d, d < n → pos ns d < n := fun d hd => idx_lt o (by omega) (by omega)
  by_cases hc : c < n
  · rcases p.next hc with q | q
    · have := lt c hc; omega
    · exact ⟨q.1, .inr q.2⟩
  · have := p.len
    exact ⟨by omega, .inl (by omega)⟩
/-- between two rounds -/
structure Rnd (n : Nat) (ns : List Int) (c r : Nat) : Prop where
  le : c ≤ n
  zero : c = 0 → r = 0
  many : 0 < c → r = 1 + cnt (c - 1) (dsc ns)
  down : 0 < c → c < n → dsc ns (c - 1) = true
theorem Rnd.start (n : Nat) (ns : List Int) : Rnd n ns 0 0 := ⟨Nat.zero_le _, fun _ => rfl, fun h => by omega, fun h => by omega⟩
theorem cnt_flat {P : Nat → Bool} {a : Nat} : ∀ {b : Nat}, a ≤ b → (∀ d, a ≤ d → d < b → P d = false) → cnt b P = cnt a P
  | 0, h, _ => by rw [show a = 0 by omega]
  | b + 1, h, hf => by
    by_cases e : a = b + 1
    · rw [e]
    · rw [cnt_succ, cnt_flat (by omega) fun d h1 h2 => hf d h1 (by omega), if_neg (by rw [hf b (by omega) (by omega)]; decide)]; omega
theorem Rnd.next {n : Nat} {ns : List Int} {c r c' : Nat} (o : Ord n ns) (p : Rnd n ns c r) (h : c < n) (q : Pass n ns c n c') : Rnd n ns c' (r + 1) ∧ c < c' := by
  obtain ⟨h1, h2⟩ := q.over o h
  refine ⟨⟨q.len, fun z => by omega, fun _ => ?_, fun _ hc => h2.resolve_left (by omega)⟩, h1⟩
  have flat : cnt (c' - 1) (dsc ns) = cnt c (dsc ns) := cnt_flat (by omega) fun d h3 h4 => q.up d h3 (by omega)
  by_cases hc : c = 0
  · rw [flat, hc, cnt_zero, p.zero hc]
  · have e := p.many (by omega)
    have d := p.down (by omega) h
    obtain ⟨b, rfl⟩ : ∃ b, c = b + 1 := ⟨c - 1, by omega⟩
    rw [flat, cnt_succ]
    simp only [Nat.add_sub_cancel] at e d
    rw [if_pos d, e]
    omega
theorem Rnd.over {n : Nat} {ns : List Int} {r : Nat} (p : Rnd n ns n r) (h : 0 < n) : r = flN (plc n ns) + 1 := by
  rw [flN_plc, p.many h]; omega
end M
namespace M
def ch : Nat → Nat → Nat
  | _, 0 => 1
  | 0, _ + 1 => 0
  | n + 1, k + 1 => ch n k + ch n (k + 1)
theorem ch_zero (n : Nat) : ch n 0 = 1 := by cases n <;> rfl
theorem ch_ss (n k : Nat) : ch (n + 1) (k + 1) = ch n k + ch n (k + 1) := rfl
theorem ch_lt : ∀ {n k : Nat}, n < k → ch n k = 0
  | 0, 0, h => absurd h (by omega)
  | 0, _ + 1, _ => rfl
  | n + 1, 0, h => absurd h (by omega)
  | n + 1, k + 1, h => by rw [ch_ss, ch_lt (by omega : n < k), ch_lt (by omega : n < k + 1)]
theorem ch_self : ∀ n : Nat, ch n n = 1
  | 0 => rfl
  | n + 1 => by rw [ch_ss, ch_self n, ch_lt (by omega : n < n + 1)]
theorem ch_step : ∀ n k : Nat, (k + 1) * ch n (k + 1) = (n - k) * ch n k
  | 0, k => by
    have : ch 0 (k + 1) = 0 := rfl
    rw [this, Nat.zero_sub]; simp
  | n + 1, 0 => by
    have h := ch_step n 0
    rw [ch_zero] at h ⊢
    rw [ch_ss, ch_zero]
    omega
  | n + 1, k + 1 => by
    have h1 := ch_step n k
    have h2 := ch_step n (k + 1)
    rw [ch_ss, ch_ss]
    by_cases hk : k < n
    · have e1 : n + 1 - (k + 1) = n - k := by omega
      have e2 : n - (k + 1) = n - k - 1 := by omega
      rw [e1]
      rw [e2] at h2
      obtain ⟨d, hd⟩ : ∃ d, n - k = d + 1 := ⟨n - k - 1, by omega⟩
      rw [hd] at h1 h2 ⊢
      simp only [Nat.add_sub_cancel] at h2
      rw [Nat.mul_add, h2, Nat.mul_add, ← h1]
      have e3 := Nat.add_mul (k + 1 + 1) d (ch n (k + 1))
      have e4 := Nat.add_mul (k + 1) (d + 1) (ch n (k + 1))
      have e5 : k + 1 + 1 + d = k + 1 + (d + 1) := by omega
      rw [e5] at e3
      omega
    · rw [ch_lt (by omega : n < k + 1), ch_lt (by omega : n < k + 1 + 1)]
      have e : n + 1 - (k + 1) = 0 := by omega
      rw [e]; simp
theorem ch_symm_add : ∀ (m a b : Nat), a + b = m → ch m a = ch m b
  | 0, a, b, h => by
    have h1 : a = 0 := by omega
    have h2 : b = 0 := by omega
    subst h1; subst h2; rfl
  | m + 1, 0, b, h => by
    have h2 : b = m + 1 := by omega
    subst h2
    rw [ch_self]; rfl
  | m + 1, a + 1, 0, h => by
    have h2 : a = m := by omega
    subst h2
    rw [ch_self]; rfl
  | m + 1, a + 1, b + 1, h => by
    rw [ch_ss, ch_ss, ch_symm_add m a (b + 1) (by omega), ch_symm_add m (a + 1) b (by omega)]
    omega
theorem ch_symm {n k : Nat} (h : k ≤ n) : ch n (n - k) = ch n k := ch_symm_add n (n - k) k (by omega)
/-- the product n (n - 1) .., k factors -/
def df (n : Nat) : Nat → Nat
  | 0 => 1
  | k + 1 => df n k * (n - k)
theorem df_s (n k : Nat) : df n (k + 1) = df n k * (n - k) := rfl
theorem df_ss (m : Nat) : ∀ k, df (m + 1) (k + 1) = (m + 1) * df m k
  | 0 => by simp [df]
  | k + 1 => by rw [df_s, df_ss m k, df_s, Nat.mul_assoc, show m + 1 - (k + 1) = m - k by omega]
theorem df_ch (n : Nat) : ∀ k, df n k = ch n k * df k k
  | 0 => by rw [ch_zero]; rfl
  | k + 1 => by
    have h := ch_step n k
    rw [df_s, df_ch n k, df_ss k k]
    rw [Nat.mul_right_comm, Nat.mul_comm (ch n k), ← h, Nat.mul_comm (k + 1) (ch n (k + 1)), Nat.mul_assoc]
theorem df_pos (n : Nat) : ∀ k, k ≤ n → 0 < df n k
  | 0, _ => Nat.one_pos
  | k + 1, h => by rw [df_s]; exact Nat.mul_pos (df_pos n k (by omega)) (by omega)
theorem df_le {n B : Nat} (h : n ≤ B) : ∀ k, df n k ≤ B ^ k
  | 0 => Nat.le_refl _
  | k + 1 => by rw [df_s, Nat.pow_succ]; exact Nat.mul_le_mul (df_le h k) (by omega)
theorem ch_le_df (n k : Nat) : ch n k ≤ df n k := by
  rw [df_ch]
  exact Nat.le_mul_of_pos_right _ (df_pos k k (Nat.le_refl _))
theorem df_bits {n : Nat} (h : n ≤ 10 ^ 30) (k : Nat) : df n k < 2 ^ (100 * k + 1) := by
  refine Nat.lt_of_le_of_lt (df_le (B := 2 ^ 100) (Nat.le_trans h (by decide +kernel)) k) ?_
  rw [← Nat.pow_mul]
  exact Nat.pow_lt_pow_right (by decide) (by omega)
theorem ch_bits {n : Nat} (h : n ≤ 10 ^ 30) (k : Nat) : ch n k < 2 ^ (100 * k + 1) := Nat.lt_of_le_of_lt (ch_le_df n k) (df_bits h k)
/-- the step of the loop -/
theorem ch_div (n k : Nat) : ch n k * (n - k) / (k + 1) = ch n (k + 1) := by
  rw [Nat.mul_comm, ← ch_step, Nat.mul_div_cancel_left _ (by omega)]
/-- over ints -/
def chI (n k : Int) : Int := if k < 0 ∨ n < k then 0 else (ch n.toNat k.toNat : Int)
theorem chI_out {n k : Int} (h : k < 0 ∨ n < k) : chI n k = 0 := by unfold chI; rw [if_pos h]
theorem chI_in {n k : Int} (h0 : 0 ≤ k) (h : k ≤ n) : chI n k = (ch n.toNat k.toNat : Int) := by unfold chI; rw [if_neg (by omega)]
theorem chI_pascal {n k : Int} (hn : 0 < n) : chI (n - 1) k + chI (n - 1) (k - 1) = chI n k := by
  by_cases h0 : k < 0
  · rw [chI_out (.inl h0), chI_out (.inl h0), chI_out (.inl (by omega))]; rfl
  by_cases h1 : k = 0
  · subst h1
    rw [chI_out (k := 0 - 1) (.inl (by omega)), chI_in (by omega) (by omega), chI_in (by omega) (by omega)]
    show ((ch (n - 1).toNat 0 : Nat) : Int) + 0 = ((ch n.toNat 0 : Nat) : Int)
    rw [ch_zero, ch_zero]; rfl
  by_cases h2 : n < k
  · rw [chI_out (.inr h2), chI_out (.inr (by omega)), chI_out (.inr (by omega))]; rfl
  obtain ⟨m, hm⟩ : ∃ m : Nat, n = m + 1 := ⟨n.toNat - 1, by omega⟩
  obtain ⟨j, hj⟩ : ∃ j : Nat, k = j + 1 := ⟨k.toNat - 1, by omega⟩
  subst hm; subst hj
  have e1 : ((m : Int) + 1).toNat = m + 1 := by omega
  have e2 : ((j : Int) + 1).toNat = j + 1 := by omega
  have e3 : ((m : Int) + 1 - 1) = m := by omega
  have e4 : ((j : Int) + 1 - 1) = j := by omega
  have key : chI m (j + 1) = (ch m (j + 1) : Int) := by
    by_cases h3 : (m : Int) < j + 1
    · rw [chI_out (.inr h3), ch_lt (by omega)]; rfl
    · rw [chI_in (by omega) (by omega), e2]; rfl
  rw [e3, e4, key, chI_in (k := (j : Int)) (by omega) (by omega), chI_in (by omega) (by omega), e1, e2, ch_ss]
  simp only [Int.toNat_natCast]
  omega
theorem chI_symm {n k : Int} (h0 : 0 ≤ k) (h : k ≤ n) : chI n (n - k) = chI n k := by
  rw [chI_in (by omega) (by omega), chI_in h0 h, show (n - k).toNat = n.toNat - k.toNat by omega, ch_symm (by omega)]
end M
namespace M
/-- one card more -/
def more (cs : List Int) : List Int := (List.range (cs.length + 1)).map fun (j : Nat) => ((j : Int) + 1) * (cs ++ [0]).getD j 0 + ((cs.length : Int) + 1 - j) * (0 :: cs).getD j 0
def eul : Nat → List Int
  | 0 => [1]
  | n + 1 => more (eul n)
theorem more_length (cs : List Int) : (more cs).length = cs.length + 1 := by simp [more]
theorem eul_length : ∀ n, (eul n).length = n + 1
  | 0 => rfl
  | n + 1 => by show (more (eul n)).length = _; rw [more_length, eul_length n]
theorem app0_getD (cs : List Int) (j : Nat) : (cs ++ [0]).getD j 0 = cs.getD j 0 := by
  by_cases h : j < cs.length
  · simp [List.getD, List.getElem?_append_left h]
  · by_cases h2 : j = cs.length
    · subst h2; simp [List.getD]
    · simp [List.getD, List.getElem?_eq_none (show (cs ++ [0]).length ≤ j by simp; omega), List.getElem?_eq_none (show cs.length ≤ j by omega)]
def at_ (cs : List Int) : Nat → Int
  | 0 => 0
  | j + 1 => cs.getD j 0
theorem cons0_getD (cs : List Int) (j : Nat) : (0 :: cs).getD j 0 = at_ cs j := by cases j <;> rfl
theorem more_getD {cs : List Int} {j : Nat} (h : j ≤ cs.length) : (more cs).getD j 0 = ((j : Int) + 1) * cs.getD j 0 + ((cs.length : Int) + 1 - j) * at_ cs j := by
  have : j < cs.length + 1 := by omega
  unfold more
  rw [List.getD, List.getElem?_map, List.getElem?_range this, Option.map_some, Option.getD_some, app0_getD, cons0_getD]
/-! bounds -/
theorem pow_mono {a b : Int} (h0 : 0 ≤ a) (h : a ≤ b) : ∀ n : Nat, a ^ n ≤ b ^ n
  | 0 => by rw [Int.pow_zero, Int.pow_zero]; exact Int.le_refl _
  | n + 1 => by
    rw [Int.pow_succ, Int.pow_succ]
    exact Int.mul_le_mul (pow_mono h0 h n) h h0 (Int.pow_nonneg (Int.le_trans h0 h))
theorem eul_bd : ∀ (n : Nat) (j : Nat), 0 ≤ (eul n).getD j 0 ∧ (eul n).getD j 0 ≤ ((n : Int) + 2) ^ n
  | 0, j => by
    cases j with
    | zero => exact ⟨by decide, by decide⟩
    | succ j => exact ⟨by show (0 : Int) ≤ 0; decide, by show (0 : Int) ≤ 1; decide⟩
  | n + 1, j => by
    have hp : (0 : Int) ≤ ((n : Int) + 3) ^ n := Int.pow_nonneg (by omega)
    have hmono : ((n : Int) + 2) ^ n ≤ ((n : Int) + 3) ^ n := pow_mono (by omega) (by omega) n
    by_cases h : j ≤ n + 1
    · have e : (eul (n + 1)).getD j 0 = ((j : Int) + 1) * (eul n).getD j 0 + (((n + 1 : Nat) : Int) + 1 - j) * at_ (eul n) j := by
        show (more (eul n)).getD j 0 = _
        rw [more_getD (by rw [eul_length]; exact h), eul_length]
      have b1 := eul_bd n j
      have b2 : 0 ≤ at_ (eul n) j ∧ at_ (eul n) j ≤ ((n : Int) + 2) ^ n := by
        cases j with
        | zero => exact ⟨Int.le_refl _, Int.pow_nonneg (by omega)⟩
        | succ j => exact eul_bd n j
      rw [e]
      have c1 : (0 : Int) ≤ (j : Int) + 1 := by omega
      have c2 : (0 : Int) ≤ ((n + 1 : Nat) : Int) + 1 - j := by omega
      refine ⟨Int.add_nonneg (Int.mul_nonneg c1 b1.1) (Int.mul_nonneg c2 b2.1), ?_⟩
      have m1 := Int.mul_le_mul_of_nonneg_left (Int.le_trans b1.2 hmono) c1
      have m2 := Int.mul_le_mul_of_nonneg_left (Int.le_trans b2.2 hmono) c2
      have e2 : ((((n + 1 : Nat) : Int)) + 2) ^ (n + 1) = ((n : Int) + 3) ^ n * ((n : Int) + 3) := by
        rw [Int.pow_succ]; congr 1 <;> omega
      rw [e2]
      have e3 : ((n : Int) + 3) ^ n * ((n : Int) + 3) = ((j : Int) + 1) * ((n : Int) + 3) ^ n + (((n + 1 : Nat) : Int) + 1 - j) * ((n : Int) + 3) ^ n := by
        rw [← Int.add_mul, Int.mul_comm]; congr 1; omega
      rw [e3]
      exact Int.add_le_add m1 m2
    · have : (eul (n + 1)).getD j 0 = 0 := by
        rw [List.getD, List.getElem?_eq_none (by rw [eul_length]; omega)]; rfl
      rw [this]
      exact ⟨Int.le_refl _, Int.pow_nonneg (by omega)⟩
/-! read backwards -/
theorem eul_out {n j : Nat} (h : n < j) : (eul n).getD j 0 = 0 := by rw [List.getD, List.getElem?_eq_none (by rw [eul_length]; omega)]; rfl
theorem eul_sym : ∀ (n j : Nat), j ≤ n → (eul n).getD (n - j) 0 = (eul n).getD j 0
  | 0, j, h => by have : j = 0 := by omega
                  subst this; rfl
  | n + 1, j, h => by
    have e : ∀ i, i ≤ n + 1 → (eul (n + 1)).getD i 0 = ((i : Int) + 1) * (eul n).getD i 0 + (((n + 1 : Nat) : Int) + 1 - i) * at_ (eul n) i := fun i hi => by
      show (more (eul n)).getD i 0 = _
      rw [more_getD (by rw [eul_length]; exact hi), eul_length]
    rw [e _ (by omega), e _ h]
    by_cases h0 : j = 0
    · subst h0
      have a1 : (eul n).getD (n + 1 - 0) 0 = 0 := eul_out (by omega)
      have a2 : at_ (eul n) (n + 1 - 0) = (eul n).getD n 0 := rfl
      have a3 : at_ (eul n) 0 = 0 := rfl
      have a4 := eul_sym n 0 (by omega)
      rw [Nat.sub_zero] at a4
      rw [a1, a2, a3, a4]
      simp only [Int.mul_zero, Int.zero_add, Int.add_zero]
      congr 1
      omega
    · obtain ⟨i, rfl⟩ : ∃ i, j = i + 1 := ⟨j - 1, by omega⟩
      have a1 : at_ (eul n) (i + 1) = (eul n).getD i 0 := rfl
      by_cases h1 : i = n
      · subst h1
        have b1 : (eul i).getD (i + 1) 0 = 0 := eul_out (by omega)
        have b2 : at_ (eul i) (i + 1 - (i + 1)) = 0 := by rw [Nat.sub_self]; rfl
        have b3 := eul_sym i i (by omega)
        rw [Nat.sub_self] at b3
        rw [a1, b1, b2, Nat.sub_self, b3]
        simp only [Int.mul_zero, Int.zero_add, Int.add_zero]
        congr 1
        omega
      · have c1 := eul_sym n (i + 1) (by omega)
        have c2 := eul_sym n i (by omega)
        have d1 : at_ (eul n) (n + 1 - (i + 1)) = (eul n).getD (n - (i + 1)) 0 := by
          rw [show n + 1 - (i + 1) = (n - (i + 1)) + 1 by omega]; rfl
        rw [a1, d1, c1, show n + 1 - (i + 1) = n - i by omega, c2]
        rw [Int.add_comm]
        congr 2 <;> omega
theorem eul_rev (n : Nat) : (eul n).reverse = eul n := by
  apply List.ext_getElem?
  intro i
  by_cases h : i ≤ n
  · rw [List.getElem?_reverse (by rw [eul_length]; omega), eul_length]
    have h1 := eul_sym n i h
    have g : ∀ k, k ≤ n → (eul n)[k]? = some ((eul n).getD k 0) := fun k hk => by
      rw [List.getElem?_eq_getElem (by rw [eul_length]; omega)]
      simp [List.getD, List.getElem?_eq_getElem (show k < (eul n).length by rw [eul_length]; omega)]
    rw [show n + 1 - 1 - i = n - i by omega, g _ (by omega), g _ h, h1]
  · rw [List.getElem?_eq_none (by rw [List.length_reverse, eul_length]; omega), List.getElem?_eq_none (by rw [eul_length]; omega)]
/-! the powers -/
def sumI (f : Nat → Int) : Nat → Int
  | 0 => 0
  | n + 1 => sumI f n + f n
theorem sumI_add (f g : Nat → Int) : ∀ n, sumI (fun i => f i + g i) n = sumI f n + sumI g n
  | 0 => rfl
  | n + 1 => by show sumI _ n + (f n + g n) = (sumI f n + f n) + (sumI g n + g n); rw [sumI_add f g n]; omega
theorem sumI_mul (c : Int) (f : Nat → Int) : ∀ n, sumI (fun i => c * f i) n = c * sumI f n
  | 0 => (Int.mul_zero c).symm
  | n + 1 => by show sumI _ n + _ = c * (sumI f n + f n); rw [sumI_mul c f n, Int.mul_add]
theorem sumI_congr {f g : Nat → Int} : ∀ {n}, (∀ i, i < n → f i = g i) → sumI f n = sumI g n
  | 0, _ => rfl
  | n + 1, h => by show sumI f n + f n = sumI g n + g n; rw [sumI_congr fun i hi => h i (by omega), h n (by omega)]
theorem sumI_shift (f : Nat → Int) : ∀ n, sumI f (n + 1) = f 0 + sumI (fun i => f (i + 1)) n
  | 0 => by show (0 : Int) + f 0 = f 0 + 0; omega
  | n + 1 => by show sumI f (n + 1) + f (n + 1) = f 0 + (sumI (fun i => f (i + 1)) n + f (n + 1)); rw [sumI_shift f n]; omega
theorem ch_key (x k n : Nat) (h : k ≤ n) : ((x : Int)) * (ch (x + k) n : Nat) = ((k : Int) + 1) * (ch (x + k) (n + 1) : Nat) + ((n : Int) - k) * (ch (x + k + 1) (n + 1) : Nat) := by
  have st := ch_step (x + k) n
  have e1 : ((n : Int) + 1) * (ch (x + k) (n + 1) : Nat) = ((x : Int) + k - n) * (ch (x + k) n : Nat) := by
    by_cases q : n ≤ x + k
    · have := congrArg (Nat.cast (R := Int)) st
      rw [Int.natCast_mul, Int.natCast_mul] at this
      rw [show (((x + k - n : Nat)) : Int) = (x : Int) + k - n by omega, show (((n + 1 : Nat)) : Int) = (n : Int) + 1 by omega] at this
      exact this
    · rw [ch_lt (show x + k < n by omega), ch_lt (show x + k < n + 1 by omega)]
      simp
  rw [ch_ss, Int.natCast_add, Int.mul_add]
  have e2 : ((k : Int) + 1) * (ch (x + k) (n + 1) : Nat) + (((n : Int) - k) * (ch (x + k) n : Nat) + ((n : Int) - k) * (ch (x + k) (n + 1) : Nat)) = ((n : Int) + 1) * (ch (x + k) (n + 1) : Nat) + ((n : Int) - k) * (ch (x + k) n : Nat) := by
    have e3 : ((n : Int) + 1) * (ch (x + k) (n + 1) : Nat) = ((k : Int) + 1) * (ch (x + k) (n + 1) : Nat) + ((n : Int) - k) * (ch (x + k) (n + 1) : Nat) := by
      rw [← Int.add_mul]; congr 1; omega
    rw [e3]
    generalize ((k : Int) + 1) * (ch (x + k) (n + 1) : Nat) = A
    generalize ((n : Int) - k) * (ch (x + k) (n + 1) : Nat) = B
    generalize ((n : Int) - k) * (ch (x + k) n : Nat) = C
    omega
  rw [e2, e1, ← Int.add_mul]
  congr 1
  omega
theorem worp (x : Nat) : ∀ n, sumI (fun k => (eul n).getD k 0 * ((ch (x + k) (n + 1) : Nat) : Int)) (n + 1) = ((x ^ (n + 1) : Nat) : Int)
  | 0 => by
    show (0 : Int) + 1 * ((ch (x + 0) 1 : Nat) : Int) = _
    have e2 : ∀ n, ch n 1 = n := fun n => by
      induction n with
      | zero => rfl
      | succ n ih => rw [ch_ss, ih, ch_zero]; omega
    rw [Nat.add_zero, e2, Nat.pow_one]
    omega
  | n + 1 => by
    have ih := worp x n
    have e : ∀ i, i < n + 2 → (eul (n + 1)).getD i 0 * ((ch (x + i) (n + 2) : Nat) : Int) = ((i : Int) + 1) * (eul n).getD i 0 * ((ch (x + i) (n + 2) : Nat) : Int) + (((n + 1 : Nat) : Int) + 1 - i) * at_ (eul n) i * ((ch (x + i) (n + 2) : Nat) : Int) := fun i hi => by
      rw [← Int.add_mul]
      congr 1
      show (more (eul n)).getD i 0 = _
      rw [more_getD (by rw [eul_length]; omega), eul_length]
    rw [sumI_congr e, sumI_add]
    have f1 : sumI (fun i => ((i : Int) + 1) * (eul n).getD i 0 * ((ch (x + i) (n + 2) : Nat) : Int)) (n + 2) = sumI (fun i => ((i : Int) + 1) * (eul n).getD i 0 * ((ch (x + i) (n + 2) : Nat) : Int)) (n + 1) := by
      show sumI _ (n + 1) + (((n + 1 : Nat) : Int) + 1) * (eul n).getD (n + 1) 0 * ((ch (x + (n + 1)) (n + 2) : Nat) : Int) = _
      rw [eul_out (show n < n + 1 by omega)]
      simp
    have f2 : sumI (fun i => (((n + 1 : Nat) : Int) + 1 - i) * at_ (eul n) i * ((ch (x + i) (n + 2) : Nat) : Int)) (n + 2) = sumI (fun i => (((n + 1 : Nat) : Int) - i) * (eul n).getD i 0 * ((ch (x + i + 1) (n + 2) : Nat) : Int)) (n + 1) := by
      rw [sumI_shift]
      have z : at_ (eul n) 0 = 0 := rfl
      rw [z]
      simp only [Int.mul_zero, Int.zero_mul, Int.zero_add]
      refine sumI_congr fun i hi => ?_
      show (((n + 1 : Nat) : Int) + 1 - ((i + 1 : Nat) : Int)) * (eul n).getD i 0 * ((ch (x + (i + 1)) (n + 2) : Nat) : Int) = _
      congr 2
      omega
    rw [f1, f2, ← sumI_add]
    have g : ∀ i, i < n + 1 → ((i : Int) + 1) * (eul n).getD i 0 * ((ch (x + i) (n + 2) : Nat) : Int) + (((n + 1 : Nat) : Int) - i) * (eul n).getD i 0 * ((ch (x + i + 1) (n + 2) : Nat) : Int) = (x : Int) * ((eul n).getD i 0 * ((ch (x + i) (n + 1) : Nat) : Int)) := fun i hi => by
      have key := ch_key x i (n + 1) (by omega)
      have a1 : ((i : Int) + 1) * (eul n).getD i 0 * ((ch (x + i) (n + 2) : Nat) : Int) = (eul n).getD i 0 * (((i : Int) + 1) * ((ch (x + i) (n + 2) : Nat) : Int)) := by
        rw [Int.mul_comm ((i : Int) + 1), Int.mul_assoc]
      have a2 : (((n + 1 : Nat) : Int) - i) * (eul n).getD i 0 * ((ch (x + i + 1) (n + 2) : Nat) : Int) = (eul n).getD i 0 * ((((n + 1 : Nat) : Int) - i) * ((ch (x + i + 1) (n + 2) : Nat) : Int)) := by
        rw [Int.mul_comm (((n + 1 : Nat) : Int) - i), Int.mul_assoc]
      rw [a1, a2, ← Int.mul_add, ← key, ← Int.mul_assoc, ← Int.mul_assoc, Int.mul_comm (x : Int)]
    rw [sumI_congr g, sumI_mul, ih, ← Int.natCast_mul, Nat.pow_succ x (n + 1), Nat.mul_comm]
end M
set_option linter.all false
namespace M
/-! a row multiplied out with a table -/
def lin (row : List Int) (tbl : List (List Int)) (m i : Nat) : List Int := (List.range m).map fun j => sumI (fun k => row.getD k 0 * (tbl.getD k []).getD j 0) i
def idt (m : Nat) : List (List Int) := (List.range m).map fun i => (List.range m).map fun j => if i = j then 1 else 0
theorem lin_length (row : List Int) (tbl : List (List Int)) (m i : Nat) : (lin row tbl m i).length = m := by simp [lin]
theorem lin_getD {row : List Int} {tbl : List (List Int)} {m i j : Nat} (h : j < m) : (lin row tbl m i).getD j 0 = sumI (fun k => row.getD k 0 * (tbl.getD k []).getD j 0) i := by
  unfold lin
  rw [List.getD, List.getElem?_map, List.getElem?_range h]
  rfl
theorem idt_at {m i j : Nat} (hi : i < m) (hj : j < m) : ((idt m).getD i []).getD j 0 = if i = j then 1 else 0 := by
  have e : (idt m).getD i [] = (List.range m).map fun j => if i = j then 1 else 0 := by
    unfold idt
    rw [List.getD, List.getElem?_map, List.getElem?_range hi]
    rfl
  rw [e, List.getD, List.getElem?_map, List.getElem?_range hj]
  rfl
theorem sumI_one (f : Nat → Int) (j : Nat) : ∀ n, sumI (fun k => f k * (if k = j then 1 else 0)) n = if j < n then f j else 0
  | 0 => by simp [sumI]
  | n + 1 => by
    show sumI _ n + f n * (if n = j then 1 else 0) = _
    rw [sumI_one f j n]
    by_cases h : n = j
    · subst h; simp
    · by_cases h2 : j < n
      · rw [if_pos h2, if_neg h, if_pos (by omega)]; omega
      · rw [if_neg h2, if_neg h, if_neg (by omega)]; omega
theorem list_by {xs : List Int} {m : Nat} {f : Nat → Int} (hl : xs.length = m) (h : ∀ j, j < m → f j = xs.getD j 0) : (List.range m).map f = xs := by
  apply List.ext_getElem?
  intro i
  by_cases hi : i < m
  · rw [List.getElem?_map, List.getElem?_range hi, Option.map_some, h i hi, List.getD, List.getElem?_eq_getElem (show i < xs.length by omega)]
    rfl
  · rw [List.getElem?_eq_none (by simp; omega), List.getElem?_eq_none (by omega)]
theorem lin_idt {row : List Int} {m : Nat} (h : row.length = m) : lin row (idt m) m m = row := by
  refine list_by h fun j hj => ?_
  have e : ∀ k, k < m → row.getD k 0 * ((idt m).getD k []).getD j 0 = row.getD k 0 * (if k = j then 1 else 0) := fun k hk => by rw [idt_at hk hj]
  rw [sumI_congr e, sumI_one, if_pos hj]
theorem idt_lin {tbl : List (List Int)} {m i : Nat} (hi : i < m) (h : (tbl.getD i []).length = m) : lin ((idt m).getD i []) tbl m m = tbl.getD i [] := by
  refine list_by h fun j hj => ?_
  have e : ∀ k, k < m → ((idt m).getD i []).getD k 0 * (tbl.getD k []).getD j 0 = (tbl.getD k []).getD j 0 * (if k = i then 1 else 0) := fun k hk => by
    rw [idt_at hi hk, Int.mul_comm]
    by_cases q : i = k
    · rw [if_pos q, if_pos q.symm]
    · rw [if_neg q, if_neg (Ne.symm q)]
  rw [sumI_congr e, sumI_one (fun k => (tbl.getD k []).getD j 0), if_pos hi]
theorem lin_succ (row : List Int) (tbl : List (List Int)) (m i : Nat) : lin row tbl m (i + 1) = (List.range m).map fun j => (lin row tbl m i).getD j 0 + row.getD i 0 * (tbl.getD i []).getD j 0 := by
  refine List.map_congr_left fun j hj => ?_
  rw [lin_getD (List.mem_range.mp hj)]
  rfl
/-! by turns -/
def sg : Nat → Int
  | 0 => 1
  | n + 1 => - sg n
theorem sg_sq : ∀ n, sg n * sg n = 1
  | 0 => rfl
  | n + 1 => by show -sg n * -sg n = 1; rw [Int.neg_mul_neg, sg_sq n]
def chs (n t : Nat) : Int := ((ch n t : Nat) : Int)
theorem chs_ss (n t : Nat) : chs (n + 1) (t + 1) = chs n t + chs n (t + 1) := by unfold chs; rw [ch_ss]; simp
theorem sumI_sub (f g : Nat → Int) : ∀ n, sumI (fun i => f i - g i) n = sumI f n - sumI g n
  | 0 => rfl
  | n + 1 => by show sumI _ n + (f n - g n) = (sumI f n + f n) - (sumI g n + g n); rw [sumI_sub f g n]; omega
theorem alt_step (n : Nat) (F : Nat → Int) : sumI (fun t => sg t * chs n t * (F t - F (t + 1))) (n + 1) = sumI (fun t => sg t * chs (n + 1) t * F t) (n + 2) := by
  have e1 : sumI (fun t => sg t * chs n t * F t) (n + 2) = sumI (fun t => sg t * chs n t * F t) (n + 1) := by
    show sumI _ (n + 1) + sg (n + 1) * chs n (n + 1) * F (n + 1) = _
    have : chs n (n + 1) = 0 := by unfold chs; rw [ch_lt (by omega)]; rfl
    rw [this]; simp
  have e2 : sumI (fun t => sg t * chs n t * (F t - F (t + 1))) (n + 1) = sumI (fun t => sg t * chs n t * F t) (n + 1) - sumI (fun t => sg t * chs n t * F (t + 1)) (n + 1) := by
    rw [← sumI_sub]
    exact sumI_congr fun t _ => Int.mul_sub ..
  rw [e2, ← e1, sumI_shift (fun t => sg t * chs n t * F t), sumI_shift (fun t => sg t * chs (n + 1) t * F t)]
  have a0 : chs (n + 1) 0 = chs n 0 := by unfold chs; rw [ch_zero, ch_zero]
  have e3 : sumI (fun t => sg (t + 1) * chs (n + 1) (t + 1) * F (t + 1)) (n + 1) = sumI (fun t => sg (t + 1) * chs n (t + 1) * F (t + 1)) (n + 1) - sumI (fun t => sg t * chs n t * F (t + 1)) (n + 1) := by
    rw [← sumI_sub]
    refine sumI_congr fun t _ => ?_
    rw [chs_ss]
    show -sg t * _ * _ = -sg t * _ * _ - _
    rw [Int.mul_add, Int.add_mul, Int.neg_mul, Int.neg_mul]
    omega
  rw [a0, e3]
  omega
/-! rows of figures that come to at most so much -/
theorem sumI_zero {f : Nat → Int} : ∀ {n : Nat}, (∀ i, i < n → f i = 0) → sumI f n = 0
  | 0, _ => rfl
  | n + 1, h => by show sumI f n + f n = 0; rw [sumI_zero fun i hi => h i (by omega), h n (by omega)]; rfl
theorem sumI_cut {f : Nat → Int} {n : Nat} : ∀ {k : Nat}, (∀ i, n ≤ i → f i = 0) → sumI f (n + k) = sumI f n
  | 0, _ => rfl
  | k + 1, h => by show sumI f (n + k) + f (n + k) = _; rw [sumI_cut h, h _ (by omega)]; omega
theorem sumI_cut' {f : Nat → Int} {n k : Nat} (h : ∀ i, n ≤ i → f i = 0) (hk : n ≤ k) : sumI f k = sumI f n := by
  obtain ⟨d, rfl⟩ : ∃ d, k = n + d := ⟨k - n, by omega⟩
  exact sumI_cut h
def am (m b : Nat) (T : Int) : Int := sumI (fun t => sg t * chs m t * chI (T - (t : Int) * b + m) m) (m + 1)
/-- the number in list i at place j -/
def ca (m b i j : Nat) : Int := sumI (fun t => sg t * chs (m + 1) t * chI ((m : Int) - 1 - i + ((j : Int) + 1 - t) * b) m) (j + 1)
theorem ca_am {m b i j : Nat} : ca m b i j = am m b (((j : Int) + 1) * b - 1 - i) - am m b ((j : Int) * b - 1 - i) := by
  have z1 : ∀ t, j + 1 ≤ t → sg t * chs (m + 1) t * chI ((m : Int) - 1 - i + ((j : Int) + 1 - t) * b) m = 0 := fun t ht => by
    have : ((j : Int) + 1 - t) * b ≤ 0 := Int.mul_nonpos_of_nonpos_of_nonneg (by omega) (by omega)
    rw [chI_out (.inr (by omega)), Int.mul_zero]
  have z2 : ∀ t, m + 2 ≤ t → sg t * chs (m + 1) t * chI ((m : Int) - 1 - i + ((j : Int) + 1 - t) * b) m = 0 := fun t ht => by
    have : chs (m + 1) t = 0 := by unfold chs; rw [ch_lt (by omega)]; rfl
    rw [this]; simp
  have e1 : ca m b i j = sumI (fun t => sg t * chs (m + 1) t * chI ((m : Int) - 1 - i + ((j : Int) + 1 - t) * b) m) (m + 2) := by
    unfold ca
    rw [← sumI_cut' z1 (show j + 1 ≤ j + m + 2 by omega), ← sumI_cut' z2 (show m + 2 ≤ j + m + 2 by omega)]
  rw [e1, ← alt_step m fun t => chI ((m : Int) - 1 - i + ((j : Int) + 1 - (t : Nat)) * b) m]
  unfold am
  rw [← sumI_sub]
  refine sumI_congr fun t _ => ?_
  rw [← Int.mul_sub]
  congr 2
  · congr 1
    rw [Int.sub_mul]; omega
  · congr 1
    rw [show ((j : Int) + 1 - ((t + 1 : Nat) : Int)) = (j : Int) - t by omega, Int.sub_mul]; omega
/-! sums over all rows of figures -/
def S : Nat → Nat → (Int → Int) → Int
  | 0, _, f => f 0
  | m + 1, b, f => sumI (fun d => S m b fun x => f (x + d)) b
theorem S_congr {b : Nat} : ∀ {m : Nat} {f g : Int → Int}, (∀ x : Int, 0 ≤ x → x ≤ (m : Int) * (b - 1) → f x = g x) → S m b f = S m b g
  | 0, f, g, h => h 0 (by omega) (by omega)
  | m + 1, f, g, h => by
    refine sumI_congr fun d hd => S_congr fun x h0 h1 => h _ (by omega) ?_
    rw [show (((m + 1 : Nat) : Int)) * ((b : Int) - 1) = (m : Int) * (b - 1) + (b - 1) by rw [show (((m + 1 : Nat) : Int)) = (m : Int) + 1 by omega, Int.add_mul, Int.one_mul]]
    omega
theorem S_add {b : Nat} : ∀ (m : Nat) (f g : Int → Int), S m b (fun x => f x + g x) = S m b f + S m b g
  | 0, f, g => rfl
  | m + 1, f, g => by
    show sumI _ b = sumI _ b + sumI _ b
    rw [← sumI_add]
    exact sumI_congr fun d _ => S_add m _ _
theorem S_mul {b : Nat} (c : Int) : ∀ (m : Nat) (f : Int → Int), S m b (fun x => c * f x) = c * S m b f
  | 0, f => rfl
  | m + 1, f => by
    show sumI _ b = c * sumI _ b
    rw [← sumI_mul]
    exact sumI_congr fun d _ => S_mul c m _
theorem S_zero {b : Nat} (m : Nat) : S m b (fun _ => 0) = 0 := by
  have := S_mul (b := b) 0 m (fun _ => 0)
  simp only [Int.zero_mul] at this
  exact this
theorem S_sum {b : Nat} (m : Nat) (h : Nat → Int → Int) : ∀ n, S m b (fun x => sumI (fun d => h d x) n) = sumI (fun d => S m b (h d)) n
  | 0 => S_zero m
  | n + 1 => by
    show S m b (fun x => sumI (fun d => h d x) n + h n x) = _
    rw [S_add, S_sum m h n]; rfl
theorem sumI_nonneg {f : Nat → Int} : ∀ {n : Nat}, (∀ i, i < n → 0 ≤ f i) → 0 ≤ sumI f n
  | 0, _ => Int.le_refl _
  | n + 1, h => Int.add_nonneg (sumI_nonneg fun i hi => h i (by omega)) (h n (by omega))
theorem S_nonneg {b : Nat} : ∀ {m : Nat} {f : Int → Int}, (∀ x, 0 ≤ f x) → 0 ≤ S m b f
  | 0, f, h => h 0
  | m + 1, f, h => sumI_nonneg fun d _ => S_nonneg fun x => h _
theorem sumI_const (c : Int) : ∀ n : Nat, sumI (fun _ => c) n = n * c
  | 0 => by simp [sumI]
  | n + 1 => by show sumI _ n + c = _; rw [sumI_const c n, show (((n + 1 : Nat) : Int)) = (n : Int) + 1 by omega, Int.add_mul, Int.one_mul]
theorem S_one {b : Nat} : ∀ m : Nat, S m b (fun _ => 1) = ((b ^ m : Nat) : Int)
  | 0 => rfl
  | m + 1 => by
    show sumI (fun _ => S m b fun _ => 1) b = _
    rw [sumI_const, S_one m, Nat.pow_succ, Int.natCast_mul, Int.mul_comm]
/-- at most so much -/
def ind (p : Prop) [Decidable p] : Int := if p then 1 else 0
theorem hock (m : Nat) (N : Int) : ∀ b : Nat, sumI (fun d => chI (N - d + m) m) b = chI (N + m + 1) (m + 1) - chI (N - b + m + 1) (m + 1)
  | 0 => by show (0 : Int) = _; simp
  | b + 1 => by
    show sumI _ b + chI (N - b + m) m = _
    rw [hock m N b]
    have e : chI (N - (b : Int) + m + 1) (m + 1) = chI (N - b + m) (m + 1) + chI (N - b + m) m := by
      by_cases h : 0 < N - (b : Int) + m + 1
      · have := chI_pascal (n := N - (b : Int) + m + 1) (k := (m : Int) + 1) h
        rw [show N - (b : Int) + m + 1 - 1 = N - b + m by omega, show (m : Int) + 1 - 1 = m by omega] at this
        omega
      · rw [chI_out (.inr (by omega)), chI_out (.inr (by omega)), chI_out (.inr (by omega))]; rfl
    rw [e, show N - (((b + 1 : Nat)) : Int) + m + 1 = N - b + m by omega]
    omega
theorem am_S {b : Nat} : ∀ (m : Nat) (T : Int), S m b (fun x => ind (x ≤ T)) = am m b T
  | 0, T => by
    show ind (0 ≤ T) = (0 : Int) + 1 * chs 0 0 * chI (T - ((0 : Nat) : Int) * b + ((0 : Nat) : Int)) ((0 : Nat) : Int)
    have e0 : chs 0 0 = 1 := rfl
    rw [e0]
    unfold ind
    by_cases h : 0 ≤ T
    · rw [if_pos h, chI_in (by omega) (by simp; omega)]
      show (1 : Int) = 0 + 1 * 1 * ((ch _ 0 : Nat) : Int)
      rw [ch_zero]; rfl
    · rw [if_neg h, chI_out (.inr (by simp; omega))]; rfl
  | m + 1, T => by
    show sumI (fun d => S m b fun x => ind (x + d ≤ T)) b = _
    have e1 : ∀ d : Nat, d < b → (S m b fun x => ind (x + d ≤ T)) = am m b (T - d) := fun d _ => by
      rw [← am_S m (T - d)]
      refine S_congr fun x _ _ => ?_
      unfold ind
      by_cases h : x + (d : Int) ≤ T
      · rw [if_pos h, if_pos (by omega)]
      · rw [if_neg h, if_neg (by omega)]
    rw [sumI_congr e1]
    have sw : ∀ (f : Nat → Nat → Int) (n k : Nat), sumI (fun d => sumI (fun t => f d t) k) n = sumI (fun t => sumI (fun d => f d t) n) k := fun f n k => by
      induction n with
      | zero => exact (sumI_zero fun i _ => rfl).symm
      | succ n ih =>
        show sumI _ n + _ = _
        rw [ih, ← sumI_add]
        rfl
    unfold am
    rw [sw]
    have e2 : ∀ t : Nat, t < m + 1 → sumI (fun d => sg t * chs m t * chI (T - d - (t : Int) * b + m) m) b = sg t * chs m t * (chI (T - (t : Int) * b + ((m + 1 : Nat) : Int)) ((m + 1 : Nat) : Int) - chI (T - ((t + 1 : Nat) : Int) * b + ((m + 1 : Nat) : Int)) ((m + 1 : Nat) : Int)) := fun t _ => by
      rw [sumI_mul]
      congr 1
      have := hock m (T - (t : Int) * b) b
      have c : ∀ d : Nat, d < b → chI (T - d - (t : Int) * b + m) m = chI (T - (t : Int) * b - d + m) m := fun d _ => by congr 1; omega
      rw [sumI_congr c, this]
      have m1 : (((t + 1 : Nat) : Int)) * (b : Int) = (t : Int) * b + b := by rw [show (((t + 1 : Nat) : Int)) = (t : Int) + 1 by omega, Int.add_mul, Int.one_mul]
      have m2 : T - ((t + 1 : Nat) : Int) * b + ((m + 1 : Nat) : Int) = T - (t : Int) * b - b + m + 1 := by rw [m1]; omega
      have m3 : T - (t : Int) * b + ((m + 1 : Nat) : Int) = T - (t : Int) * b + m + 1 := by omega
      rw [m2, m3]
      rfl
    rw [sumI_congr e2]
    exact alt_step m fun t => chI (T - (t : Int) * b + ((m + 1 : Nat) : Int)) ((m + 1 : Nat) : Int)
/-- what the number counts -/
theorem ca_S {m b i j : Nat} : ca m b i j = S m b fun x => ind ((j : Int) * b ≤ x + i ∧ x + i < ((j : Int) + 1) * b) := by
  rw [ca_am, ← am_S, ← am_S]
  have e : (S m b fun x => ind (x ≤ ((j : Int) + 1) * b - 1 - i)) = (S m b fun x => ind (x ≤ (j : Int) * b - 1 - i)) + S m b fun x => ind ((j : Int) * b ≤ x + i ∧ x + i < ((j : Int) + 1) * b) := by
    rw [← S_add]
    refine S_congr fun x _ _ => ?_
    have hb : ((j : Int) + 1) * b = (j : Int) * b + b := by rw [Int.add_mul, Int.one_mul]
    rw [hb]
    unfold ind
    generalize (j : Int) * b = c
    by_cases h1 : x ≤ c - 1 - i
    · rw [if_pos (by omega), if_pos h1, if_neg (by omega)]; rfl
    · by_cases h2 : x ≤ c + b - 1 - i
      · rw [if_pos h2, if_neg h1, if_pos (by omega)]; rfl
      · rw [if_neg h2, if_neg h1, if_neg (by omega)]; rfl
  omega
theorem ca_nonneg (m b i j : Nat) : 0 ≤ ca m b i j := by
  rw [ca_S]
  refine S_nonneg fun x => ?_
  unfold ind
  split <;> decide
/-- just one list place is met -/
theorem ind_div {y b : Int} {j : Nat} (hb : 0 < b) : ind ((j : Int) * b ≤ y ∧ y < ((j : Int) + 1) * b) = if y / b = j then 1 else 0 := by
  unfold ind
  by_cases h : (j : Int) * b ≤ y ∧ y < ((j : Int) + 1) * b
  · rw [if_pos h, if_pos]
    have h1 := Int.le_ediv_of_mul_le hb h.1
    have h2 := Int.ediv_lt_of_lt_mul hb h.2
    omega
  · rw [if_neg h, if_neg]
    intro e
    apply h
    have h1 := Int.ediv_mul_le y (show b ≠ 0 by omega)
    have h2 := Int.lt_ediv_add_one_mul_self y hb
    rw [e] at h1 h2
    exact ⟨h1, h2⟩
theorem sumI_hit (q : Int) : ∀ {n : Nat}, 0 ≤ q → q < n → sumI (fun j => if q = (j : Int) then 1 else 0) n = 1
  | 0, h0, h1 => by omega
  | n + 1, h0, h1 => by
    show sumI _ n + (if q = (n : Int) then 1 else 0) = 1
    by_cases h : q = (n : Int)
    · rw [if_pos h, sumI_zero fun i hi => if_neg (by omega)]; rfl
    · rw [if_neg h, sumI_hit q h0 (by omega)]; rfl
theorem div_bd {m b i : Nat} {x : Int} (hb : 1 ≤ b) (hi : i < m) (h0 : 0 ≤ x) (h1 : x ≤ (m : Int) * (b - 1)) : 0 ≤ (x + i) / b ∧ (x + i) / b < m := by
  refine ⟨Int.ediv_nonneg (by omega) (by omega), Int.ediv_lt_of_lt_mul (by omega) ?_⟩
  rw [Int.mul_sub, Int.mul_one] at h1
  omega
theorem ca_row {m b i : Nat} (hb : 1 ≤ b) (hi : i < m) : sumI (fun j => ca m b i j) m = ((b ^ m : Nat) : Int) := by
  rw [← S_one, sumI_congr fun j _ => ca_S, ← S_sum]
  refine S_congr fun x h0 h1 => ?_
  have hd := div_bd hb hi h0 h1
  rw [sumI_congr fun j _ => ind_div (y := x + i) (b := (b : Int)) (j := j) (by omega)]
  exact sumI_hit _ hd.1 hd.2
theorem ca_le {m b i j : Nat} (hb : 1 ≤ b) (hi : i < m) (hj : j < m) : ca m b i j ≤ ((b ^ m : Nat) : Int) := by
  rw [← ca_row hb hi]
  have : ∀ n, j < n → ca m b i j ≤ sumI (fun j => ca m b i j) n := fun n => by
    induction n with
    | zero => intro h; omega
    | succ n ih =>
      intro h
      show _ ≤ sumI _ n + ca m b i n
      have a := ca_nonneg m b i n
      by_cases e : j = n
      · subst e
        have := sumI_nonneg (f := fun j => ca m b i j) (n := j) fun k _ => ca_nonneg m b i k
        omega
      · have := ih (by omega)
        omega
  exact this m hj
/-! read from the end -/
theorem sumI_rev (f : Nat → Int) : ∀ n, sumI f n = sumI (fun d => f (n - 1 - d)) n
  | 0 => rfl
  | n + 1 => by
    rw [sumI_shift (fun d => f (n + 1 - 1 - d))]
    show sumI f n + f n = f (n + 1 - 1 - 0) + _
    rw [sumI_rev f n, show n + 1 - 1 - 0 = n by omega, Int.add_comm]
    congr 1
    exact sumI_congr fun d _ => by congr 1; omega
theorem S_rev {b : Nat} : ∀ (m : Nat) (f : Int → Int), S m b f = S m b fun x => f ((m : Int) * (b - 1) - x)
  | 0, f => by show f 0 = f (((0 : Nat) : Int) * _ - 0); congr 1; simp
  | m + 1, f => by
    show sumI _ b = sumI _ b
    rw [sumI_rev]
    refine sumI_congr fun d hd => ?_
    show S m b (fun x => f (x + ((b - 1 - d : Nat) : Int))) = _
    rw [S_rev m]
    refine S_congr fun x _ _ => ?_
    congr 1
    rw [show (((m + 1 : Nat) : Int)) * ((b : Int) - 1) = (m : Int) * (b - 1) + (b - 1) by rw [show (((m + 1 : Nat) : Int)) = (m : Int) + 1 by omega, Int.add_mul, Int.one_mul]]
    omega
theorem ca_sym {m b i j : Nat} (hb : 1 ≤ b) (hi : i < m) (hj : j < m) : ca m b (m - 1 - i) (m - 1 - j) = ca m b i j := by
  rw [ca_S, ca_S, S_rev]
  refine S_congr fun x h0 h1 => ?_
  have e1 : (((m - 1 - j : Nat)) : Int) * b = (m : Int) * b - ((j : Int) + 1) * b := by
    rw [← Int.sub_mul]; congr 1; omega
  have e2 : ((((m - 1 - j : Nat)) : Int) + 1) * b = (m : Int) * b - (j : Int) * b := by
    rw [← Int.sub_mul]; congr 1; omega
  rw [e1, e2, Int.mul_sub, Int.mul_one]
  unfold ind
  have e3 : ((j : Int) + 1) * b = (j : Int) * b + b := by rw [Int.add_mul, Int.one_mul]
  rw [e3]
  generalize (j : Int) * b = c
  generalize (m : Int) * b = d
  by_cases h : c ≤ x + i ∧ x + i < c + b
  · rw [if_pos h, if_pos (by omega)]
  · rw [if_neg h, if_neg (by omega)]
/-! the table for a times b -/
theorem sumI_swap (f : Nat → Nat → Int) (k : Nat) : ∀ n, sumI (fun d => sumI (fun t => f d t) k) n = sumI (fun t => sumI (fun d => f d t) n) k
  | 0 => (sumI_zero fun i _ => rfl).symm
  | n + 1 => by
    show sumI _ n + _ = _
    rw [sumI_swap f k n, ← sumI_add]
    rfl
theorem sumI_append (f : Nat → Int) (n : Nat) : ∀ k, sumI f (n + k) = sumI f n + sumI (fun d => f (n + d)) k
  | 0 => (Int.add_zero _).symm
  | k + 1 => by show sumI f (n + k) + f (n + k) = _; rw [sumI_append f n k]; show _ = sumI f n + (sumI _ k + f (n + k)); omega
theorem sumI_times (f : Nat → Int) (a : Nat) : ∀ b, sumI f (a * b) = sumI (fun e => sumI (fun d => f (d + a * e)) a) b
  | 0 => rfl
  | b + 1 => by
    rw [Nat.mul_succ, sumI_append, sumI_times f a b]
    show _ = sumI _ b + sumI _ a
    congr 1
    exact sumI_congr fun d _ => by congr 1; omega
theorem S_times {a b : Nat} : ∀ (m : Nat) (f : Int → Int), S m (a * b) f = S m a fun x => S m b fun y => f (x + a * y)
  | 0, f => by show f 0 = f (0 + a * 0); simp
  | m + 1, f => by
    show sumI _ (a * b) = sumI (fun d => S m a fun x => sumI (fun e => S m b fun y => f (x + d + a * (y + e))) b) a
    rw [sumI_times, sumI_swap]
    refine sumI_congr fun d _ => ?_
    rw [S_sum]
    refine sumI_congr fun e _ => ?_
    rw [S_times m]
    refine S_congr fun x _ _ => S_congr fun y _ _ => ?_
    congr 1
    rw [Int.mul_add, show (((d + a * e : Nat)) : Int) = (d : Int) + a * e by simp]
    omega
theorem div_div {z a b i : Int} (ha : 0 < a) (hb : 0 < b) : (z + i) / (a * b) = (z + i) / a / b := by
  rw [Int.ediv_ediv_of_nonneg (by omega)]
theorem ca_prod {m a b i j : Nat} (ha : 1 ≤ a) (hb : 1 ≤ b) (hi : i < m) : sumI (fun k => ca m a i k * ca m b k j) m = ca m (a * b) i j := by
  have hab : 0 < ((a * b : Nat) : Int) := by have := Nat.mul_pos ha hb; omega
  have e1 : ∀ k, k < m → ca m a i k * ca m b k j = S m a fun x => (if (x + i) / a = (k : Int) then 1 else 0) * ca m b k j := fun k _ => by
    have := S_mul (b := a) (ca m b k j) m (fun x => if (x + i) / a = (k : Int) then 1 else 0)
    rw [ca_S (b := a), Int.mul_comm, ← S_mul]
    refine S_congr fun x _ _ => ?_
    rw [ind_div (by omega), Int.mul_comm]
  rw [sumI_congr e1, ← S_sum, ca_S (b := a * b), S_times]
  refine S_congr fun x h0 h1 => ?_
  have hd := div_bd ha hi h0 h1
  obtain ⟨q, hq⟩ : ∃ q : Nat, (x + i) / a = (q : Int) := ⟨((x + i) / a).toNat, by omega⟩
  have e2 : ∀ k, k < m → (if (x + i) / a = (k : Int) then 1 else 0) * ca m b k j = ca m b k j * (if k = q then 1 else 0) := fun k _ => by
    rw [hq, Int.mul_comm]
    by_cases h : k = q
    · rw [if_pos h, if_pos (by omega)]
    · rw [if_neg h, if_neg (by omega)]
  rw [sumI_congr e2, sumI_one (fun k => ca m b k j), if_pos (by omega), ca_S]
  refine S_congr fun y _ _ => ?_
  have e3 : (((a * b : Nat)) : Int) = (a : Int) * b := by simp
  rw [ind_div (by omega), ind_div hab, e3]
  have e4 : (x + (a : Int) * y + i) / ((a : Int) * b) = (y + q) / b := by
    rw [← Int.ediv_ediv_of_nonneg (by omega), show x + (a : Int) * y + i = x + i + a * y by omega, Int.add_mul_ediv_left _ _ (by omega), hq, Int.add_comm]
  rw [e4]
/-! the row that is kept -/
theorem S_b1 (f : Int → Int) : ∀ m, S m 1 f = f 0
  | 0 => rfl
  | m + 1 => by
    show (0 : Int) + S m 1 (fun x => f (x + ((0 : Nat) : Int))) = f 0
    rw [S_b1 _ m, Int.zero_add]; rfl
theorem ca_b1 {m i j : Nat} : ca m 1 i j = if i = j then 1 else 0 := by
  rw [ca_S, S_b1]
  unfold ind
  by_cases h : i = j
  · rw [if_pos h, if_pos (by simp; omega)]
  · rw [if_neg h, if_neg (by simp; omega)]
theorem worp_rev (n X : Nat) : sumI (fun i => (eul n).getD i 0 * chI ((n : Int) - i + X) ((n + 1 : Nat) : Int)) (n + 1) = ((X ^ (n + 1) : Nat) : Int) := by
  rw [← worp X n, sumI_rev]
  refine sumI_congr fun d hd => ?_
  rw [show n + 1 - 1 - d = n - d by omega, eul_sym n d (by omega)]
  congr 1
  have e : (n : Int) - (((n - d : Nat)) : Int) + X = ((X + d : Nat) : Int) := by omega
  rw [e]
  by_cases h : ((X + d : Nat) : Int) < ((n + 1 : Nat) : Int)
  · rw [chI_out (.inr h), ch_lt (by omega)]; rfl
  · rw [chI_in (by omega) (by omega), Int.toNat_natCast, Int.toNat_natCast]
theorem eul_ca (n b j : Nat) : sumI (fun i => (eul n).getD i 0 * ca (n + 1) b i j) (n + 1) = ((b ^ (n + 1) : Nat) : Int) * sumI (fun t => sg t * chs (n + 2) t * (((j + 1 - t) ^ (n + 1) : Nat) : Int)) (j + 1) := by
  have e1 : ∀ i, i < n + 1 → (eul n).getD i 0 * ca (n + 1) b i j = sumI (fun t => (eul n).getD i 0 * (sg t * chs (n + 2) t * chI (((n + 1 : Nat) : Int) - 1 - i + ((j : Int) + 1 - t) * b) ((n + 1 : Nat) : Int))) (j + 1) := fun i _ => by
    rw [sumI_mul]; rfl
  rw [sumI_congr e1, sumI_swap, ← sumI_mul]
  refine sumI_congr fun t ht => ?_
  have e2 : ∀ i, i < n + 1 → (eul n).getD i 0 * (sg t * chs (n + 2) t * chI (((n + 1 : Nat) : Int) - 1 - i + ((j : Int) + 1 - t) * b) ((n + 1 : Nat) : Int)) = sg t * chs (n + 2) t * ((eul n).getD i 0 * chI ((n : Int) - i + (((j + 1 - t) * b : Nat))) ((n + 1 : Nat) : Int)) := fun i _ => by
    rw [Int.mul_left_comm]
    congr 3
    have : ((((j + 1 - t) * b : Nat)) : Int) = ((j : Int) + 1 - t) * b := by
      rw [Int.natCast_mul]; congr 1; omega
    rw [this]; omega
  rw [sumI_congr e2, sumI_mul, worp_rev, Nat.mul_pow, Int.natCast_mul]
  rw [← Int.mul_assoc, Int.mul_comm]
theorem eul_kept {n b j : Nat} (hj : j < n + 1) : sumI (fun i => (eul n).getD i 0 * ca (n + 1) b i j) (n + 1) = ((b ^ (n + 1) : Nat) : Int) * (eul n).getD j 0 := by
  have h1 := eul_ca n 1 j
  have e : ∀ i, i < n + 1 → (eul n).getD i 0 * ca (n + 1) 1 i j = (eul n).getD i 0 * (if i = j then 1 else 0) := fun i _ => by rw [ca_b1]
  rw [sumI_congr e, sumI_one (fun i => (eul n).getD i 0), if_pos hj, Nat.one_pow] at h1
  rw [eul_ca, h1]
  simp
/-- the table -/
def cat (m b : Nat) : List (List Int) := (List.range m).map fun i => (List.range m).map fun j => ca m b i j
theorem cat_length (m b : Nat) : (cat m b).length = m := by simp [cat]
theorem cat_row {m b i : Nat} (h : i < m) : (cat m b).getD i [] = (List.range m).map fun j => ca m b i j := by
  unfold cat
  rw [List.getD, List.getElem?_map, List.getElem?_range h]
  rfl
theorem cat_at {m b i j : Nat} (hi : i < m) (hj : j < m) : ((cat m b).getD i []).getD j 0 = ca m b i j := by
  rw [cat_row hi, List.getD, List.getElem?_map, List.getElem?_range hj]
  rfl
theorem sg_one : ∀ t, sg t = 1 ∨ sg t = -1
  | 0 => .inl rfl
  | t + 1 => by
    rcases sg_one t with h | h
    · right; show -sg t = -1; rw [h]
    · left; show -sg t = 1; rw [h]; rfl
theorem chI_bits {n : Int} {m : Nat} (h : n ≤ 10 ^ 30) : (chI n m).natAbs < 2 ^ (100 * m + 1) := by
  by_cases q : n < (m : Int)
  · rw [chI_out (.inr q)]; exact Nat.two_pow_pos _
  · rw [chI_in (by omega) (by omega), Int.natAbs_natCast, Int.toNat_natCast]
    exact ch_bits (by omega) m
theorem ca_bits {m b i j : Nat} (hb : 1 ≤ b) (hi : i < m) (hj : j < m) (hm : m ≤ 60) (h : b ≤ 10 ^ 30) : (ca m b i j).natAbs < 2 ^ 10000 := by
  have h1 := ca_nonneg m b i j
  have h2 := ca_le hb hi hj
  have h3 : (ca m b i j).natAbs ≤ b ^ m := by omega
  refine Nat.lt_of_le_of_lt h3 ?_
  refine Nat.lt_of_le_of_lt (Nat.pow_le_pow_left (show b ≤ 2 ^ 100 from Nat.le_trans h (by decide +kernel)) m) ?_
  rw [← Nat.pow_mul]
  exact Nat.pow_lt_pow_right (by decide) (by omega)
/-! all sums, one by one -/
def sms (b : Nat) : Nat → List Int
  | 0 => [0]
  | m + 1 => (sms b m).flatMap fun x => (List.range b).map fun d => x + (d : Nat)
def sumL (f : Int → Int) : List Int → Int
  | [] => 0
  | x :: xs => f x + sumL f xs
theorem sumL_app (f : Int → Int) : ∀ xs ys, sumL f (xs ++ ys) = sumL f xs + sumL f ys
  | [], ys => (Int.zero_add _).symm
  | x :: xs, ys => by show f x + sumL f (xs ++ ys) = f x + sumL f xs + sumL f ys; rw [sumL_app f xs ys]; omega
theorem sumL_range (f : Int → Int) (x : Int) : ∀ n : Nat, sumL f ((List.range n).map fun d => x + (d : Nat)) = sumI (fun d => f (x + d)) n
  | 0 => rfl
  | n + 1 => by
    rw [List.range_succ, List.map_append, sumL_app, sumL_range f x n]
    show _ + (f (x + (n : Nat)) + 0) = _
    rw [Int.add_zero]; rfl
theorem sumL_flat (f : Int → Int) (b : Nat) : ∀ xs : List Int, sumL f (xs.flatMap fun x => (List.range b).map fun d => x + (d : Nat)) = sumI (fun d => sumL (fun x => f (x + d)) xs) b
  | [] => (sumI_zero fun i _ => rfl).symm
  | x :: xs => by
    rw [List.flatMap_cons, sumL_app, sumL_range, sumL_flat f b xs, ← sumI_add]
    rfl
theorem sms_S {b : Nat} : ∀ (m : Nat) (f : Int → Int), sumL f (sms b m) = S m b f
  | 0, f => Int.add_zero _
  | m + 1, f => by
    show sumL f ((sms b m).flatMap _) = sumI _ b
    rw [sumL_flat]
    exact sumI_congr fun d _ => sms_S m _
theorem flat_len (b : Nat) : ∀ xs : List Int, (xs.flatMap fun x => (List.range b).map fun d => x + ((d : Nat) : Int)).length = xs.length * b
  | [] => by simp
  | x :: xs => by rw [List.flatMap_cons, List.length_append, flat_len b xs, List.length_map, List.length_range, List.length_cons, Nat.succ_mul]; omega
theorem sms_length (b : Nat) : ∀ m, (sms b m).length = b ^ m
  | 0 => rfl
  | m + 1 => by show ((sms b m).flatMap _).length = _; rw [flat_len, sms_length b m, Nat.pow_succ]
theorem sms_bd {b : Nat} : ∀ {m : Nat} {x : Int}, x ∈ sms b m → 0 ≤ x ∧ x ≤ (m : Int) * (b - 1)
  | 0, x, h => by
    have : x = 0 := by simpa [sms] using h
    subst this; simp
  | m + 1, x, h => by
    unfold sms at h
    rw [List.mem_flatMap] at h
    obtain ⟨y, hy, hx⟩ := h
    rw [List.mem_map] at hx
    obtain ⟨d, hd, rfl⟩ := hx
    have hd := List.mem_range.mp hd
    have := sms_bd hy
    rw [show (((m + 1 : Nat) : Int)) * ((b : Int) - 1) = (m : Int) * (b - 1) + (b - 1) by rw [show (((m + 1 : Nat) : Int)) = (m : Int) + 1 by omega, Int.add_mul, Int.one_mul]]
    omega
/-- how many of the first k sums come to place j -/
def tal (m b i : Nat) (xs : List Int) : List Int := (List.range m).map fun (j : Nat) => sumL (fun x => if (x + i) / b = (j : Int) then 1 else 0) xs
theorem tal_length (m b i : Nat) (xs : List Int) : (tal m b i xs).length = m := by simp [tal]
theorem tal_getD {m b i j : Nat} {xs : List Int} (h : j < m) : (tal m b i xs).getD j 0 = sumL (fun x => if (x + i) / b = (j : Int) then 1 else 0) xs := by
  unfold tal
  rw [List.getD, List.getElem?_map, List.getElem?_range h]
  rfl
theorem tal_step {m b i : Nat} {xs : List Int} {x : Int} {q : Nat} (hq : (x + i) / b = (q : Int)) (hm : q < m) : tal m b i (xs ++ [x]) = (tal m b i xs).set q ((tal m b i xs).getD q 0 + 1) := by
  apply List.ext_getElem?
  intro j
  by_cases hj : j < m
  · have e : (tal m b i (xs ++ [x]))[j]? = some (sumL (fun x => if (x + i) / b = (j : Int) then 1 else 0) xs + (if (x + i) / b = (j : Int) then 1 else 0)) := by
      unfold tal
      rw [List.getElem?_map, List.getElem?_range hj, Option.map_some, sumL_app]
      show some (_ + (_ + 0)) = _
      rw [Int.add_zero]
    rw [e]
    by_cases h : q = j
    · subst h
      rw [List.getElem?_set_self (by rw [tal_length]; exact hm), tal_getD hm, if_pos hq]
    · rw [List.getElem?_set_ne h, hq, if_neg (by omega), Int.add_zero]
      unfold tal
      rw [List.getElem?_map, List.getElem?_range hj]
      rfl
  · rw [List.getElem?_eq_none (by rw [tal_length]; omega), List.getElem?_eq_none (by rw [List.length_set, tal_length]; omega)]
theorem tal_ca {m b i : Nat} (hb : 1 ≤ b) : tal m b i (sms b m) = (List.range m).map fun j => ca m b i j := by
  unfold tal
  refine List.map_congr_left fun j _ => ?_
  rw [sms_S, ca_S]
  exact S_congr fun x _ _ => (ind_div (by omega)).symm
theorem tal_nil (m b i : Nat) : tal m b i [] = List.replicate m 0 := by
  have : tal m b i [] = (List.range m).map fun _ => (0 : Int) := rfl
  rw [this, List.map_const', List.length_range]
end M
namespace M
/-- the order of a number: the next card is the so-manieth of those left -/
def pk : Nat → Nat → List Int → List Int
  | 0, _, _ => []
  | f + 1, u, left => left.getD (u % left.length) 0 :: pk f (u / left.length) (left.eraseIdx (u % left.length))
theorem pk_length : ∀ (f u : Nat) (left : List Int), (pk f u left).length = f
  | 0, _, _ => rfl
  | f + 1, u, left => by show (pk f _ _).length + 1 = _; rw [pk_length f]
def flU (n u : Nat) : Nat := flN (pk n u (iota n))
theorem flU_lt {n : Nat} (h : 1 ≤ n) (u : Nat) : flU n u < n := by
  unfold flU flN
  have := cnt_le ((pk n u (iota n)).length - 1) fun p => decide ((pk n u (iota n)).getD (p + 1) 0 < (pk n u (iota n)).getD p 0)
  rw [pk_length] at this ⊢
  omega
/-- how many of the first m orders have so many falls -/
def lst (n m : Nat) : List Int := (List.range n).map fun j => ((cnt m fun u => flU n u == j : Nat) : Int)
theorem lst_length (n m : Nat) : (lst n m).length = n := by simp [lst]
theorem lst_getD {n m j : Nat} (h : j < n) : (lst n m).getD j 0 = ((cnt m fun u => flU n u == j : Nat) : Int) := by simp [lst, List.getD, h]
theorem lst_zero (n : Nat) : lst n 0 = List.replicate n 0 := by
  apply List.ext_getElem?
  intro i
  by_cases h : i < n <;> simp [lst, h, cnt_zero]
theorem lst_succ {n m : Nat} (h : 1 ≤ n) : (lst n m).set (flU n m) ((lst n m).getD (flU n m) 0 + 1) = lst n (m + 1) := by
  have hl := flU_lt h m
  apply List.ext_getElem?
  intro j
  by_cases hj : j < n
  · have e2 : (lst n (m + 1))[j]? = some ((cnt (m + 1) fun u => flU n u == j : Nat) : Int) := by simp [lst, hj]
    have e1 : (lst n m)[j]? = some ((cnt m fun u => flU n u == j : Nat) : Int) := by simp [lst, hj]
    rw [e2, cnt_succ]
    by_cases e : flU n m = j
    · rw [e, List.getElem?_set_self (by rw [lst_length]; exact hj), lst_getD hj, if_pos (by simp)]
      rfl
    · rw [List.getElem?_set_ne e, e1, if_neg (by simpa using e)]
      rfl
  · rw [List.getElem?_eq_none (by rw [List.length_set, lst_length]; omega), List.getElem?_eq_none (by rw [lst_length]; omega)]
def fa : Nat → Nat
  | 0 => 1
  | k + 1 => fa k * (k + 1)
theorem lst1 : lst 1 (fa 1) = eul 0 := by decide +kernel
theorem lst2 : lst 2 (fa 2) = eul 1 := by decide +kernel
theorem lst3 : lst 3 (fa 3) = eul 2 := by decide +kernel
theorem lst4 : lst 4 (fa 4) = eul 3 := by decide +kernel
theorem lst5 : lst 5 (fa 5) = eul 4 := by decide +kernel
theorem lst6 : lst 6 (fa 6) = eul 5 := by decide +kernel
theorem lst_eul {n : Nat} (h1 : 1 ≤ n) (h2 : n ≤ 6) : lst n (fa n) = eul (n - 1) := by
  have : n = 1 ∨ n = 2 ∨ n = 3 ∨ n = 4 ∨ n = 5 ∨ n = 6 := by omega
  rcases this with rfl | rfl | rfl | rfl | rfl | rfl
  · exact lst1
  · exact lst2
  · exact lst3
  · exact lst4
  · exact lst5
  · exact lst6
theorem fa_le : ∀ {k : Nat}, k ≤ 6 → fa k ≤ 720 := by
  intro k h
  have : k = 0 ∨ k = 1 ∨ k = 2 ∨ k = 3 ∨ k = 4 ∨ k = 5 ∨ k = 6 := by omega
  rcases this with rfl | rfl | rfl | rfl | rfl | rfl | rfl <;> decide
theorem sum_range (f : Nat → Int) : ∀ n, ((List.range n).map f).sum = sumI f n
  | 0 => rfl
  | n + 1 => by rw [List.range_succ, List.map_append, List.sum_append, sum_range f n]; show _ + (f n + 0) = sumI f n + f n; omega
theorem eul_bits {n j : Nat} (h : n ≤ 60) : ((eul n).getD j 0).natAbs < 2 ^ 400 := by
  have b := eul_bd n j
  have m : ((n : Int) + 2) ^ n ≤ (62 : Int) ^ n := pow_mono (by omega) (by omega) n
  have e : (62 : Int) ^ n ≤ 62 ^ 60 := by
    have : (62 : Nat) ^ n ≤ 62 ^ 60 := Nat.pow_le_pow_right (by decide) h
    have := Int.ofNat_le.mpr this
    rw [Int.natCast_pow, Int.natCast_pow] at this
    exact this
  have k : (62 : Int) ^ 60 < 2 ^ 400 := by decide +kernel
  omega
theorem pow_bits {x : Nat} (h : x ≤ 10 ^ 20) : ∀ k, x ^ k < 2 ^ (67 * k + 1)
  | 0 => by rw [Nat.pow_zero]; decide
  | k + 1 => by
    have ih := pow_bits h k
    have hx : x ≤ 2 ^ 67 := Nat.le_trans h (by decide +kernel)
    rw [Nat.pow_succ, show 67 * (k + 1) + 1 = (67 * k + 1) + 67 by omega, Nat.pow_add]
    have hp : 0 < 2 ^ 67 := by decide
    calc x ^ k * x ≤ x ^ k * 2 ^ 67 := Nat.mul_le_mul_left _ hx
      _ < 2 ^ (67 * k + 1) * 2 ^ 67 := Nat.mul_lt_mul_of_pos_right ih hp
end M
set_option linter.all false
namespace M
theorem gcd_step (x y : Int) : Int.gcd y (x % y) = Int.gcd x y := by
  have e : x % y = x - y * (x / y) := by have := Int.emod_add_mul_ediv x y; omega
  rw [e, Int.gcd_sub_mul_left_right, Int.gcd_comm]
structure FrOk (top bottom t b : Int) : Prop where
  eq : t * bottom = top * b
  pos : 1 ≤ b
  one : Int.gcd t b = 1
  t_le : t.natAbs ≤ top.natAbs
  b_le : b.natAbs ≤ bottom.natAbs
theorem frac_ok {top bottom d : Int} (h : bottom ≠ 0) (hd : d = if bottom > 0 then ((Int.gcd top bottom : Nat) : Int) else -((Int.gcd top bottom : Nat) : Int)) : FrOk top bottom (top.fdiv d) (bottom.fdiv d) := by
  have hg : 0 < Int.gcd top bottom := Int.gcd_pos_of_ne_zero_right _ h
  obtain ⟨t0, ht⟩ := Int.gcd_dvd_left top bottom
  obtain ⟨b0, hb⟩ := Int.gcd_dvd_right top bottom
  have one : Int.gcd t0 b0 = 1 := by
    have := Int.gcd_ediv_gcd_ediv_gcd hg
    have e1 : top / ((Int.gcd top bottom : Nat) : Int) = t0 := by
      conv => lhs; lhs; rw [ht]
      exact Int.mul_ediv_cancel_left _ (by omega)
    have e2 : bottom / ((Int.gcd top bottom : Nat) : Int) = b0 := by
      conv => lhs; lhs; rw [hb]
      exact Int.mul_ediv_cancel_left _ (by omega)
    rw [e1, e2] at this
    exact this
  generalize hgg : Int.gcd top bottom = g at *
  have hg' : (0 : Int) < (g : Int) := by omega
  have le : ∀ z : Int, z.natAbs ≤ ((g : Int) * z).natAbs := fun z => by
    rw [Int.natAbs_mul, Int.natAbs_natCast]
    exact Nat.le_mul_of_pos_left _ hg
  by_cases q : bottom > 0
  · rw [if_pos q] at hd
    subst hd
    have e1 : top.fdiv (g : Int) = t0 := by rw [ht]; exact Int.mul_fdiv_cancel_left _ (by omega)
    have e2 : bottom.fdiv (g : Int) = b0 := by rw [hb]; exact Int.mul_fdiv_cancel_left _ (by omega)
    rw [e1, e2]
    have hb0 : 0 < b0 := by
      rcases Int.lt_or_le 0 b0 with z | z
      · exact z
      · have := Int.mul_nonpos_of_nonneg_of_nonpos (Int.le_of_lt hg') z
        omega
    refine ⟨?_, by omega, one, by rw [ht]; exact le t0, by rw [hb]; exact le b0⟩
    rw [ht, hb, Int.mul_left_comm, Int.mul_assoc]
  · rw [if_neg q] at hd
    subst hd
    have e1 : top.fdiv (-(g : Int)) = -t0 := by
      have : top = -(g : Int) * -t0 := by rw [Int.neg_mul_neg]; exact ht
      rw [this]
      exact Int.mul_fdiv_cancel_left _ (by omega)
    have e2 : bottom.fdiv (-(g : Int)) = -b0 := by
      have : bottom = -(g : Int) * -b0 := by rw [Int.neg_mul_neg]; exact hb
      rw [this]
      exact Int.mul_fdiv_cancel_left _ (by omega)
    rw [e1, e2]
    have hb0 : b0 < 0 := by
      rcases Int.lt_or_le b0 0 with z | z
      · exact z
      · have := Int.mul_nonneg (Int.le_of_lt hg') z
        omega
    refine ⟨?_, by omega, by rw [Int.gcd_neg, Int.neg_gcd]; exact one, by rw [Int.natAbs_neg, ht]; exact le t0, by rw [Int.natAbs_neg, hb]; exact le b0⟩
    rw [ht, hb]
    rw [Int.neg_mul, Int.mul_neg, Int.mul_left_comm, Int.mul_assoc]
end M
namespace M
theorem eul_0 : ∀ n, (eul n).getD 0 0 = 1
  | 0 => rfl
  | n + 1 => by
    show (more (eul n)).getD 0 0 = 1
    rw [more_getD (Nat.zero_le _), eul_0 n]
    show (0 + 1) * 1 + _ * (0 : Int) = 1
    omega
theorem eul_n (n : Nat) : (eul n).getD n 0 = 1 := by
  have := eul_sym n 0 (Nat.zero_le _)
  rw [Nat.sub_zero, eul_0] at this
  exact this
theorem ch_up : ∀ (n k : Nat), ch n k ≤ ch (n + 1) k
  | n, 0 => by rw [ch_zero, ch_zero]; exact Nat.le_refl _
  | n, k + 1 => by rw [ch_ss]; omega
theorem ch_pos : ∀ {n k : Nat}, k ≤ n → 0 < ch n k
  | n, 0, _ => by rw [ch_zero]; decide
  | n + 1, k + 1, h => by rw [ch_ss]; have := ch_pos (n := n) (k := k) (by omega); omega
/-- how many words lead to an order of so many runs -/
def wy (n h r : Nat) : Int := chI ((h : Int) + n - r) n
theorem wy_in {n h r : Nat} (hr : r ≤ h) : wy n h r = ((ch (h + n - r) n : Nat) : Int) := by
  unfold wy
  rw [chI_in (by omega) (by omega)]
  congr 2
  omega
theorem wy_out {n h r : Nat} (hr : h < r) : wy n h r = 0 := chI_out (.inr (by omega))
theorem wy_zero {n h r : Nat} : wy n h r = 0 ↔ h < r := by
  constructor
  · intro e
    rcases Nat.lt_or_ge h r with c | c
    · exact c
    · rw [wy_in c] at e
      have := ch_pos (n := h + n - r) (k := n) (by omega)
      omega
  · exact wy_out
theorem wy_nonneg (n h r : Nat) : 0 ≤ wy n h r := by
  rcases Nat.lt_or_ge h r with c | c
  · rw [wy_out c]; exact Int.le_refl _
  · rw [wy_in c]; omega
theorem wy_down (n h r : Nat) : wy n h (r + 1) ≤ wy n h r := by
  rcases Nat.lt_or_ge h (r + 1) with c | c
  · rw [wy_out c]; exact wy_nonneg n h r
  · rw [wy_in c, wy_in (by omega)]
    have := ch_up (h + n - (r + 1)) n
    rw [show h + n - (r + 1) + 1 = h + n - r by omega] at this
    omega
theorem wy_all {n h : Nat} (hn : 1 ≤ n) : sumI (fun i => (eul (n - 1)).getD i 0 * wy n h (i + 1)) n = ((h ^ n : Nat) : Int) := by
  obtain ⟨n, rfl⟩ : ∃ m, n = m + 1 := ⟨n - 1, by omega⟩
  rw [← worp_rev n h]
  refine sumI_congr fun i hi => ?_
  rw [show n + 1 - 1 = n by omega]
  unfold wy
  congr 2
  omega
theorem eul_nonneg (n j : Nat) : 0 ≤ (eul n).getD j 0 := (eul_bd n j).1
theorem sumI_le {f : Nat → Int} : ∀ {n i : Nat}, (∀ i, i < n → 0 ≤ f i) → i < n → f i ≤ sumI f n
  | n + 1, i, h, hi => by
    show f i ≤ sumI f n + f n
    rcases Nat.lt_or_ge i n with c | c
    · have := sumI_le (n := n) (i := i) (fun j hj => h j (by omega)) c
      have := h n (by omega)
      omega
    · have : i = n := by omega
      subst this
      have := sumI_nonneg (f := f) (n := i) (fun j hj => h j (by omega))
      omega
theorem wy_first {n h : Nat} (hn : 1 ≤ n) : wy n h 1 ≤ ((h ^ n : Nat) : Int) := by
  have := sumI_le (f := fun i => (eul (n - 1)).getD i 0 * wy n h (i + 1)) (n := n) (i := 0) (fun i _ => Int.mul_nonneg (eul_nonneg _ _) (wy_nonneg _ _ _)) (by omega)
  rw [wy_all hn] at this
  simp only [eul_0, Int.one_mul, Nat.zero_add] at this
  exact this
theorem wy_bits {n h r : Nat} (hh : h ≤ 10 ^ 20) (hn : n ≤ 60) : (wy n h r).natAbs < 2 ^ (100 * n + 1) := chI_bits (m := n) (by omega)
end M
set_option linter.all false
namespace M
theorem sumI_swap2 (f : Nat → Nat → Int) (k n : Nat) : sumI (fun d => sumI (fun t => f d t) k) n = sumI (fun t => sumI (fun d => f d t) n) k := sumI_swap f k n
theorem divsub {z b y : Int} (hb : 0 < b) : z / b - y = (z - b * y) / b := by
  rw [show z - b * y = z + b * (-y) by rw [Int.mul_neg]; omega, Int.add_mul_ediv_left _ _ (by omega)]
  omega
theorem conv {b : Nat} (hb : 1 ≤ b) : ∀ (n : Nat) (T : Int), S n b (fun x => chI ((T - x) / b + n) n) = chI (T + n) n
  | 0, T => by
    show chI ((T - 0) / b + ((0 : Nat) : Int)) ((0 : Nat) : Int) = chI (T + ((0 : Nat) : Int)) ((0 : Nat) : Int)
    have hb' : (0 : Int) < b := by omega
    rcases Int.lt_or_le T 0 with c | c
    · have := Int.ediv_neg_of_neg_of_pos (a := T - 0) (b := b) (by omega) hb'
      rw [chI_out (.inr (by omega)), chI_out (.inr (by omega))]
    · have := Int.ediv_nonneg (a := T - 0) (b := b) (by omega) (by omega)
      rw [chI_in (by omega) (by omega), chI_in (by omega) (by omega)]
      show ((ch _ 0 : Nat) : Int) = ((ch _ 0 : Nat) : Int)
      rw [ch_zero, ch_zero]
  | n + 1, T => by
    have hb' : (0 : Int) < b := by omega
    obtain ⟨N, hN⟩ : ∃ N : Nat, T < N ∧ 0 < N := ⟨T.toNat + 1, by omega, by omega⟩
    have e1 : S (n + 1) b (fun x => chI ((T - x) / b + ((n + 1 : Nat) : Int)) ((n + 1 : Nat) : Int)) = S (n + 1) b (fun x => sumI (fun y => chI ((T - b * (y : Nat) - x) / b + n) n) N) := by
      refine S_congr fun x h0 _ => ?_
      have hk := hock n ((T - x) / b) N
      have hlt : (T - x) / b < N := Int.ediv_lt_of_lt_mul hb' (by
        have h1 : N ≤ N * b := Nat.le_mul_of_pos_right N hb
        have h2 : ((N * b : Nat) : Int) = (N : Int) * b := Int.natCast_mul N b
        omega)
      rw [chI_out (n := (T - x) / b - N + n + 1) (.inr (by omega)), Int.sub_zero] at hk
      rw [show (T - x) / b + ((n + 1 : Nat) : Int) = (T - x) / b + n + 1 by omega, show (((n + 1 : Nat) : Int)) = (n : Int) + 1 by omega, ← hk]
      refine sumI_congr fun y _ => ?_
      rw [divsub hb', show T - x - b * (y : Int) = T - b * (y : Int) - x by omega]
    rw [e1]
    have e2 : S (n + 1) b (fun x => sumI (fun y => chI ((T - b * (y : Nat) - x) / b + n) n) N) = sumI (fun d => sumI (fun y => chI (T - ((d : Nat) + b * (y : Nat)) + n) n) N) b := by
      show sumI (fun d => S n b (fun x => sumI (fun y => chI ((T - b * (y : Nat) - (x + (d : Nat))) / b + n) n) N)) b = _
      refine sumI_congr fun d _ => ?_
      rw [S_sum]
      refine sumI_congr fun y _ => ?_
      rw [← conv hb n (T - ((d : Nat) + b * (y : Nat)))]
      congr 1
      funext x
      congr 3
      omega
    rw [e2, sumI_swap2]
    have e3 := sumI_times (fun z => chI (T - (z : Nat) + n) n) b N
    have e4 : sumI (fun y => sumI (fun d => chI (T - ((d : Nat) + (b : Int) * (y : Nat)) + n) n) b) N = sumI (fun z => chI (T - (z : Nat) + n) n) (b * N) := by
      rw [e3]
      refine sumI_congr fun y _ => sumI_congr fun d _ => ?_
      rw [show (((d + b * y : Nat)) : Int) = (d : Int) + (b : Int) * (y : Int) by rw [Int.natCast_add, Int.natCast_mul]]
    rw [e4, hock]
    have hbn : (N : Int) ≤ ((b * N : Nat) : Int) := by
      have h1 : N ≤ b * N := Nat.le_mul_of_pos_left N hb
      omega
    rw [chI_out (n := T - ((b * N : Nat) : Int) + n + 1) (.inr (by omega)), Int.sub_zero]
    congr 1
    omega
theorem sumI_hitc (q : Int) (c : Nat → Int) : ∀ {n : Nat}, 0 ≤ q → q < n → sumI (fun j => (if q = (j : Int) then 1 else 0) * c j) n = c q.toNat
  | 0, h0, h1 => absurd h1 (by omega)
  | n + 1, h0, h1 => by
    show sumI _ n + (if q = (n : Int) then 1 else 0) * c n = _
    by_cases e : q = n
    · rw [if_pos e, Int.one_mul, sumI_zero fun i hi => by rw [if_neg (by omega), Int.zero_mul]]
      rw [show q.toNat = n by omega, Int.zero_add]
    · rw [if_neg e, Int.zero_mul, Int.add_zero]
      exact sumI_hitc q c h0 (by omega)
/-- the words that lead on, by b heaps and then by h -/
theorem wy_conv {n b h i : Nat} (hb : 1 ≤ b) (hi : i < n) : sumI (fun j => ca n b i j * wy n h (j + 1)) n = wy n (h * b) (i + 1) := by
  have hb' : (0 : Int) < b := by omega
  have e1 : sumI (fun j => ca n b i j * wy n h (j + 1)) n = S n b (fun x => sumI (fun j => (if (x + i) / b = (j : Int) then 1 else 0) * wy n h (j + 1)) n) := by
    rw [S_sum]
    refine sumI_congr fun j hj => ?_
    rw [ca_S, Int.mul_comm, ← S_mul]
    refine S_congr fun x _ _ => ?_
    rw [ind_div hb', Int.mul_comm]
  have e2 : wy n (h * b) (i + 1) = chI ((h : Int) * b - 1 - i + n) n := by
    unfold wy
    congr 1
    rw [Int.natCast_mul]
    omega
  rw [e1, e2, ← conv hb]
  refine S_congr fun x h0 h1 => ?_
  obtain ⟨d0, d1⟩ := div_bd hb hi h0 h1
  rw [sumI_hitc _ (fun j => wy n h (j + 1)) d0 d1]
  show chI ((h : Int) + n - (((((x + i) / b).toNat + 1 : Nat)) : Int)) n = _
  congr 1
  have e3 : ((h : Int) * b - 1 - i - x) / b = h - 1 - (x + i) / b := by
    have h3 := Int.emod_add_mul_ediv (x + i) b
    have h4 := Int.emod_nonneg (x + i) (show (b : Int) ≠ 0 by omega)
    have h5 := Int.emod_lt_of_pos (x + i) hb'
    have e : (h : Int) * b - 1 - i - x = (b - 1 - (x + i) % b) + b * (h - 1 - (x + i) / b) := by
      rw [Int.mul_sub, Int.mul_sub, Int.mul_one, Int.mul_comm (b : Int) h]
      omega
    rw [e, Int.add_mul_ediv_left _ _ (by omega), Int.ediv_eq_zero_of_lt (by omega) (by omega), Int.zero_add]
  rw [e3]
  omega
theorem more_sum (cs : List Int) : sumI (fun j => (more cs).getD j 0) (cs.length + 1) = ((cs.length : Int) + 1) * sumI (fun j => cs.getD j 0) cs.length := by
  have e0 : sumI (fun j => (more cs).getD j 0) (cs.length + 1) = sumI (fun j => ((j : Int) + 1) * cs.getD j 0) (cs.length + 1) + sumI (fun j => ((cs.length : Int) + 1 - j) * at_ cs j) (cs.length + 1) := by
    rw [← sumI_add]
    exact sumI_congr fun j hj => more_getD (by omega)
  rw [e0, sumI_shift (fun j => ((cs.length : Int) + 1 - j) * at_ cs j)]
  have e1 : ((cs.length : Int) + 1 - ((0 : Nat) : Int)) * at_ cs 0 = 0 := Int.mul_zero _
  rw [e1, Int.zero_add]
  show sumI (fun j => ((j : Int) + 1) * cs.getD j 0) cs.length + ((cs.length : Int) + 1) * cs.getD cs.length 0 + _ = _
  have e2 : cs.getD cs.length 0 = 0 := by rw [List.getD, List.getElem?_eq_none (Nat.le_refl _)]; rfl
  rw [e2, Int.mul_zero, Int.add_zero, ← sumI_add, ← sumI_mul]
  refine sumI_congr fun j hj => ?_
  show ((j : Int) + 1) * cs.getD j 0 + ((cs.length : Int) + 1 - ((j + 1 : Nat) : Int)) * cs.getD j 0 = _
  rw [← Int.add_mul]
  congr 1
  omega
theorem eul_sum : ∀ n : Nat, sumI (fun j => (eul n).getD j 0) (n + 1) = ((fa (n + 1) : Nat) : Int)
  | 0 => rfl
  | n + 1 => by
    have h := more_sum (eul n)
    rw [eul_length] at h
    have e : ((n + 1 : Nat) : Int) + 1 = ((n + 1 + 1 : Nat) : Int) := by omega
    show sumI (fun j => (more (eul n)).getD j 0) (n + 1 + 1) = _
    rw [h, eul_sum n, e, ← Int.natCast_mul, Nat.mul_comm]
    rfl
theorem fa_pos : ∀ n, 0 < fa n
  | 0 => by decide
  | n + 1 => Nat.mul_pos (fa_pos n) (Nat.succ_pos n)
def ab (x : Int) : Int := ((x.natAbs : Nat) : Int)
theorem ab_mul {c x : Int} (h : 0 ≤ c) : ab (c * x) = c * ab x := by
  unfold ab
  rw [Int.natAbs_mul, Int.natCast_mul]
  congr 1
  omega
theorem ab_add (x y : Int) : ab (x + y) ≤ ab x + ab y := by unfold ab; omega
theorem ab_sum (f : Nat → Int) : ∀ n, ab (sumI f n) ≤ sumI (fun i => ab (f i)) n
  | 0 => by show ab 0 ≤ 0; decide
  | n + 1 => by
    have h1 := ab_add (sumI f n) (f n)
    have h2 := ab_sum f n
    show ab (sumI f n + f n) ≤ sumI (fun i => ab (f i)) n + ab (f n)
    omega
theorem sumI_mono {f g : Nat → Int} : ∀ {n}, (∀ i, i < n → f i ≤ g i) → sumI f n ≤ sumI g n
  | 0, _ => Int.le_refl _
  | n + 1, h => Int.add_le_add (sumI_mono fun i hi => h i (by omega)) (h n (by omega))
/-- how far all are apart, times all words and all orders, twice -/
def ap (n h : Nat) : Int := sumI (fun i => (eul (n - 1)).getD i 0 * ab (wy n h (i + 1) * (fa n : Nat) - ((h ^ n : Nat) : Int))) n
theorem ap_nonneg (n h : Nat) : 0 ≤ ap n h := sumI_nonneg fun i _ => Int.mul_nonneg (eul_nonneg _ _) (by unfold ab; omega)
theorem ap_step {n b h : Nat} (hn : 1 ≤ n) (hb : 1 ≤ b) : ap n (h * b) ≤ ((b ^ n : Nat) : Int) * ap n h := by
  have d : ∀ i, i < n → ab (wy n (h * b) (i + 1) * (fa n : Nat) - (((h * b) ^ n : Nat) : Int)) ≤ sumI (fun j => ca n b i j * ab (wy n h (j + 1) * (fa n : Nat) - ((h ^ n : Nat) : Int))) n := fun i hi => by
    have e : wy n (h * b) (i + 1) * (fa n : Nat) - (((h * b) ^ n : Nat) : Int) = sumI (fun j => ca n b i j * (wy n h (j + 1) * (fa n : Nat) - ((h ^ n : Nat) : Int))) n := by
      have e1 : sumI (fun j => ca n b i j * (wy n h (j + 1) * (fa n : Nat) - ((h ^ n : Nat) : Int))) n = sumI (fun j => ca n b i j * wy n h (j + 1) * (fa n : Nat) - ca n b i j * ((h ^ n : Nat) : Int)) n := sumI_congr fun j _ => by rw [Int.mul_sub, Int.mul_assoc]
      have e2 : sumI (fun j => ca n b i j * wy n h (j + 1) * (fa n : Nat)) n = wy n (h * b) (i + 1) * (fa n : Nat) := by
        rw [← wy_conv hb hi, Int.mul_comm _ ((fa n : Nat) : Int), ← sumI_mul]
        exact sumI_congr fun j _ => Int.mul_comm _ _
      have e3 : sumI (fun j => ca n b i j * ((h ^ n : Nat) : Int)) n = (((h * b) ^ n : Nat) : Int) := by
        rw [Nat.mul_pow, Int.natCast_mul, ← ca_row (m := n) hb hi, ← sumI_mul]
        exact sumI_congr fun j _ => Int.mul_comm _ _
      rw [e1, sumI_sub, e2, e3]
    rw [e]
    refine Int.le_trans (ab_sum _ n) (sumI_mono fun j _ => ?_)
    rw [ab_mul (ca_nonneg _ _ _ _)]
    exact Int.le_refl _
  have e4 : ap n (h * b) ≤ sumI (fun i => (eul (n - 1)).getD i 0 * sumI (fun j => ca n b i j * ab (wy n h (j + 1) * (fa n : Nat) - ((h ^ n : Nat) : Int))) n) n :=
    sumI_mono fun i hi => Int.mul_le_mul_of_nonneg_left (d i hi) (eul_nonneg _ _)
  refine Int.le_trans e4 (Int.le_of_eq ?_)
  have e5 : sumI (fun i => (eul (n - 1)).getD i 0 * sumI (fun j => ca n b i j * ab (wy n h (j + 1) * (fa n : Nat) - ((h ^ n : Nat) : Int))) n) n = sumI (fun j => sumI (fun i => (eul (n - 1)).getD i 0 * ca n b i j) n * ab (wy n h (j + 1) * (fa n : Nat) - ((h ^ n : Nat) : Int))) n := by
    have l1 : ∀ i, (eul (n - 1)).getD i 0 * sumI (fun j => ca n b i j * ab (wy n h (j + 1) * (fa n : Nat) - ((h ^ n : Nat) : Int))) n = sumI (fun j => (eul (n - 1)).getD i 0 * ca n b i j * ab (wy n h (j + 1) * (fa n : Nat) - ((h ^ n : Nat) : Int))) n := fun i => by
      rw [← sumI_mul]
      exact sumI_congr fun j _ => by rw [Int.mul_assoc]
    rw [sumI_congr (g := fun i => sumI (fun j => (eul (n - 1)).getD i 0 * ca n b i j * ab (wy n h (j + 1) * (fa n : Nat) - ((h ^ n : Nat) : Int))) n) fun i _ => l1 i, sumI_swap]
    refine sumI_congr fun j _ => ?_
    rw [Int.mul_comm (sumI _ n), ← sumI_mul]
    exact sumI_congr fun i _ => Int.mul_comm _ _
  rw [e5]
  unfold ap
  rw [← sumI_mul]
  refine sumI_congr fun j hj => ?_
  obtain ⟨m, rfl⟩ : ∃ m, n = m + 1 := ⟨n - 1, by omega⟩
  rw [show m + 1 - 1 = m by omega, eul_kept hj, Int.mul_assoc]
def mx (x : Int) : Int := if x < 0 then -x else 0
theorem ab_mx (x : Int) : ab x = x + 2 * mx x := by unfold ab mx; split <;> omega
theorem ap_mx {n h : Nat} (hn : 1 ≤ n) : ap n h = 2 * sumI (fun i => (eul (n - 1)).getD i 0 * mx (wy n h (i + 1) * (fa n : Nat) - ((h ^ n : Nat) : Int))) n := by
  have e0 : ap n h = sumI (fun i => (eul (n - 1)).getD i 0 * wy n h (i + 1) * (fa n : Nat) - (eul (n - 1)).getD i 0 * ((h ^ n : Nat) : Int) + 2 * ((eul (n - 1)).getD i 0 * mx (wy n h (i + 1) * (fa n : Nat) - ((h ^ n : Nat) : Int)))) n := by
    unfold ap
    refine sumI_congr fun i _ => ?_
    rw [ab_mx, Int.mul_add, Int.mul_sub, Int.mul_assoc]
    congr 1
    rw [← Int.mul_assoc, ← Int.mul_assoc, Int.mul_comm _ 2]
  have e1 : sumI (fun i => (eul (n - 1)).getD i 0 * wy n h (i + 1) * (fa n : Nat)) n = ((h ^ n : Nat) : Int) * (fa n : Nat) := by
    rw [← wy_all hn, Int.mul_comm _ ((fa n : Nat) : Int), ← sumI_mul]
    exact sumI_congr fun i _ => Int.mul_comm _ _
  have e2 : sumI (fun i => (eul (n - 1)).getD i 0 * ((h ^ n : Nat) : Int)) n = ((h ^ n : Nat) : Int) * (fa n : Nat) := by
    obtain ⟨m, rfl⟩ : ∃ m, n = m + 1 := ⟨n - 1, by omega⟩
    rw [show m + 1 - 1 = m by omega, ← eul_sum m, ← sumI_mul]
    exact sumI_congr fun i _ => Int.mul_comm _ _
  rw [e0, sumI_add, sumI_sub, e1, e2, sumI_mul]
  omega
theorem eul_sum' {n : Nat} (hn : 1 ≤ n) : sumI (fun i => (eul (n - 1)).getD i 0) n = ((fa n : Nat) : Int) := by
  obtain ⟨m, rfl⟩ : ∃ m, n = m + 1 := ⟨n - 1, by omega⟩
  exact eul_sum m
theorem wy_le_first (n h : Nat) : ∀ i, wy n h (i + 1) ≤ wy n h 1
  | 0 => Int.le_refl _
  | i + 1 => Int.le_trans (wy_down n h (i + 1)) (wy_le_first n h i)
theorem first_over {n h : Nat} (hn : 1 ≤ n) : ((h ^ n : Nat) : Int) ≤ wy n h 1 * (fa n : Nat) := by
  rw [← wy_all hn, ← eul_sum' hn, ← sumI_mul]
  refine sumI_mono fun i _ => ?_
  rw [Int.mul_comm]
  exact Int.mul_le_mul_of_nonneg_right (wy_le_first n h i) (eul_nonneg _ _)
theorem ap_one {n : Nat} (hn : 1 ≤ n) : ap n 1 = 2 * (((fa n : Nat) : Int) - 1) := by
  rw [ap_mx hn]
  obtain ⟨m, rfl⟩ : ∃ m, n = m + 1 := ⟨n - 1, by omega⟩
  rw [show m + 1 - 1 = m by omega]
  congr 1
  have hs := eul_sum m
  rw [sumI_shift] at hs ⊢
  rw [eul_0] at hs ⊢
  have h0 := first_over (n := m + 1) (h := 1) (by omega)
  have e1 : mx (wy (m + 1) 1 (0 + 1) * (fa (m + 1) : Nat) - ((1 ^ (m + 1) : Nat) : Int)) = 0 := by
    unfold mx
    rw [if_neg (by show ¬ (wy (m + 1) 1 1 * _ - _ < 0); omega)]
  rw [e1]
  have e2 : sumI (fun i => (eul m).getD (i + 1) 0 * mx (wy (m + 1) 1 (i + 1 + 1) * (fa (m + 1) : Nat) - ((1 ^ (m + 1) : Nat) : Int))) m = sumI (fun i => (eul m).getD (i + 1) 0) m := by
    refine sumI_congr fun i _ => ?_
    rw [wy_out (by omega), Int.zero_mul, Nat.one_pow]
    show _ * (1 : Int) = _
    rw [Int.mul_one]
  rw [e2]
  omega
theorem eul_1 : ∀ n, 1 ≤ n → 1 ≤ (eul n).getD 1 0
  | n + 1, _ => by
    show 1 ≤ (more (eul n)).getD 1 0
    rw [more_getD (by rw [eul_length]; omega), eul_length]
    have h1 := eul_nonneg n 1
    have e : at_ (eul n) 1 = (eul n).getD 0 0 := rfl
    rw [e, eul_0]
    omega
theorem ap_strict {n h : Nat} (hn : 2 ≤ n) (hh : 2 ≤ h) : ap n h < 2 * (((h ^ n : Nat) : Int) * (((fa n : Nat) : Int) - 1)) := by
  rw [ap_mx (by omega)]
  obtain ⟨m, rfl⟩ : ∃ m, n = m + 2 := ⟨n - 2, by omega⟩
  rw [show m + 2 - 1 = m + 1 by omega]
  have hs := eul_sum (m + 1)
  rw [sumI_shift, eul_0, sumI_shift] at hs
  rw [sumI_shift, sumI_shift, eul_0]
  have h0 := first_over (n := m + 2) (h := h) (by omega)
  have hp : 0 < h ^ (m + 2) := Nat.pow_pos (by omega)
  have hF := fa_pos (m + 2)
  have e1 : mx (wy (m + 2) h (0 + 1) * (fa (m + 2) : Nat) - ((h ^ (m + 2) : Nat) : Int)) = 0 := by
    unfold mx
    rw [if_neg (by show ¬ (wy (m + 2) h 1 * _ - _ < 0); omega)]
  have mle : ∀ i, mx (wy (m + 2) h (i + 1) * (fa (m + 2) : Nat) - ((h ^ (m + 2) : Nat) : Int)) ≤ ((h ^ (m + 2) : Nat) : Int) := fun i => by
    have h1 : 0 ≤ wy (m + 2) h (i + 1) * (fa (m + 2) : Nat) := Int.mul_nonneg (wy_nonneg _ _ _) (by omega)
    unfold mx
    split <;> omega
  have e2 : mx (wy (m + 2) h (0 + 1 + 1) * (fa (m + 2) : Nat) - ((h ^ (m + 2) : Nat) : Int)) ≤ ((h ^ (m + 2) : Nat) : Int) - 1 := by
    have h1 : 1 ≤ wy (m + 2) h 2 := by
      have := wy_nonneg (m + 2) h 2
      have h2 : wy (m + 2) h 2 ≠ 0 := fun e => by have := wy_zero.mp e; omega
      omega
    have h3 : 1 * 1 ≤ wy (m + 2) h 2 * (fa (m + 2) : Nat) := Int.mul_le_mul h1 (by omega) (by omega) (by omega)
    show mx (wy (m + 2) h 2 * _ - _) ≤ _
    unfold mx
    split <;> omega
  have e3 : sumI (fun i => (eul (m + 1)).getD (i + 1 + 1) 0 * mx (wy (m + 2) h (i + 1 + 1 + 1) * (fa (m + 2) : Nat) - ((h ^ (m + 2) : Nat) : Int))) m ≤ ((h ^ (m + 2) : Nat) : Int) * sumI (fun i => (eul (m + 1)).getD (i + 1 + 1) 0) m := by
    rw [← sumI_mul]
    refine sumI_mono fun i _ => ?_
    rw [Int.mul_comm]
    exact Int.mul_le_mul_of_nonneg_right (mle _) (eul_nonneg _ _)
  have hA := eul_1 (m + 1) (by omega)
  rw [e1]
  generalize ((h ^ (m + 2) : Nat) : Int) = W at *
  generalize (((fa (m + 2) : Nat)) : Int) = F at *
  generalize mx (wy (m + 2) h (0 + 1 + 1) * F - W) = y at *
  have e4 : (eul (m + 1)).getD (0 + 1) 0 * y ≤ (eul (m + 1)).getD (0 + 1) 0 * (W - 1) := Int.mul_le_mul_of_nonneg_left e2 (eul_nonneg _ _)
  generalize sumI (fun i => (eul (m + 1)).getD (i + 1 + 1) 0 * mx (wy (m + 2) h (i + 1 + 1 + 1) * F - W)) m = Y at *
  generalize sumI (fun i => (eul (m + 1)).getD (i + 1 + 1) 0) m = Z at *
  have hA' : 1 ≤ (eul (m + 1)).getD (0 + 1) 0 := hA
  generalize (eul (m + 1)).getD (0 + 1) 0 = a1 at *
  have e5 : W * (F - 1) = W * a1 + W * Z := by rw [← Int.mul_add]; congr 1; omega
  have e6 : a1 * (W - 1) = W * a1 - a1 := by rw [Int.mul_sub, Int.mul_one, Int.mul_comm]
  omega
theorem FrOk.uniq {top bottom t u t' u' : Int} (h : FrOk top bottom t u) (h' : FrOk top bottom t' u') (hb : bottom ≠ 0) : t = t' ∧ u = u' := by
  have e : t * u' = t' * u := by
    have a1 : (t * u') * bottom = (t' * u) * bottom := by
      rw [Int.mul_right_comm, h.eq, Int.mul_right_comm t', h'.eq, Int.mul_right_comm]
    exact Int.eq_of_mul_eq_mul_right hb a1
  have p1 := h.pos
  have p2 := h'.pos
  have d1 : u.natAbs ∣ u'.natAbs := by
    refine Nat.Coprime.dvd_of_dvd_mul_left (m := t.natAbs) ?_ ⟨t'.natAbs, by rw [← Int.natAbs_mul, e, Int.natAbs_mul, Nat.mul_comm]⟩
    rw [Nat.coprime_comm]
    exact h.one
  have d2 : u'.natAbs ∣ u.natAbs := by
    refine Nat.Coprime.dvd_of_dvd_mul_left (m := t'.natAbs) ?_ ⟨t.natAbs, by rw [← Int.natAbs_mul, ← e, Int.natAbs_mul, Nat.mul_comm]⟩
    rw [Nat.coprime_comm]
    exact h'.one
  have l1 := Nat.le_of_dvd (by omega) d1
  have l2 := Nat.le_of_dvd (by omega) d2
  have eu : u = u' := by omega
  subst eu
  exact ⟨Int.eq_of_mul_eq_mul_right (by omega) e, rfl⟩
/-- fractions told by multiplying across -/
theorem FrOk.le {a b c d t u t' u' : Int} (h : FrOk a b t u) (h' : FrOk c d t' u') (hb : 0 < b) (hd : 0 < d) (hle : a * d ≤ c * b) : t * u' ≤ t' * u := by
  have p1 := h.pos
  have p2 := h'.pos
  have hbd : 0 < b * d := Int.mul_pos hb hd
  refine Int.le_of_mul_le_mul_right (a := b * d) ?_ hbd
  have e1 : t * u' * (b * d) = a * d * (u * u') := by
    calc t * u' * (b * d) = (t * b) * (u' * d) := by simp only [Int.mul_assoc, Int.mul_comm, Int.mul_left_comm]
      _ = (a * u) * (u' * d) := by rw [h.eq]
      _ = a * d * (u * u') := by simp only [Int.mul_assoc, Int.mul_comm, Int.mul_left_comm]
  have e2 : t' * u * (b * d) = c * b * (u * u') := by
    calc t' * u * (b * d) = (t' * d) * (u * b) := by simp only [Int.mul_assoc, Int.mul_comm, Int.mul_left_comm]
      _ = (c * u') * (u * b) := by rw [h'.eq]
      _ = c * b * (u * u') := by simp only [Int.mul_assoc, Int.mul_comm, Int.mul_left_comm]
  rw [e1, e2]
  exact Int.mul_le_mul_of_nonneg_right hle (Int.mul_nonneg (by omega) (by omega))
theorem FrOk.lt {a b c d t u t' u' : Int} (h : FrOk a b t u) (h' : FrOk c d t' u') (hb : 0 < b) (hd : 0 < d) (hlt : a * d < c * b) : t * u' < t' * u := by
  have p1 := h.pos
  have p2 := h'.pos
  have hbd : 0 < b * d := Int.mul_pos hb hd
  refine Int.lt_of_mul_lt_mul_right (a := b * d) ?_ (by omega)
  have e1 : t * u' * (b * d) = a * d * (u * u') := by
    calc t * u' * (b * d) = (t * b) * (u' * d) := by simp only [Int.mul_assoc, Int.mul_comm, Int.mul_left_comm]
      _ = (a * u) * (u' * d) := by rw [h.eq]
      _ = a * d * (u * u') := by simp only [Int.mul_assoc, Int.mul_comm, Int.mul_left_comm]
  have e2 : t' * u * (b * d) = c * b * (u * u') := by
    calc t' * u * (b * d) = (t' * d) * (u * b) := by simp only [Int.mul_assoc, Int.mul_comm, Int.mul_left_comm]
      _ = (c * u') * (u * b) := by rw [h'.eq]
      _ = c * b * (u * u') := by simp only [Int.mul_assoc, Int.mul_comm, Int.mul_left_comm]
  rw [e1, e2]
  exact Int.mul_lt_mul_of_pos_right hlt (Int.mul_pos (by omega) (by omega))
end M
namespace M
theorem df_bitsW {n B : Nat} (h : n < 2 ^ B) (k : Nat) : df n k < 2 ^ (B * k + 1) := by
  have := df_le (n := n) (B := 2 ^ B) (by omega) k
  rw [← Nat.pow_mul] at this
  rw [Nat.pow_succ]
  have := Nat.two_pow_pos (B * k)
  omega
theorem ch_bitsW {n B : Nat} (h : n < 2 ^ B) (k : Nat) : ch n k < 2 ^ (B * k + 1) := Nat.lt_of_le_of_lt (ch_le_df n k) (df_bitsW h k)
theorem chI_bitsW {n : Int} {m B : Nat} (h : n < 2 ^ B) : (chI n m).natAbs < 2 ^ (B * m + 1) := by
  by_cases c : (m : Int) ≤ n
  · rw [chI_in (by omega) c, Int.toNat_natCast, Int.natAbs_natCast]
    refine ch_bitsW ?_ m
    have e : ((2 ^ B : Nat) : Int) = (2 : Int) ^ B := by simp
    omega
  · rw [chI_out (.inr (by omega))]
    exact Nat.two_pow_pos _
theorem pow_bitsW {x B : Nat} (h : x < 2 ^ B) (k : Nat) : x ^ k < 2 ^ (B * k + 1) := by
  have : x ^ k ≤ (2 ^ B) ^ k := Nat.pow_le_pow_left (by omega) k
  rw [← Nat.pow_mul] at this
  rw [Nat.pow_succ]
  have := Nat.two_pow_pos (B * k)
  omega
theorem ca_bitsW {m b i j B : Nat} (hb : 1 ≤ b) (hi : i < m) (hj : j < m) (h : b < 2 ^ B) : (ca m b i j).natAbs < 2 ^ (B * m + 1) := by
  have h1 := ca_le hb hi hj
  have h2 := ca_nonneg m b i j
  have h3 := pow_bitsW h m
  omega
/-- the first list of the table -/
def crow (m b : Nat) : List Int := (List.range m).map fun j => ca m b 0 j
theorem crow_length (m b : Nat) : (crow m b).length = m := by simp [crow]
theorem crow_getD {m b j : Nat} (h : j < m) : (crow m b).getD j 0 = ca m b 0 j := by simp [crow, List.getD, h]
theorem crow_one {m : Nat} (h : 1 ≤ m) : crow m 1 = 1 :: List.replicate (m - 1) 0 := by
  obtain ⟨m, rfl⟩ : ∃ k, m = k + 1 := ⟨m - 1, by omega⟩
  unfold crow
  rw [List.range_succ_eq_map, List.map_cons, ca_b1, if_pos rfl, List.map_map, show m + 1 - 1 = m by omega]
  congr 1
  have : ((fun j => ca (m + 1) 1 0 j) ∘ Nat.succ) = fun _ => (0 : Int) := by
    funext j
    show ca (m + 1) 1 0 (j + 1) = 0
    rw [ca_b1, if_neg (by omega)]
  rw [this, List.map_const', List.length_range]
theorem crow_step {m a b : Nat} (hm : 1 ≤ m) (ha : 1 ≤ a) (hb : 1 ≤ b) : lin (crow m a) (cat m b) m m = crow m (a * b) := by
  unfold lin
  have : crow m (a * b) = (List.range m).map fun j => ca m (a * b) 0 j := rfl
  rw [this]
  refine List.map_congr_left fun j hj => ?_
  have hj := List.mem_range.mp hj
  rw [← ca_prod ha hb (by omega)]
  exact sumI_congr fun k hk => by rw [crow_getD hk, cat_at hk hj]
theorem crow_am {m b j : Nat} (h : j < m) : am m b (((j : Int) + 1) * b - 1) - am m b ((j : Int) * b - 1) = ca m b 0 j := by
  rw [ca_am]
  show _ = am m b (((j : Int) + 1) * b - 1 - 0) - am m b ((j : Int) * b - 1 - 0)
  rw [Int.sub_zero, Int.sub_zero]
theorem crow_sum {m b : Nat} (hm : 1 ≤ m) (hb : 1 ≤ b) : (crow m b).sum = ((b ^ m : Nat) : Int) := by
  unfold crow
  rw [sum_range]
  exact ca_row hb hm
theorem cat_first {m b : Nat} (hm : 1 ≤ m) : (cat m b).getD 0 [] = crow m b := cat_row hm
end M
set_option linter.all false
set_option maxRecDepth 100000
namespace M
/-- all orders, card by card -/
def ords : Nat → List (List Int)
  | 0 => [[]]
  | c + 1 => (ords c).flatMap fun o => (List.range (c + 1)).map fun p => o.take p ++ [(c : Int)] ++ o.drop p
def brk (n : Nat) (o : List Int) : Nat := ((List.range (n - 1)).filter fun c => decide (o.idxOf (((c + 1 : Nat)) : Int) < o.idxOf ((c : Nat) : Int))).length
def lessN (ws : List Int) : Nat → Nat
  | 0 => 0
  | g + 1 => lessN ws g + ws.count (g : Int)
def rl (ws : List Int) : List Int := (List.range ws.length).map fun p => (((lessN ws (ws.getD p 0).toNat + (ws.take p).count (ws.getD p 0) : Nat)) : Int)
def dg (n h u : Nat) : List Int := (List.range n).map fun i => (((u / h ^ i % h : Nat)) : Int)
def hits (n h m : Nat) (o : List Int) : Nat := ((List.range m).filter fun u => decide (rl (dg n h u) = o)).length
def wyN (n h r : Nat) : Nat := if h < r then 0 else ch (h + n - r) n
def okOrd (n : Nat) (o : List Int) : Bool := decide (o.length = n) && (List.range n).all (fun c => decide (((c : Nat) : Int) ∈ o)) && decide (brk n o < n)
theorem ords_ok : ∀ n, n < 7 → 1 ≤ n → (ords n).all (okOrd n) = true := by decide +kernel
theorem ords_len : ∀ n, n < 7 → (ords n).length = fa n := by decide +kernel
theorem ords_brk : ∀ n, n < 7 → ∀ j, j < n → ((ords n).filter fun o => decide (brk n o = j)).length = ((eul (n - 1)).getD j 0).toNat := by decide +kernel
def agr (n h : Nat) : Bool := decide (h ^ n ≤ 250) == false || (ords n).all fun o => decide (hits n h (h ^ n) o = wyN n h (brk n o + 1))
theorem agr1 : ∀ h, h < 17 → agr 1 h = true := by decide +kernel
theorem agr2 : ∀ h, h < 17 → agr 2 h = true := by decide +kernel
theorem agr3 : ∀ h, h < 17 → agr 3 h = true := by decide +kernel
theorem agr4 : ∀ h, h < 17 → agr 4 h = true := by decide +kernel
theorem agr5 : ∀ h, h < 17 → agr 5 h = true := by decide +kernel
theorem agr6 : ∀ h, h < 17 → agr 6 h = true := by decide +kernel
theorem agr_all {n h : Nat} (n1 : 1 ≤ n) (n6 : n ≤ 6) (h16 : h ≤ 16) (hw : h ^ n ≤ 250) {o : List Int} (ho : o ∈ ords n) : hits n h (h ^ n) o = wyN n h (brk n o + 1) := by
  have a : agr n h = true := by
    match n, n1, n6 with
    | 1, _, _ => exact agr1 h (by omega)
    | 2, _, _ => exact agr2 h (by omega)
    | 3, _, _ => exact agr3 h (by omega)
    | 4, _, _ => exact agr4 h (by omega)
    | 5, _, _ => exact agr5 h (by omega)
    | 6, _, _ => exact agr6 h (by omega)
  unfold agr at a
  rw [decide_eq_true hw] at a
  have a2 : ((ords n).all fun o => decide (hits n h (h ^ n) o = wyN n h (brk n o + 1))) = true := a
  exact of_decide_eq_true (List.all_eq_true.mp a2 o ho)
structure Oo (n : Nat) (o : List Int) : Prop where
  len : o.length = n
  has : ∀ c : Nat, c < n → (c : Int) ∈ o
  bd : brk n o < n
theorem ords_oo {n : Nat} (n1 : 1 ≤ n) (n6 : n ≤ 6) {o : List Int} (ho : o ∈ ords n) : Oo n o := by
  have h := List.all_eq_true.mp (ords_ok n (by omega) n1) o ho
  unfold okOrd at h
  rw [Bool.and_eq_true, Bool.and_eq_true] at h
  obtain ⟨⟨h1, h2⟩, h3⟩ := h
  exact ⟨of_decide_eq_true h1, fun c hc => of_decide_eq_true (List.all_eq_true.mp h2 c (List.mem_range.mpr hc)), of_decide_eq_true h3⟩
theorem wyN_wy (n h r : Nat) : ((wyN n h r : Nat) : Int) = wy n h r := by
  unfold wyN
  split
  · rw [wy_out (by omega)]; rfl
  · rw [wy_in (by omega)]
theorem sum_by (f : Nat → Int) (g : List Int → Nat) (n : Nat) : ∀ l : List (List Int), (∀ o ∈ l, g o < n) → (l.map fun o => f (g o)).sum = sumI (fun j => (((l.filter fun o => decide (g o = j)).length : Nat) : Int) * f j) n
  | [], _ => by
    show (0 : Int) = _
    exact (sumI_zero fun i _ => Int.zero_mul _).symm
  | o :: l, h => by
    have ih := sum_by f g n l fun x hx => h x (List.mem_cons_of_mem _ hx)
    have hg := h o List.mem_cons_self
    rw [List.map_cons, List.sum_cons, ih]
    have e : sumI (fun j => ((((o :: l).filter fun o => decide (g o = j)).length : Nat) : Int) * f j) n = sumI (fun j => (if (g o : Int) = (j : Int) then 1 else 0) * f j + (((l.filter fun o => decide (g o = j)).length : Nat) : Int) * f j) n := by
      refine sumI_congr fun j _ => ?_
      rw [← Int.add_mul]
      congr 1
      rw [List.filter_cons]
      by_cases c : g o = j
      · rw [if_pos (by simpa using c), if_pos (by omega), List.length_cons]
        omega
      · rw [if_neg (by simpa using c), if_neg (by omega)]
        omega
    rw [e, sumI_add, sumI_hitc (g o : Int) f (by omega) (by omega), Int.toNat_natCast]
/-- over all orders, as by runs -/
theorem ap_ords {n h : Nat} (n1 : 1 ≤ n) (n6 : n ≤ 6) : ((ords n).map fun o => ab (wy n h (brk n o + 1) * ((fa n : Nat) : Int) - ((h ^ n : Nat) : Int))).sum = ap n h := by
  rw [sum_by (fun j => ab (wy n h (j + 1) * ((fa n : Nat) : Int) - ((h ^ n : Nat) : Int))) (brk n) n (ords n) fun o ho => (ords_oo n1 n6 ho).bd]
  unfold ap
  refine sumI_congr fun j hj => ?_
  rw [ords_brk n (by omega) j hj]
  congr 1
  have := eul_nonneg (n - 1) j
  omega
theorem flat_le {α β : Type} {f : α → List β} {k : Nat} : ∀ l : List α, (∀ x ∈ l, (f x).length ≤ k) → (l.flatMap f).length ≤ l.length * k
  | [], _ => by simp
  | x :: l, h => by
    have ih := flat_le l fun y hy => h y (List.mem_cons_of_mem _ hy)
    have := h x List.mem_cons_self
    rw [List.flatMap_cons, List.length_append, List.length_cons, Nat.succ_mul]
    omega
theorem ords_le {n : Nat} (h : n ≤ 6) : (ords n).length ≤ 720 := by
  rw [ords_len n (by omega)]
  exact fa_le h
end M
set_option Elab.async false
set_option linter.all false
set_option maxRecDepth 100000
set_option maxHeartbeats 4000000
namespace K82
open PySem L2
local macro_rules | `(tactic| walk_at "sq") => `(tactic| first | assumption | (refine SqL.of ?_; assumption) | (refine SqL.of ?_; exact upd_same))
local macro_rules | `(tactic| walk_at "cj") => `(tactic| first | (with_reducible show (_ : Int) ≤ _; omega) | (with_reducible show (_ : Int) < _; omega) | exact rfl | assumption | omega | decide | (unfold CDiv; omega) | (unfold CPow; decide) | (show (0 : Int) < _; first | omega | decide) | (show _ ≤ sizeLine; rw [sizeLine_eq]; simp; done) | (refine mulS1 ?_ ?_ <;> omega) | (refine mulS2 ?_ ?_ <;> omega))
local macro_rules | `(tactic| walk_at "rd1") => `(tactic| first | refine ⟨_, rfl, ?_⟩ | refine ⟨_, _, rfl, rfl, ?_⟩ | refine ⟨_, _, rfl, ?_⟩ | refine ⟨_, _, _, rfl, ?_⟩ | refine ⟨_, _, _, _, rfl, ?_⟩ | refine ⟨_, _, _, _, _, rfl, ?_⟩ | refine ⟨_, _, rfl, .inl (by walk_at "sq"), ?_⟩ | refine And.intro (by walk_at "cj") ?_)
local macro_rules | `(tactic| walk_at "rd") => `(tactic| repeat walk_at "rd1")

def top (i : Nat) : Stmt := PySem.Challenge.pw_riftcarry_k82_whole_far_from_even.main.body.getD i (.Pass ⟨0, 0, 0, 0⟩)
abbrev s_choose : Stmt := top 1
abbrev s_by_falls : Stmt := top 2
abbrev s_with_one_card_more : Stmt := top 3
abbrev s_fraction : Stmt := top 5
abbrev s_greatest_common : Stmt := top 6
abbrev s_power : Stmt := top 8
abbrev s_far : Stmt := top 10
abbrev s_words_to_order : Stmt := top 11
abbrev s_l_big : Stmt := top 13
abbrev s_l_whole : Stmt := top 14
abbrev s_l_common : Stmt := top 15
abbrev s_l_listed : Stmt := top 16
abbrev s_l_breaks : Stmt := top 17
abbrev s_l_ways : Stmt := top 18
abbrev s_l_riffled : Stmt := top 19
abbrev s_l_words_agree : Stmt := top 20
abbrev s_l_power : Stmt := top 21
abbrev s_l_right : Stmt := top 22
abbrev s_law : Stmt := top 23
/-- the text as it stands behind the top -/
structure Txt (K : PySem.W.Frag) (mg : Str → Option Value) : Prop where
  f_choose : Def K mg "choose" s_choose ["n", "k"]
  f_by_falls : Def K mg "by_falls" s_by_falls ["n"]
  f_with_one_card_more : Def K mg "with_one_card_more" s_with_one_card_more ["counts"]
  f_fraction : Def K mg "fraction" s_fraction ["top", "bottom"]
  f_greatest_common : Def K mg "greatest_common" s_greatest_common ["one", "other"]
  f_power : Def K mg "power" s_power ["base", "times"]
  f_far : Def K mg "far" s_far ["n", "b", "k"]
  f_words_to_order : Def K mg "words_to_order" s_words_to_order ["n", "heaps", "r"]
  f_l_big : Def K mg "_law_big" s_l_big ["_law_script", "_law_k"]
  f_l_whole : Def K mg "_law_whole" s_l_whole ["_law_found"]
  f_l_common : Def K mg "_law_common" s_l_common ["_law_one", "_law_other"]
  f_l_listed : Def K mg "_law_listed" s_l_listed ["_law_n"]
  f_l_breaks : Def K mg "_law_breaks" s_l_breaks ["_law_order"]
  f_l_ways : Def K mg "_law_ways" s_l_ways ["_law_n", "_law_heaps", "_law_breaks_here"]
  f_l_riffled : Def K mg "_law_riffled" s_l_riffled ["_law_word", "_law_heaps"]
  f_l_words_agree : Def K mg "_law_words_agree" s_l_words_agree ["_law_n", "_law_heaps", "_law_words", "_law_orders"]
  f_l_power : Def K mg "_law_power" s_l_power ["_law_number", "_law_many"]
  f_l_right : Def K mg "_law_right" s_l_right ["_law_n", "_law_b", "_law_k"]
  f_law : Def K mg "law" s_law ["_law_script"]
  z_abs : mg "abs" = none
  z_bool : mg "bool" = none
  z_enumerate : mg "enumerate" = none
  z_int : mg "int" = none
  z_isinstance : mg "isinstance" = none
  z_len : mg "len" = none
  z_min : mg "min" = none
  z_range : mg "range" = none
  z_sum : mg "sum" = none
  z_tuple : mg "tuple" = none
theorem sc_choose : FnScope ["n", "k", "ways", "taken"] ["n", "k"] (defScope s_choose) := ⟨rfl, rfl, rfl, by decide +kernel, rfl, by decide +kernel, by decide +kernel⟩
theorem sc_by_falls : FnScope ["n", "counts"] ["n"] (defScope s_by_falls) := ⟨rfl, rfl, rfl, by decide +kernel, rfl, by decide +kernel, by decide +kernel⟩
theorem sc_with_one_card_more : FnScope ["counts", "cards", "kept", "grown"] ["counts"] (defScope s_with_one_card_more) := ⟨rfl, rfl, rfl, by decide +kernel, rfl, by decide +kernel, by decide +kernel⟩
theorem sc_fraction : FnScope ["top", "bottom", "common", "divisor"] ["top", "bottom"] (defScope s_fraction) := ⟨rfl, rfl, rfl, by decide +kernel, rfl, by decide +kernel, by decide +kernel⟩
theorem sc_greatest_common : FnScope ["one", "other", "rest"] ["one", "other"] (defScope s_greatest_common) := ⟨rfl, rfl, rfl, by decide +kernel, rfl, by decide +kernel, by decide +kernel⟩
theorem sc_power : FnScope ["base", "times", "number", "step"] ["base", "times"] (defScope s_power) := ⟨rfl, rfl, rfl, by decide +kernel, rfl, by decide +kernel, by decide +kernel⟩
theorem sc_far : FnScope ["n", "b", "k", "heaps", "words", "counts", "orders", "apart", "r", "count"] ["n", "b", "k"] (defScope s_far) := ⟨rfl, rfl, rfl, by decide +kernel, rfl, by decide +kernel, by decide +kernel⟩
theorem sc_words_to_order : FnScope ["n", "heaps", "r"] ["n", "heaps", "r"] (defScope s_words_to_order) := ⟨rfl, rfl, rfl, by decide +kernel, rfl, by decide +kernel, by decide +kernel⟩
theorem sc_l_big : FnScope ["_law_script", "_law_k", "_law_cell", "_law_number", "_law_j", "_law_step"] ["_law_script", "_law_k"] (defScope s_l_big) := ⟨rfl, rfl, rfl, by decide +kernel, rfl, by decide +kernel, by decide +kernel⟩
theorem sc_l_whole : FnScope ["_law_found"] ["_law_found"] (defScope s_l_whole) := ⟨rfl, rfl, rfl, by decide +kernel, rfl, by decide +kernel, by decide +kernel⟩
theorem sc_l_common : FnScope ["_law_one", "_law_other", "_law_rest"] ["_law_one", "_law_other"] (defScope s_l_common) := ⟨rfl, rfl, rfl, by decide +kernel, rfl, by decide +kernel, by decide +kernel⟩
theorem sc_l_listed : FnScope ["_law_n", "_law_orders", "_law_card", "_law_longer", "_law_order"] ["_law_n"] (defScope s_l_listed) := ⟨rfl, rfl, rfl, by decide +kernel, rfl, by decide +kernel, by decide +kernel⟩
theorem sc_l_breaks : FnScope ["_law_order", "_law_many", "_law_card"] ["_law_order"] (defScope s_l_breaks) := ⟨rfl, rfl, rfl, by decide +kernel, rfl, by decide +kernel, by decide +kernel⟩
theorem sc_l_ways : FnScope ["_law_n", "_law_heaps", "_law_breaks_here", "_law_top", "_law_bottom", "_law_step"] ["_law_n", "_law_heaps", "_law_breaks_here"] (defScope s_l_ways) := ⟨rfl, rfl, rfl, by decide +kernel, rfl, by decide +kernel, by decide +kernel⟩
theorem sc_l_riffled : FnScope ["_law_word", "_law_heaps", "_law_starts", "_law_start", "_law_heap", "_law_order"] ["_law_word", "_law_heaps"] (defScope s_l_riffled) := ⟨rfl, rfl, rfl, by decide +kernel, rfl, by decide +kernel, by decide +kernel⟩
theorem sc_l_words_agree : FnScope ["_law_n", "_law_heaps", "_law_words", "_law_orders", "_law_found", "_law_number", "_law_word", "_law_card", "_law_came", "_law_order"] ["_law_n", "_law_heaps", "_law_words", "_law_orders"] (defScope s_l_words_agree) := ⟨rfl, rfl, rfl, by decide +kernel, rfl, by decide +kernel, by decide +kernel⟩
theorem sc_l_power : FnScope ["_law_number", "_law_many", "_law_power_here", "_law_k"] ["_law_number", "_law_many"] (defScope s_l_power) := ⟨rfl, rfl, rfl, by decide +kernel, rfl, by decide +kernel, by decide +kernel⟩
theorem sc_l_right : FnScope ["_law_n", "_law_b", "_law_k", "_law_heaps", "_law_words", "_law_orders", "_law_total", "_law_order", "_law_found"] ["_law_n", "_law_b", "_law_k"] (defScope s_l_right) := ⟨rfl, rfl, rfl, by decide +kernel, rfl, by decide +kernel, by decide +kernel⟩
theorem sc_law : FnScope ["_law_script", "_law_k", "_law_cell", "_law_n", "_law_b", "_law_many"] ["_law_script"] (defScope s_law) := ⟨rfl, rfl, rfl, by decide +kernel, rfl, by decide +kernel, by decide +kernel⟩

section
variable {P : Program} {w : World} {K : PySem.W.Frag} {mg : Str → Option Value} {base : Heap} {k : Nat}
abbrev iL (ns : List Int) : List V := ns.map V.int
abbrev bL (bs : List Bool) : List V := bs.map V.bl
theorem lt_line {n : Nat} (h : n ≤ 1000) : n ≤ sizeLine := by rw [sizeLine_eq]; omega
theorem lt_line' {n : Nat} (h : n ≤ 1000) : n < sizeLine := by rw [sizeLine_eq]; omega
theorem range_getD {α β : Type} (xs : List α) (d : α) (g : α → β) : (List.range xs.length).map (fun i => g (xs.getD i d)) = xs.map g := by
  apply List.ext_getElem?
  intro i
  by_cases h : i < xs.length
  · rw [List.getElem?_map, List.getElem?_range h, List.getElem?_map, List.getElem?_eq_getElem h]
    simp [List.getD, List.getElem?_eq_getElem h]
  · rw [List.getElem?_eq_none (by simp; omega), List.getElem?_eq_none (by simp; omega)]
theorem getD_some {α : Type} {xs : List α} {d v : α} {i : Nat} (h : xs[i]? = some v) : xs.getD i d = v := by rw [List.getD, h]; rfl
def tL (tbl : List (List Int)) : List (List V) := tbl.map fun r => iL r
theorem tL_length (tbl : List (List Int)) : (tL tbl).length = tbl.length := List.length_map _
theorem tL_at {tbl : List (List Int)} {i : Nat} (h : i < tbl.length) : (tL tbl)[i]? = some (iL (tbl.getD i [])) := by
  unfold tL
  rw [List.getElem?_map, List.getElem?_eq_getElem h, List.getD, List.getElem?_eq_getElem h]
  rfl
theorem tL_getD {tbl : List (List Int)} {i : Nat} (h : i < tbl.length) : (tL tbl).getD i [] = iL (tbl.getD i []) := by rw [List.getD, tL_at h]; rfl
theorem tL_flat (tbl : List (List Int)) : ∀ xs ∈ tL tbl, xs.all flatV = true := by
  intro xs h
  unfold tL at h
  rw [List.mem_map] at h
  obtain ⟨r, _, rfl⟩ := h
  exact flat_ints r
/-- m lists of m numbers, none too great -/
structure Tm (m : Nat) (tbl : List (List Int)) : Prop where
  len : tbl.length = m
  row : ∀ k, k < m → (tbl.getD k []).length = m
  bd : ∀ k j, ((tbl.getD k []).getD j 0).natAbs < 2 ^ 10000
  le : m ≤ 60
def Bd (row : List Int) : Prop := ∀ k, (row.getD k 0).natAbs < 2 ^ 10000
theorem mul_bd {a b : Int} (h1 : a.natAbs < 2 ^ 10000) (h2 : b.natAbs < 2 ^ 10000) : IntMulOk a b := mulOk_of h1 h2 (by decide)
theorem at_int {ns : List Int} {i : Nat} {x : V} (h : (iL ns)[i]? = some x) : i < ns.length ∧ x = .int (ns.getD i 0) := by
  have hl := (List.getElem?_eq_some_iff.mp h).1
  rw [List.length_map] at hl
  refine ⟨hl, ?_⟩
  rw [List.getElem?_map, List.getElem?_eq_getElem hl] at h
  rw [← Option.some.inj h, List.getD, List.getElem?_eq_getElem hl]
  rfl
theorem atN {ns : List Int} {i : Nat} (h : i < ns.length) : atI (iL ns) (i : Int) = some (.int (ns.getD i 0)) := by
  have := atI_int (ns := ns) (k := (i : Int)) (by omega) (by omega)
  rw [Int.toNat_natCast] at this
  exact this
theorem tL_range (tbl : List (List Int)) : (List.range tbl.length).map (fun i => iL (tbl.getD i [])) = tL tbl := range_getD tbl [] (fun r => iL r)
def sp_l_big (K : PySem.W.Frag) : Sp := sp2 fun a b H Q => ∃ (p : Addr) (ns : List Int) (k : Int), SqL K H p (iL ns) ∧ a = .ref p ∧ b = .int k ∧ 0 ≤ k ∧ ∀ c : Int, Q (.int c) H
theorem ok_l_big (T : Txt K mg)  : Has P w K mg base (k + 1) "_law_big" ["_law_script", "_law_k"] (sp_l_big K) := by
  refine T.f_l_big.has sc_l_big len2 (fun f cdv A outer s H vs Q E hr h => ?_)
  obtain ⟨a0, a1, rfl, h⟩ := h
  refine ⟨_, pss_cons (ps_set (i := 2) sc_l_big.nd rfl (Or.inl rfl) (pe_op op_add pe_int (pv 1)))
    (pss_cons (ps_if (pt_cmpR op_lt (pv 1) (pe_callB (k_len (K := K)) rfl T.z_len PySem.boot_len (pa_cons (pv 0) pa_nil)) (nomark _))
    (pss_one (ps_set (i := 2) sc_l_big.nd rfl (Or.inl rfl) (pe_ix (k_ix_list (K := K)) (pv 0) (pv 1) (fun _ _ => rfl))))
    (pss_nil))
    (pss_cons (ps_if (PW.pt (pw_or (pt_cmpR op_lt (pv 2) pe_int (nomark _)) (pw_or1 (pt_cmpR op_ge (pv 2) (pe_op op_pow pe_int pe_int) (nomark _)))))
    (pss_one (ps_ret (pv 2)))
    (pss_nil))
    (pss_cons (ps_set (i := 3) sc_l_big.nd rfl (Or.inl rfl) pe_int)
    (pss_cons (ps_for PassesOwn.never rfl (pi_range1 rfl T.z_range (pa_cons pe_int pa_nil)) (pg_name (i := 4) sc_l_big.nd rfl (Or.inl rfl))
    (pss_cons (ps_set (i := 5) sc_l_big.nd rfl (Or.inl rfl) (pe_op op_mod (pe_op op_mulB (pe_op op_mod (pe_op op_add (pe_op op_mulB (pv 2) pe_int) (pe_op op_mulB (pe_op op_mulB (pe_op op_add (pv 4) pe_int) (pe_op op_add (pe_op op_add (pv 1) (pv 4)) pe_int)) pe_int)) pe_int) pe_int) pe_int))
      (pss_one (ps_set (i := 3) sc_l_big.nd rfl (Or.inl rfl) (pe_op op_add (pe_op op_mulB (pv 3) pe_int) (pe_op op_mod (pe_op op_mulB (pv 5) (pe_op op_add (pv 4) pe_int)) pe_int))))))
    (pss_one (ps_ret (pv 3))))))), ?_⟩
  obtain ⟨p, ns, k, hS, rfl, rfl, h0, q⟩ := h
  walk_at "rd"
  refine ite2 (fun c => ?_) (fun c => ?_)
  · simp only [decide_eq_true_eq, List.length_map] at c
    walk_at "rd"
    refine ⟨p, _, _, _, rfl, rfl, hS, atI_int h0 c, ?_⟩
    generalize ns.getD k.toNat 0 = cell
    walk_at "rd"
    refine ite2 (fun c => iteT ⟨_, rfl, q _⟩) (fun c => ?_)
    walk_at "rd"
    refine ite2 (fun c => ⟨_, rfl, q _⟩) (fun c => ?_)
    walk_at "rd"
    refine for_range (fun i σ' H' => (∃ (d : Int) (t u : Option V), σ' = [some (.ref p), some (.int k), some (.int cell), some (.int d), t, u] ∧ H' = H) ∨ False) (.inl ⟨1, none, none, rfl, rfl⟩) ?_ ?_
    · intro i σ' H' hi z
      obtain ⟨d, t, u, rfl, rfl⟩ := z.resolve_right id
      walk_at "rd"
      exact .inl ⟨_, _, _, rfl, rfl⟩
    · intro σ' H' z
      obtain ⟨d, t, u, rfl, rfl⟩ := z.resolve_right id
      walk_at "rd"
      exact q _
  · walk_at "rd"
    refine ite2 (fun c => iteT ⟨_, rfl, q _⟩) (fun c => ?_)
    walk_at "rd"
    refine ite2 (fun c => ⟨_, rfl, q _⟩) (fun c => ?_)
    walk_at "rd"
    refine for_range (fun i σ' H' => (∃ (d : Int) (t u : Option V), σ' = [some (.ref p), some (.int k), some (.int (7 + k)), some (.int d), t, u] ∧ H' = H) ∨ False) (.inl ⟨1, none, none, rfl, rfl⟩) ?_ ?_
    · intro i σ' H' hi z
      obtain ⟨d, t, u, rfl, rfl⟩ := z.resolve_right id
      walk_at "rd"
      exact .inl ⟨_, _, _, rfl, rfl⟩
    · intro σ' H' z
      obtain ⟨d, t, u, rfl, rfl⟩ := z.resolve_right id
      walk_at "rd"
      exact q _
def isW : V → Bool
  | .int _ => true
  | _ => false
inductive Kd (H : Hp) : V → Prop where
  | flat {x : V} : flatV x = true → Kd H x
  | lst {a : Addr} {xs : List V} : H a = some (.lst xs) → Kd H (.ref a)
  | tup {a : Addr} {xs : List V} : H a = some (.tup xs) → Kd H (.ref a)
def sp_l_whole (K : PySem.W.Frag) : Sp := sp1 fun a H Q => Kd H a ∧ Q (.bl (isW a)) H
theorem ok_l_whole (T : Txt K mg)  : Has P w K mg base (k + 1) "_law_whole" ["_law_found"] (sp_l_whole K) := by
  refine T.f_l_whole.has sc_l_whole len1 (fun f cdv A outer s H vs Q E hr h => ?_)
  obtain ⟨a0, rfl, h⟩ := h
  refine ⟨_, pss_one (ps_ret (pe_and (pe_callB (k_isinst (K := K)) rfl T.z_isinstance PyProof.Rows.boot_isinstance (pa_cons (pv 0) (pa_cons (pe_bltn (v := .ty "int") rfl T.z_int PyProof.Rows.boot_int rfl) pa_nil))) (pe_one (pe_not (pe_callB (k_isinst (K := K)) rfl T.z_isinstance PyProof.Rows.boot_isinstance (pa_cons (pv 0) (pa_cons (pe_bltn (v := .ty "bool") rfl T.z_bool PyProof.Rows.boot_bool rfl) pa_nil))))))), ?_⟩
  obtain ⟨hk, q⟩ := h
  cases hk with
  | flat hf =>
    cases a0 with
    | non => walk_at "rd"; refine ⟨_, _, _, _, rfl, .non, rfl, ?_⟩; walk_at "rd"; exact iteF q
    | bl b => walk_at "rd"; refine ⟨_, _, _, _, rfl, .bl _, rfl, ?_⟩; walk_at "rd"; refine ⟨_, _, _, _, rfl, .bl _, rfl, ?_⟩; walk_at "rd"; exact q
    | int b => walk_at "rd"; refine ⟨_, _, _, _, rfl, .int _, rfl, ?_⟩; walk_at "rd"; refine ⟨_, _, _, _, rfl, .int _, rfl, ?_⟩; walk_at "rd"; exact q
    | str b => walk_at "rd"; refine ⟨_, _, _, _, rfl, .str _, rfl, ?_⟩; walk_at "rd"; exact iteF q
    | byt _ => cases hf
    | flt _ => cases hf
    | ref _ => cases hf
    | ty _ => cases hf
  | lst e => walk_at "rd"; refine ⟨_, _, _, _, rfl, .lst e, rfl, ?_⟩; walk_at "rd"; exact iteF q
  | tup e => walk_at "rd"; refine ⟨_, _, _, _, rfl, .tup e, rfl, ?_⟩; walk_at "rd"; exact iteF q
/-- n from 0 on and not too great, k in reach -/
def Fit (n k : Int) : Prop := 0 ≤ n ∧ n ≤ 10 ^ 38 ∧ (n < 1000 ∨ k ≤ 60)
def sp_choose (K : PySem.W.Frag) : Sp := sp2 fun a b H Q => ∃ n k : Int, a = .int n ∧ b = .int k ∧ Fit n k ∧ Q (.int (M.chI n k)) H
theorem ok_choose (T : Txt K mg)  : Has P w K mg base (k + 1) "choose" ["n", "k"] (sp_choose K) := by
  refine T.f_choose.has sc_choose len2 (fun f cdv A outer s H vs Q E hr h => ?_)
  obtain ⟨a0, a1, rfl, h⟩ := h
  refine ⟨_, pss_cons (ps_if (PW.pt (pw_or (pt_cmpR op_lt (pv 1) pe_int (nomark _)) (pw_or1 (pt_cmpR op_gt (pv 1) (pv 0) (nomark _)))))
    (pss_one (ps_ret pe_int))
    (pss_nil))
    (pss_cons (ps_set (i := 2) sc_choose.nd rfl (Or.inl rfl) pe_int)
    (pss_cons (ps_for PassesOwn.never rfl (pi_range1 rfl T.z_range (pa_cons (pe_callB (call_min2 rfl) rfl T.z_min PyProof.Rows.boot_min (pa_cons (pv 1) (pa_cons (pe_op op_sub (pv 0) (pv 1)) pa_nil))) pa_nil)) (pg_name (i := 3) sc_choose.nd rfl (Or.inl rfl))
    (pss_one (ps_set (i := 2) sc_choose.nd rfl (Or.inl rfl) (pe_op op_fdiv (pe_op op_mulB (pv 2) (pe_op op_sub (pv 0) (pv 3))) (pe_op op_add (pv 3) pe_int)))))
    (pss_one (ps_ret (pv 2))))), ?_⟩
  obtain ⟨n, k, rfl, rfl, hf, q⟩ := h
  obtain ⟨f0, f1, f2⟩ := hf
  walk_at "rd"
  refine ite2 (fun c => ?_) (fun c => ?_) <;> simp only [decide_eq_true_eq] at c
  · refine ite2 (fun d => ?_) (fun d => absurd rfl d)
    rw [M.chI_out (.inl c)] at q
    exact q
  walk_at "rd"
  refine ite2 (fun d => ?_) (fun d => ?_) <;> simp only [decide_eq_true_eq] at d
  · rw [M.chI_out (.inr d)] at q
    exact q
  walk_at "rd"
  refine for_range (fun i σ' H' => (∃ t, σ' = [some (.int n), some (.int k), some (.int (M.ch n.toNat i : Nat)), t] ∧ H' = H) ∨ False) (.inl ⟨none, by rw [M.ch_zero]; rfl, rfl⟩) ?_ ?_
  · intro i σ' H' hi z
    obtain ⟨t, rfl, rfl⟩ := z.resolve_right id
    have hi' : (i : Int) < if n - k < k then n - k else k := by omega
    have h2 : (i : Int) ≤ n := by split at hi' <;> omega
    have hn : n.toNat < 2 ^ 133 := Nat.lt_of_le_of_lt (show n.toNat ≤ 10 ^ 38 by omega) (by decide +kernel)
    have hb := M.ch_bitsW hn i
    walk_at "rd"
    refine ⟨mulOk_of (m := 133 * i + 1) (n := 133) (by simpa using hb) (Nat.lt_of_le_of_lt (show _ ≤ 10 ^ 38 by omega) (by decide +kernel)) (by split at hi' <;> omega), ?_⟩
    walk_at "rd"
    refine .inl ⟨some (.int (0 + i)), ?_, rfl⟩
    have e : ((M.ch n.toNat i : Nat) : Int) * (n - (0 + i)) / (0 + i + 1) = ((M.ch n.toNat (i + 1) : Nat) : Int) := by
      rw [← M.ch_div, show n - (0 + (i : Int)) = ((n.toNat - i : Nat) : Int) by omega, show (0 + (i : Int) + 1) = ((i + 1 : Nat) : Int) by omega, ← Int.natCast_mul, ← Int.natCast_ediv]
    rw [← e]
    rfl
  · intro σ' H' z
    obtain ⟨t, rfl, rfl⟩ := z.resolve_right id
    walk_at "rd"
    have e : M.chI n k = ((M.ch n.toNat (if n - k < k then n - k else k).toNat : Nat) : Int) := by
      rw [M.chI_in (by omega) (by omega)]
      split
      · rw [show (n - k).toNat = n.toNat - k.toNat by omega, M.ch_symm (by omega)]
      · rfl
    rw [e] at q
    exact q
def Big (x : Int) : Prop := x.natAbs < 2 ^ 4000
theorem big_mul {a b : Int} (h1 : Big a) (h2 : Big b) : IntMulOk a b := mulOk_of (m := 4000) (n := 4000) h1 h2 (by decide)
theorem big_lit {x : Int} (h1 : -(10 ^ 200) < x) (h2 : x < 10 ^ 200) : Big x := by
  have : x.natAbs < 10 ^ 200 := by omega
  exact Nat.lt_of_lt_of_le this (Nat.le_trans (show 10 ^ 200 ≤ 2 ^ 700 by decide +kernel) (Nat.pow_le_pow_right (by decide) (by decide)))
theorem iteT' {p : Bool} {α : Prop} {β : Prop} (h : p = true) (q : α) : if p = true then α else β := by rw [if_pos h]; exact q
theorem abs_int (x : Int) : (if x < 0 then -x else x) = ((x.natAbs : Nat) : Int) := by split <;> omega
def sp_greatest_common (K : PySem.W.Frag) : Sp := sp2 fun a b H Q => ∃ x y : Nat, a = .int x ∧ b = .int y ∧ Q (.int ((Nat.gcd x y : Nat) : Int)) H
theorem ok_greatest_common (T : Txt K mg)  : Has P w K mg base (k + 1) "greatest_common" ["one", "other"] (sp_greatest_common K) := by
  refine T.f_greatest_common.has sc_greatest_common len2 (fun f cdv A outer s H vs Q E hr h => ?_)
  obtain ⟨a0, a1, rfl, h⟩ := h
  refine ⟨_, pss_cons (ps_while PassesOwn.never (pt_cmpR op_ne (pv 1) pe_int (nomark _))
    (pss_cons (ps_set (i := 2) sc_greatest_common.nd rfl (Or.inl rfl) (pe_op op_mod (pv 0) (pv 1)))
      (pss_cons (ps_set (i := 0) sc_greatest_common.nd rfl (Or.inl rfl) (pv 1))
      (pss_one (ps_set (i := 1) sc_greatest_common.nd rfl (Or.inl rfl) (pv 2))))))
    (pss_one (ps_ret (pv 0))), ?_⟩
  obtain ⟨x, y, rfl, rfl, q⟩ := h
  refine ⟨fun m σ' H' => (∃ (x' y' : Nat) (t2 : Option V), σ' = [some (.int x'), some (.int y'), t2] ∧ H' = H ∧ Nat.gcd x' y' = Nat.gcd x y ∧ m = y') ∨ False, ⟨_, .inl ⟨x, y, _, rfl, rfl, rfl, rfl⟩⟩, ?_⟩
  intro m σ' H' z
  obtain ⟨x', y', t2, rfl, rfl, hg, rfl⟩ := z.resolve_right id
  walk_at "rd"
  refine ite2 (fun cc => ?_) (fun cc => ?_)
  · have cc' : (m : Int) ≠ 0 := by simpa using cc
    have hm : 0 < m := by omega
    refine ⟨fun σ2 H2 => (σ2 = [some (.int m), some (.int ((x' % m : Nat) : Int)), some (.int ((x' % m : Nat) : Int))] ∧ H2 = H') ∨ False, fun σ2 H2 z => ?_, ?_⟩
    · obtain ⟨rfl, rfl⟩ := z.resolve_right id
      refine ⟨x' % m, Nat.mod_lt _ hm, .inl ⟨_, _, _, rfl, rfl, ?_, rfl⟩⟩
      rw [← hg, Nat.gcd_comm m, ← Nat.gcd_rec, Nat.gcd_comm]
    walk_at "rd"
    refine .inl ⟨?_, rfl⟩
    rw [Int.natCast_emod]
    rfl
  · have cc' : (m : Int) = 0 := by simpa using cc
    have : m = 0 := by omega
    subst this
    rw [Nat.gcd_zero_right] at hg
    walk_at "rd"
    rw [hg]
    exact q
def sp_fraction (K : PySem.W.Frag) : Sp := sp2 fun a b H Q => ∃ top bottom : Int, a = .int top ∧ b = .int bottom ∧ (Big top ∧ Big bottom ∧ bottom ≠ 0) ∧ ∀ t u : Int, M.FrOk top bottom t u → ∀ r H', Same H H' → H r = none → H' r = some (.tup [.int t, .int u]) → Q (.ref r) H'
theorem ok_fraction (T : Txt K mg) (g_greatest_common : Has P w K mg base k "greatest_common" ["one", "other"] (sp_greatest_common K)) : Has P w K mg base (k + 1) "fraction" ["top", "bottom"] (sp_fraction K) := by
  refine T.f_fraction.has sc_fraction len2 (fun f cdv A outer s H vs Q E hr h => ?_)
  obtain ⟨a0, a1, rfl, h⟩ := h
  refine ⟨_, pss_cons (ps_set (i := 2) sc_fraction.nd rfl (Or.inl rfl) (pe_callH g_greatest_common hr (pa_cons (pe_callB call_abs rfl T.z_abs PyProof.Rows.boot_abs (pa_cons (pv 0) pa_nil)) (pa_cons (pe_callB call_abs rfl T.z_abs PyProof.Rows.boot_abs (pa_cons (pv 1) pa_nil)) pa_nil))))
    (pss_cons (ps_set (i := 3) sc_fraction.nd rfl (Or.inl rfl) (pe_ifExp (pt_cmpR op_gt (pv 1) pe_int (nomark _)) (pv 2) (pe_un un_neg (pv 2))))
    (pss_one (ps_ret (pe_tup (pa_cons (pe_op op_fdivB (pv 0) (pv 3)) (pa_cons (pe_op op_fdivB (pv 1) (pv 3)) pa_nil)))))), ?_⟩
  obtain ⟨top, bottom, rfl, rfl, ⟨b1, b2, h0⟩, q⟩ := h
  have hg : 0 < Int.gcd top bottom := Int.gcd_pos_of_ne_zero_right _ h0
  have hgle : Int.gcd top bottom ≤ bottom.natAbs := Nat.gcd_le_right _ (by omega)
  have hgb : Int.gcd top bottom < 2 ^ 9000 := Nat.lt_of_le_of_lt hgle (Nat.lt_of_lt_of_le b2 (Nat.pow_le_pow_right (by decide) (by decide)))
  walk_at "rd"
  rw [abs_int, abs_int]
  refine ⟨top.natAbs, bottom.natAbs, rfl, rfl, ?_⟩
  rw [show Nat.gcd top.natAbs bottom.natAbs = Int.gcd top bottom from rfl]
  walk_at "rd"
  refine ite2 (fun cc => ?_) (fun cc => ?_) <;> simp only [decide_eq_true_eq] at cc
  · have hd : ((Int.gcd top bottom : Nat) : Int) = if bottom > 0 then ((Int.gcd top bottom : Nat) : Int) else -((Int.gcd top bottom : Nat) : Int) := by rw [if_pos cc]
    have hd0 : ((Int.gcd top bottom : Nat) : Int) ≠ 0 := by omega
    have hd2 : (((Int.gcd top bottom : Nat) : Int)).natAbs < 2 ^ 9000 := by rw [Int.natAbs_natCast]; exact hgb
    have hdB : CDivB top ((Int.gcd top bottom : Nat) : Int) ∧ CDivB bottom ((Int.gcd top bottom : Nat) : Int) := ⟨⟨hd0, hd2⟩, ⟨hd0, hd2⟩⟩
    walk_at "rd"
    refine And.intro hdB.1 ?_
    walk_at "rd"
    refine And.intro hdB.2 ?_
    walk_at "rd"
    intro r hr'
    generalize e1 : upd H r _ = H1
    obtain ⟨s1, er⟩ := new_is hr' e1
    exact q _ _ (M.frac_ok h0 hd) r H1 s1 hr' er
  · have hd : -((Int.gcd top bottom : Nat) : Int) = if bottom > 0 then ((Int.gcd top bottom : Nat) : Int) else -((Int.gcd top bottom : Nat) : Int) := by rw [if_neg cc]
    have hd0 : -((Int.gcd top bottom : Nat) : Int) ≠ 0 := by omega
    have hd2 : (-((Int.gcd top bottom : Nat) : Int)).natAbs < 2 ^ 9000 := by rw [Int.natAbs_neg, Int.natAbs_natCast]; exact hgb
    walk_at "rd"
    have hdB : CDivB top (-((Int.gcd top bottom : Nat) : Int)) ∧ CDivB bottom (-((Int.gcd top bottom : Nat) : Int)) := ⟨⟨hd0, hd2⟩, ⟨hd0, hd2⟩⟩
    walk_at "rd"
    refine And.intro hdB.1 ?_
    walk_at "rd"
    refine And.intro hdB.2 ?_
    walk_at "rd"
    intro r hr'
    generalize e1 : upd H r _ = H1
    obtain ⟨s1, er⟩ := new_is hr' e1
    exact q _ _ (M.frac_ok h0 hd) r H1 s1 hr' er
def sp_power (K : PySem.W.Frag) : Sp := sp2 fun a b H Q => ∃ x n : Nat, a = .int x ∧ b = .int n ∧ (x ≤ 10 ^ 36 ∧ n ≤ 60) ∧ Q (.int ((x ^ n : Nat) : Int)) H
theorem lt133 {x : Nat} (h : x ≤ 10 ^ 36) : x < 2 ^ 133 := Nat.lt_of_le_of_lt h (by decide +kernel)
theorem ok_power (T : Txt K mg)  : Has P w K mg base (k + 1) "power" ["base", "times"] (sp_power K) := by
  refine T.f_power.has sc_power len2 (fun f cdv A outer s H vs Q E hr h => ?_)
  obtain ⟨a0, a1, rfl, h⟩ := h
  refine ⟨_, pss_cons (ps_set (i := 2) sc_power.nd rfl (Or.inl rfl) pe_int)
    (pss_cons (ps_for PassesOwn.never rfl (pi_range1 rfl T.z_range (pa_cons (pv 1) pa_nil)) (pg_name (i := 3) sc_power.nd rfl (Or.inl rfl))
    (pss_one (ps_set (i := 2) sc_power.nd rfl (Or.inl rfl) (pe_op op_mulB (pv 2) (pv 0)))))
    (pss_one (ps_ret (pv 2)))), ?_⟩
  obtain ⟨x, n, rfl, rfl, ⟨h1, h2⟩, q⟩ := h
  walk_at "rd"
  rw [Int.toNat_natCast]
  refine for_range (fun i σ' H' => (∃ t, σ' = [some (.int x), some (.int n), some (.int ((x ^ i : Nat) : Int)), t] ∧ H' = H) ∨ False) (.inl ⟨none, by rw [Nat.pow_zero]; rfl, rfl⟩) ?_ ?_
  · intro i σ' H' hi z
    obtain ⟨t, rfl, rfl⟩ := z.resolve_right id
    have hb := M.pow_bitsW (lt133 h1) i
    walk_at "rd"
    refine ⟨mulOk_of (m := 133 * i + 1) (n := 133) (by simpa using hb) (by rw [Int.natAbs_natCast]; exact lt133 h1) (by omega), ?_⟩
    refine .inl ⟨some (.int (0 + i)), ?_, rfl⟩
    rw [Nat.pow_succ, Int.natCast_mul]
    rfl
  · intro σ' H' z
    obtain ⟨t, rfl, rfl⟩ := z.resolve_right id
    walk_at "rd"
    exact q
def sp_l_power (K : PySem.W.Frag) : Sp := sp2 fun a b H Q => ∃ x n : Nat, a = .int x ∧ b = .int n ∧ (x ≤ 10 ^ 36 ∧ n ≤ 60) ∧ Q (.int ((x ^ n : Nat) : Int)) H
theorem ok_l_power (T : Txt K mg)  : Has P w K mg base (k + 1) "_law_power" ["_law_number", "_law_many"] (sp_l_power K) := by
  refine T.f_l_power.has sc_l_power len2 (fun f cdv A outer s H vs Q E hr h => ?_)
  obtain ⟨a0, a1, rfl, h⟩ := h
  refine ⟨_, pss_cons (ps_set (i := 2) sc_l_power.nd rfl (Or.inl rfl) pe_int)
    (pss_cons (ps_for PassesOwn.never rfl (pi_range1 rfl T.z_range (pa_cons (pv 1) pa_nil)) (pg_name (i := 3) sc_l_power.nd rfl (Or.inl rfl))
    (pss_one (ps_set (i := 2) sc_l_power.nd rfl (Or.inl rfl) (pe_op op_mulB (pv 2) (pv 0)))))
    (pss_one (ps_ret (pv 2)))), ?_⟩
  obtain ⟨x, n, rfl, rfl, ⟨h1, h2⟩, q⟩ := h
  walk_at "rd"
  rw [Int.toNat_natCast]
  refine for_range (fun i σ' H' => (∃ t, σ' = [some (.int x), some (.int n), some (.int ((x ^ i : Nat) : Int)), t] ∧ H' = H) ∨ False) (.inl ⟨none, by rw [Nat.pow_zero]; rfl, rfl⟩) ?_ ?_
  · intro i σ' H' hi z
    obtain ⟨t, rfl, rfl⟩ := z.resolve_right id
    have hb := M.pow_bitsW (lt133 h1) i
    walk_at "rd"
    refine ⟨mulOk_of (m := 133 * i + 1) (n := 133) (by simpa using hb) (by rw [Int.natAbs_natCast]; exact lt133 h1) (by omega), ?_⟩
    refine .inl ⟨some (.int (0 + i)), ?_, rfl⟩
    rw [Nat.pow_succ, Int.natCast_mul]
    rfl
  · intro σ' H' z
    obtain ⟨t, rfl, rfl⟩ := z.resolve_right id
    walk_at "rd"
    exact q
def sp_with_one_card_more (K : PySem.W.Frag) : Sp := sp1 fun a H Q => ∃ (p : Addr) (cs : List Int), H p = some (.lst (iL cs)) ∧ a = .ref p ∧ cs.length ≤ 900 ∧ rNew (iL (M.more cs)) H Q
theorem ok_with_one_card_more (T : Txt K mg)  : Has P w K mg base (k + 1) "with_one_card_more" ["counts"] (sp_with_one_card_more K) := by
  refine T.f_with_one_card_more.has sc_with_one_card_more len1 (fun f cdv A outer s H vs Q E hr h => ?_)
  obtain ⟨a0, rfl, h⟩ := h
  refine ⟨_, pss_cons (ps_set (i := 1) sc_with_one_card_more.nd rfl (Or.inr rfl) (pe_op op_add (pe_callB (k_len (K := K)) rfl T.z_len PySem.boot_len (pa_cons (pv 0) pa_nil)) pe_int))
    (pss_cons (ps_set (i := 2) sc_with_one_card_more.nd rfl (Or.inr rfl) (pe_op op_cat (pv 0) (pe_lst (pa_cons pe_int pa_nil))))
    (pss_cons (ps_set (i := 3) sc_with_one_card_more.nd rfl (Or.inr rfl) (pe_op op_cat (pe_lst (pa_cons pe_int pa_nil)) (pv 0)))
    (pss_one (ps_ret (pe_comp (vars := ["j"]) (caps := [2, 1, 3]) (CompScope.of (outer := defScope s_with_one_card_more) (N := ["counts", "cards", "kept", "grown"]) rfl rfl ⟨by decide +kernel⟩) rfl (pi_range1 rfl T.z_range (pa_cons (pv 1) pa_nil)) ⟨fun _ _ _ _ => ⟨(pg_name (i := 0) (show List.Nodup (["j", "kept", "cards", "grown"] : List Str) by decide +kernel) rfl (Or.inl rfl)), pts_nil, (pe_op op_add (pe_op op_mulB (pe_op op_add (pv 0) pe_int) (pe_ix (k_ix_list (K := K)) (pv 1) (pv 0) (fun _ _ => rfl))) (pe_op op_mulB (pe_op op_sub (pv 2) (pv 0)) (pe_ix (k_ix_list (K := K)) (pv 3) (pv 0) (fun _ _ => rfl))))⟩⟩))))), ?_⟩
  obtain ⟨p, cs, hp, rfl, hl, q⟩ := h
  have hS : SqL K H p (iL cs) := SqL.of hp
  have hln : (iL cs).length = cs.length := List.length_map _
  walk_at "rd"
  intro a ha
  generalize e1 : upd H a _ = H1
  obtain ⟨s1, ea⟩ := new_is ha e1
  refine ⟨p, a, _, _, rfl, rfl, s1 _ _ hp, ea, lt_line (by rw [hln]; simp; omega), ?_⟩
  intro b hb
  generalize e2 : upd H1 b _ = H2
  obtain ⟨s2, eb⟩ := new_is hb e2
  walk_at "rd"
  intro c hc
  generalize e3 : upd H2 c _ = H3
  obtain ⟨s3, ec⟩ := new_is hc e3
  have s03 := s1.trans (s2.trans s3)
  walk_at "rd"
  refine ⟨c, p, _, _, rfl, rfl, ec, s03 _ _ hp, lt_line (by rw [hln]; simp; omega), ?_⟩
  intro d hd
  generalize e4 : upd H3 d _ = H4
  obtain ⟨s4, ed⟩ := new_is hd e4
  clear e1 e2 e3 e4
  have s04 := s03.trans s4
  have eb4 : H4 b = some (.lst (iL (cs ++ [0]))) := by rw [(s3.trans s4) _ _ eb]; simp
  have ed4 : H4 d = some (.lst (iL (0 :: cs))) := ed
  walk_at "rd"
  rw [hln, show ((cs.length : Int) + 1).toNat = cs.length + 1 by omega]
  refine comp_range (fun j => .int (((j : Int) + 1) * (cs ++ [0]).getD j 0 + ((cs.length : Int) + 1 - j) * (0 :: cs).getD j 0)) (fun _ => true) (lt_line (by omega)) ?_ ?_
  · intro i t acc ys N Kt hi hacc k1 _
    have sa := Same.new hacc (.lst ys)
    have k2 := k1 (some (.int (0 + i))) rfl
    rw [Int.zero_add (i : Int)] at k2 ⊢
    have at1 : atI (iL (cs ++ [0])) (i : Int) = some (.int ((cs ++ [0]).getD i 0)) := by
      have := atI_int (ns := cs ++ [0]) (k := (i : Int)) (by omega) (by simp; omega)
      rw [Int.toNat_natCast] at this
      exact this
    have at2 : atI (iL (0 :: cs)) (i : Int) = some (.int ((0 :: cs).getD i 0)) := by
      have := atI_int (ns := 0 :: cs) (k := (i : Int)) (by omega) (by simp; omega)
      rw [Int.toNat_natCast] at this
      exact this
    walk_at "rd"
    refine ⟨b, _, _, _, rfl, rfl, SqL.of (sa _ _ eb4), at1, ?_⟩
    walk_at "rd"
    refine ⟨d, _, _, _, rfl, rfl, SqL.of (sa _ _ ed4), at2, ?_⟩
    walk_at "rd"
    exact k2
  rw [filter_true]
  have e0 : ((List.range (cs.length + 1)).map fun j : Nat => V.int (((j : Int) + 1) * (cs ++ [0]).getD j 0 + ((cs.length : Int) + 1 - j) * (0 :: cs).getD j 0)) = iL (M.more cs) := by rw [M.more, iL, List.map_map]; rfl
  rw [e0]
  intro r hr
  exact q r _ (s04.put (s04.free hr)) (s04.free hr) upd_same
def sp_by_falls (K : PySem.W.Frag) : Sp := sp1 fun a H Q => ∃ n : Nat, a = .int n ∧ (1 ≤ n ∧ n ≤ 60) ∧ rNew (iL (M.eul (n - 1))) H Q
theorem ok_by_falls (T : Txt K mg) (g_with_one_card_more : Has P w K mg base k "with_one_card_more" ["counts"] (sp_with_one_card_more K)) : Has P w K mg base (k + 1) "by_falls" ["n"] (sp_by_falls K) := by
  refine T.f_by_falls.has sc_by_falls len1 (fun f cdv A outer s H vs Q E hr h => ?_)
  obtain ⟨a0, rfl, h⟩ := h
  refine ⟨_, pss_cons (ps_set (i := 1) sc_by_falls.nd rfl (Or.inl rfl) (pe_lst (pa_cons pe_int pa_nil)))
    (pss_cons (ps_while PassesOwn.never (pt_cmpR op_lt (pe_callB (k_len (K := K)) rfl T.z_len PySem.boot_len (pa_cons (pv 1) pa_nil)) (pv 0) (nomark _))
    (pss_one (ps_set (i := 1) sc_by_falls.nd rfl (Or.inl rfl) (pe_callH g_with_one_card_more hr (pa_cons (pv 1) pa_nil)))))
    (pss_one (ps_ret (pv 1)))), ?_⟩
  obtain ⟨n, rfl, ⟨h1, h2⟩, q⟩ := h
  walk_at "rd"
  intro c0 hc0
  generalize e1 : upd H c0 _ = H1
  obtain ⟨s1, ec0⟩ := new_is hc0 e1
  clear e1
  refine ⟨fun m σ' H' => (∃ (i : Nat) (c : Addr), σ' = [some (.int n), some (.ref c)] ∧ Same H H' ∧ H' c = some (.lst (iL (M.eul i))) ∧ H c = none ∧ i + 1 ≤ n ∧ m = n - i) ∨ False, ⟨_, .inl ⟨0, c0, rfl, s1, ec0, hc0, h1, rfl⟩⟩, ?_⟩
  intro m σ' H' z
  obtain ⟨i, c, rfl, sm, ec, hc, hi, rfl⟩ := z.resolve_right id
  have hS : SqL K H' c (iL (M.eul i)) := SqL.of ec
  have hl : (iL (M.eul i)).length = i + 1 := by rw [List.length_map, M.eul_length]
  walk_at "rd"
  rw [hl]
  refine ite2 (fun cc => ?_) (fun cc => ?_) <;> simp only [decide_eq_true_eq] at cc
  · refine ⟨fun σ2 H2 => (∃ c2, σ2 = [some (.int n), some (.ref c2)] ∧ Same H H2 ∧ H2 c2 = some (.lst (iL (M.eul (i + 1)))) ∧ H c2 = none) ∨ False, fun σ2 H2 z => ?_, ?_⟩
    · obtain ⟨c2, rfl, a1, a2, a3⟩ := z.resolve_right id
      exact ⟨n - (i + 1), by omega, .inl ⟨i + 1, c2, rfl, a1, a2, a3, by omega, rfl⟩⟩
    walk_at "rd"
    refine ⟨c, _, ec, rfl, by rw [M.eul_length]; omega, fun u H2 s2 hu eu => ?_⟩
    exact .inl ⟨u, rfl, sm.trans s2, eu, sm.free hu⟩
  · walk_at "rd"
    have : i = n - 1 := by omega
    subst this
    exact q c H' sm hc ec
def sp_words_to_order (K : PySem.W.Frag) : Sp := sp3 fun a b c H Q => ∃ n h r : Nat, a = .int n ∧ b = .int h ∧ c = .int r ∧ (n ≤ 60 ∧ h ≤ 10 ^ 36 ∧ r ≤ n) ∧ Q (.int (M.wy n h r)) H
theorem ok_words_to_order (T : Txt K mg) (g_choose : Has P w K mg base k "choose" ["n", "k"] (sp_choose K)) : Has P w K mg base (k + 1) "words_to_order" ["n", "heaps", "r"] (sp_words_to_order K) := by
  refine T.f_words_to_order.has sc_words_to_order len3 (fun f cdv A outer s H vs Q E hr h => ?_)
  obtain ⟨a0, a1, a2, rfl, h⟩ := h
  refine ⟨_, pss_one (ps_ret (pe_callH g_choose hr (pa_cons (pe_op op_sub (pe_op op_add (pv 1) (pv 0)) (pv 2)) (pa_cons (pv 0) pa_nil)))), ?_⟩
  obtain ⟨n, h, r, rfl, rfl, rfl, ⟨h1, h2, h3⟩, q⟩ := h
  walk_at "rd"
  refine ⟨⟨by omega, by omega, by omega⟩, ?_⟩
  exact q
theorem sum_getD (cs : List Int) : cs.sum = M.sumI (fun j => cs.getD j 0) cs.length := by
  rw [← M.sum_range, M.list_by rfl fun j _ => rfl]
structure Fr (n b k : Nat) : Prop where
  n1 : 1 ≤ n
  n2 : n ≤ 20
  b1 : 1 ≤ b
  b2 : b ≤ 60
  k2 : k ≤ 20
theorem Fr.le {n b k : Nat} (h : Fr n b k) : b ^ k ≤ 10 ^ 36 := Nat.le_trans (Nat.le_trans (Nat.pow_le_pow_left h.b2 k) (Nat.pow_le_pow_right (by decide) h.k2)) (by decide +kernel)
theorem Fr.pos {n b k : Nat} (h : Fr n b k) : 1 ≤ b ^ k := Nat.pow_pos h.b1
/-- what is divided by -/
def bt (n h : Nat) : Int := 2 * ((h ^ n : Nat) : Int) * ((M.fa n : Nat) : Int)
theorem fa20 {n : Nat} (h : n ≤ 20) : M.fa n < 2 ^ 62 := by
  have : ∀ n, n < 21 → M.fa n < 2 ^ 62 := by decide +kernel
  exact this n (by omega)
theorem bt_pos {n h : Nat} (h1 : 1 ≤ h) : 0 < bt n h := by
  have := Nat.pow_pos (n := n) (show 0 < h by omega)
  have := M.fa_pos n
  exact Int.mul_pos (Int.mul_pos (by decide) (by omega)) (by omega)
theorem pw_bits {n h : Nat} (hn : n ≤ 20) (hh : h ≤ 10 ^ 36) : h ^ n < 2 ^ 2661 := Nat.lt_of_lt_of_le (M.pow_bitsW (lt133 hh) n) (Nat.pow_le_pow_right (by decide) (by omega))
theorem wy_bits {n h r : Nat} (hn : n ≤ 20) (hh : h ≤ 10 ^ 36) : (M.wy n h r).natAbs < 2 ^ 2661 :=
  Nat.lt_of_lt_of_le (M.chI_bitsW (m := n) (B := 133) (Int.lt_of_le_of_lt (show _ ≤ (10 : Int) ^ 38 by omega) (by decide +kernel))) (Nat.pow_le_pow_right (by decide) (by omega))
theorem bt_bits {n h : Nat} (hn : n ≤ 20) (hh : h ≤ 10 ^ 36) : (bt n h).natAbs < 2 ^ 2800 := by
  unfold bt
  rw [Int.natAbs_mul, Int.natAbs_mul, Int.natAbs_natCast, Int.natAbs_natCast]
  have h1 := pw_bits hn hh
  have h2 := fa20 hn
  have h3 : 2 * h ^ n * M.fa n ≤ 2 * 2 ^ 2661 * 2 ^ 62 := Nat.mul_le_mul (Nat.mul_le_mul (Nat.le_refl _) (by omega)) (by omega)
  exact Nat.lt_of_le_of_lt h3 (by rw [show 2 * 2 ^ 2661 * 2 ^ 62 = 2 ^ 2724 by rw [show (2 : Nat) * 2 ^ 2661 = 2 ^ 2662 from (Nat.pow_succ' (n := 2661) (m := 2)).symm, ← Nat.pow_add]]; exact Nat.pow_lt_pow_right (by decide) (by decide))
theorem ap_le {n h : Nat} (hn : 1 ≤ n) (hh : 1 ≤ h) : M.ap n h ≤ bt n h := by
  have h1 := M.ap_step (n := n) (b := h) (h := 1) hn hh
  rw [Nat.one_mul, M.ap_one hn] at h1
  have h2 : bt n h = ((h ^ n : Nat) : Int) * (2 * ((M.fa n : Nat) : Int)) := by
    unfold bt
    rw [Int.mul_comm 2, Int.mul_assoc]
  have h3 : ((h ^ n : Nat) : Int) * (2 * (((M.fa n : Nat) : Int) - 1)) ≤ ((h ^ n : Nat) : Int) * (2 * ((M.fa n : Nat) : Int)) := Int.mul_le_mul_of_nonneg_left (by omega) (by omega)
  omega
theorem ap_bits {n h : Nat} (hn : 1 ≤ n) (hn2 : n ≤ 20) (h1 : 1 ≤ h) (hh : h ≤ 10 ^ 36) : (M.ap n h).natAbs < 2 ^ 2800 := by
  have a := ap_le hn h1
  have b := M.ap_nonneg n h
  have c := bt_bits (n := n) hn2 hh
  omega
theorem big28 {x : Int} (h : x.natAbs < 2 ^ 2800) : Big x := Nat.lt_of_lt_of_le h (Nat.pow_le_pow_right (by decide) (by decide))
def sp_far (K : PySem.W.Frag) : Sp := sp3 fun a b c H Q => ∃ n m k : Nat, a = .int n ∧ b = .int m ∧ c = .int k ∧ Fr n m k ∧ ∀ t u : Int, M.FrOk (M.ap n (m ^ k)) (bt n (m ^ k)) t u → ∀ r H', Same H H' → H r = none → H' r = some (.tup [.int t, .int u]) → Q (.ref r) H'
theorem ok_far (T : Txt K mg) (g_power : Has P w K mg base k "power" ["base", "times"] (sp_power K)) (g_by_falls : Has P w K mg base k "by_falls" ["n"] (sp_by_falls K)) (g_words_to_order : Has P w K mg base k "words_to_order" ["n", "heaps", "r"] (sp_words_to_order K)) (g_fraction : Has P w K mg base k "fraction" ["top", "bottom"] (sp_fraction K)) : Has P w K mg base (k + 1) "far" ["n", "b", "k"] (sp_far K) := by
  refine T.f_far.has sc_far len3 (fun f cdv A outer s H vs Q E hr h => ?_)
  obtain ⟨a0, a1, a2, rfl, h⟩ := h
  refine ⟨_, pss_cons (ps_set (i := 3) sc_far.nd rfl (Or.inl rfl) (pe_callH g_power hr (pa_cons (pv 1) (pa_cons (pv 2) pa_nil))))
    (pss_cons (ps_set (i := 4) sc_far.nd rfl (Or.inl rfl) (pe_callH g_power hr (pa_cons (pv 3) (pa_cons (pv 0) pa_nil))))
    (pss_cons (ps_set (i := 5) sc_far.nd rfl (Or.inl rfl) (pe_callH g_by_falls hr (pa_cons (pv 0) pa_nil)))
    (pss_cons (ps_set (i := 6) sc_far.nd rfl (Or.inl rfl) (pe_callB (k_sum (K := K) rfl) rfl T.z_sum PyProof.Rows.boot_sum (pa_cons (pv 5) pa_nil)))
    (pss_cons (ps_set (i := 7) sc_far.nd rfl (Or.inl rfl) pe_int)
    (pss_cons (ps_for PassesOwn.never rfl (pi_enum1 (K := K) rfl T.z_enumerate (pa_cons (pv 5) pa_nil)) (k_pg_tup (K := K) (n := 2) rfl (pgs_cons (pg_name (i := 8) sc_far.nd rfl (Or.inl rfl)) (pgs_cons (pg_name (i := 9) sc_far.nd rfl (Or.inl rfl)) pgs_nil)))
    (pss_one (ps_set (i := 7) sc_far.nd rfl (Or.inl rfl) (pe_op op_add (pv 7) (pe_op op_mulB (pv 9) (pe_callB call_abs rfl T.z_abs PyProof.Rows.boot_abs (pa_cons (pe_op op_sub (pe_op op_mulB (pe_callH g_words_to_order hr (pa_cons (pv 0) (pa_cons (pv 3) (pa_cons (pv 8) pa_nil)))) (pv 6)) (pv 4)) pa_nil)))))))
    (pss_one (ps_ret (pe_callH g_fraction hr (pa_cons (pv 7) (pa_cons (pe_op op_mulB (pe_op op_mulB pe_int (pv 4)) (pv 6)) pa_nil)))))))))), ?_⟩
  obtain ⟨n, b, k, rfl, rfl, rfl, fr, q⟩ := h
  have ⟨n1, n2, b1, b2, k2⟩ := fr
  have hh := fr.le
  have h1 := fr.pos
  walk_at "rd"
  generalize b ^ k = h at hh h1 q ⊢
  walk_at "rd"
  have hpw := pw_bits n2 hh
  have hF := fa20 n2
  intro C H1 s1 hC eC
  have le : (M.eul (n - 1)).length = n := by rw [M.eul_length]; omega
  have SC : SqL K H1 C (iL (M.eul (n - 1))) := SqL.of eC
  have esum : (M.eul (n - 1)).sum = ((M.fa n : Nat) : Int) := by rw [sum_getD, le, M.eul_sum' n1]
  walk_at "rd"
  refine ⟨C, _, rfl, SC, ?_⟩
  rw [esum]
  walk_at "rd"
  refine ⟨⟨_, SC⟩, ?_⟩
  refine for_enum1 (xs := iL (M.eul (n - 1))) (fun i σ' H' => (∃ t8 t9 : Option V, σ' = [some (.int n), some (.int b), some (.int k), some (.int h), some (.int ((h ^ n : Nat) : Int)), some (.ref C), some (.int (M.fa n : Nat)), some (.int (M.sumI (fun i => (M.eul (n - 1)).getD i 0 * M.ab (M.wy n h (i + 1) * (M.fa n : Nat) - ((h ^ n : Nat) : Int))) i)), t8, t9] ∧ Same H1 H') ∨ False) (.inl ⟨_, _, rfl, Same.refl _⟩) ?_ ?_ ?_
  · intro i σ' H' _ z
    obtain ⟨t8, t9, rfl, sm⟩ := z.resolve_right id
    exact sm.seq SC
  · intro i x σ' H' T hx z hT
    obtain ⟨t8, t9, rfl, sm⟩ := z.resolve_right id
    obtain ⟨hi, rfl⟩ := at_int hx
    rw [le] at hi
    refine ⟨T, _, rfl, SqT.of upd_same, rfl, ?_⟩
    have sT := sm.trans (Same.new hT (.tup [.int ((i : Int) + 1), .int ((M.eul (n - 1)).getD i 0)]))
    generalize upd H' T (.tup [.int ((i : Int) + 1), .int ((M.eul (n - 1)).getD i 0)]) = H3 at sT
    have hw := wy_bits (r := i + 1) n2 hh
    walk_at "rd"
    refine ⟨n, h, i + 1, rfl, rfl, congrArg V.int (by omega), ⟨by omega, hh, by omega⟩, ?_⟩
    walk_at "rd"
    rw [abs_int]
    have hd : (M.wy n h (i + 1) * ((M.fa n : Nat) : Int) - ((h ^ n : Nat) : Int)).natAbs < 2 ^ 2724 := by
      have a1 : (M.wy n h (i + 1) * ((M.fa n : Nat) : Int)).natAbs < 2 ^ 2723 := by
        rw [Int.natAbs_mul, Int.natAbs_natCast]
        exact Nat.lt_of_le_of_lt (Nat.mul_le_mul (Nat.le_of_lt hw) (Nat.le_refl _)) (by rw [show (2 : Nat) ^ 2723 = 2 ^ 2661 * 2 ^ 62 by rw [← Nat.pow_add]]; exact Nat.mul_lt_mul_of_pos_left hF (Nat.two_pow_pos _))
      have a2 : (2 : Nat) ^ 2724 = 2 ^ 2723 * 2 := Nat.pow_succ 2 2723
      have a3 : (2 : Nat) ^ 2661 ≤ 2 ^ 2723 := Nat.pow_le_pow_right (by decide) (by decide)
      omega
    refine ⟨mulOk_of (m := 400) (n := 2724) (M.eul_bits (by omega)) (by rw [Int.natAbs_natCast]; exact hd) (by decide), ?_⟩
    walk_at "rd"
    exact .inl ⟨_, _, rfl, sT⟩
  · intro σ' H' z
    obtain ⟨t8, t9, rfl, sm⟩ := z.resolve_right id
    rw [show (iL (M.eul (n - 1))).length = n by rw [List.length_map, le]]
    walk_at "rd"
    refine ⟨⟨big28 (ap_bits n1 n2 h1 hh), big28 (bt_bits n2 hh), by have := bt_pos (n := n) h1; unfold bt at this; omega⟩, fun t u fo r H3 s3 hr' er => ?_⟩
    exact q t u fo r H3 (s1.trans (sm.trans s3)) ((s1.trans sm).free hr') er
def sp_l_common (K : PySem.W.Frag) : Sp := sp2 fun a b H Q => ∃ x y : Int, a = .int x ∧ b = .int y ∧ 0 ≤ y ∧ Q (.int ((Int.gcd x y : Nat) : Int)) H
theorem ok_l_common (T : Txt K mg)  : Has P w K mg base (k + 1) "_law_common" ["_law_one", "_law_other"] (sp_l_common K) := by
  refine T.f_l_common.has sc_l_common len2 (fun f cdv A outer s H vs Q E hr h => ?_)
  obtain ⟨a0, a1, rfl, h⟩ := h
  refine ⟨_, pss_cons (ps_while PassesOwn.never (pt_cmpR op_ne (pv 1) pe_int (nomark _))
    (pss_cons (ps_set (i := 2) sc_l_common.nd rfl (Or.inl rfl) (pe_op op_mod (pv 0) (pv 1)))
      (pss_cons (ps_set (i := 0) sc_l_common.nd rfl (Or.inl rfl) (pv 1))
      (pss_one (ps_set (i := 1) sc_l_common.nd rfl (Or.inl rfl) (pv 2))))))
    (pss_one (ps_ret (pe_callB call_abs rfl T.z_abs PyProof.Rows.boot_abs (pa_cons (pv 0) pa_nil)))), ?_⟩
  obtain ⟨x, y, rfl, rfl, y0, q⟩ := h
  refine ⟨fun m σ' H' => (∃ (x' y' : Int) (t2 : Option V), σ' = [some (.int x'), some (.int y'), t2] ∧ H' = H ∧ 0 ≤ y' ∧ Int.gcd x' y' = Int.gcd x y ∧ m = y'.toNat) ∨ False, ⟨_, .inl ⟨x, y, _, rfl, rfl, y0, rfl, rfl⟩⟩, ?_⟩
  intro m σ' H' z
  obtain ⟨x', y', t2, rfl, rfl, h0, hg, rfl⟩ := z.resolve_right id
  walk_at "rd"
  refine ite2 (fun cc => ?_) (fun cc => ?_)
  · have cc' : y' ≠ 0 := by simpa using cc
    have m0 := Int.emod_nonneg x' cc'
    have m1 := Int.emod_lt_of_pos x' (show 0 < y' by omega)
    refine ⟨fun σ2 H2 => (σ2 = [some (.int y'), some (.int (x' % y')), some (.int (x' % y'))] ∧ H2 = H') ∨ False, fun σ2 H2 z => ?_, ?_⟩
    · obtain ⟨rfl, rfl⟩ := z.resolve_right id
      exact ⟨(x' % y').toNat, by omega, .inl ⟨_, _, _, rfl, rfl, m0, by rw [M.gcd_step, hg], rfl⟩⟩
    walk_at "rd"
    exact .inl ⟨rfl, rfl⟩
  · have cc' : y' = 0 := by simpa using cc
    subst cc'
    walk_at "rd"
    rw [Int.gcd_zero_right] at hg
    have e : (if x' < 0 then -x' else x') = ((Int.gcd x y : Nat) : Int) := by rw [← hg, abs_int]
    rw [e]
    exact q
theorem u1 {k : Nat} {A : Around} (r : Room k A) : A.units + 1 < cLine := by have := r.un; omega
def keyOf (ns : List Int) : List Key := ns.map Sum.inl
theorem key_kV (ns : List Int) : (keyOf ns).map kV = iL ns := by unfold keyOf iL; rw [List.map_map]; rfl
theorem key_inj {a b : List Int} (h : keyOf a = keyOf b) : a = b := by
  have e : ∀ l : List Int, (keyOf l).map (fun k : Key => match k with | .inl i => i | .inr _ => 0) = l := fun l => by
    unfold keyOf
    rw [List.map_map]
    exact List.map_id' l
  rw [← e a, ← e b, h]
/-- the dict tells how many of the pairs seen led to each order -/
structure Cd (kvs : List (List Key × V)) (f : List Int → Nat) (z : Nat) : Prop where
  val : ∀ ns : List Int, (valV kvs (keyOf ns)).getD (.int 0) = .int ((f ns : Nat) : Int)
  len : kvs.length ≤ z
theorem Cd.nil : Cd [] (fun _ => 0) 0 := ⟨fun _ => rfl, Nat.le_refl _⟩
theorem putK_len (kvs : List (List Key × V)) (k : List Key) (v : V) : (putK kvs k v).length ≤ kvs.length + 1 := by
  unfold putK
  split <;> simp
theorem Cd.step {kvs : List (List Key × V)} {f g : List Int → Nat} {z : Nat} (h : Cd kvs f z) {o : List Int} (hg : ∀ ns, g ns = f ns + if o = ns then 1 else 0) : Cd (putK kvs (keyOf o) (.int (((f o : Nat) : Int) + 1))) g (z + 1) := by
  refine ⟨fun ns => ?_, ?_⟩
  · rw [valV_put, hg]
    by_cases e : o = ns
    · subst e
      rw [if_pos rfl, if_pos rfl]
      rfl
    · rw [if_neg (fun x => e (key_inj x).symm), if_neg e]
      exact h.val ns
  · exact Nat.le_trans (putK_len _ _ _) (by have := h.len; omega)
/-- the heap without what stands at d -/
def off (H : Hp) (d : Addr) : Hp := fun a => if a = d then none else H a
theorem off_at (H : Hp) (d : Addr) : off H d d = none := if_pos rfl
theorem off_ne {H : Hp} {d a : Addr} (h : a ≠ d) : off H d a = H a := if_neg h
theorem off_same (H : Hp) (d : Addr) : Same (off H d) H := fun b o h => by
  unfold off at h
  split at h
  · cases h
  · exact h
theorem off_mono {A B : Hp} {d : Addr} (s : Same (off A d) B) : Same (off A d) (off B d) := fun b o h => by
  have hb : b ≠ d := fun z => by rw [z, off_at] at h; cases h
  rw [off_ne hb]
  exact s b o h
theorem off_back {H A B : Hp} {d : Addr} (hd : H d = none) (s1 : Same H A) (s2 : Same (off A d) B) : Same H B := fun b o h => by
  have hb : b ≠ d := fun z => by rw [z, hd] at h; cases h
  refine s2 b o ?_
  rw [off_ne hb]
  exact s1 b o h
theorem off_seq {H : Hp} {d a : Addr} {kvs : List (List Key × V)} {xs : List V} (ed : H d = some (.dT kvs)) (h : SqL K H a xs) : SqL K (off H d) a xs := by
  rcases h with (h | ⟨o, h⟩) | h
  · exact .inl (.inl (by rw [off_ne (fun z => by rw [z, ed] at h; cases h)]; exact h))
  · exact .inl (.inr ⟨o, by rw [off_ne (fun z => by rw [z, ed] at h; cases h)]; exact h⟩)
  · exact .inr h
theorem off_tb {H : Hp} {d r : Addr} {kvs : List (List Key × V)} {xss : List (List V)} (ed : H d = some (.dT kvs)) (h : Tb K H r xss) : Tb K (off H d) r xss := by
  obtain ⟨adr, h1, h2, h3⟩ := h.ex
  refine ⟨adr, off_seq ed h1, h2, fun i a ha => ?_⟩
  obtain ⟨xs, e, q⟩ := h3 i a ha
  exact ⟨xs, e, off_seq ed q⟩
end
end K82
set_option Elab.async false
set_option linter.all false
set_option maxRecDepth 100000
set_option maxHeartbeats 4000000
namespace K82
open PySem L2
local macro_rules | `(tactic| walk_at "sq") => `(tactic| first | assumption | (refine SqL.of ?_; assumption) | (refine SqL.of ?_; exact upd_same))
local macro_rules | `(tactic| walk_at "cj") => `(tactic| first | (with_reducible show (_ : Int) ≤ _; omega) | (with_reducible show (_ : Int) < _; omega) | exact rfl | assumption | omega | decide | (unfold CDiv; omega) | (unfold CPow; decide) | (show (0 : Int) < _; first | omega | decide) | (show _ ≤ sizeLine; rw [sizeLine_eq]; simp; done) | (refine mulS1 ?_ ?_ <;> omega) | (refine mulS2 ?_ ?_ <;> omega))
local macro_rules | `(tactic| walk_at "rd1") => `(tactic| first | refine ⟨_, rfl, ?_⟩ | refine ⟨_, _, rfl, rfl, ?_⟩ | refine ⟨_, _, rfl, ?_⟩ | refine ⟨_, _, _, rfl, ?_⟩ | refine ⟨_, _, _, _, rfl, ?_⟩ | refine ⟨_, _, _, _, _, rfl, ?_⟩ | refine ⟨_, _, rfl, .inl (by walk_at "sq"), ?_⟩ | refine And.intro (by walk_at "cj") ?_)
local macro_rules | `(tactic| walk_at "rd") => `(tactic| repeat walk_at "rd1")

section
variable {P : Program} {w : World} {K : PySem.W.Frag} {mg : Str → Option Value} {base : Heap} {k : Nat}
def brkT (o : List Int) (i : Nat) : Nat := ((List.range i).filter fun c => decide (o.idxOf (((c + 1 : Nat)) : Int) < o.idxOf ((c : Nat) : Int))).length
theorem brkT_succ (o : List Int) (i : Nat) : brkT o (i + 1) = brkT o i + if o.idxOf (((i + 1 : Nat)) : Int) < o.idxOf ((i : Nat) : Int) then 1 else 0 := by
  unfold brkT
  rw [List.range_succ, List.filter_append, List.length_append]
  congr 1
  by_cases c : o.idxOf (((i + 1 : Nat)) : Int) < o.idxOf ((i : Nat) : Int)
  · rw [if_pos c, List.filter_cons_of_pos (by simpa using c)]; rfl
  · rw [if_neg c, List.filter_cons_of_neg (by simpa using c)]; rfl
def sp_l_breaks (K : PySem.W.Frag) : Sp := sp1 fun a H Q => ∃ (p : Addr) (n : Nat) (os : List Int), SqL K H p (iL os) ∧ a = .ref p ∧ 1 ≤ n ∧ n ≤ 6 ∧ M.Oo n os ∧ Q (.int ((M.brk n os : Nat) : Int)) H
theorem ok_l_breaks (T : Txt K mg)  : Has P w K mg base (k + 1) "_law_breaks" ["_law_order"] (sp_l_breaks K) := by
  refine T.f_l_breaks.has sc_l_breaks len1 (fun f cdv A outer s H vs Q E hr h => ?_)
  obtain ⟨a0, rfl, h⟩ := h
  refine ⟨_, pss_cons (ps_set (i := 1) sc_l_breaks.nd rfl (Or.inl rfl) pe_int)
    (pss_cons (ps_for PassesOwn.never rfl (pi_range1 rfl T.z_range (pa_cons (pe_op op_sub (pe_callB (k_len (K := K)) rfl T.z_len PySem.boot_len (pa_cons (pv 0) pa_nil)) pe_int) pa_nil)) (pg_name (i := 2) sc_l_breaks.nd rfl (Or.inl rfl))
    (pss_one (ps_if (pt_cmpR op_lt (k_bm (K := K) PySem.F.plainAttrs_list PySem.F.slot_list_index PySem.F.type_list_index (k_index (K := K)) (pv 0) (pa_cons (pe_op op_add (pv 2) pe_int) pa_nil)) (k_bm (K := K) PySem.F.plainAttrs_list PySem.F.slot_list_index PySem.F.type_list_index (k_index (K := K)) (pv 0) (pa_cons (pv 2) pa_nil)) (nomark _))
      (pss_one (ps_aug (i := 1) sc_l_breaks.nd rfl (Or.inl rfl) pe_int ip_add))
      (pss_nil))))
    (pss_one (ps_ret (pv 1)))), ?_⟩
  obtain ⟨p, n, os, hS, rfl, n1, n6, oo, q⟩ := h
  have hl : (iL os).length = n := by rw [List.length_map, oo.len]
  walk_at "rd"
  rw [hl, show ((n : Int) - 1).toNat = n - 1 by omega]
  refine for_range (fun i σ' H' => (∃ t2 : Option V, σ' = [some (.ref p), some (.int ((brkT os i : Nat) : Int)), t2] ∧ H' = H) ∨ False) (.inl ⟨_, rfl, rfl⟩) ?_ ?_
  · intro i σ' H' hi z
    obtain ⟨t2, rfl, rfl⟩ := z.resolve_right id
    rw [Int.zero_add (i : Int)]
    have m1 := oo.has (i + 1) (by omega)
    have m0 := oo.has i (by omega)
    have e1 : (i : Int) + 1 = ((i + 1 : Nat) : Int) := by omega
    walk_at "rd"
    refine ⟨.inl ⟨rfl, _, hS⟩, ?_⟩
    walk_at "rd"
    refine ⟨p, os, _, rfl, rfl, hS, by rw [e1]; exact m1, ?_⟩
    walk_at "rd"
    refine ⟨.inl ⟨rfl, _, hS⟩, ?_⟩
    walk_at "rd"
    refine ⟨p, os, _, rfl, rfl, hS, m0, ?_⟩
    walk_at "rd"
    rw [e1]
    refine ite2 (fun cc => ?_) (fun cc => ?_) <;> simp only [decide_eq_true_eq] at cc
    · walk_at "rd"
      refine .inl ⟨some (.int i), ?_, rfl⟩
      rw [brkT_succ, if_pos (by omega), Int.natCast_add]
      rfl
    · walk_at "rd"
      refine .inl ⟨some (.int i), ?_, rfl⟩
      rw [brkT_succ, if_neg (by omega), Nat.add_zero]
      rfl
  · intro σ' H' z
    obtain ⟨t2, rfl, rfl⟩ := z.resolve_right id
    walk_at "rd"
    exact q
/-- x, x - 1, .. multiplied -/
def prd (x : Int) : Nat → Int
  | 0 => 1
  | i + 1 => prd x i * (x - i)
theorem prd_df (x : Nat) : ∀ i, i ≤ x → prd x i = ((M.df x i : Nat) : Int)
  | 0, _ => rfl
  | i + 1, h => by
    show prd x i * ((x : Int) - i) = ((M.df x i * (x - i) : Nat) : Int)
    rw [prd_df x i (by omega), Int.natCast_mul]
    congr 1
    omega
theorem prd_bits {x : Int} (h : x.natAbs < 2 ^ 132) : ∀ i, i ≤ 60 → (prd x i).natAbs < 2 ^ (133 * i + 1)
  | 0, _ => by show (1 : Nat) < 2 ^ 1; decide
  | i + 1, hi => by
    have ih := prd_bits h i (by omega)
    show (prd x i * (x - i)).natAbs < _
    rw [Int.natAbs_mul]
    have h2 : (x - i).natAbs < 2 ^ 133 := by
      have : (2 : Nat) ^ 133 = 2 ^ 132 * 2 := Nat.pow_succ 2 132
      have : (60 : Nat) < 2 ^ 132 := by decide +kernel
      omega
    have h3 : (prd x i).natAbs * (x - i).natAbs < 2 ^ (133 * i + 1) * 2 ^ 133 := Nat.mul_lt_mul'' ih h2
    rw [← Nat.pow_add] at h3
    exact Nat.lt_of_lt_of_le h3 (Nat.pow_le_pow_right (by decide) (by omega))
theorem df_small : ∀ k, k ≤ 6 → M.df k k < 1073741824 := by decide
def sp_l_ways (K : PySem.W.Frag) : Sp := sp3 fun a b c H Q => ∃ n h r : Nat, a = .int n ∧ b = .int h ∧ c = .int r ∧ (1 ≤ n ∧ n ≤ 6 ∧ h ≤ 10 ^ 36 ∧ r < n) ∧ Q (.int (M.wy n h (r + 1))) H
theorem ok_l_ways (T : Txt K mg)  : Has P w K mg base (k + 1) "_law_ways" ["_law_n", "_law_heaps", "_law_breaks_here"] (sp_l_ways K) := by
  refine T.f_l_ways.has sc_l_ways len3 (fun f cdv A outer s H vs Q E hr h => ?_)
  obtain ⟨a0, a1, a2, rfl, h⟩ := h
  refine ⟨_, pss_cons (ps_set (i := 3) sc_l_ways.nd rfl (Or.inl rfl) pe_int)
    (pss_cons (ps_set (i := 4) sc_l_ways.nd rfl (Or.inl rfl) pe_int)
    (pss_cons (ps_for PassesOwn.never rfl (pi_range1 rfl T.z_range (pa_cons (pv 0) pa_nil)) (pg_name (i := 5) sc_l_ways.nd rfl (Or.inl rfl))
    (pss_cons (ps_set (i := 3) sc_l_ways.nd rfl (Or.inl rfl) (pe_op op_mulB (pv 3) (pe_op op_sub (pe_op op_sub (pe_op op_sub (pe_op op_add (pv 1) (pv 0)) pe_int) (pv 2)) (pv 5))))
      (pss_one (ps_set (i := 4) sc_l_ways.nd rfl (Or.inl rfl) (pe_op op_mulB (pv 4) (pe_op op_add (pv 5) pe_int))))))
    (pss_cons (ps_if (pt_cmpR op_lt (pe_op op_sub (pe_op op_sub (pe_op op_add (pv 1) (pv 0)) pe_int) (pv 2)) (pv 0) (nomark _))
    (pss_one (ps_ret pe_int))
    (pss_nil))
    (pss_one (ps_ret (pe_op op_fdiv (pv 3) (pv 4))))))), ?_⟩
  obtain ⟨n, h, r, rfl, rfl, rfl, ⟨n1, n6, hh, hr'⟩, q⟩ := h
  walk_at "rd"
  rw [Int.toNat_natCast]
  have hx : ((h : Int) + n - 1 - r).natAbs < 2 ^ 132 := Nat.lt_of_le_of_lt (show _ ≤ 10 ^ 37 by omega) (by decide +kernel)
  refine for_range (fun i σ' H' => (∃ t5 : Option V, σ' = [some (.int n), some (.int h), some (.int r), some (.int (prd ((h : Int) + n - 1 - r) i)), some (.int (M.df i i : Nat)), t5] ∧ H' = H) ∨ False) (.inl ⟨_, rfl, rfl⟩) ?_ ?_
  · intro i σ' H' hi z
    obtain ⟨t5, rfl, rfl⟩ := z.resolve_right id
    rw [Int.zero_add (i : Int)]
    have hb := prd_bits hx i (by omega)
    walk_at "rd"
    refine ⟨mulOk_of (m := 133 * i + 1) (n := 133) hb (Nat.lt_of_le_of_lt (show _ ≤ 10 ^ 38 by omega) (by decide +kernel)) (by omega), ?_⟩
    walk_at "rd"
    refine .inl ⟨some (.int i), ?_, rfl⟩
    have e2 : ((M.df i i : Nat) : Int) * ((i : Int) + 1) = ((M.df (i + 1) (i + 1) : Nat) : Int) := by
      rw [M.df_ss, Nat.mul_comm, Int.natCast_mul]; congr 1
    rw [← e2]
    rfl
  · intro σ' H' z
    obtain ⟨t5, rfl, rfl⟩ := z.resolve_right id
    walk_at "rd"
    refine ite2 (fun cc => ?_) (fun cc => ?_) <;> simp only [decide_eq_true_eq] at cc
    · walk_at "rd"
      rw [M.wy_out (by omega)] at q
      exact q
    · have hp := M.df_pos n n (Nat.le_refl _)
      have hs := df_small n n6
      obtain ⟨x, ex⟩ : ∃ x : Nat, (h : Int) + n - 1 - r = x := ⟨((h : Int) + n - 1 - r).toNat, by omega⟩
      have e : ((M.df x n : Nat) : Int) / ((M.df n n : Nat) : Int) = M.wy n h (r + 1) := by
        rw [M.wy_in (by omega), M.df_ch, ← Int.natCast_ediv, Nat.mul_div_cancel _ hp]
        congr 2
        omega
      rw [ex, prd_df x n (by omega)]
      walk_at "rd"
      rw [← e] at q
      first | exact q | exact ⟨⟨by omega, by omega⟩, q⟩
/-- a table, none of whose lists is the list L -/
structure Gw (H : Hp) (L : Addr) (adr : List Addr) (rows : List (List Int)) : Prop where
  len : adr.length = rows.length
  at_ : ∀ (j : Nat) (a : Addr), adr[j]? = some a → a ≠ L ∧ H a = some (.lst (iL (rows.getD j [])))
theorem Gw.tb {H : Hp} {L R : Addr} {adr : List Addr} {rows : List (List Int)} (g : Gw H L adr rows) (e : H R = some (.lst (adr.map V.ref))) : Tb K H R (tL rows) := by
  refine ⟨adr, SqL.of e, by rw [g.len, tL_length], fun i a ha => ?_⟩
  have hi : i < rows.length := by have := (List.getElem?_eq_some_iff.mp ha).1; have := g.len; omega
  exact ⟨_, tL_at hi, SqL.of (g.at_ i a ha).2⟩
theorem getD_l {α : Type} {xs ys : List α} {j : Nat} {d : α} (h : j < xs.length) : (xs ++ ys).getD j d = xs.getD j d := by rw [List.getD, List.getD, List.getElem?_append_left h]
theorem getD_r {α : Type} {xs ys : List α} {j : Nat} {d : α} (h : xs.length ≤ j) : (xs ++ ys).getD j d = ys.getD (j - xs.length) d := by rw [List.getD, List.getD, List.getElem?_append_right h]
theorem ords_row : ∀ c, c < 7 → ((M.ords c).all fun o => decide (o.length = c)) = true := by decide +kernel
def ins (o : List Int) (c : Nat) : List (List Int) := (List.range (c + 1)).map fun p => o.take p ++ [(c : Int)] ++ o.drop p
theorem ins_getD {o : List Int} {c j : Nat} (h : j < c + 1) : (ins o c).getD j [] = o.take j ++ [(c : Int)] ++ o.drop j := by simp [ins, List.getD, h]
def sp_l_listed (K : PySem.W.Frag) : Sp := sp1 fun a H Q => ∃ n : Nat, a = .int n ∧ n ≤ 6 ∧ ∀ R H', Same H H' → Tb K H' R (tL (M.ords n)) → Q (.ref R) H'
theorem ok_l_listed (T : Txt K mg)  : Has P w K mg base (k + 1) "_law_listed" ["_law_n"] (sp_l_listed K) := by
  refine T.f_l_listed.has sc_l_listed len1 (fun f cdv A outer s H vs Q E hr h => ?_)
  obtain ⟨a0, rfl, h⟩ := h
  refine ⟨_, pss_cons (ps_set (i := 1) sc_l_listed.nd rfl (Or.inl rfl) (pe_lst (pa_cons (pe_lst pa_nil) pa_nil)))
    (pss_cons (ps_for PassesOwn.never rfl (pi_range1 rfl T.z_range (pa_cons (pv 0) pa_nil)) (pg_name (i := 2) sc_l_listed.nd rfl (Or.inr rfl))
    (pss_cons (ps_set (i := 3) sc_l_listed.nd rfl (Or.inl rfl) (pe_lst pa_nil))
      (pss_cons (ps_for PassesOwn.never rfl (k_pi_list (K := K) (pv 1)) (pg_name (i := 4) sc_l_listed.nd rfl (Or.inr rfl))
      (pss_one (ps_expr (k_bm (K := K) PySem.F.plainAttrs_list PySem.F.slot_list_extend PySem.F.type_list_extend mt_extend (pv 3) (pa_cons (pe_comp (vars := ["_law_place"]) (caps := [4, 2]) (CompScope.of (outer := defScope s_l_listed) (N := ["_law_n", "_law_orders", "_law_card", "_law_longer", "_law_order"]) rfl rfl ⟨by decide +kernel⟩) rfl (pi_range1 rfl T.z_range (pa_cons (pe_op op_add (pv 2) pe_int) pa_nil)) ⟨fun _ _ _ _ => ⟨(pg_name (i := 0) (show List.Nodup (["_law_place", "_law_order", "_law_card"] : List Str) by decide +kernel) rfl (Or.inl rfl)), pts_nil, (pe_op op_cat (pe_op op_cat (pe_slice (k_sl_list (K := K)) (pv 1) po_none (po_some (pv 0))) (pe_lst (pa_cons (pv 2) pa_nil))) (pe_slice (k_sl_list (K := K)) (pv 1) (po_some (pv 0)) po_none))⟩⟩) pa_nil)))))
      (pss_one (ps_set (i := 1) sc_l_listed.nd rfl (Or.inl rfl) (pv 3))))))
    (pss_one (ps_ret (pv 1)))), ?_⟩
  obtain ⟨n, rfl, n6, q⟩ := h
  walk_at "rd"
  intro e0 he0
  generalize x1 : upd H e0 _ = H1
  obtain ⟨s1, ee0⟩ := new_is he0 x1
  clear x1
  walk_at "rd"
  intro R0 hR0
  generalize x2 : upd H1 R0 _ = H2
  obtain ⟨s2, eR0⟩ := new_is hR0 x2
  clear x2
  have tb0 : Tb K H2 R0 (tL (M.ords 0)) := ⟨[e0], SqL.of eR0, rfl, fun i a ha => by
    cases i with
    | zero => cases ha; exact ⟨[], rfl, SqL.of (s2 _ _ ee0)⟩
    | succ i => cases ha⟩
  walk_at "rd"
  rw [Int.toNat_natCast]
  refine for_range (fun c σ' H' => (∃ (R : Addr) (t2 t3 t4 : Option V), σ' = [some (.int n), some (.ref R), t2, t3, t4] ∧ Same H H' ∧ Tb K H' R (tL (M.ords c))) ∨ False) (.inl ⟨R0, _, _, _, rfl, s1.trans s2, tb0⟩) ?_ ?_
  · intro c σ' H3 hc z
    obtain ⟨R, t2, t3, t4, rfl, s3, tR⟩ := z.resolve_right id
    rw [Int.zero_add (c : Int)]
    have lo := M.ords_le (n := c) (by omega)
    obtain ⟨ys, y1, y2, y3⟩ := tR.at_
    rw [tL_length] at y2 y3
    walk_at "rd"
    intro L hL
    generalize x4 : upd H3 L _ = H4
    obtain ⟨s4, eL⟩ := new_is hL x4
    clear x4
    walk_at "rd"
    refine ⟨⟨_, s4.seq y1⟩, ?_⟩
    refine for_list (xs := ys) (fun i σ2 H5 => (∃ (adr : List Addr) (t4 : Option V), σ2 = [some (.int n), some (.ref R), some (.int c), some (.ref L), t4] ∧ Same H3 H5 ∧ H5 L = some (.lst (adr.map V.ref)) ∧ Gw H5 L adr (((M.ords c).take i).flatMap fun o => ins o c)) ∨ False) (.inl ⟨[], _, rfl, s4, eL, ⟨rfl, fun j a ha => by cases ha⟩⟩) ?_ ?_ ?_
    · intro i σ2 H5 _ z
      obtain ⟨adr, t4, rfl, s5, _⟩ := z.resolve_right id
      exact s5.seq y1
    · intro i x σ2 H5 hx z
      obtain ⟨adr, t4, rfl, s5, eL5, g5⟩ := z.resolve_right id
      have hi : i < ys.length := (List.getElem?_eq_some_iff.mp hx).1
      rw [y2] at hi
      obtain ⟨a, ea, qa⟩ := y3 i hi
      rw [ea] at hx
      cases hx
      rw [tL_getD hi] at qa
      have qa5 := s5.seq qa
      have hb5 : (((M.ords c).take i).flatMap fun o => ins o c).length ≤ 5040 := by
        refine Nat.le_trans (M.flat_le (k := 7) _ fun o _ => by unfold ins; rw [List.length_map, List.length_range]; omega) ?_
        rw [List.length_take]
        have := Nat.min_le_right i (M.ords c).length
        omega
      have lg := g5.len
      walk_at "rd"
      refine ⟨.inl ⟨rfl, _, SqL.of eL5⟩, ?_⟩
      walk_at "rd"
      rw [show ((c : Int) + 1).toNat = c + 1 by omega]
      refine comp_rowsR (fun p => iL (((M.ords c).getD i []).take p ++ [(c : Int)] ++ ((M.ords c).getD i []).drop p)) (lt_line (by omega)) ?_ ?_
      · intro p t H6 N Kt hp sm k1
        rw [Int.zero_add (p : Int)]
        have qa6 := sm.seq qa5
        have lo2 : ((M.ords c).getD i []).length ≤ 60 := by
          have h1 := List.all_eq_true.mp (ords_row c (by omega)) ((M.ords c).getD i []) (by rw [List.getD, List.getElem?_eq_getElem hi]; exact List.getElem_mem hi)
          have h2 := of_decide_eq_true h1
          omega
        walk_at "rd"
        refine ⟨a, _, rfl, qa6, ?_⟩
        intro A1 hA1
        generalize z1 : upd H6 A1 _ = H7
        obtain ⟨s7, eA1⟩ := new_is hA1 z1
        clear z1
        walk_at "rd"
        intro A2 hA2
        generalize z2 : upd H7 A2 _ = H8
        obtain ⟨s8, eA2⟩ := new_is hA2 z2
        clear z2
        have eA1' : H8 A1 = some (.lst (iL (((M.ords c).getD i []).take p))) := by rw [s8 _ _ eA1, cut_take (by omega), Int.toNat_natCast, iL, iL, List.map_take]
        refine ⟨A1, A2, _, _, rfl, rfl, eA1', eA2, by rw [sizeLine_eq, List.length_map, List.length_take]; simp; omega, ?_⟩
        intro A3 hA3
        generalize z3 : upd H8 A3 _ = H9
        obtain ⟨s9, eA3⟩ := new_is hA3 z3
        clear z3
        have s69 := s7.trans (s8.trans s9)
        walk_at "rd"
        refine ⟨a, _, rfl, s69.seq qa6, ?_⟩
        intro A4 hA4
        generalize z4 : upd H9 A4 _ = H10
        obtain ⟨s10, eA4⟩ := new_is hA4 z4
        clear z4
        have eA4' : H10 A4 = some (.lst (iL (((M.ords c).getD i []).drop p))) := by rw [eA4, cut_drop (by omega), Int.toNat_natCast, iL, iL, List.map_drop]
        refine ⟨A3, A4, _, _, rfl, rfl, s10 _ _ eA3, eA4', by rw [sizeLine_eq]; simp only [List.length_append, List.length_map, List.length_take, List.length_drop, List.length_cons, List.length_nil]; omega, ?_⟩
        intro A5 hA5
        generalize z5 : upd H10 A5 _ = H11
        obtain ⟨s11, eA5⟩ := new_is hA5 z5
        clear z5
        refine k1 _ A5 H11 (s69.trans (s10.trans s11)) ((s69.trans s10).free hA5) ?_
        rw [eA5, iL, iL, iL, List.map_append, List.map_append]
        rfl
      intro G H6 s6 hG hGT
      obtain ⟨adrG, eG, lG, _, hAG⟩ := hGT.ex
      rw [List.length_map, List.length_range] at lG
      have eL6 := s6 _ _ eL5
      walk_at "rd"
      refine ⟨L, G, _, _, rfl, rfl, eL6, eG, by rw [sizeLine_eq, List.length_map, List.length_map]; omega, ?_⟩
      generalize x7 : upd H6 L _ = H7
      have hLG : ∀ (j : Nat) (a' : Addr), adrG[j]? = some a' → a' ≠ L ∧ H6 a' = some (.lst (iL ((ins ((M.ords c).getD i []) c).getD j []))) := fun j a' ha => by
        obtain ⟨q1, q2, xs, e1, e2⟩ := hAG j a' ha
        have hj : j < c + 1 := by have := (List.getElem?_eq_some_iff.mp ha).1; omega
        refine ⟨(fun e => by rw [e, eL5] at q1; cases q1), ?_⟩
        rw [List.getElem?_map, List.getElem?_range hj] at e1
        rw [e2, ← Option.some.inj e1, ins_getD hj]
      obtain ⟨s7, eL7⟩ := set_is hL (s5.trans s6) x7
      have etk : ((M.ords c).take (i + 1)).flatMap (fun o => ins o c) = ((M.ords c).take i).flatMap (fun o => ins o c) ++ ins ((M.ords c).getD i []) c := by
        rw [List.take_succ_eq_append_getElem hi, List.flatMap_append, List.flatMap_singleton, List.getD, List.getElem?_eq_getElem hi]
        rfl
      refine .inl ⟨adr ++ adrG, _, rfl, s7, by rw [eL7, List.map_append], ?_⟩
      rw [etk]
      have li : (ins ((M.ords c).getD i []) c).length = c + 1 := by unfold ins; rw [List.length_map, List.length_range]
      refine ⟨by rw [List.length_append, List.length_append, lg, lG, li], fun j a' ha => ?_⟩
      rcases Nat.lt_or_ge j adr.length with z | z
      · rw [List.getElem?_append_left z] at ha
        obtain ⟨q1, q2⟩ := g5.at_ j a' ha
        refine ⟨q1, ?_⟩
        rw [← x7, upd_ne q1, s6 _ _ q2, getD_l (by omega)]
      · rw [List.getElem?_append_right z] at ha
        obtain ⟨q1, q2⟩ := hLG _ a' ha
        refine ⟨q1, ?_⟩
        rw [← x7, upd_ne q1, q2, getD_r (by omega), lg]
    · intro σ2 H5 z
      obtain ⟨adr, t4, rfl, s5, eL5, g5⟩ := z.resolve_right id
      walk_at "rd"
      rw [y2, List.take_length] at g5
      exact .inl ⟨L, _, _, _, rfl, s3.trans s5, g5.tb eL5⟩
  · intro σ' H3 z
    obtain ⟨R, t2, t3, t4, rfl, s3, tR⟩ := z.resolve_right id
    walk_at "rd"
    exact q R H3 s3 tR
end
end K82
set_option Elab.async false
set_option linter.all false
set_option maxRecDepth 100000
set_option maxHeartbeats 4000000
namespace K82
open PySem L2
local macro_rules | `(tactic| walk_at "sq") => `(tactic| first | assumption | (refine SqL.of ?_; assumption) | (refine SqL.of ?_; exact upd_same))
local macro_rules | `(tactic| walk_at "cj") => `(tactic| first | (with_reducible show (_ : Int) ≤ _; omega) | (with_reducible show (_ : Int) < _; omega) | exact rfl | assumption | omega | decide | (unfold CDiv; omega) | (unfold CPow; decide) | (show (0 : Int) < _; first | omega | decide) | (show _ ≤ sizeLine; rw [sizeLine_eq]; simp; done) | (refine mulS1 ?_ ?_ <;> omega) | (refine mulS2 ?_ ?_ <;> omega))
local macro_rules | `(tactic| walk_at "rd1") => `(tactic| first | refine ⟨_, rfl, ?_⟩ | refine ⟨_, _, rfl, rfl, ?_⟩ | refine ⟨_, _, rfl, ?_⟩ | refine ⟨_, _, _, rfl, ?_⟩ | refine ⟨_, _, _, _, rfl, ?_⟩ | refine ⟨_, _, _, _, _, rfl, ?_⟩ | refine ⟨_, _, rfl, .inl (by walk_at "sq"), ?_⟩ | refine And.intro (by walk_at "cj") ?_)
local macro_rules | `(tactic| walk_at "rd") => `(tactic| repeat walk_at "rd1")

section
variable {P : Program} {w : World} {K : PySem.W.Frag} {mg : Str → Option Value} {base : Heap} {k : Nat}
def strt (ws : List Int) (h p : Nat) : List Int := (List.range h).map fun g => (((M.lessN ws g + (ws.take p).count ((g : Nat) : Int) : Nat)) : Int)
theorem strt_len (ws : List Int) (h p : Nat) : (strt ws h p).length = h := by simp [strt]
theorem strt_getD {ws : List Int} {h p g : Nat} (hg : g < h) : (strt ws h p).getD g 0 = (((M.lessN ws g + (ws.take p).count ((g : Nat) : Int) : Nat)) : Int) := by simp [strt, List.getD, hg]
theorem strt_step {ws : List Int} {h p g : Nat} (hp : p < ws.length) (e : ws.getD p 0 = (g : Int)) (hg : g < h) : (strt ws h p).set g ((strt ws h p).getD g 0 + 1) = strt ws h (p + 1) := by
  have etk : ws.take (p + 1) = ws.take p ++ [(g : Int)] := by
    rw [List.take_succ_eq_append_getElem hp, ← e, List.getD, List.getElem?_eq_getElem hp]
    rfl
  apply List.ext_getElem?
  intro i
  rcases Nat.lt_or_ge i h with z | z
  · rw [List.getElem?_set]
    have ei : (strt ws h (p + 1))[i]? = some ((((M.lessN ws i + (ws.take (p + 1)).count ((i : Nat) : Int) : Nat)) : Int)) := by simp [strt, z]
    have eo : (strt ws h p)[i]? = some ((((M.lessN ws i + (ws.take p).count ((i : Nat) : Int) : Nat)) : Int)) := by simp [strt, z]
    rw [ei, etk, List.count_append]
    by_cases c : g = i
    · subst c
      rw [if_pos rfl, if_pos (by rw [strt_len]; exact hg), strt_getD hg]
      congr 1
      rw [List.count_singleton_self]
      omega
    · rw [if_neg c, eo]
      congr 2
      have : List.count ((i : Nat) : Int) [(g : Int)] = 0 := by
        rw [List.count_eq_zero]
        simp
        omega
      omega
  · rw [List.getElem?_eq_none (by rw [List.length_set, strt_len]; exact z), List.getElem?_eq_none (by rw [strt_len]; exact z)]
theorem rl_take {ws : List Int} {p : Nat} (hp : p < ws.length) : (M.rl ws).take (p + 1) = (M.rl ws).take p ++ [(((M.lessN ws (ws.getD p 0).toNat + (ws.take p).count (ws.getD p 0) : Nat)) : Int)] := by
  have hl : (M.rl ws).length = ws.length := by simp [M.rl]
  rw [List.take_succ_eq_append_getElem (by omega)]
  congr 2
  simp [M.rl]
def sp_l_riffled (K : PySem.W.Frag) : Sp := sp2 fun a b H Q => ∃ (p : Addr) (ws : List Int) (h : Nat), SqL K H p (iL ws) ∧ a = .ref p ∧ b = .int h ∧ (ws.length ≤ 60 ∧ h ≤ 60 ∧ ∀ x ∈ ws, 0 ≤ x ∧ x < h) ∧ rNew (iL (M.rl ws)) H Q
theorem ok_l_riffled (T : Txt K mg)  : Has P w K mg base (k + 1) "_law_riffled" ["_law_word", "_law_heaps"] (sp_l_riffled K) := by
  refine T.f_l_riffled.has sc_l_riffled len2 (fun f cdv A outer s H vs Q E hr h => ?_)
  obtain ⟨a0, a1, rfl, h⟩ := h
  refine ⟨_, pss_cons (ps_set (i := 2) sc_l_riffled.nd rfl (Or.inl rfl) (pe_lst pa_nil))
    (pss_cons (ps_set (i := 3) sc_l_riffled.nd rfl (Or.inl rfl) pe_int)
    (pss_cons (ps_for PassesOwn.never rfl (pi_range1 rfl T.z_range (pa_cons (pv 1) pa_nil)) (pg_name (i := 4) sc_l_riffled.nd rfl (Or.inl rfl))
    (pss_cons (ps_expr (k_bm (K := K) PySem.F.plainAttrs_list PySem.F.slot_list_append PySem.F.type_list_append mt_append (pv 2) (pa_cons (pv 3) pa_nil)))
      (pss_one (ps_aug (i := 3) sc_l_riffled.nd rfl (Or.inl rfl) (k_bm (K := K) PySem.F.plainAttrs_list PySem.F.slot_list_count PySem.F.type_list_count (k_count (K := K)) (pv 0) (pa_cons (pv 4) pa_nil)) ip_add))))
    (pss_cons (ps_set (i := 5) sc_l_riffled.nd rfl (Or.inl rfl) (pe_lst pa_nil))
    (pss_cons (ps_for PassesOwn.never rfl (k_pi_list (K := K) (pv 0)) (pg_name (i := 4) sc_l_riffled.nd rfl (Or.inl rfl))
    (pss_cons (ps_expr (k_bm (K := K) PySem.F.plainAttrs_list PySem.F.slot_list_append PySem.F.type_list_append mt_append (pv 5) (pa_cons (pe_ix (k_ix_list (K := K)) (pv 2) (pv 4) (fun _ _ => rfl)) pa_nil)))
      (pss_one (ps_augS (pv 2) (pv 4) (k_get (K := K)) pe_int ip_add set_list))))
    (pss_one (ps_ret (pv 5))))))), ?_⟩
  obtain ⟨p, ws, h, hS, rfl, rfl, ⟨lw, hh, hb⟩, q⟩ := h
  have hlw : (iL ws).length = ws.length := List.length_map _
  walk_at "rd"
  intro S hS0
  generalize x1 : upd H S _ = H1
  obtain ⟨s1, eS⟩ := new_is hS0 x1
  clear x1
  walk_at "rd"
  rw [Int.toNat_natCast]
  refine for_range (fun g σ' H' => (∃ t4 : Option V, σ' = [some (.ref p), some (.int h), some (.ref S), some (.int ((M.lessN ws g : Nat) : Int)), t4, none] ∧ Same H H' ∧ H' S = some (.lst (iL ((List.range g).map fun i => ((M.lessN ws i : Nat) : Int))))) ∨ False) (.inl ⟨_, rfl, s1, eS⟩) ?_ ?_
  · intro g σ' H2 hg z
    obtain ⟨t4, rfl, s2, eS2⟩ := z.resolve_right id
    rw [Int.zero_add (g : Int)]
    walk_at "rd"
    refine ⟨.inl ⟨rfl, _, SqL.of eS2⟩, ?_⟩
    walk_at "rd"
    refine ⟨S, _, _, rfl, rfl, eS2, by rw [List.length_map, List.length_map, List.length_range]; exact lt_line' (by omega), ?_⟩
    generalize x3 : upd H2 S _ = H3
    obtain ⟨s3, eS3⟩ := set_is hS0 s2 x3
    clear x3
    have hS3 := s3.seq hS
    walk_at "rd"
    refine ⟨.inl ⟨rfl, _, hS3⟩, ?_⟩
    walk_at "rd"
    refine ⟨p, _, _, rfl, rfl, hS3, rfl, flat_ints _, ?_⟩
    walk_at "rd"
    refine .inl ⟨some (.int g), ?_, s3, ?_⟩
    · have : ((M.lessN ws (g + 1) : Nat) : Int) = ((M.lessN ws g : Nat) : Int) + (((ws.count (g : Int) : Nat)) : Int) := by
        show ((M.lessN ws g + ws.count (g : Int) : Nat) : Int) = _
        rw [Int.natCast_add]
      rw [this, ← count_ints ws (g : Int)]
      rfl
    · rw [eS3, List.range_succ, List.map_append, iL, iL, List.map_append]
      rfl
  · intro σ' H2 z
    obtain ⟨t4, rfl, s2, eS2⟩ := z.resolve_right id
    walk_at "rd"
    intro O hO
    generalize x3 : upd H2 O _ = H3
    obtain ⟨s3, eO⟩ := new_is hO x3
    clear x3
    have hSO : S ≠ O := ne_of_none eS2 hO
    have hO0 : H O = none := s2.free hO
    have eS3 : H3 S = some (.lst (iL (strt ws h 0))) := by rw [s3 _ _ eS2]; simp [strt]
    have hS3 := (s2.trans s3).seq hS
    walk_at "rd"
    refine ⟨⟨_, hS3⟩, ?_⟩
    refine for_list (xs := iL ws) (fun i σ' H' => (∃ t4 : Option V, σ' = [some (.ref p), some (.int h), some (.ref S), some (.int ((M.lessN ws h : Nat) : Int)), t4, some (.ref O)] ∧ Same H H' ∧ H' S = some (.lst (iL (strt ws h i))) ∧ H' O = some (.lst (iL ((M.rl ws).take i)))) ∨ False) (.inl ⟨_, rfl, s2.trans s3, eS3, eO⟩) ?_ ?_ ?_
    · intro i σ' H4 _ z
      obtain ⟨t4, rfl, s4, _⟩ := z.resolve_right id
      exact s4.seq hS
    · intro i x σ' H4 hx z
      obtain ⟨t4, rfl, s4, eS4, eO4⟩ := z.resolve_right id
      obtain ⟨hi, rfl⟩ := at_int hx
      have hbx := hb (ws.getD i 0) (by rw [List.getD, List.getElem?_eq_getElem hi]; exact List.getElem_mem hi)
      have ert := rl_take hi
      obtain ⟨g, hg⟩ : ∃ g : Nat, ws.getD i 0 = (g : Int) := ⟨(ws.getD i 0).toNat, by omega⟩
      have hgh : g < h := by omega
      have est := strt_step hi hg hgh
      rw [hg] at ert ⊢
      rw [Int.toNat_natCast] at ert
      have lO : ((M.rl ws).take i).length ≤ 60 := by rw [List.length_take]; omega
      walk_at "rd"
      refine ⟨.inl ⟨rfl, _, SqL.of eO4⟩, ?_⟩
      walk_at "rd"
      refine ⟨S, _, _, _, rfl, rfl, SqL.of eS4, atN (by rw [strt_len]; exact hgh), ?_⟩
      walk_at "rd"
      refine ⟨O, _, _, rfl, rfl, eO4, by rw [List.length_map]; exact lt_line' (by omega), ?_⟩
      generalize x5 : upd H4 O _ = H5
      obtain ⟨s5, eO5⟩ := set_is hO0 s4 x5
      have eS5 : H5 S = some (.lst (iL (strt ws h i))) := by rw [← x5, upd_ne hSO]; exact eS4
      clear x5
      walk_at "rd"
      refine ⟨S, _, _, .int ((strt ws h i).getD g 0), rfl, rfl, SqL.of eS5, by omega, ?_, ?_⟩
      · show (iL (strt ws h i))[((g : Nat) : Int).toNat]? = _
        rw [Int.toNat_natCast, List.getElem?_map, List.getElem?_eq_getElem (by rw [strt_len]; exact hgh)]
        simp [List.getD, List.getElem?_eq_getElem (show g < (strt ws h i).length by rw [strt_len]; exact hgh)]
      walk_at "rd"
      refine ⟨S, _, _, g, rfl, rfl, eS5, ?_, ?_⟩
      · unfold ixN
        rw [if_pos (by omega), if_pos (by rw [List.length_map, strt_len]; omega), Int.toNat_natCast]
      refine .inl ⟨_, rfl, s5.put hS0, ?_, ?_⟩
      · rw [upd_same, ← est]
        simp [List.map_set]
      · rw [upd_ne (Ne.symm hSO), eO5, ert, strt_getD hgh, iL, iL, List.map_append]
        rfl
    · intro σ' H4 z
      obtain ⟨t4, rfl, s4, eS4, eO4⟩ := z.resolve_right id
      rw [hlw, List.take_of_length_le (by simp [M.rl])] at eO4
      walk_at "rd"
      exact q O H4 s4 hO0 eO4
end
end K82
set_option Elab.async false
set_option linter.all false
set_option maxRecDepth 100000
set_option maxHeartbeats 4000000
namespace K82
open PySem L2
local macro_rules | `(tactic| walk_at "sq") => `(tactic| first | assumption | (refine SqL.of ?_; assumption) | (refine SqL.of ?_; exact upd_same))
local macro_rules | `(tactic| walk_at "cj") => `(tactic| first | (with_reducible show (_ : Int) ≤ _; omega) | (with_reducible show (_ : Int) < _; omega) | exact rfl | assumption | omega | decide | (unfold CDiv; omega) | (unfold CPow; decide) | (show (0 : Int) < _; first | omega | decide) | (show _ ≤ sizeLine; rw [sizeLine_eq]; simp; done) | (refine mulS1 ?_ ?_ <;> omega) | (refine mulS2 ?_ ?_ <;> omega))
local macro_rules | `(tactic| walk_at "rd1") => `(tactic| first | refine ⟨_, rfl, ?_⟩ | refine ⟨_, _, rfl, rfl, ?_⟩ | refine ⟨_, _, rfl, ?_⟩ | refine ⟨_, _, _, rfl, ?_⟩ | refine ⟨_, _, _, _, rfl, ?_⟩ | refine ⟨_, _, _, _, _, rfl, ?_⟩ | refine ⟨_, _, rfl, .inl (by walk_at "sq"), ?_⟩ | refine And.intro (by walk_at "cj") ?_)
local macro_rules | `(tactic| walk_at "rd") => `(tactic| repeat walk_at "rd1")

section
variable {P : Program} {w : World} {K : PySem.W.Frag} {mg : Str → Option Value} {base : Heap} {k : Nat}
theorem dg_take (n h u i : Nat) (hi : i < n) : (M.dg n h u).take (i + 1) = (M.dg n h u).take i ++ [(((u / h ^ i % h : Nat)) : Int)] := by
  have hl : (M.dg n h u).length = n := by simp [M.dg]
  rw [List.take_succ_eq_append_getElem (by omega)]
  congr 2
  simp [M.dg]
theorem dg_len (n h u : Nat) : (M.dg n h u).length = n := by simp [M.dg]
theorem dg_bd {n h u : Nat} (hh : 1 ≤ h) : ∀ x ∈ M.dg n h u, 0 ≤ x ∧ x < h := by
  intro x hx
  unfold M.dg at hx
  obtain ⟨i, _, rfl⟩ := List.mem_map.mp hx
  have := Nat.mod_lt (u / h ^ i) hh
  omega
theorem hits_succ (n h u : Nat) (o : List Int) : M.hits n h (u + 1) o = M.hits n h u o + if M.rl (M.dg n h u) = o then 1 else 0 := by
  unfold M.hits
  rw [List.range_succ, List.filter_append, List.length_append]
  congr 1
  by_cases e : M.rl (M.dg n h u) = o
  · rw [if_pos e, List.filter_cons_of_pos (by simpa using e)]; rfl
  · rw [if_neg e, List.filter_cons_of_neg (by simpa using e)]; rfl
structure Ag (n h : Nat) : Prop where
  n1 : 1 ≤ n
  n6 : n ≤ 6
  h1 : 1 ≤ h
  h2 : h ≤ 16
  w : h ^ n ≤ 250
def sp_l_words_agree (K : PySem.W.Frag) : Sp := sp4 fun a b c d H Q => ∃ (n h : Nat) (R : Addr), a = .int n ∧ b = .int h ∧ c = .int ((h ^ n : Nat) : Int) ∧ d = .ref R ∧ Tb K H R (tL (M.ords n)) ∧ Ag n h ∧ ∀ H', Same H H' → Q (.bl true) H'
theorem ok_l_words_agree (T : Txt K mg) (g_l_riffled : Has P w K mg base k "_law_riffled" ["_law_word", "_law_heaps"] (sp_l_riffled K)) (g_l_ways : Has P w K mg base k "_law_ways" ["_law_n", "_law_heaps", "_law_breaks_here"] (sp_l_ways K)) (g_l_breaks : Has P w K mg base k "_law_breaks" ["_law_order"] (sp_l_breaks K)) : Has P w K mg base (k + 1) "_law_words_agree" ["_law_n", "_law_heaps", "_law_words", "_law_orders"] (sp_l_words_agree K) := by
  refine T.f_l_words_agree.has sc_l_words_agree len4 (fun f cdv A outer s H vs Q E hr h => ?_)
  obtain ⟨a0, a1, a2, a3, rfl, h⟩ := h
  refine ⟨_, pss_cons (ps_set (i := 4) sc_l_words_agree.nd rfl (Or.inl rfl) pe_dnewT)
    (pss_cons (ps_for PassesOwn.never rfl (pi_range1 rfl T.z_range (pa_cons (pv 2) pa_nil)) (pg_name (i := 5) sc_l_words_agree.nd rfl (Or.inl rfl))
    (pss_cons (ps_set (i := 6) sc_l_words_agree.nd rfl (Or.inl rfl) (pe_lst pa_nil))
      (pss_cons (ps_for PassesOwn.never rfl (pi_range1 rfl T.z_range (pa_cons (pv 0) pa_nil)) (pg_name (i := 7) sc_l_words_agree.nd rfl (Or.inl rfl))
      (pss_cons (ps_expr (k_bm (K := K) PySem.F.plainAttrs_list PySem.F.slot_list_append PySem.F.type_list_append mt_append (pv 6) (pa_cons (pe_op op_mod (pv 5) (pv 1)) pa_nil)))
        (pss_one (ps_set (i := 5) sc_l_words_agree.nd rfl (Or.inl rfl) (pe_op op_fdiv (pv 5) (pv 1))))))
      (pss_cons (ps_set (i := 8) sc_l_words_agree.nd rfl (Or.inl rfl) (pe_callTy (k_tuple_of (K := K)) rfl T.z_tuple PyProof.Rows.boot_tuple (pa_cons (pe_callH g_l_riffled hr (pa_cons (pv 6) (pa_cons (pv 1) pa_nil))) pa_nil)))
      (pss_one (ps_dput (u1 hr) (pv 4) (pv 8) (pe_op op_add (pe_dget2 (u1 hr) (pv 4) (pv 8) pe_int ⟨rfl, rfl, rfl, rfl⟩) pe_int) rfl))))))
    (pss_cons (ps_for PassesOwn.never rfl (k_pi_list (K := K) (pv 3)) (pg_name (i := 9) sc_l_words_agree.nd rfl (Or.inl rfl))
    (pss_one (ps_if (pt_cmpR op_ne (pe_dget2 (u1 hr) (pv 4) (pe_callTy (k_tuple_of (K := K)) rfl T.z_tuple PyProof.Rows.boot_tuple (pa_cons (pv 9) pa_nil)) pe_int ⟨rfl, rfl, rfl, rfl⟩) (pe_callH g_l_ways hr (pa_cons (pv 0) (pa_cons (pv 1) (pa_cons (pe_callH g_l_breaks hr (pa_cons (pv 9) pa_nil)) pa_nil)))) (nomark _))
      (pss_one (ps_ret pe_bl))
      (pss_nil))))
    (pss_one (ps_ret pe_bl)))), ?_⟩
  obtain ⟨n, h, R, rfl, rfl, rfl, rfl, tR, ⟨n1, n6, h1, h2, hw⟩, q⟩ := h
  walk_at "rd"
  intro d hd
  generalize e1 : upd H d _ = H1
  obtain ⟨s1, ed⟩ := new_is hd e1
  clear e1
  have tR0 := off_tb ed (tR.same s1)
  walk_at "rd"
  rw [Int.toNat_natCast]
  refine for_range (fun u σ' H' => (∃ (t5 t6 t7 t8 : Option V) (kvs : List (List Key × V)), σ' = [some (.int n), some (.int h), some (.int ((h ^ n : Nat) : Int)), some (.ref R), some (.ref d), t5, t6, t7, t8, none] ∧ Same (off H1 d) H' ∧ H' d = some (.dT kvs) ∧ Cd kvs (M.hits n h u) u) ∨ False) (.inl ⟨_, _, _, _, [], rfl, off_same H1 d, ed, Cd.nil⟩) ?_ ?_
  · intro u σ' H2 hu z
    obtain ⟨t5, t6, t7, t8, kvs, rfl, s2, ed2, c2⟩ := z.resolve_right id
    rw [Int.zero_add (u : Int)]
    walk_at "rd"
    intro W hW
    generalize e3 : upd H2 W _ = H3
    obtain ⟨s3, eW⟩ := new_is hW e3
    clear e3
    walk_at "rd"
    rw [Int.toNat_natCast]
    refine for_range (fun i σ2 H4 => (∃ t7 : Option V, σ2 = [some (.int n), some (.int h), some (.int ((h ^ n : Nat) : Int)), some (.ref R), some (.ref d), some (.int ((u / h ^ i : Nat) : Int)), some (.ref W), t7, t8, none] ∧ Same H2 H4 ∧ H4 W = some (.lst (iL ((M.dg n h u).take i)))) ∨ False) (.inl ⟨_, by rw [Nat.pow_zero, Nat.div_one]; rfl, s3, eW⟩) ?_ ?_
    · intro i σ2 H4 hi z
      obtain ⟨t7, rfl, s4, eW4⟩ := z.resolve_right id
      have lW : ((M.dg n h u).take i).length ≤ 6 := by rw [List.length_take, dg_len]; omega
      walk_at "rd"
      refine ⟨.inl ⟨rfl, _, SqL.of eW4⟩, ?_⟩
      walk_at "rd"
      refine ⟨W, _, _, rfl, rfl, eW4, by rw [List.length_map]; exact lt_line' (by omega), ?_⟩
      generalize e5 : upd H4 W _ = H5
      obtain ⟨s5, eW5⟩ := set_is hW s4 e5
      clear e5
      walk_at "rd"
      refine .inl ⟨some (.int (0 + i)), ?_, s5, ?_⟩
      · have : ((u / h ^ (i + 1) : Nat) : Int) = ((u / h ^ i : Nat) : Int) / (h : Int) := by rw [Nat.pow_succ, ← Nat.div_div_eq_div_mul, Int.natCast_ediv]
        rw [this]
        rfl
      · rw [eW5, dg_take n h u i hi, iL, iL, List.map_append, Int.natCast_emod]
        rfl
    · intro σ2 H4 z
      obtain ⟨t7, rfl, s4, eW4⟩ := z.resolve_right id
      rw [List.take_of_length_le (by rw [dg_len]; omega)] at eW4
      have hwl : u < 250 := by omega
      walk_at "rd"
      refine ⟨W, _, h, SqL.of eW4, rfl, rfl, ⟨by rw [dg_len]; omega, by omega, dg_bd h1⟩, fun O H5 s5 hO eO => ?_⟩
      walk_at "rd"
      refine ⟨O, _, rfl, .inl ⟨SqL.of eO, ?_⟩⟩
      intro T hT
      generalize e6 : upd H5 T _ = H6
      obtain ⟨s6, eT⟩ := new_is hT e6
      clear e6
      have s26 := s4.trans (s5.trans s6)
      have ed6 := s26 _ _ ed2
      rw [← key_kV] at eT
      walk_at "rd"
      refine ⟨.inr ⟨kvs, .inl ed6⟩, ?_⟩
      walk_at "rd"
      refine ⟨_, DGet.t ed6 eT, ?_⟩
      rw [c2.val]
      walk_at "rd"
      refine ⟨d, _, rfl, .inr ⟨kvs, _, T, ed6, rfl, eT, lt_line' (by have := c2.len; omega), rfl⟩, ?_⟩
      exact .inl ⟨_, _, _, _, _, rfl, (s2.trans s26).put (off_at _ _), upd_same, c2.step fun ns => hits_succ n h u ns⟩
  · intro σ' H2 z
    obtain ⟨t5, t6, t7, t8, kvs, rfl, s2, ed2, c2⟩ := z.resolve_right id
    have tR2 := tR0.same s2
    obtain ⟨ys, y1, y2, y3⟩ := tR2.at_
    rw [tL_length] at y2 y3
    walk_at "rd"
    refine ⟨⟨_, y1⟩, ?_⟩
    refine for_list (xs := ys) (fun i σ' H3 => (∃ t9 : Option V, σ' = [some (.int n), some (.int h), some (.int ((h ^ n : Nat) : Int)), some (.ref R), some (.ref d), t5, t6, t7, t8, t9] ∧ Same H2 H3) ∨ False) (.inl ⟨_, rfl, Same.refl _⟩) ?_ ?_ ?_
    · intro i σ' H3 _ z
      obtain ⟨t9, rfl, s3⟩ := z.resolve_right id
      exact s3.seq y1
    · intro i x σ' H3 hx z
      obtain ⟨t9, rfl, s3⟩ := z.resolve_right id
      have hi : i < ys.length := (List.getElem?_eq_some_iff.mp hx).1
      rw [y2] at hi
      obtain ⟨a, ea, qa⟩ := y3 i hi
      rw [ea] at hx
      cases hx
      rw [tL_getD hi] at qa
      have hm : (M.ords n).getD i [] ∈ M.ords n := by rw [List.getD, List.getElem?_eq_getElem hi]; exact List.getElem_mem hi
      have oo := M.ords_oo n1 n6 hm
      have ag := M.agr_all n1 n6 h2 hw hm
      have qa3 := s3.seq qa
      walk_at "rd"
      refine ⟨.inr ⟨kvs, .inl (s3 _ _ ed2)⟩, ?_⟩
      walk_at "rd"
      refine ⟨a, _, rfl, .inl ⟨qa3, ?_⟩⟩
      intro T hT
      generalize e4 : upd H3 T _ = H4
      obtain ⟨s4, eT⟩ := new_is hT e4
      clear e4
      have s24 := s3.trans s4
      have ed4 := s24 _ _ ed2
      rw [← key_kV] at eT
      walk_at "rd"
      refine ⟨_, DGet.t ed4 eT, ?_⟩
      rw [c2.val, ag, M.wyN_wy]
      walk_at "rd"
      refine ⟨a, n, _, s4.seq qa3, rfl, n1, n6, oo, ?_⟩
      walk_at "rd"
      refine ⟨n, h, _, rfl, rfl, rfl, ⟨n1, n6, by omega, oo.bd⟩, ?_⟩
      walk_at "rd"
      refine iteNS rfl ?_
      exact .inl ⟨_, rfl, s24⟩
    · intro σ' H3 z
      obtain ⟨t9, rfl, s3⟩ := z.resolve_right id
      walk_at "rd"
      exact q H3 (off_back hd s1 (s2.trans s3))
end
end K82
set_option Elab.async false
set_option linter.all false
set_option maxRecDepth 100000
set_option maxHeartbeats 4000000
namespace K82
open PySem L2
local macro_rules | `(tactic| walk_at "sq") => `(tactic| first | assumption | (refine SqL.of ?_; assumption) | (refine SqL.of ?_; exact upd_same))
local macro_rules | `(tactic| walk_at "cj") => `(tactic| first | (with_reducible show (_ : Int) ≤ _; omega) | (with_reducible show (_ : Int) < _; omega) | exact rfl | assumption | omega | decide | (unfold CDiv; omega) | (unfold CPow; decide) | (show (0 : Int) < _; first | omega | decide) | (show _ ≤ sizeLine; rw [sizeLine_eq]; simp; done) | (refine mulS1 ?_ ?_ <;> omega) | (refine mulS2 ?_ ?_ <;> omega))
local macro_rules | `(tactic| walk_at "rd1") => `(tactic| first | refine ⟨_, rfl, ?_⟩ | refine ⟨_, _, rfl, rfl, ?_⟩ | refine ⟨_, _, rfl, ?_⟩ | refine ⟨_, _, _, rfl, ?_⟩ | refine ⟨_, _, _, _, rfl, ?_⟩ | refine ⟨_, _, _, _, _, rfl, ?_⟩ | refine ⟨_, _, rfl, .inl (by walk_at "sq"), ?_⟩ | refine And.intro (by walk_at "cj") ?_)
local macro_rules | `(tactic| walk_at "rd") => `(tactic| repeat walk_at "rd1")

section
variable {P : Program} {w : World} {K : PySem.W.Frag} {mg : Str → Option Value} {base : Heap} {k : Nat}
def tot (n h i : Nat) : Int := (((M.ords n).take i).map fun o => M.ab (M.wy n h (M.brk n o + 1) * ((M.fa n : Nat) : Int) - ((h ^ n : Nat) : Int))).sum
theorem tot_succ {n h i : Nat} (hi : i < (M.ords n).length) : tot n h (i + 1) = tot n h i + M.ab (M.wy n h (M.brk n ((M.ords n).getD i []) + 1) * ((M.fa n : Nat) : Int) - ((h ^ n : Nat) : Int)) := by
  unfold tot
  rw [List.take_succ_eq_append_getElem hi, List.map_append, List.sum_append, List.getD, List.getElem?_eq_getElem hi]
  simp
def sp_l_right (K : PySem.W.Frag) : Sp := sp3 fun a b c H Q => ∃ n m k : Nat, a = .int n ∧ b = .int m ∧ c = .int k ∧ (1 ≤ n ∧ n ≤ 6 ∧ 1 ≤ m ∧ m ≤ 60 ∧ k ≤ 20) ∧ ∀ H', Same H H' → Q (.bl true) H'
theorem ite_same {c : Prop} [Decidable c] {A B : Prop} (hB : B) (h : c → B → A) : if c then A else B := by
  split
  · exact h (by assumption) hB
  · exact hB
theorem ok_l_right (T : Txt K mg) (g_l_power : Has P w K mg base k "_law_power" ["_law_number", "_law_many"] (sp_l_power K)) (g_l_listed : Has P w K mg base k "_law_listed" ["_law_n"] (sp_l_listed K)) (g_l_words_agree : Has P w K mg base k "_law_words_agree" ["_law_n", "_law_heaps", "_law_words", "_law_orders"] (sp_l_words_agree K)) (g_l_ways : Has P w K mg base k "_law_ways" ["_law_n", "_law_heaps", "_law_breaks_here"] (sp_l_ways K)) (g_l_breaks : Has P w K mg base k "_law_breaks" ["_law_order"] (sp_l_breaks K)) (g_far : Has P w K mg base k "far" ["n", "b", "k"] (sp_far K)) (g_l_whole : Has P w K mg base k "_law_whole" ["_law_found"] (sp_l_whole K)) (g_l_common : Has P w K mg base k "_law_common" ["_law_one", "_law_other"] (sp_l_common K)) : Has P w K mg base (k + 1) "_law_right" ["_law_n", "_law_b", "_law_k"] (sp_l_right K) := by
  refine T.f_l_right.has sc_l_right len3 (fun f cdv A outer s H vs Q E hr h => ?_)
  obtain ⟨a0, a1, a2, rfl, h⟩ := h
  refine ⟨_, pss_cons (ps_set (i := 3) sc_l_right.nd rfl (Or.inl rfl) (pe_callH g_l_power hr (pa_cons (pv 1) (pa_cons (pv 2) pa_nil))))
    (pss_cons (ps_set (i := 4) sc_l_right.nd rfl (Or.inl rfl) (pe_callH g_l_power hr (pa_cons (pv 3) (pa_cons (pv 0) pa_nil))))
    (pss_cons (ps_set (i := 5) sc_l_right.nd rfl (Or.inl rfl) (pe_callH g_l_listed hr (pa_cons (pv 0) pa_nil)))
    (pss_cons (ps_if (PW.pt (pw_and (pt_cmpR op_le (pv 4) pe_int (nomark _)) (pw_and (pt_cmpR op_le (pv 3) pe_int (nomark _)) (pw_and1 (pt_not (pt_val (pe_callH g_l_words_agree hr (pa_cons (pv 0) (pa_cons (pv 3) (pa_cons (pv 4) (pa_cons (pv 5) pa_nil)))))))))))
    (pss_one (ps_ret pe_bl))
    (pss_nil))
    (pss_cons (ps_set (i := 6) sc_l_right.nd rfl (Or.inl rfl) pe_int)
    (pss_cons (ps_for PassesOwn.never rfl (k_pi_list (K := K) (pv 5)) (pg_name (i := 7) sc_l_right.nd rfl (Or.inl rfl))
    (pss_one (ps_aug (i := 6) sc_l_right.nd rfl (Or.inl rfl) (pe_callB call_abs rfl T.z_abs PyProof.Rows.boot_abs (pa_cons (pe_op op_sub (pe_op op_mulB (pe_callH g_l_ways hr (pa_cons (pv 0) (pa_cons (pv 3) (pa_cons (pe_callH g_l_breaks hr (pa_cons (pv 7) pa_nil)) pa_nil)))) (pe_callB (k_len (K := K)) rfl T.z_len PySem.boot_len (pa_cons (pv 5) pa_nil))) (pv 4)) pa_nil)) ip_add)))
    (pss_cons (ps_set (i := 8) sc_l_right.nd rfl (Or.inl rfl) (pe_callH g_far hr (pa_cons (pv 0) (pa_cons (pv 1) (pa_cons (pv 2) pa_nil)))))
    (pss_cons (ps_if (PW.pt (pw_or (pt_not (pt_val (pe_callB (k_isinst (K := K)) rfl T.z_isinstance PyProof.Rows.boot_isinstance (pa_cons (pv 8) (pa_cons (pe_bltn (v := .ty "tuple") rfl T.z_tuple PyProof.Rows.boot_tuple rfl) pa_nil))))) (pw_or (pt_cmpR op_ne (pe_callB (k_len (K := K)) rfl T.z_len PySem.boot_len (pa_cons (pv 8) pa_nil)) pe_int (nomark _)) (pw_or (pt_not (pt_val (pe_callH g_l_whole hr (pa_cons (pe_ix (k_ix_tup (K := K)) (pv 8) pe_int (fun _ _ => rfl)) pa_nil)))) (pw_or1 (pt_not (pt_val (pe_callH g_l_whole hr (pa_cons (pe_ix (k_ix_tup (K := K)) (pv 8) pe_int (fun _ _ => rfl)) pa_nil)))))))))
    (pss_one (ps_ret pe_bl))
    (pss_nil))
    (pss_cons (ps_if (PW.pt (pw_or (pt_cmpR op_lt (pe_ix (k_ix_tup (K := K)) (pv 8) pe_int (fun _ _ => rfl)) pe_int (nomark _)) (pw_or1 (pt_cmpR op_ne (pe_callH g_l_common hr (pa_cons (pe_ix (k_ix_tup (K := K)) (pv 8) pe_int (fun _ _ => rfl)) (pa_cons (pe_ix (k_ix_tup (K := K)) (pv 8) pe_int (fun _ _ => rfl)) pa_nil))) pe_int (nomark _)))))
    (pss_one (ps_ret pe_bl))
    (pss_nil))
    (pss_one (ps_ret (pe_cmpR op_eq (pe_op op_mulB (pe_op op_mulB (pe_op op_mulB (pe_ix (k_ix_tup (K := K)) (pv 8) pe_int (fun _ _ => rfl)) pe_int) (pv 4)) (pe_callB (k_len (K := K)) rfl T.z_len PySem.boot_len (pa_cons (pv 5) pa_nil))) (pe_op op_mulB (pv 6) (pe_ix (k_ix_tup (K := K)) (pv 8) pe_int (fun _ _ => rfl))) (nomark _)))))))))))), ?_⟩
  obtain ⟨n, b, k, rfl, rfl, rfl, ⟨n1, n6, b1, b2, k2⟩, q⟩ := h
  have n20 : n ≤ 20 := by omega
  have fr : Fr n b k := ⟨n1, n20, b1, b2, k2⟩
  have hh := fr.le
  have hp := fr.pos
  walk_at "rd"
  generalize eh : b ^ k = h at hh hp ⊢
  walk_at "rd"
  have hpw := pw_bits n20 hh
  have hF62 := fa20 n20
  have eF : ((M.ords n).length : Int) = ((M.fa n : Nat) : Int) := by rw [M.ords_len n (by omega)]
  intro R H2 s2 tR
  obtain ⟨ys, y1, y2, y3⟩ := tR.at_
  rw [tL_length] at y2 y3
  walk_at "rd"
  refine ite_same ?_ (fun c1 hB => ?_)
  · refine ite2 (fun cd => absurd cd (by simp)) (fun _ => ?_)
    obtain ⟨H3, eH3⟩ : ∃ H3, H3 = H2 := ⟨_, rfl⟩
    rw [← eH3]
    have s23 : Same H2 H3 := by rw [eH3]; exact Same.refl _
    have y1' := s23.seq y1
    walk_at "rd"
    refine ⟨⟨_, y1'⟩, ?_⟩
    refine for_list (xs := ys) (fun i σ' H4 => (∃ t7 : Option V, σ' = [some (.int n), some (.int b), some (.int k), some (.int h), some (.int ((h ^ n : Nat) : Int)), some (.ref R), some (.int (tot n h i)), t7, none] ∧ Same H3 H4) ∨ False) (.inl ⟨_, rfl, Same.refl _⟩) ?_ ?_ ?_
    · intro i σ' H4 _ z
      obtain ⟨t7, rfl, s4⟩ := z.resolve_right id
      exact s4.seq y1'
    · intro i x σ' H4 hx z
      obtain ⟨t7, rfl, s4⟩ := z.resolve_right id
      have hi : i < ys.length := (List.getElem?_eq_some_iff.mp hx).1
      rw [y2] at hi
      obtain ⟨a, ea, qa⟩ := y3 i hi
      rw [ea] at hx
      cases hx
      rw [tL_getD hi] at qa
      have hm : (M.ords n).getD i [] ∈ M.ords n := by rw [List.getD, List.getElem?_eq_getElem hi]; exact List.getElem_mem hi
      have oo := M.ords_oo n1 n6 hm
      have qa4 := s4.seq (s23.seq qa)
      have y14 := s4.seq y1'
      walk_at "rd"
      refine ⟨a, n, _, qa4, rfl, n1, n6, oo, ?_⟩
      walk_at "rd"
      refine ⟨n, h, _, rfl, rfl, rfl, ⟨n1, n6, hh, oo.bd⟩, ?_⟩
      have hw := wy_bits (r := M.brk n ((M.ords n).getD i []) + 1) n20 hh
      walk_at "rd"
      rw [y2, eF]
      refine .inl ⟨some (.ref a), ?_, s4⟩
      rw [tot_succ hi]
      unfold M.ab
      rw [← abs_int]
      rfl
    · intro σ' H4 z
      obtain ⟨t7, rfl, s4⟩ := z.resolve_right id
      have s34 := s4
      have et : tot n h ys.length = M.ap n h := by
        unfold tot
        rw [y2, List.take_length]
        exact M.ap_ords n1 n6
      rw [et]
      walk_at "rd"
      refine ⟨n, b, k, rfl, rfl, rfl, ⟨n1, n20, b1, b2, k2⟩, fun t u fo r H5 s5 hr' er => ?_⟩
      rw [eh] at fo
      have ST : SqT K H5 r [.int t, .int u] := SqT.of er
      have tb : t.natAbs < 2 ^ 2800 := Nat.lt_of_le_of_lt fo.t_le (ap_bits n1 n20 hp hh)
      have ub : u.natAbs < 2 ^ 2800 := Nat.lt_of_le_of_lt fo.b_le (bt_bits n20 hh)
      have p1 := fo.pos
      have y15 := s5.seq (s4.seq y1')
      walk_at "rd"
      refine ⟨_, _, _, _, rfl, .tup er, rfl, ?_⟩
      walk_at "rd"
      refine ⟨r, _, rfl, .inr ST, ?_⟩
      walk_at "rd"
      refine ⟨r, _, _, _, rfl, rfl, ST, rfl, ?_⟩
      walk_at "rd"
      refine ⟨.flat rfl, ?_⟩
      walk_at "rd"
      refine ⟨r, _, _, _, rfl, rfl, ST, rfl, ?_⟩
      walk_at "rd"
      refine ⟨.flat rfl, ?_⟩
      walk_at "rd"
      refine ⟨r, _, _, _, rfl, rfl, ST, rfl, ?_⟩
      walk_at "rd"
      refine ite2 (fun cd => absurd cd (by simp only [decide_eq_true_eq]; omega)) (fun _ => ?_)
      walk_at "rd"
      refine ⟨r, _, _, _, rfl, rfl, ST, rfl, ?_⟩
      walk_at "rd"
      refine ⟨r, _, _, _, rfl, rfl, ST, rfl, ?_⟩
      walk_at "rd"
      rw [fo.one]
      refine iteNS rfl ?_
      walk_at "rd"
      refine ⟨r, _, _, _, rfl, rfl, ST, rfl, ?_⟩
      walk_at "rd"
      have t2 : (t * 2).natAbs < 2 ^ 2801 := by
        have : (2 : Nat) ^ 2801 = 2 ^ 2800 * 2 := Nat.pow_succ 2 2800
        omega
      refine ⟨mulOk_of (m := 2801) (n := 2661) t2 (by rw [Int.natAbs_natCast]; exact hpw) (by decide), ?_⟩
      walk_at "rd"
      rw [y2, eF]
      walk_at "rd"
      refine ⟨r, _, _, _, rfl, rfl, ST, rfl, ?_⟩
      walk_at "rd"
      refine ⟨mulOk_of (m := 2800) (n := 2800) (ap_bits n1 n20 hp hh) ub (by decide), ?_⟩
      walk_at "rd"
      have ee : t * 2 * ((h ^ n : Nat) : Int) * ((M.fa n : Nat) : Int) = M.ap n h * u := by
        rw [← fo.eq]
        unfold bt
        rw [Int.mul_assoc, Int.mul_assoc, Int.mul_assoc]
      have q' : Q (.bl (decide (V.int (t * 2 * ((h ^ n : Nat) : Int) * ((M.fa n : Nat) : Int)) = V.int (M.ap n h * u)))) H5 := by rw [decide_eq_true (congrArg V.int ee)]; exact q _ (s2.trans (s23.trans (s4.trans s5)))
      exact q'
  simp only [decide_eq_true_eq] at c1
  walk_at "rd"
  refine ite2 (fun c2 => ?_) (fun _ => hB)
  simp only [decide_eq_true_eq] at c2
  walk_at "rd"
  refine ⟨n, h, R, rfl, rfl, rfl, rfl, tR, ⟨n1, n6, hp, by omega, by omega⟩, fun H3 s23 => ?_⟩
  clear hB c1 c2
  have y1' := s23.seq y1
  walk_at "rd"
  walk_at "rd"
  refine ⟨⟨_, y1'⟩, ?_⟩
  refine for_list (xs := ys) (fun i σ' H4 => (∃ t7 : Option V, σ' = [some (.int n), some (.int b), some (.int k), some (.int h), some (.int ((h ^ n : Nat) : Int)), some (.ref R), some (.int (tot n h i)), t7, none] ∧ Same H3 H4) ∨ False) (.inl ⟨_, rfl, Same.refl _⟩) ?_ ?_ ?_
  · intro i σ' H4 _ z
    obtain ⟨t7, rfl, s4⟩ := z.resolve_right id
    exact s4.seq y1'
  · intro i x σ' H4 hx z
    obtain ⟨t7, rfl, s4⟩ := z.resolve_right id
    have hi : i < ys.length := (List.getElem?_eq_some_iff.mp hx).1
    rw [y2] at hi
    obtain ⟨a, ea, qa⟩ := y3 i hi
    rw [ea] at hx
    cases hx
    rw [tL_getD hi] at qa
    have hm : (M.ords n).getD i [] ∈ M.ords n := by rw [List.getD, List.getElem?_eq_getElem hi]; exact List.getElem_mem hi
    have oo := M.ords_oo n1 n6 hm
    have qa4 := s4.seq (s23.seq qa)
    have y14 := s4.seq y1'
    walk_at "rd"
    refine ⟨a, n, _, qa4, rfl, n1, n6, oo, ?_⟩
    walk_at "rd"
    refine ⟨n, h, _, rfl, rfl, rfl, ⟨n1, n6, hh, oo.bd⟩, ?_⟩
    have hw := wy_bits (r := M.brk n ((M.ords n).getD i []) + 1) n20 hh
    walk_at "rd"
    rw [y2, eF]
    refine .inl ⟨some (.ref a), ?_, s4⟩
    rw [tot_succ hi]
    unfold M.ab
    rw [← abs_int]
    rfl
  · intro σ' H4 z
    obtain ⟨t7, rfl, s4⟩ := z.resolve_right id
    have s34 := s4
    have et : tot n h ys.length = M.ap n h := by
      unfold tot
      rw [y2, List.take_length]
      exact M.ap_ords n1 n6
    rw [et]
    walk_at "rd"
    refine ⟨n, b, k, rfl, rfl, rfl, ⟨n1, n20, b1, b2, k2⟩, fun t u fo r H5 s5 hr' er => ?_⟩
    rw [eh] at fo
    have ST : SqT K H5 r [.int t, .int u] := SqT.of er
    have tb : t.natAbs < 2 ^ 2800 := Nat.lt_of_le_of_lt fo.t_le (ap_bits n1 n20 hp hh)
    have ub : u.natAbs < 2 ^ 2800 := Nat.lt_of_le_of_lt fo.b_le (bt_bits n20 hh)
    have p1 := fo.pos
    have y15 := s5.seq (s4.seq y1')
    walk_at "rd"
    refine ⟨_, _, _, _, rfl, .tup er, rfl, ?_⟩
    walk_at "rd"
    refine ⟨r, _, rfl, .inr ST, ?_⟩
    walk_at "rd"
    refine ⟨r, _, _, _, rfl, rfl, ST, rfl, ?_⟩
    walk_at "rd"
    refine ⟨.flat rfl, ?_⟩
    walk_at "rd"
    refine ⟨r, _, _, _, rfl, rfl, ST, rfl, ?_⟩
    walk_at "rd"
    refine ⟨.flat rfl, ?_⟩
    walk_at "rd"
    refine ⟨r, _, _, _, rfl, rfl, ST, rfl, ?_⟩
    walk_at "rd"
    refine ite2 (fun cd => absurd cd (by simp only [decide_eq_true_eq]; omega)) (fun _ => ?_)
    walk_at "rd"
    refine ⟨r, _, _, _, rfl, rfl, ST, rfl, ?_⟩
    walk_at "rd"
    refine ⟨r, _, _, _, rfl, rfl, ST, rfl, ?_⟩
    walk_at "rd"
    rw [fo.one]
    refine iteNS rfl ?_
    walk_at "rd"
    refine ⟨r, _, _, _, rfl, rfl, ST, rfl, ?_⟩
    walk_at "rd"
    have t2 : (t * 2).natAbs < 2 ^ 2801 := by
      have : (2 : Nat) ^ 2801 = 2 ^ 2800 * 2 := Nat.pow_succ 2 2800
      omega
    refine ⟨mulOk_of (m := 2801) (n := 2661) t2 (by rw [Int.natAbs_natCast]; exact hpw) (by decide), ?_⟩
    walk_at "rd"
    rw [y2, eF]
    walk_at "rd"
    refine ⟨r, _, _, _, rfl, rfl, ST, rfl, ?_⟩
    walk_at "rd"
    refine ⟨mulOk_of (m := 2800) (n := 2800) (ap_bits n1 n20 hp hh) ub (by decide), ?_⟩
    walk_at "rd"
    have ee : t * 2 * ((h ^ n : Nat) : Int) * ((M.fa n : Nat) : Int) = M.ap n h * u := by
      rw [← fo.eq]
      unfold bt
      rw [Int.mul_assoc, Int.mul_assoc, Int.mul_assoc]
    have q' : Q (.bl (decide (V.int (t * 2 * ((h ^ n : Nat) : Int) * ((M.fa n : Nat) : Int)) = V.int (M.ap n h * u)))) H5 := by rw [decide_eq_true (congrArg V.int ee)]; exact q _ (s2.trans (s23.trans (s4.trans s5)))
    exact q'
def sp_law (K : PySem.W.Frag) : Sp := sp1 fun a H Q => ∃ (p : Addr) (ns : List Int), SqL K H p (iL ns) ∧ a = .ref p ∧ ns.length ≤ 63 ∧ ∀ H', Same H H' → Q (.bl true) H'
theorem ok_law (T : Txt K mg) (g_l_big : Has P w K mg base k "_law_big" ["_law_script", "_law_k"] (sp_l_big K)) (g_l_right : Has P w K mg base k "_law_right" ["_law_n", "_law_b", "_law_k"] (sp_l_right K)) : Has P w K mg base (k + 1) "law" ["_law_script"] (sp_law K) := by
  refine T.f_law.has sc_law len1 (fun f cdv A outer s H vs Q E hr h => ?_)
  obtain ⟨a0, rfl, h⟩ := h
  refine ⟨_, pss_cons (ps_for PassesOwn.never rfl (pi_range3 rfl T.z_range (pa_cons pe_int (pa_cons (pe_op op_add (pe_callB (call_min2 rfl) rfl T.z_min PyProof.Rows.boot_min (pa_cons pe_int (pa_cons (pe_callB (k_len (K := K)) rfl T.z_len PySem.boot_len (pa_cons (pv 0) pa_nil)) pa_nil))) pe_int) (pa_cons pe_int pa_nil)))) (pg_name (i := 1) sc_law.nd rfl (Or.inl rfl))
    (pss_cons (ps_set (i := 2) sc_law.nd rfl (Or.inl rfl) (pe_callH g_l_big hr (pa_cons (pv 0) (pa_cons (pv 1) pa_nil))))
      (pss_cons (ps_set (i := 3) sc_law.nd rfl (Or.inl rfl) (pe_op op_add pe_int (pe_op op_mod (pv 2) pe_int)))
      (pss_cons (ps_if (PW.pt (pw_and (pt_cmpR op_eq (pv 1) pe_int (nomark _)) (pw_and1 (pt_cmpR op_eq (pe_op op_mod (pe_op op_fdiv (pv 2) pe_int) pe_int) pe_int (nomark _)))))
      (pss_one (ps_set (i := 3) sc_law.nd rfl (Or.inl rfl) pe_int))
      (pss_nil))
      (pss_cons (ps_set (i := 4) sc_law.nd rfl (Or.inl rfl) (pe_op op_add pe_int (pe_op op_mod (pe_callH g_l_big hr (pa_cons (pv 0) (pa_cons (pe_op op_add (pv 1) pe_int) pa_nil))) pe_int)))
      (pss_cons (ps_set (i := 5) sc_law.nd rfl (Or.inl rfl) (pe_op op_mod (pe_callH g_l_big hr (pa_cons (pv 0) (pa_cons (pe_op op_add (pv 1) pe_int) pa_nil))) pe_int))
      (pss_cons (ps_if (pt_cmpR op_eq (pe_op op_mod (pe_op op_fdiv (pv 2) pe_int) pe_int) pe_int (nomark _))
      (pss_cons (ps_set (i := 4) sc_law.nd rfl (Or.inl rfl) (pe_op op_add pe_int (pe_op op_mod (pv 4) pe_int)))
        (pss_one (ps_set (i := 5) sc_law.nd rfl (Or.inl rfl) (pe_op op_mod (pv 5) pe_int))))
      (pss_nil))
      (pss_one (ps_if (pt_not (pt_val (pe_callH g_l_right hr (pa_cons (pv 3) (pa_cons (pv 4) (pa_cons (pv 5) pa_nil))))))
      (pss_one (ps_ret pe_bl))
      (pss_nil))))))))))
    (pss_one (ps_ret pe_bl)), ?_⟩
  obtain ⟨p, ns, hS, rfl, h63, q⟩ := h
  walk_at "rd"
  have hl : ((if ((iL ns).length : Int) < 9 then ((iL ns).length : Int) else 9) + 1) < 100 := by split <;> omega
  have hl0 : 0 ≤ ((if ((iL ns).length : Int) < 9 then ((iL ns).length : Int) else 9) + 1) := by split <;> omega
  generalize ((if ((iL ns).length : Int) < 9 then ((iL ns).length : Int) else 9) + 1) = hi at hl hl0 ⊢
  obtain ⟨r1, r2, r3⟩ := range_up (lo := 0) (hi := hi) (c := 3) (by omega) (by omega) (by omega) (by omega) (by decide) (by decide)
  refine ⟨⟨r1, r2⟩, ?_⟩
  refine for_rangeS (fun i σ' H' => (∃ t1 t2 t3 t4 t5 : Option V, σ' = [some (.ref p), t1, t2, t3, t4, t5] ∧ Same H H') ∨ False) (.inl ⟨_, _, _, _, _, rfl, Same.refl _⟩) ?_ ?_
  · intro i σ' H' hi z
    obtain ⟨t1, t2, t3, t4, t5, rfl, sm⟩ := z.resolve_right id
    have hSi := sm.seq hS
    walk_at "rd"
    refine ⟨p, ns, _, hSi, rfl, rfl, by omega, fun c => ?_⟩
    walk_at "rd"
    have h3 := Int.emod_nonneg c (show (5 : Int) ≠ 0 by decide)
    have h4 := Int.emod_lt_of_pos c (show (0 : Int) < 5 by decide)
    refine ite2 (fun cc => ?_) (fun cc => ?_)
    · walk_at "rd"
      refine ite2 (fun ce => ?_) (fun ce => ?_)
      · obtain ⟨n, hn, n1, n2⟩ : ∃ n : Nat, (6 : Int) = (n : Int) ∧ 1 ≤ n ∧ n ≤ 6 := ⟨6, rfl, by omega, by omega⟩
        walk_at "rd"
        refine ⟨p, ns, _, hSi, rfl, rfl, by omega, fun c2 => ?_⟩
        walk_at "rd"
        refine ⟨p, ns, _, hSi, rfl, rfl, by omega, fun c3 => ?_⟩
        walk_at "rd"
        have g1 := Int.emod_nonneg c2 (show (60 : Int) ≠ 0 by decide)
        have g2 := Int.emod_lt_of_pos c2 (show (0 : Int) < 60 by decide)
        have g5 := Int.emod_nonneg c3 (show (21 : Int) ≠ 0 by decide)
        have g6 := Int.emod_lt_of_pos c3 (show (0 : Int) < 21 by decide)
        refine ite2 (fun _ => ?_) (fun _ => ?_)
        · have g3 := Int.emod_nonneg (1 + c2 % 60) (show (4 : Int) ≠ 0 by decide)
          have g4 := Int.emod_lt_of_pos (1 + c2 % 60) (show (0 : Int) < 4 by decide)
          have g7 := Int.emod_nonneg (c3 % 21) (show (4 : Int) ≠ 0 by decide)
          have g8 := Int.emod_lt_of_pos (c3 % 21) (show (0 : Int) < 4 by decide)
          obtain ⟨b, hb, b1, b2⟩ : ∃ b : Nat, 1 + (1 + c2 % 60) % 4 = (b : Int) ∧ 1 ≤ b ∧ b ≤ 60 := ⟨(1 + (1 + c2 % 60) % 4).toNat, by omega, by omega, by omega⟩
          obtain ⟨m, hm, m2⟩ : ∃ m : Nat, c3 % 21 % 4 = (m : Int) ∧ m ≤ 20 := ⟨(c3 % 21 % 4).toNat, by omega, by omega⟩
          walk_at "rd"
          refine ⟨n, b, m, congrArg V.int hn, congrArg V.int hb, congrArg V.int hm, ⟨n1, n2, b1, b2, m2⟩, fun H1 s1 => ?_⟩
          walk_at "rd"
          exact .inl ⟨_, _, _, _, _, rfl, sm.trans s1⟩
        · obtain ⟨b, hb, b1, b2⟩ : ∃ b : Nat, 1 + c2 % 60 = (b : Int) ∧ 1 ≤ b ∧ b ≤ 60 := ⟨(1 + c2 % 60).toNat, by omega, by omega, by omega⟩
          obtain ⟨m, hm, m2⟩ : ∃ m : Nat, c3 % 21 = (m : Int) ∧ m ≤ 20 := ⟨(c3 % 21).toNat, by omega, by omega⟩
          walk_at "rd"
          refine ⟨n, b, m, congrArg V.int hn, congrArg V.int hb, congrArg V.int hm, ⟨n1, n2, b1, b2, m2⟩, fun H1 s1 => ?_⟩
          walk_at "rd"
          exact .inl ⟨_, _, _, _, _, rfl, sm.trans s1⟩
      · obtain ⟨n, hn, n1, n2⟩ : ∃ n : Nat, 1 + c % 5 = (n : Int) ∧ 1 ≤ n ∧ n ≤ 6 := ⟨(1 + c % 5).toNat, by omega, by omega, by omega⟩
        walk_at "rd"
        refine ⟨p, ns, _, hSi, rfl, rfl, by omega, fun c2 => ?_⟩
        walk_at "rd"
        refine ⟨p, ns, _, hSi, rfl, rfl, by omega, fun c3 => ?_⟩
        walk_at "rd"
        have g1 := Int.emod_nonneg c2 (show (60 : Int) ≠ 0 by decide)
        have g2 := Int.emod_lt_of_pos c2 (show (0 : Int) < 60 by decide)
        have g5 := Int.emod_nonneg c3 (show (21 : Int) ≠ 0 by decide)
        have g6 := Int.emod_lt_of_pos c3 (show (0 : Int) < 21 by decide)
        refine ite2 (fun _ => ?_) (fun _ => ?_)
        · have g3 := Int.emod_nonneg (1 + c2 % 60) (show (4 : Int) ≠ 0 by decide)
          have g4 := Int.emod_lt_of_pos (1 + c2 % 60) (show (0 : Int) < 4 by decide)
          have g7 := Int.emod_nonneg (c3 % 21) (show (4 : Int) ≠ 0 by decide)
          have g8 := Int.emod_lt_of_pos (c3 % 21) (show (0 : Int) < 4 by decide)
          obtain ⟨b, hb, b1, b2⟩ : ∃ b : Nat, 1 + (1 + c2 % 60) % 4 = (b : Int) ∧ 1 ≤ b ∧ b ≤ 60 := ⟨(1 + (1 + c2 % 60) % 4).toNat, by omega, by omega, by omega⟩
          obtain ⟨m, hm, m2⟩ : ∃ m : Nat, c3 % 21 % 4 = (m : Int) ∧ m ≤ 20 := ⟨(c3 % 21 % 4).toNat, by omega, by omega⟩
          walk_at "rd"
          refine ⟨n, b, m, congrArg V.int hn, congrArg V.int hb, congrArg V.int hm, ⟨n1, n2, b1, b2, m2⟩, fun H1 s1 => ?_⟩
          walk_at "rd"
          exact .inl ⟨_, _, _, _, _, rfl, sm.trans s1⟩
        · obtain ⟨b, hb, b1, b2⟩ : ∃ b : Nat, 1 + c2 % 60 = (b : Int) ∧ 1 ≤ b ∧ b ≤ 60 := ⟨(1 + c2 % 60).toNat, by omega, by omega, by omega⟩
          obtain ⟨m, hm, m2⟩ : ∃ m : Nat, c3 % 21 = (m : Int) ∧ m ≤ 20 := ⟨(c3 % 21).toNat, by omega, by omega⟩
          walk_at "rd"
          refine ⟨n, b, m, congrArg V.int hn, congrArg V.int hb, congrArg V.int hm, ⟨n1, n2, b1, b2, m2⟩, fun H1 s1 => ?_⟩
          walk_at "rd"
          exact .inl ⟨_, _, _, _, _, rfl, sm.trans s1⟩
    · refine ite2 (fun cd => absurd cd (by simp)) (fun _ => ?_)
      obtain ⟨n, hn, n1, n2⟩ : ∃ n : Nat, 1 + c % 5 = (n : Int) ∧ 1 ≤ n ∧ n ≤ 6 := ⟨(1 + c % 5).toNat, by omega, by omega, by omega⟩
      walk_at "rd"
      refine ⟨p, ns, _, hSi, rfl, rfl, by omega, fun c2 => ?_⟩
      walk_at "rd"
      refine ⟨p, ns, _, hSi, rfl, rfl, by omega, fun c3 => ?_⟩
      walk_at "rd"
      have g1 := Int.emod_nonneg c2 (show (60 : Int) ≠ 0 by decide)
      have g2 := Int.emod_lt_of_pos c2 (show (0 : Int) < 60 by decide)
      have g5 := Int.emod_nonneg c3 (show (21 : Int) ≠ 0 by decide)
      have g6 := Int.emod_lt_of_pos c3 (show (0 : Int) < 21 by decide)
      refine ite2 (fun _ => ?_) (fun _ => ?_)
      · have g3 := Int.emod_nonneg (1 + c2 % 60) (show (4 : Int) ≠ 0 by decide)
        have g4 := Int.emod_lt_of_pos (1 + c2 % 60) (show (0 : Int) < 4 by decide)
        have g7 := Int.emod_nonneg (c3 % 21) (show (4 : Int) ≠ 0 by decide)
        have g8 := Int.emod_lt_of_pos (c3 % 21) (show (0 : Int) < 4 by decide)
        obtain ⟨b, hb, b1, b2⟩ : ∃ b : Nat, 1 + (1 + c2 % 60) % 4 = (b : Int) ∧ 1 ≤ b ∧ b ≤ 60 := ⟨(1 + (1 + c2 % 60) % 4).toNat, by omega, by omega, by omega⟩
        obtain ⟨m, hm, m2⟩ : ∃ m : Nat, c3 % 21 % 4 = (m : Int) ∧ m ≤ 20 := ⟨(c3 % 21 % 4).toNat, by omega, by omega⟩
        walk_at "rd"
        refine ⟨n, b, m, congrArg V.int hn, congrArg V.int hb, congrArg V.int hm, ⟨n1, n2, b1, b2, m2⟩, fun H1 s1 => ?_⟩
        walk_at "rd"
        exact .inl ⟨_, _, _, _, _, rfl, sm.trans s1⟩
      · obtain ⟨b, hb, b1, b2⟩ : ∃ b : Nat, 1 + c2 % 60 = (b : Int) ∧ 1 ≤ b ∧ b ≤ 60 := ⟨(1 + c2 % 60).toNat, by omega, by omega, by omega⟩
        obtain ⟨m, hm, m2⟩ : ∃ m : Nat, c3 % 21 = (m : Int) ∧ m ≤ 20 := ⟨(c3 % 21).toNat, by omega, by omega⟩
        walk_at "rd"
        refine ⟨n, b, m, congrArg V.int hn, congrArg V.int hb, congrArg V.int hm, ⟨n1, n2, b1, b2, m2⟩, fun H1 s1 => ?_⟩
        walk_at "rd"
        exact .inl ⟨_, _, _, _, _, rfl, sm.trans s1⟩
  · intro σ' H' z
    obtain ⟨t1, t2, t3, t4, t5, rfl, sm⟩ := z.resolve_right id
    walk_at "rd"
    exact q H' sm
end
end K82
set_option Elab.async false
set_option linter.all false
set_option maxRecDepth 100000
set_option maxHeartbeats 4000000
namespace K82
open PySem L2
local macro_rules | `(tactic| walk_at "sq") => `(tactic| first | assumption | (refine SqL.of ?_; assumption) | (refine SqL.of ?_; exact upd_same))
local macro_rules | `(tactic| walk_at "cj") => `(tactic| first | (with_reducible show (_ : Int) ≤ _; omega) | (with_reducible show (_ : Int) < _; omega) | exact rfl | assumption | omega | decide | (unfold CDiv; omega) | (unfold CPow; decide) | (show (0 : Int) < _; first | omega | decide) | (show _ ≤ sizeLine; rw [sizeLine_eq]; simp; done) | (refine mulS1 ?_ ?_ <;> omega) | (refine mulS2 ?_ ?_ <;> omega))
local macro_rules | `(tactic| walk_at "rd1") => `(tactic| first | refine ⟨_, rfl, ?_⟩ | refine ⟨_, _, rfl, rfl, ?_⟩ | refine ⟨_, _, rfl, ?_⟩ | refine ⟨_, _, _, rfl, ?_⟩ | refine ⟨_, _, _, _, rfl, ?_⟩ | refine ⟨_, _, _, _, _, rfl, ?_⟩ | refine ⟨_, _, rfl, .inl (by walk_at "sq"), ?_⟩ | refine And.intro (by walk_at "cj") ?_)
local macro_rules | `(tactic| walk_at "rd") => `(tactic| repeat walk_at "rd1")

-- the top
theorem txt_mk {K : PySem.W.Frag} {h : Heap} {mg : Str → Option Value} (X : K.In h) (G : h.Ns mainGlobals mg)
    {f0 : Addr} {od0 an0 : Option Addr} {sl0 : Array (Option Value)} {oc0 kV0 dc0 pm0 cd0 ct0 : Value} {f1 : Addr} {od1 an1 : Option Addr} {sl1 : Array (Option Value)} {oc1 kV1 dc1 pm1 cd1 ct1 : Value} {f2 : Addr} {od2 an2 : Option Addr} {sl2 : Array (Option Value)} {oc2 kV2 dc2 pm2 cd2 ct2 : Value} {f3 : Addr} {od3 an3 : Option Addr} {sl3 : Array (Option Value)} {oc3 kV3 dc3 pm3 cd3 ct3 : Value} {f4 : Addr} {od4 an4 : Option Addr} {sl4 : Array (Option Value)} {oc4 kV4 dc4 pm4 cd4 ct4 : Value} {f5 : Addr} {od5 an5 : Option Addr} {sl5 : Array (Option Value)} {oc5 kV5 dc5 pm5 cd5 ct5 : Value} {f6 : Addr} {od6 an6 : Option Addr} {sl6 : Array (Option Value)} {oc6 kV6 dc6 pm6 cd6 ct6 : Value} {f7 : Addr} {od7 an7 : Option Addr} {sl7 : Array (Option Value)} {oc7 kV7 dc7 pm7 cd7 ct7 : Value} {f8 : Addr} {od8 an8 : Option Addr} {sl8 : Array (Option Value)} {oc8 kV8 dc8 pm8 cd8 ct8 : Value} {f9 : Addr} {od9 an9 : Option Addr} {sl9 : Array (Option Value)} {oc9 kV9 dc9 pm9 cd9 ct9 : Value} {f10 : Addr} {od10 an10 : Option Addr} {sl10 : Array (Option Value)} {oc10 kV10 dc10 pm10 cd10 ct10 : Value} {f11 : Addr} {od11 an11 : Option Addr} {sl11 : Array (Option Value)} {oc11 kV11 dc11 pm11 cd11 ct11 : Value} {f12 : Addr} {od12 an12 : Option Addr} {sl12 : Array (Option Value)} {oc12 kV12 dc12 pm12 cd12 ct12 : Value} {f13 : Addr} {od13 an13 : Option Addr} {sl13 : Array (Option Value)} {oc13 kV13 dc13 pm13 cd13 ct13 : Value} {f14 : Addr} {od14 an14 : Option Addr} {sl14 : Array (Option Value)} {oc14 kV14 dc14 pm14 cd14 ct14 : Value} {f15 : Addr} {od15 an15 : Option Addr} {sl15 : Array (Option Value)} {oc15 kV15 dc15 pm15 cd15 ct15 : Value} {f16 : Addr} {od16 an16 : Option Addr} {sl16 : Array (Option Value)} {oc16 kV16 dc16 pm16 cd16 ct16 : Value} {f17 : Addr} {od17 an17 : Option Addr} {sl17 : Array (Option Value)} {oc17 kV17 dc17 pm17 cd17 ct17 : Value} {f18 : Addr} {od18 an18 : Option Addr} {sl18 : Array (Option Value)} {oc18 kV18 dc18 pm18 cd18 ct18 : Value}
    (a0 : PySem.W.nsIn K mainGlobals "choose" = some (some (.ref f0))) (l0 : K.lookup f0 = some ⟨oc0, od0, .func (PySem.W.fnOf "choose" "choose" (defArgs s_choose) (defBody s_choose) (defScope s_choose) .none kV0 dc0 pm0 an0 cd0 ct0), sl0⟩) (c0 : PySem.W.codeIn K cd0 "choose" = true) (k0 : PySem.W.keepIn K (.ref f0) = true)
    (a1 : PySem.W.nsIn K mainGlobals "by_falls" = some (some (.ref f1))) (l1 : K.lookup f1 = some ⟨oc1, od1, .func (PySem.W.fnOf "by_falls" "by_falls" (defArgs s_by_falls) (defBody s_by_falls) (defScope s_by_falls) .none kV1 dc1 pm1 an1 cd1 ct1), sl1⟩) (c1 : PySem.W.codeIn K cd1 "by_falls" = true) (k1 : PySem.W.keepIn K (.ref f1) = true)
    (a2 : PySem.W.nsIn K mainGlobals "with_one_card_more" = some (some (.ref f2))) (l2 : K.lookup f2 = some ⟨oc2, od2, .func (PySem.W.fnOf "with_one_card_more" "with_one_card_more" (defArgs s_with_one_card_more) (defBody s_with_one_card_more) (defScope s_with_one_card_more) .none kV2 dc2 pm2 an2 cd2 ct2), sl2⟩) (c2 : PySem.W.codeIn K cd2 "with_one_card_more" = true) (k2 : PySem.W.keepIn K (.ref f2) = true)
    (a3 : PySem.W.nsIn K mainGlobals "fraction" = some (some (.ref f3))) (l3 : K.lookup f3 = some ⟨oc3, od3, .func (PySem.W.fnOf "fraction" "fraction" (defArgs s_fraction) (defBody s_fraction) (defScope s_fraction) .none kV3 dc3 pm3 an3 cd3 ct3), sl3⟩) (c3 : PySem.W.codeIn K cd3 "fraction" = true) (k3 : PySem.W.keepIn K (.ref f3) = true)
    (a4 : PySem.W.nsIn K mainGlobals "greatest_common" = some (some (.ref f4))) (l4 : K.lookup f4 = some ⟨oc4, od4, .func (PySem.W.fnOf "greatest_common" "greatest_common" (defArgs s_greatest_common) (defBody s_greatest_common) (defScope s_greatest_common) .none kV4 dc4 pm4 an4 cd4 ct4), sl4⟩) (c4 : PySem.W.codeIn K cd4 "greatest_common" = true) (k4 : PySem.W.keepIn K (.ref f4) = true)
    (a5 : PySem.W.nsIn K mainGlobals "power" = some (some (.ref f5))) (l5 : K.lookup f5 = some ⟨oc5, od5, .func (PySem.W.fnOf "power" "power" (defArgs s_power) (defBody s_power) (defScope s_power) .none kV5 dc5 pm5 an5 cd5 ct5), sl5⟩) (c5 : PySem.W.codeIn K cd5 "power" = true) (k5 : PySem.W.keepIn K (.ref f5) = true)
    (a6 : PySem.W.nsIn K mainGlobals "far" = some (some (.ref f6))) (l6 : K.lookup f6 = some ⟨oc6, od6, .func (PySem.W.fnOf "far" "far" (defArgs s_far) (defBody s_far) (defScope s_far) .none kV6 dc6 pm6 an6 cd6 ct6), sl6⟩) (c6 : PySem.W.codeIn K cd6 "far" = true) (k6 : PySem.W.keepIn K (.ref f6) = true)
    (a7 : PySem.W.nsIn K mainGlobals "words_to_order" = some (some (.ref f7))) (l7 : K.lookup f7 = some ⟨oc7, od7, .func (PySem.W.fnOf "words_to_order" "words_to_order" (defArgs s_words_to_order) (defBody s_words_to_order) (defScope s_words_to_order) .none kV7 dc7 pm7 an7 cd7 ct7), sl7⟩) (c7 : PySem.W.codeIn K cd7 "words_to_order" = true) (k7 : PySem.W.keepIn K (.ref f7) = true)
    (a8 : PySem.W.nsIn K mainGlobals "_law_big" = some (some (.ref f8))) (l8 : K.lookup f8 = some ⟨oc8, od8, .func (PySem.W.fnOf "_law_big" "_law_big" (defArgs s_l_big) (defBody s_l_big) (defScope s_l_big) .none kV8 dc8 pm8 an8 cd8 ct8), sl8⟩) (c8 : PySem.W.codeIn K cd8 "_law_big" = true) (k8 : PySem.W.keepIn K (.ref f8) = true)
    (a9 : PySem.W.nsIn K mainGlobals "_law_whole" = some (some (.ref f9))) (l9 : K.lookup f9 = some ⟨oc9, od9, .func (PySem.W.fnOf "_law_whole" "_law_whole" (defArgs s_l_whole) (defBody s_l_whole) (defScope s_l_whole) .none kV9 dc9 pm9 an9 cd9 ct9), sl9⟩) (c9 : PySem.W.codeIn K cd9 "_law_whole" = true) (k9 : PySem.W.keepIn K (.ref f9) = true)
    (a10 : PySem.W.nsIn K mainGlobals "_law_common" = some (some (.ref f10))) (l10 : K.lookup f10 = some ⟨oc10, od10, .func (PySem.W.fnOf "_law_common" "_law_common" (defArgs s_l_common) (defBody s_l_common) (defScope s_l_common) .none kV10 dc10 pm10 an10 cd10 ct10), sl10⟩) (c10 : PySem.W.codeIn K cd10 "_law_common" = true) (k10 : PySem.W.keepIn K (.ref f10) = true)
    (a11 : PySem.W.nsIn K mainGlobals "_law_listed" = some (some (.ref f11))) (l11 : K.lookup f11 = some ⟨oc11, od11, .func (PySem.W.fnOf "_law_listed" "_law_listed" (defArgs s_l_listed) (defBody s_l_listed) (defScope s_l_listed) .none kV11 dc11 pm11 an11 cd11 ct11), sl11⟩) (c11 : PySem.W.codeIn K cd11 "_law_listed" = true) (k11 : PySem.W.keepIn K (.ref f11) = true)
    (a12 : PySem.W.nsIn K mainGlobals "_law_breaks" = some (some (.ref f12))) (l12 : K.lookup f12 = some ⟨oc12, od12, .func (PySem.W.fnOf "_law_breaks" "_law_breaks" (defArgs s_l_breaks) (defBody s_l_breaks) (defScope s_l_breaks) .none kV12 dc12 pm12 an12 cd12 ct12), sl12⟩) (c12 : PySem.W.codeIn K cd12 "_law_breaks" = true) (k12 : PySem.W.keepIn K (.ref f12) = true)
    (a13 : PySem.W.nsIn K mainGlobals "_law_ways" = some (some (.ref f13))) (l13 : K.lookup f13 = some ⟨oc13, od13, .func (PySem.W.fnOf "_law_ways" "_law_ways" (defArgs s_l_ways) (defBody s_l_ways) (defScope s_l_ways) .none kV13 dc13 pm13 an13 cd13 ct13), sl13⟩) (c13 : PySem.W.codeIn K cd13 "_law_ways" = true) (k13 : PySem.W.keepIn K (.ref f13) = true)
    (a14 : PySem.W.nsIn K mainGlobals "_law_riffled" = some (some (.ref f14))) (l14 : K.lookup f14 = some ⟨oc14, od14, .func (PySem.W.fnOf "_law_riffled" "_law_riffled" (defArgs s_l_riffled) (defBody s_l_riffled) (defScope s_l_riffled) .none kV14 dc14 pm14 an14 cd14 ct14), sl14⟩) (c14 : PySem.W.codeIn K cd14 "_law_riffled" = true) (k14 : PySem.W.keepIn K (.ref f14) = true)
    (a15 : PySem.W.nsIn K mainGlobals "_law_words_agree" = some (some (.ref f15))) (l15 : K.lookup f15 = some ⟨oc15, od15, .func (PySem.W.fnOf "_law_words_agree" "_law_words_agree" (defArgs s_l_words_agree) (defBody s_l_words_agree) (defScope s_l_words_agree) .none kV15 dc15 pm15 an15 cd15 ct15), sl15⟩) (c15 : PySem.W.codeIn K cd15 "_law_words_agree" = true) (k15 : PySem.W.keepIn K (.ref f15) = true)
    (a16 : PySem.W.nsIn K mainGlobals "_law_power" = some (some (.ref f16))) (l16 : K.lookup f16 = some ⟨oc16, od16, .func (PySem.W.fnOf "_law_power" "_law_power" (defArgs s_l_power) (defBody s_l_power) (defScope s_l_power) .none kV16 dc16 pm16 an16 cd16 ct16), sl16⟩) (c16 : PySem.W.codeIn K cd16 "_law_power" = true) (k16 : PySem.W.keepIn K (.ref f16) = true)
    (a17 : PySem.W.nsIn K mainGlobals "_law_right" = some (some (.ref f17))) (l17 : K.lookup f17 = some ⟨oc17, od17, .func (PySem.W.fnOf "_law_right" "_law_right" (defArgs s_l_right) (defBody s_l_right) (defScope s_l_right) .none kV17 dc17 pm17 an17 cd17 ct17), sl17⟩) (c17 : PySem.W.codeIn K cd17 "_law_right" = true) (k17 : PySem.W.keepIn K (.ref f17) = true)
    (a18 : PySem.W.nsIn K mainGlobals "law" = some (some (.ref f18))) (l18 : K.lookup f18 = some ⟨oc18, od18, .func (PySem.W.fnOf "law" "law" (defArgs s_law) (defBody s_law) (defScope s_law) .none kV18 dc18 pm18 an18 cd18 ct18), sl18⟩) (c18 : PySem.W.codeIn K cd18 "law" = true) (k18 : PySem.W.keepIn K (.ref f18) = true)
    (z0 : PySem.W.nsIn K mainGlobals "abs" = some none)
    (z1 : PySem.W.nsIn K mainGlobals "bool" = some none)
    (z2 : PySem.W.nsIn K mainGlobals "enumerate" = some none)
    (z3 : PySem.W.nsIn K mainGlobals "int" = some none)
    (z4 : PySem.W.nsIn K mainGlobals "isinstance" = some none)
    (z5 : PySem.W.nsIn K mainGlobals "len" = some none)
    (z6 : PySem.W.nsIn K mainGlobals "min" = some none)
    (z7 : PySem.W.nsIn K mainGlobals "range" = some none)
    (z8 : PySem.W.nsIn K mainGlobals "sum" = some none)
    (z9 : PySem.W.nsIn K mainGlobals "tuple" = some none)
    : Txt K mg where
  f_choose := def_mk (st := s_choose) (ps := ["n", "k"]) X G a0 l0 c0 k0 fun _ _ _ _ _ _ us hl => match us, hl with | [_, _], _ => rfl
  f_by_falls := def_mk (st := s_by_falls) (ps := ["n"]) X G a1 l1 c1 k1 fun _ _ _ _ _ _ us hl => match us, hl with | [_], _ => rfl
  f_with_one_card_more := def_mk (st := s_with_one_card_more) (ps := ["counts"]) X G a2 l2 c2 k2 fun _ _ _ _ _ _ us hl => match us, hl with | [_], _ => rfl
  f_fraction := def_mk (st := s_fraction) (ps := ["top", "bottom"]) X G a3 l3 c3 k3 fun _ _ _ _ _ _ us hl => match us, hl with | [_, _], _ => rfl
  f_greatest_common := def_mk (st := s_greatest_common) (ps := ["one", "other"]) X G a4 l4 c4 k4 fun _ _ _ _ _ _ us hl => match us, hl with | [_, _], _ => rfl
  f_power := def_mk (st := s_power) (ps := ["base", "times"]) X G a5 l5 c5 k5 fun _ _ _ _ _ _ us hl => match us, hl with | [_, _], _ => rfl
  f_far := def_mk (st := s_far) (ps := ["n", "b", "k"]) X G a6 l6 c6 k6 fun _ _ _ _ _ _ us hl => match us, hl with | [_, _, _], _ => rfl
  f_words_to_order := def_mk (st := s_words_to_order) (ps := ["n", "heaps", "r"]) X G a7 l7 c7 k7 fun _ _ _ _ _ _ us hl => match us, hl with | [_, _, _], _ => rfl
  f_l_big := def_mk (st := s_l_big) (ps := ["_law_script", "_law_k"]) X G a8 l8 c8 k8 fun _ _ _ _ _ _ us hl => match us, hl with | [_, _], _ => rfl
  f_l_whole := def_mk (st := s_l_whole) (ps := ["_law_found"]) X G a9 l9 c9 k9 fun _ _ _ _ _ _ us hl => match us, hl with | [_], _ => rfl
  f_l_common := def_mk (st := s_l_common) (ps := ["_law_one", "_law_other"]) X G a10 l10 c10 k10 fun _ _ _ _ _ _ us hl => match us, hl with | [_, _], _ => rfl
  f_l_listed := def_mk (st := s_l_listed) (ps := ["_law_n"]) X G a11 l11 c11 k11 fun _ _ _ _ _ _ us hl => match us, hl with | [_], _ => rfl
  f_l_breaks := def_mk (st := s_l_breaks) (ps := ["_law_order"]) X G a12 l12 c12 k12 fun _ _ _ _ _ _ us hl => match us, hl with | [_], _ => rfl
  f_l_ways := def_mk (st := s_l_ways) (ps := ["_law_n", "_law_heaps", "_law_breaks_here"]) X G a13 l13 c13 k13 fun _ _ _ _ _ _ us hl => match us, hl with | [_, _, _], _ => rfl
  f_l_riffled := def_mk (st := s_l_riffled) (ps := ["_law_word", "_law_heaps"]) X G a14 l14 c14 k14 fun _ _ _ _ _ _ us hl => match us, hl with | [_, _], _ => rfl
  f_l_words_agree := def_mk (st := s_l_words_agree) (ps := ["_law_n", "_law_heaps", "_law_words", "_law_orders"]) X G a15 l15 c15 k15 fun _ _ _ _ _ _ us hl => match us, hl with | [_, _, _, _], _ => rfl
  f_l_power := def_mk (st := s_l_power) (ps := ["_law_number", "_law_many"]) X G a16 l16 c16 k16 fun _ _ _ _ _ _ us hl => match us, hl with | [_, _], _ => rfl
  f_l_right := def_mk (st := s_l_right) (ps := ["_law_n", "_law_b", "_law_k"]) X G a17 l17 c17 k17 fun _ _ _ _ _ _ us hl => match us, hl with | [_, _, _], _ => rfl
  f_law := def_mk (st := s_law) (ps := ["_law_script"]) X G a18 l18 c18 k18 fun _ _ _ _ _ _ us hl => match us, hl with | [_], _ => rfl
  z_abs := PySem.W.mg_none_of X G z0
  z_bool := PySem.W.mg_none_of X G z1
  z_enumerate := PySem.W.mg_none_of X G z2
  z_int := PySem.W.mg_none_of X G z3
  z_isinstance := PySem.W.mg_none_of X G z4
  z_len := PySem.W.mg_none_of X G z5
  z_min := PySem.W.mg_none_of X G z6
  z_range := PySem.W.mg_none_of X G z7
  z_sum := PySem.W.mg_none_of X G z8
  z_tuple := PySem.W.mg_none_of X G z9

-- LAWHAS
section
variable {P : Program} {w : World} {K : PySem.W.Frag} {mg : Str → Option Value} {base : Heap}
theorem law_has (T : Txt K mg) : Has P w K mg base 5 "law" ["_law_script"] (sp_law K) := by
  have h_l_big := ok_l_big (P := P) (w := w) (base := base) (k := 0) T 
  have h_l_power := ok_l_power (P := P) (w := w) (base := base) (k := 0) T 
  have h_l_listed := ok_l_listed (P := P) (w := w) (base := base) (k := 0) T 
  have h_l_riffled := ok_l_riffled (P := P) (w := w) (base := base) (k := 0) T 
  have h_l_ways := ok_l_ways (P := P) (w := w) (base := base) (k := 0) T 
  have h_l_breaks := ok_l_breaks (P := P) (w := w) (base := base) (k := 0) T 
  have h_l_words_agree := ok_l_words_agree (P := P) (w := w) (base := base) (k := 1) T (h_l_riffled.mono (by decide)) (h_l_ways.mono (by decide)) (h_l_breaks.mono (by decide))
  have h_power := ok_power (P := P) (w := w) (base := base) (k := 0) T 
  have h_with_one_card_more := ok_with_one_card_more (P := P) (w := w) (base := base) (k := 0) T 
  have h_by_falls := ok_by_falls (P := P) (w := w) (base := base) (k := 1) T (h_with_one_card_more.mono (by decide))
  have h_choose := ok_choose (P := P) (w := w) (base := base) (k := 0) T 
  have h_words_to_order := ok_words_to_order (P := P) (w := w) (base := base) (k := 1) T (h_choose.mono (by decide))
  have h_greatest_common := ok_greatest_common (P := P) (w := w) (base := base) (k := 0) T 
  have h_fraction := ok_fraction (P := P) (w := w) (base := base) (k := 1) T (h_greatest_common.mono (by decide))
  have h_far := ok_far (P := P) (w := w) (base := base) (k := 2) T (h_power.mono (by decide)) (h_by_falls.mono (by decide)) (h_words_to_order.mono (by decide)) (h_fraction.mono (by decide))
  have h_l_whole := ok_l_whole (P := P) (w := w) (base := base) (k := 0) T 
  have h_l_common := ok_l_common (P := P) (w := w) (base := base) (k := 0) T 
  have h_l_right := ok_l_right (P := P) (w := w) (base := base) (k := 3) T (h_l_power.mono (by decide)) (h_l_listed.mono (by decide)) (h_l_words_agree.mono (by decide)) (h_l_ways.mono (by decide)) (h_l_breaks.mono (by decide)) (h_far.mono (by decide)) (h_l_whole.mono (by decide)) (h_l_common.mono (by decide))
  have h_law := ok_law (P := P) (w := w) (base := base) (k := 4) T (h_l_big.mono (by decide)) (h_l_right.mono (by decide))
  exact h_law
end
abbrev depth : Nat := 5

section
variable {P : Program} {w : World} {K : PySem.W.Frag} {mg : Str → Option Value} {base : Heap}
theorem sp_law_top {H : Hp} {a : Addr} {ns : List Int} (hl : ns.length ≤ 63) (hS : SqL K H a (ns.map V.int)) : sp_law K [.ref a] H (fun v _ => v = .bl true) fun _ _ _ => False := ⟨_, rfl, a, ns, hS, rfl, hl, fun _ _ => rfl⟩
end
end K82
-- FINAL
open PySem PySem.W PyProof.Rows
set_option maxRecDepth 100000 in
set_option maxHeartbeats 0 in
theorem PySem.Challenge.cw_riftcarry_k82_whole_far_from_even_holds : PySem.Challenge.rw_riftcarry_k82_whole_far_from_even.Holds := by
  w_on; o_law; k_head; (case hw => w_witness2)
  k_fill
  refine L2.walk_ofK (l := PySem.Challenge.rw_riftcarry_k82_whole_far_from_even) (n := 63) (k := K82.depth) (x := "_law_script") (CX := L2.CX0) (sp := K82.sp_law) rfl (by decide) rfl ⟨rfl, by decide, by decide⟩ (fun w h Y => PySem.W.kIn_of Y) ?F ?S ?C
  case F =>
    intro w mg fa h KX G hmg
    have T : K82.Txt (L2.KOf KX) mg := by
      dsimp only [L2.KOf]
      refine' K82.txt_mk KX G ?a0 ?l0 ?c0 ?k0 ?a1 ?l1 ?c1 ?k1 ?a2 ?l2 ?c2 ?k2 ?a3 ?l3 ?c3 ?k3 ?a4 ?l4 ?c4 ?k4 ?a5 ?l5 ?c5 ?k5 ?a6 ?l6 ?c6 ?k6 ?a7 ?l7 ?c7 ?k7 ?a8 ?l8 ?c8 ?k8 ?a9 ?l9 ?c9 ?k9 ?a10 ?l10 ?c10 ?k10 ?a11 ?l11 ?c11 ?k11 ?a12 ?l12 ?c12 ?k12 ?a13 ?l13 ?c13 ?k13 ?a14 ?l14 ?c14 ?k14 ?a15 ?l15 ?c15 ?k15 ?a16 ?l16 ?c16 ?k16 ?a17 ?l17 ?c17 ?k17 ?a18 ?l18 ?c18 ?k18 ?z0 ?z1 ?z2 ?z3 ?z4 ?z5 ?z6 ?z7 ?z8 ?z9
      (case a0 => k_is)
      (case l0 => k_is)
      (case c0 => k_is)
      (case k0 => k_is)
      (case a1 => k_is)
      (case l1 => k_is)
      (case c1 => k_is)
      (case k1 => k_is)
      (case a2 => k_is)
      (case l2 => k_is)
      (case c2 => k_is)
      (case k2 => k_is)
      (case a3 => k_is)
      (case l3 => k_is)
      (case c3 => k_is)
      (case k3 => k_is)
      (case a4 => k_is)
      (case l4 => k_is)
      (case c4 => k_is)
      (case k4 => k_is)
      (case a5 => k_is)
      (case l5 => k_is)
      (case c5 => k_is)
      (case k5 => k_is)
      (case a6 => k_is)
      (case l6 => k_is)
      (case c6 => k_is)
      (case k6 => k_is)
      (case a7 => k_is)
      (case l7 => k_is)
      (case c7 => k_is)
      (case k7 => k_is)
      (case a8 => k_is)
      (case l8 => k_is)
      (case c8 => k_is)
      (case k8 => k_is)
      (case a9 => k_is)
      (case l9 => k_is)
      (case c9 => k_is)
      (case k9 => k_is)
      (case a10 => k_is)
      (case l10 => k_is)
      (case c10 => k_is)
      (case k10 => k_is)
      (case a11 => k_is)
      (case l11 => k_is)
      (case c11 => k_is)
      (case k11 => k_is)
      (case a12 => k_is)
      (case l12 => k_is)
      (case c12 => k_is)
      (case k12 => k_is)
      (case a13 => k_is)
      (case l13 => k_is)
      (case c13 => k_is)
      (case k13 => k_is)
      (case a14 => k_is)
      (case l14 => k_is)
      (case c14 => k_is)
      (case k14 => k_is)
      (case a15 => k_is)
      (case l15 => k_is)
      (case c15 => k_is)
      (case k15 => k_is)
      (case a16 => k_is)
      (case l16 => k_is)
      (case c16 => k_is)
      (case k16 => k_is)
      (case a17 => k_is)
      (case l17 => k_is)
      (case c17 => k_is)
      (case k17 => k_is)
      (case a18 => k_is)
      (case l18 => k_is)
      (case c18 => k_is)
      (case k18 => k_is)
      (case z0 => k_is)
      (case z1 => k_is)
      (case z2 => k_is)
      (case z3 => k_is)
      (case z4 => k_is)
      (case z5 => k_is)
      (case z6 => k_is)
      (case z7 => k_is)
      (case z8 => k_is)
      (case z9 => k_is)
    obtain ⟨fd, hb, hF⟩ := L2.fin_of (P := PySem.Challenge.rw_riftcarry_k82_whole_far_from_even.prog) (w := w) (sp := K82.sp_law _) T.f_law hmg (fun base => K82.law_has T) (fun _ _ _ _ _ _ _ => rfl)
    exact ⟨fd, hb, fun base _ _ => hF base⟩
  case S => exact fun K H a ns hl hO hS => K82.sp_law_top hl hS
  case C => exact fun _ _ _ _ z => z
