import PyProof.Rows.All
import Wide.All
import OpenK.AllK
import Wide.FinOn
import Lean
import PyProof.EqAt
import PyProof.EqKinds
import PyProof.TupleCall
import PyProof.NeKinds
import PyProof.ZipIter
import PySem.Challenge.RW_riftcarry_k62_falls_from_any_order
set_option Elab.async false
set_option linter.all false
set_option maxRecDepth 100000
/-! THE HAND LAYER, for ints, bools, texts, own classes, LISTS and tuples (index, slices, in, append, pop ..), calls, loops. Paste it whole ahead of your own text; what your proof does not reach may be deleted. -/
namespace L2
open PySem PySem.Spec PyProof.Rows

/-- a key: an int or a str -/
abbrev Key := Sum Int Str
def keyIs : Key → Value → Bool
  | .inl k, v => Value.isInt k v
  | .inr x, v => Value.isStrOf x v
def keyH (w : World) : Key → Int
  | .inl k => hashInt k
  | .inr x => hashStr w x
theorem keyIs_shape : ∀ {k : Key} {v : Value}, keyIs k v = true → (∃ i t, k = Sum.inl i ∧ v = Value.int i t) ∨ (∃ x t, k = Sum.inr x ∧ v = Value.str x t)
  | .inl i, v, h => by
    obtain ⟨t, e⟩ := Value.isInt_shape (k := i) (v := v) h
    exact .inl ⟨i, t, rfl, e⟩
  | .inr x, v, h => by
    obtain ⟨t, e⟩ := Value.isStrOf_shape (x := x) (v := v) h
    exact .inr ⟨x, t, rfl, e⟩
theorem key_ll (a b : Int) : decide ((Sum.inl a : Key) = Sum.inl b) = (a == b) := by
  by_cases e : a = b
  · subst e; simp
  · have h : ¬ (Sum.inl a : Key) = Sum.inl b := fun q => e (Sum.inl.inj q)
    rw [decide_eq_false h]
    exact (beq_eq_false_iff_ne.mpr e).symm
theorem key_rr (a b : Str) : decide ((Sum.inr a : Key) = Sum.inr b) = decide (a = b) := by
  by_cases e : a = b
  · subst e; simp
  · have h : ¬ (Sum.inr a : Key) = Sum.inr b := fun q => e (Sum.inr.inj q)
    rw [decide_eq_false h, decide_eq_false e]
theorem key_lr (a : Int) (b : Str) : decide ((Sum.inl a : Key) = Sum.inr b) = false := decide_eq_false (fun q => nomatch q)
theorem key_rl (a : Str) (b : Int) : decide ((Sum.inr a : Key) = Sum.inl b) = false := decide_eq_false (fun q => nomatch q)

def mixKind (prog : Program) (w : World) : PySem.KeyKind prog w Key where
  is := keyIs
  hash := keyH w
  inj := fun v a b ha hb => by
    rcases keyIs_shape ha with ⟨i, t, rfl, rfl⟩ | ⟨x, t, rfl, rfl⟩
    · rcases keyIs_shape hb with ⟨j, u, rfl, e⟩ | ⟨y, u, rfl, e⟩
      · injection e with e1 _; rw [e1]
      · exact nomatch e
    · rcases keyIs_shape hb with ⟨j, u, rfl, e⟩ | ⟨y, u, rfl, e⟩
      · exact nomatch e
      · injection e with e1 _; rw [e1]
  byValue := fun k v h => by
    rcases keyIs_shape h with ⟨i, t, rfl, rfl⟩ | ⟨x, t, rfl, rfl⟩ <;> rfl
  pyHash := fun hv h => by
    rcases keyIs_shape hv with ⟨i, t, rfl, rfl⟩ | ⟨x, t, rfl, rfl⟩
    · exact wpAny_pyHash_int h
    · exact wpAny_pyHash_str h
  eqBool := fun hu hv h => by
    rcases keyIs_shape hu with ⟨i, t, rfl, rfl⟩ | ⟨x, t, rfl, rfl⟩
    · rcases keyIs_shape hv with ⟨j, u, rfl, rfl⟩ | ⟨y, u, rfl, rfl⟩
      · rw [key_ll] at h; exact wpAny_eqBool_int h
      · rw [key_lr] at h; exact SeqAt.EqAt.int_str i t y u _ _ _ _ h
    · rcases keyIs_shape hv with ⟨j, u, rfl, rfl⟩ | ⟨y, u, rfl, rfl⟩
      · rw [key_rl] at h; exact SeqAt.EqAt.str_int x t j u _ _ _ _ h
      · rw [key_rr] at h; exact wpAny_eqBool_str h
  «strs» := fun k x t v h => by
    rcases keyIs_shape h with ⟨i, u, rfl, e⟩ | ⟨y, u, rfl, e⟩
    · exact nomatch e
    · injection e with e1 _
      subst e1
      cases v <;> rfl

end L2

namespace L2
open PySem PySem.Spec PyProof.Rows

/-- a value, without the heap -/
inductive V where
  | non | bl (b : Bool) | int (i : Int) | str (x : Str) | byt (b : Array UInt8) | flt (b : UInt64) | ref (a : Addr) | ty (n : String)
  deriving DecidableEq

def RelV : V → Value → Prop
  | .non, u => u = Value.none
  | .bl b, u => u = Value.bool b
  | .int i, u => ∃ t, u = Value.int i t
  | .str x, u => ∃ t, u = Value.str x t
  | .byt b, u => ∃ t, u = Value.bytes b t
  | .flt b, u => ∃ t, u = Value.float b t
  | .ref a, u => u = Value.ref a
  | .ty n, u => u = Value.type n

abbrev Vals : List V → List Value → Prop := Paired RelV
theorem Vals.length {xs : List V} {us : List Value} (r : Vals xs us) : xs.length = us.length := Paired.length r
theorem Vals.get : ∀ {xs : List V} {us : List Value} {i : Nat} {x : V}, Vals xs us → xs[i]? = some x → ∃ u, us[i]? = some u ∧ RelV x u
  | _, _, _, _, .nil, e => by simp at e
  | _, _, 0, _, .cons r _, e => by simp at e; subst e; exact ⟨_, rfl, r⟩
  | _, _, i + 1, x, .cons _ t, e => by
    obtain ⟨u, h1, h2⟩ := Vals.get (i := i) (x := x) t (by simpa using e)
    exact ⟨u, by simpa using h1, h2⟩
theorem Vals.set {x : V} {u : Value} (r : RelV x u) : ∀ {xs : List V} {us : List Value} (i : Nat), Vals xs us → Vals (xs.set i x) (us.set i u)
  | _, _, _, .nil => .nil
  | _, _, 0, .cons _ t => .cons r t
  | _, _, i + 1, .cons q t => .cons q (Vals.set r i t)
theorem Vals.append : ∀ {xs ys : List V} {us ws : List Value}, Vals xs us → Vals ys ws → Vals (xs ++ ys) (us ++ ws)
  | _, _, _, _, .nil, s => s
  | _, _, _, _, .cons r t, s => .cons r (Vals.append t s)
theorem Vals.take : ∀ {xs : List V} {us : List Value} (n : Nat), Vals xs us → Vals (xs.take n) (us.take n)
  | _, _, 0, _ => .nil
  | _, _, _ + 1, .nil => .nil
  | _, _, n + 1, .cons r t => .cons r (Vals.take n t)
theorem Vals.drop : ∀ {xs : List V} {us : List Value} (n : Nat), Vals xs us → Vals (xs.drop n) (us.drop n)
  | _, _, 0, r => r
  | _, _, _ + 1, .nil => .nil
  | _, _, n + 1, .cons _ t => Vals.drop n t
def RelO : Option V → Option Value → Prop
  | some v, some u => RelV v u
  | none, none => True
  | _, _ => False
def KV {κ : Type} : List (κ × V) → List (κ × Value) → Prop := Paired fun (p : κ × V) (q : κ × Value) => p.1 = q.1 ∧ RelV p.2 q.2

/-- a key of a dict (00_mix): an int or a text -/
def kV : Key → V
  | .inl i => .int i
  | .inr x => .str x

/-- what stands at a tracked address -/
inductive HO where
  /-- a list -/
  | lst (xs : List V)
  /-- a tuple (never changes) -/
  | tup (xs : List V)
  /-- a dict whose keys are ints and texts; one whose keys are tuples of ints and texts (the empty one is both) -/
  | dK (kvs : List (Key × V)) | dT (kvs : List (List Key × V))
  /-- a set of ints: its members, its size -/
  | set (S : Int → Bool) (n : Nat)
  /-- an instance of the class at C, its dict at dx, its attributes -/
  | ins (C dx : Addr) (fs : List (Str × V))
  /-- the dict of the instance at x -/
  | own (x : Addr)
  /-- the dict of an exception -/
  | xd (fs : List (Str × V))
  /-- a bound method, f of x -/
  | met (f x : Addr)
  /-- a range object lo, lo + 1, .. below hi -/
  | rng (lo hi : Int)
  /-- a thing that is known to the object (the script; a dict while a loop walks it): read, never written while it is so -/
  | frz (o : Obj) (u : HO)
  /-- a code object's table -/
  | tbl (ps : Array Value)
  /-- any other thing, by what is true of its one object (a def of one's own: SetO a S n := HO.ext fun h => ..) -/
  | ext (φ : Heap → Prop)

abbrev Hp := Addr → Option HO
def upd (H : Hp) (a : Addr) (o : HO) : Hp := fun b => if b = a then some o else H b
theorem upd_same {H : Hp} {a : Addr} {o : HO} : upd H a o a = some o := by unfold upd; rw [if_pos rfl]
theorem upd_ne {H : Hp} {a b : Addr} {o : HO} (h : b ≠ a) : upd H a o b = H b := by unfold upd; rw [if_neg h]
theorem upd_upd {H : Hp} {a : Addr} {o u : HO} : upd (upd H a o) a u = upd H a u := by
  funext b; unfold upd; split <;> rfl
theorem ne_of_none {H : Hp} {a b : Addr} {o : HO} (h : H a = some o) (h' : H b = none) : a ≠ b := by
  intro e; subst e; rw [h] at h'; cases h'

section
variable (P : Program) (w : World)
def ObjOk (H : Hp) (h : Heap) (a : Addr) : HO → Prop
  | .lst xs => xs.length ≤ sizeLine ∧ ∃ (its : List Value) (n : Nat), Vals xs its ∧ h.get? a = some { cls := .type "list", data := .seq its.toArray n }
  | .tup xs => xs.length ≤ sizeLine ∧ ∃ its : List Value, Vals xs its ∧ IsTup h a its.toArray
  | .dK kvs => kvs.length ≤ sizeLine ∧ (a == sysModules) = false ∧ ∃ vs, KV kvs vs ∧ h.DictOf (mixKind P w) a vs
  | .dT kvs => kvs.length ≤ sizeLine ∧ (a == sysModules) = false ∧ ∃ xs : List (List Key × Addr × Value),
      Paired (fun (p : List Key × V) (q : List Key × Addr × Value) => p.1 = q.1 ∧ H q.2.1 = some (.tup (p.1.map kV)) ∧ RelV p.2 q.2.2) kvs xs ∧
      ∃ o es ep, h.get? a = some o ∧ o.ExactDict ∧ o.data = .dict es ep ∧ es.toList = xs.map (entryOfKey (tupleKind (mixKind P w))) ∧ (xs.map (·.1)).Nodup
  | .set S n => h.SetOf (intKind P w) a S n
  | .ins C dx fs => H dx = some (.own a) ∧ fs.length ≤ 1000 ∧ dx ≠ a ∧ h.get? a = some (PySem.W.instObj C dx) ∧
      ∃ mA, h.Ns1 dx mA ∧ (∀ f, RelO (fs.lookup f) (mA f)) ∧ PySem.Within mA (fs.map (·.1))
  | .own _ => ∃ o, h.get? a = some o
  | .xd fs => ∃ mA, h.Ns1 a mA ∧ ∀ f, RelO (fs.lookup f) (mA f)
  | .rng lo hi => ∃ t u v, h.get? a = some { cls := .type "range", data := .fields #[.int lo t, .int hi u, .int 1 v] }
  | .frz o u => h.get? a = some o ∧ ObjOk H h a u
  | .tbl ps => h.get? a = some { cls := .none, data := .fields ps }
  | .met f x => h.get? a = some (PySem.W.methodObj (.ref f) (.ref x))
  | .ext φ => φ h ∧ (∃ o, h.get? a = some o) ∧ ∀ h1 h2 : Heap, φ h1 → (∀ o, h1.get? a = some o → h2.get? a = some o) → φ h2
/-- the abstract heap is held -/
def HOk (H : Hp) (h : Heap) : Prop := ∀ a o, H a = some o → ObjOk P w H h a o
end

section
variable {P : Program} {w : World} {H H' : Hp} {h h' : Heap} {a : Addr} {o : HO}
theorem ObjOk.lt (x : ObjOk P w H h a o) : a < h.objs.size := by
  cases o with
  | lst xs => obtain ⟨_, _, _, _, e⟩ := x; exact Heap.lt_size e
  | tup xs => obtain ⟨_, _, _, p⟩ := x; exact p.lt
  | dK kvs => obtain ⟨_, _, _, _, o, _, _, e, _⟩ := x; exact Heap.lt_size e
  | dT kvs => obtain ⟨_, _, _, _, o, _, _, e, _⟩ := x; exact Heap.lt_size e
  | set S n => obtain ⟨o, _, _, _, e, _⟩ := x; exact Heap.lt_size e
  | ins C dx fs => obtain ⟨_, _, _, e, _⟩ := x; exact Heap.lt_size e
  | own y => obtain ⟨_, e⟩ := x; exact Heap.lt_size e
  | xd fs => obtain ⟨_, ⟨_, _, _, e, _⟩, _⟩ := x; exact Heap.lt_size e
  | rng lo hi => obtain ⟨_, _, _, e⟩ := x; exact Heap.lt_size e
  | frz ob u => obtain ⟨e, _⟩ := x; exact Heap.lt_size e
  | tbl ps => exact Heap.lt_size (show h.get? a = some _ from x)
  | met f y => exact Heap.lt_size (show h.get? a = some _ from x)
  | ext φ => obtain ⟨_, ⟨_, e⟩, _⟩ := x; exact Heap.lt_size e
theorem Paired.mapP {α β : Type} {F G : α → β → Prop} : ∀ {l₁ : List α} {l₂ : List β}, Paired F l₁ l₂ → (∀ a b, F a b → G a b) → Paired G l₁ l₂
  | _, _, .nil, _ => .nil
  | _, _, .cons r t, f => .cons (f _ _ r) (Paired.mapP t f)
/-- what an object's description leans on: its own object, its own dict, the tuples -/
theorem ObjOk.stay (x : ObjOk P w H h a o) (k : ∀ b u, (b = a ∨ H b = some (.own a)) → h.get? b = some u → h'.get? b = some u)
    (ho : ∀ b, H b = some (.own a) → H' b = some (.own a)) (ht : ∀ b xs, H b = some (.tup xs) → H' b = some (.tup xs)) : ObjOk P w H' h' a o := by
  induction o with
  | lst xs => obtain ⟨z, its, n, r, e⟩ := x; exact ⟨z, its, n, r, k _ _ (.inl rfl) e⟩
  | tup xs => obtain ⟨z, its, r, ob, e, c⟩ := x; exact ⟨z, its, r, ob, k _ _ (.inl rfl) e, c⟩
  | dK kvs => obtain ⟨z, y, vs, r, ob, es, ep, e, c⟩ := x; exact ⟨z, y, vs, r, ob, es, ep, k _ _ (.inl rfl) e, c⟩
  | dT kvs =>
    obtain ⟨z, y, xs, r, ob, es, ep, e, c⟩ := x
    exact ⟨z, y, xs, Paired.mapP r fun p q z => ⟨z.1, ht _ _ z.2.1, z.2.2⟩, ob, es, ep, k _ _ (.inl rfl) e, c⟩
  | set S n => obtain ⟨ob, es, ep, t, e, c⟩ := x; exact ⟨ob, es, ep, t, k _ _ (.inl rfl) e, c⟩
  | ins C dx fs =>
    obtain ⟨d, z, ne, e, mA, ⟨od, es, ep, e2, c⟩, r⟩ := x
    exact ⟨ho _ d, z, ne, k _ _ (.inl rfl) e, mA, ⟨od, es, ep, k _ _ (.inr d) e2, c⟩, r⟩
  | own y => obtain ⟨ob, e⟩ := x; exact ⟨ob, k _ _ (.inl rfl) e⟩
  | xd fs => obtain ⟨mA, ⟨od, es, ep, e, c⟩, r⟩ := x; exact ⟨mA, ⟨od, es, ep, k _ _ (.inl rfl) e, c⟩, r⟩
  | rng lo hi => obtain ⟨t, u, v, e⟩ := x; exact ⟨t, u, v, k _ _ (.inl rfl) e⟩
  | frz ob u ih => obtain ⟨e, q⟩ := x; exact ⟨k _ _ (.inl rfl) e, ih q⟩
  | tbl ps =>
    have e : h.get? a = some { cls := .none, data := .fields ps } := x
    show h'.get? a = some { cls := .none, data := .fields ps }
    exact k a _ (.inl rfl) e
  | met f y =>
    have e : h.get? a = some (PySem.W.methodObj (.ref f) (.ref y)) := x
    show h'.get? a = some (PySem.W.methodObj (.ref f) (.ref y))
    exact k a _ (.inl rfl) e
  | ext φ => obtain ⟨p, ⟨o, e⟩, st⟩ := x; exact ⟨st _ _ p fun o q => k _ _ (.inl rfl) q, ⟨o, k _ _ (.inl rfl) e⟩, st⟩
theorem HOk.lt (x : HOk P w H h) (e : H a = some o) : a < h.objs.size := (x a o e).lt
theorem HOk.fresh (x : HOk P w H h) (e : h.objs.size ≤ a) : H a = none := by
  cases q : H a with
  | none => rfl
  | some u => exact absurd (Nat.lt_of_lt_of_le (x.lt q) e) (Nat.lt_irrefl _)
/-- every object of the heap is kept -/
theorem HOk.kept (x : HOk P w H h) (k : ∀ b u, h.get? b = some u → h'.get? b = some u) : HOk P w H h' := fun a o e =>
  (x a o e).stay (fun b u _ q => k b u q) (fun _ q => q) fun _ _ q => q
/-- a new object is laid and tracked -/
theorem HOk.laid (x : HOk P w H h) (k : ∀ b u, h.get? b = some u → h'.get? b = some u) (hp : h.objs.size ≤ a) (new : ObjOk P w (upd H a o) h' a o) : HOk P w (upd H a o) h' := fun b u e => by
  have hn := x.fresh hp
  by_cases hb : b = a
  · subst hb; rw [upd_same] at e; cases e; exact new
  · rw [upd_ne hb] at e
    exact (x b u e).stay (fun c v _ q => k c v q) (fun c q => by rw [upd_ne (ne_of_none q hn)]; exact q) fun c xs q => by rw [upd_ne (ne_of_none q hn)]; exact q
end

/-- what may be read as u: it is u, or a known u -/
def Rd (H : Hp) (a : Addr) (u : HO) : Prop := H a = some u ∨ ∃ o, H a = some (.frz o u)
theorem Rd.ok {P : Program} {w : World} {H : Hp} {h : Heap} {a : Addr} {u : HO} (r : Rd H a u) (x : HOk P w H h) : ObjOk P w H h a u := by
  rcases r with r | ⟨o, r⟩
  · exact x a u r
  · obtain ⟨_, q⟩ := x a _ r
    exact q
/-- what may be written -/
def Mut : Option HO → Prop
  | some (.lst _) => True
  | some (.dK _) => True
  | some (.dT _) => True
  | some (.set _ _) => True
  | some (.ins _ _ _) => True
  | some (.ext _) => True
  | _ => False
section
variable {P : Program} {w : World} {H : Hp} {h h' : Heap} {x e : Addr} {o' : HO}
/-- the object at e is changed: x itself, or the dict of the instance x -/
theorem HOk.write (ok : HOk P w H h) (mu : Mut (H x)) (he : e = x ∨ H e = some (.own x)) (k : ∀ b u, b ≠ e → h.get? b = some u → h'.get? b = some u) (heo : ∃ u, h'.get? e = some u)
    (new : ObjOk P w (upd H x o') h' x o') : HOk P w (upd H x o') h' := fun b u q => by
  have nown : ∀ c y, H c = some (.own y) → c ≠ x := fun c y r z => by subst z; rw [r] at mu; exact mu
  have ntup : ∀ c xs, H c = some (.tup xs) → c ≠ x := fun c xs r z => by subst z; rw [r] at mu; exact mu
  by_cases hb : b = x
  · subst hb; rw [upd_same] at q; cases q; exact new
  · rw [upd_ne hb] at q
    by_cases hbe : b = e
    · have q' : H b = some (.own x) := by
        rcases he with z | z
        · exact absurd (hbe.trans z) hb
        · rw [hbe]; exact z
      rw [q] at q'; cases q'
      obtain ⟨v, hv⟩ := heo
      exact ⟨v, by rw [hbe]; exact hv⟩
    · refine (ok b u q).stay (fun c v hc r => k c v ?_ r) (fun c r => by rw [upd_ne (nown c b r)]; exact r) fun c xs r => by rw [upd_ne (ntup c xs r)]; exact r
      rcases hc with rfl | hc
      · exact hbe
      · rintro rfl
        rcases he with z | z
        · exact nown c b hc z
        · rw [hc] at z; cases z; exact hb rfl
end

/-! ### kept unless tracked; of the frames at fs (the callers') the slots may change (an exception that passes writes there); of the records at ex (iterators) nothing is said -/
structure Un (fs ex : List Addr) (H H' : Hp) (h h' : Heap) : Prop where
  keep : ∀ b o, h.get? b = some o → H b = none → b ∉ fs → b ∉ ex → h'.get? b = some o
  slot : ∀ b o, h.get? b = some o → H b = none → b ∈ fs → b ∉ ex → ∃ sl, h'.get? b = some { o with slots := sl }
  free : ∀ b o, h.get? b = some o → H b = none → b ∉ ex → H' b = none
  there : ∀ b o, h.get? b = some o → b ∉ ex → ∃ o', h'.get? b = some o'
  tups : ∀ b xs, H b = some (.tup xs) → H' b = some (.tup xs)
  frzs : ∀ b o u, H b = some (.frz o u) → H' b = some (.frz o u)
  tbls : ∀ b ps, H b = some (.tbl ps) → ∃ more, H' b = some (.tbl (ps ++ more))
section
variable {fs fs' ex ex' : List Addr} {H H1 H2 : Hp} {h h1 h2 h' : Heap} {a x e : Addr} {o : HO}
theorem Un.any (u : Un fs ex H H1 h h1) {b : Addr} {ob : Obj} (q : h.get? b = some ob) (n : H b = none) (hx : b ∉ ex) : ∃ sl, h1.get? b = some { ob with slots := sl } := by
  by_cases hb : b ∈ fs
  · exact u.slot b ob q n hb hx
  · exact ⟨ob.slots, u.keep b ob q n hb hx⟩
theorem Un.kept (k : ∀ b u, h.get? b = some u → h'.get? b = some u) : Un fs ex H H h h' :=
  ⟨fun b ob q _ _ _ => k b ob q, fun b ob q _ _ _ => ⟨ob.slots, k b ob q⟩, fun _ _ _ n _ => n, fun b ob q _ => ⟨ob, k b ob q⟩, fun _ _ q => q, fun _ _ _ q => q, fun _ ps q => ⟨#[], by rw [q]; simp⟩⟩
theorem Un.refl : Un fs ex H H h h := Un.kept fun _ _ q => q
theorem Un.laid (k : ∀ b u, h.get? b = some u → h'.get? b = some u) (hp : h.objs.size ≤ a) (hn : H a = none) : Un fs ex H (upd H a o) h h' where
  keep := fun b u q _ _ _ => k b u q
  slot := fun b u q _ _ _ => ⟨u.slots, k b u q⟩
  free := fun b u q n _ => by rw [upd_ne (Nat.ne_of_lt (Nat.lt_of_lt_of_le (Heap.lt_size q) hp))]; exact n
  there := fun b u q _ => ⟨u, k b u q⟩
  tups := fun b xs q => by rw [upd_ne (ne_of_none q hn)]; exact q
  frzs := fun b u xs q => by rw [upd_ne (ne_of_none q hn)]; exact q
  tbls := fun b ps q => ⟨#[], by rw [upd_ne (ne_of_none q hn), q]; simp⟩
theorem Un.write (mu : Mut (H x)) (he : e = x ∨ H e = some (.own x)) (k : ∀ b u, b ≠ e → h.get? b = some u → h'.get? b = some u) (heo : ∃ u, h'.get? e = some u) : Un fs ex H (upd H x o) h h' := by
  have hx : ∀ b, H b = none → b ≠ x := fun b n z => by subst z; rw [n] at mu; exact mu
  have hb : ∀ b, H b = none → b ≠ e := fun b n z => by
    subst z
    rcases he with r | r
    · exact hx b n r
    · rw [n] at r; cases r
  have hm : ∀ b u, H b = some u → ¬ Mut (some u) → b ≠ x := fun b u q nm z => by subst z; rw [q] at mu; exact nm mu
  refine ⟨fun b u q n _ _ => k b u (hb b n) q, fun b u q n _ _ => ⟨u.slots, k b u (hb b n) q⟩, fun b u q n _ => by rw [upd_ne (hx b n)]; exact n, fun b u q _ => ?_,
    fun b xs q => by rw [upd_ne (hm b _ q fun z => z)]; exact q, fun b u xs q => by rw [upd_ne (hm b _ q fun z => z)]; exact q, fun b ps q => ⟨#[], by rw [upd_ne (hm b _ q fun z => z), q]; simp⟩⟩
  by_cases hbe : b = e
  · subst hbe; exact heo
  · exact ⟨u, k b u hbe q⟩
end

/-! ### the heap without what is tracked -/
def trk (h : Heap) (H : Hp) : List Addr := (List.range h.objs.size).filter fun a => (H a).isSome
def hidT (h : Heap) (H : Hp) : Heap := PySem.W.hideAll h (trk h H)
theorem hidT_size (h : Heap) (H : Hp) : (hidT h H).objs.size = h.objs.size := PySem.W.hideAll_size _ _
theorem hidT_get {h : Heap} {H : Hp} {b : Addr} {o : Obj} (e : h.get? b = some o) (n : H b = none) : (hidT h H).get? b = some o :=
  PySem.W.hideAll_get _ e fun hm => by
    have q : (H b).isSome = true := (List.mem_filter.mp hm).2
    rw [n] at q; simp at q
theorem of_hidT {h : Heap} {H : Hp} {b : Addr} {o : Obj} (e : (hidT h H).get? b = some o) : h.get? b = some o ∧ H b = none := by
  have e' : h.get? b = some o := PySem.W.of_hideAll (trk h H) e
  refine ⟨e', ?_⟩
  cases q : H b with
  | none => rfl
  | some x =>
    have hm : b ∈ trk h H := List.mem_filter.mpr ⟨List.mem_range.mpr (Heap.lt_size e'), by simp [q]⟩
    have z : (hidT h H).get? b = none := PySem.W.hideAll_none (trk h H) hm
    rw [z] at e; cases e

/-! ### OpenK's ledger, filled with every new object but one -/
def allNews (g h : Heap) (L : Addr) : List (Addr × Obj) := (List.range h.objs.size).filterMap fun a => if a = L ∨ (g.get? a).isSome = true then none else (h.get? a).map fun o => (a, o)
def rest (g h : Heap) (L d : Addr) : List (Addr × Obj) := (allNews g h L).filter fun p => decide (p.1 ≠ d)
end L2

namespace L2
open PySem PySem.Spec PyProof.Rows

/-- the module's facts, over the base: the heap at the law's entry without what is tracked there -/
structure Mod (K : PySem.W.Frag) (mg : Str → Option Value) (base : Heap) : Prop where
  kin : K.In base
  glob : base.Ns mainGlobals mg
  blt : ∃ mb, base.Ns builtinsNs mb ∧ ∀ x : Str, x ≠ "__name__" → mb x = bootBuiltins x
  nolimit : base.NoLimit

/-- the context: a def's body (or a comprehension's block) running. base: fixed through the whole law; s₀, H₀: the entry; outer: the frames whose slots others may change (a def's callers); stack: all frames that run;
   ex: iterators that were made ahead of the entry and are walked here (a comprehension's); fn: the names whose cells were made at the entry (a def: all; a comprehension's block: its own); calm: not within an except suite; pn: pins that every state bears; xe: what is wanted of an exception that leaves the code -/
structure Cx where
  prog : Program
  w : World
  K : PySem.W.Frag
  mg : Str → Option Value
  base : Heap
  A : Around
  N : List Str
  s₀ : Shared
  H₀ : Hp
  env : Env
  outer : List Env
  stack : List Env
  ex : List Addr
  fn : Str → Bool
  calm : Bool
  pn : List (Addr × Obj)
  xe : Value → Shared → Prop
/-- the callers' frames -/
def frs (l : List Env) : List Addr := l.filterMap (·.frame)
abbrev Cx.fs (X : Cx) : List Addr := frs X.outer

def Vis (sc : Scope) (x : Str) : Prop := sc.names.lookup x = some .local ∨ sc.names.lookup x = some .cell ∨ sc.names.lookup x = some .free
def Loc (sc : Scope) (x : Str) : Prop := sc.names.lookup x = some .local ∨ sc.names.lookup x = some .cell
def Look (env : Env) (h : Heap) (m : Str → Option Value) (x : Str) (u : Value) : Prop :=
  (env.kindOf x = some .local ∧ m x = some u) ∨ ((env.kindOf x = some .cell ∨ env.kindOf x = some .free) ∧ ∃ c, env.cells.lookup x = some c ∧ h.IsCell c (some u))

structure Cx.Ok (X : Cx) : Prop where
  mod : Mod X.K X.mg X.base
  kind : X.env.scope.kind = .function
  glob : X.env.globals = mainGlobals
  blt : X.env.builtins = builtinsNs
  above : X.s₀.heap.objs.size ≤ X.env.locals
  inj : ∀ x y c, X.env.cells.lookup x = some c → X.env.cells.lookup y = some c → x = y
  has : ∀ x, (X.env.kindOf x = some .cell ∨ X.env.kindOf x = some .free) → ∃ c, X.env.cells.lookup x = some c
  cab : ∀ x c, X.fn x = true → X.env.cells.lookup x = some c → X.s₀.heap.objs.size ≤ c
  hd : X.calm = true → X.A.handled = none
  frames : X.A.frames = some X.stack
  stk : X.stack = X.outer ∨ (X.stack = X.env :: X.outer ∧ X.env.frame = some X.env.locals)
  exf : ∀ b ∈ X.ex, b ≠ X.env.locals ∧ ∀ x c, X.env.cells.lookup x = some c → c ≠ b
  bs : ∀ b o, X.base.get? b = some o → X.s₀.heap.get? b = some o ∧ X.H₀ b = none
  bsz : X.base.objs.size ≤ X.s₀.heap.objs.size
  noex : ∀ b o, X.base.get? b = some o → b ∉ X.ex
  exfs : ∀ b ∈ X.ex, b ∉ X.fs
  funs : X.s₀.heap.FunFrames X.base X.outer
  frf : ∀ b ∈ X.fs, X.H₀ b = none

structure Inv (X : Cx) (pins : List (Addr × Obj)) (σ : List (Option V)) (H : Hp) (s : Shared) : Prop where
  ok : X.Ok
  os : s.os = X.s₀.os
  bare : AllBare s.gens
  base : Un X.fs X.ex X.H₀ H X.s₀.heap s.heap
  loc : ∃ m, s.heap.Ns X.env.locals m ∧ ∀ (i : Nat) (x : Str) (v : V), X.N[i]? = some x → σ[i]? = some (some v) → Vis X.env.scope x → ∃ u, RelV v u ∧ Look X.env s.heap m x u
  cell : ∀ x c, X.env.cells.lookup x = some c → ∃ v, s.heap.IsCell c v
  free : H X.env.locals = none
  freeC : ∀ x c, X.env.cells.lookup x = some c → H c = none
  pin : ∀ p ∈ X.pn ++ pins, s.heap.get? p.1 = some p.2 ∧ H p.1 = none ∧ p.1 ≠ X.env.locals ∧ p.1 ∉ X.fs ∧ ∀ v, p.2.data ≠ .cell v
  hok : HOk X.prog X.w H s.heap
  len : σ.length = X.N.length

section
variable {X : Cx} {pins : List (Addr × Obj)} {σ : List (Option V)} {H H' : Hp} {s : Shared} {h' : Heap}

theorem Cx.Ok.nofr (ok : X.Ok) {b : Addr} {o : Obj} (e : X.base.get? b = some o) : b ∉ X.fs := fun hb => by
  have := (ok.funs.mem hb).1
  rw [e] at this; cases this
theorem Inv.bs (I : Inv X pins σ H s) : ∀ b o, X.base.get? b = some o → s.heap.get? b = some o ∧ H b = none := fun b o e =>
  ⟨I.base.keep b o (I.ok.bs b o e).1 (I.ok.bs b o e).2 (I.ok.nofr e) (I.ok.noex b o e), I.base.free b o (I.ok.bs b o e).1 (I.ok.bs b o e).2 (I.ok.noex b o e)⟩
theorem Inv.bk (I : Inv X pins σ H s) : ∀ b o, X.base.get? b = some o → s.heap.get? b = some o := fun b o e => (I.bs b o e).1
theorem Inv.mod (I : Inv X pins σ H s) : Mod X.K X.mg X.base := I.ok.mod
theorem Inv.kIn (I : Inv X pins σ H s) : X.K.In s.heap := I.ok.mod.kin.keeps I.bk
theorem Inv.lt (I : Inv X pins σ H s) : X.env.locals < s.heap.objs.size := let ⟨_, hn, _⟩ := I.loc; hn.lt
theorem Inv.sz (I : Inv X pins σ H s) : X.s₀.heap.objs.size ≤ s.heap.objs.size := Nat.le_trans I.ok.above (Nat.le_of_lt I.lt)
theorem Inv.nofs (I : Inv X pins σ H s) {a : Addr} (h : s.heap.objs.size ≤ a) : a ∉ X.fs := fun hb => by
  obtain ⟨_, o, ho, _⟩ := I.ok.funs.mem hb
  exact absurd (Nat.lt_of_lt_of_le (Heap.lt_size ho) (Nat.le_trans I.sz h)) (Nat.lt_irrefl _)
theorem Inv.cne (I : Inv X pins σ H s) : ∀ x c, X.env.cells.lookup x = some c → c ≠ X.env.locals := fun x c e z => by
  obtain ⟨v, o, ho, hd⟩ := I.cell x c e
  obtain ⟨m, ⟨o', es, ep, ho', hd', _⟩, _⟩ := I.loc
  rw [z, ho'] at ho; cases ho; rw [hd'] at hd; cases hd
theorem Inv.funs (I : Inv X pins σ H s) : s.heap.FunFrames X.base X.outer := by
  have all : ∀ (l : List Env), (∀ b ∈ frs l, b ∈ X.fs) → X.s₀.heap.FunFrames X.base l → s.heap.FunFrames X.base l := by
    intro l
    induction l with
    | nil => intro _ _; trivial
    | cons env r ih =>
      intro hs hl
      obtain ⟨hk, ⟨L, o, hf, hn, ho, hd⟩, hr⟩ := hl
      have hL : L ∈ X.fs := hs L (by unfold frs; rw [List.filterMap_cons, hf]; exact List.mem_cons_self)
      obtain ⟨sl, e⟩ := I.base.slot L o ho (I.ok.frf L hL) hL fun z => I.ok.exfs L z hL
      exact ⟨hk, ⟨L, _, hf, hn, e, hd⟩, ih (fun b hb => hs b (by unfold frs; rw [List.filterMap_cons, hf]; exact List.mem_cons_of_mem _ hb)) hr⟩
  exact all X.outer (fun _ hb => hb) I.ok.funs

/-- the frames that run, for a call -/
theorem Inv.stack (I : Inv X pins σ H s) : s.heap.FunFrames X.base X.stack := by
  rcases I.ok.stk with e | ⟨e, hf⟩
  · rw [e]; exact I.funs
  · rw [e]
    obtain ⟨m, hn, _⟩ := I.loc
    refine .cons (by rw [I.ok.kind]; decide) hf hn ?_ I.funs
    exact Heap.get?_none_of_le (Nat.le_trans I.ok.bsz I.ok.above)
theorem Inv.stkSub (I : Inv X pins σ H s) : ∀ b ∈ frs X.stack, b ∈ X.env.locals :: X.fs := fun b hb => by
  rcases I.ok.stk with e | ⟨e, hf⟩
  · rw [e] at hb; exact List.mem_cons_of_mem _ hb
  · rw [e] at hb
    unfold frs at hb
    rw [List.filterMap_cons, hf] at hb
    exact hb
theorem Inv.stkFree (I : Inv X pins σ H s) : ∀ b ∈ frs X.stack, H b = none := fun b hb => by
  rcases List.mem_cons.mp (I.stkSub b hb) with e | hb
  · rw [e]; exact I.free
  · obtain ⟨_, o, ho, _⟩ := I.ok.funs.mem hb
    exact I.base.free b o ho (I.ok.frf b hb) fun z => I.ok.exfs b z hb

/-- THE STEP: the untracked objects but the frame and the records at ch are kept (the callers' frames up to slots), the frame's map is kept, the new abstract heap is held -/
theorem Inv.step {g' : Array GenState} {t' : Nat} {d' : Drawn} {ch : List Addr} (I : Inv X pins σ H s)
    (hch : ∀ b ∈ ch, (b ∈ X.ex ∨ X.s₀.heap.objs.size ≤ b) ∧ b ≠ X.env.locals ∧ (∀ x c, X.env.cells.lookup x = some c → c ≠ b) ∧ ∀ p ∈ X.pn ++ pins, p.1 ≠ b)
    (keep : ∀ b o, b ≠ X.env.locals → b ∉ X.fs → b ∉ ch → s.heap.get? b = some o → H b = none → h'.get? b = some o)
    (slot : ∀ b o, b ≠ X.env.locals → b ∈ X.fs → b ∉ ch → s.heap.get? b = some o → H b = none → ∃ sl, h'.get? b = some { o with slots := sl }) (free : ∀ b o, b ∉ ch → s.heap.get? b = some o → H b = none → H' b = none)
    (there : ∀ b o, b ∉ ch → s.heap.get? b = some o → ∃ o', h'.get? b = some o')
    (tups : ∀ b xs, H b = some (.tup xs) → H' b = some (.tup xs)) (frzs : ∀ b o u, H b = some (.frz o u) → H' b = some (.frz o u)) (tbls : ∀ b ps, H b = some (.tbl ps) → ∃ more, H' b = some (.tbl (ps ++ more)))
    (ns : ∀ m, s.heap.Ns X.env.locals m → h'.Ns X.env.locals m) (hok : HOk X.prog X.w H' h') (hg : AllBare g') :
    Inv X pins σ H' { s with heap := h', gens := g', drawn := d', toks := t' } := by
  have neL : ∀ b o, X.s₀.heap.get? b = some o → b ≠ X.env.locals := fun b o e => Nat.ne_of_lt (Nat.lt_of_lt_of_le (Heap.lt_size e) I.ok.above)
  have neC : ∀ b o, X.s₀.heap.get? b = some o → b ∉ X.ex → b ∉ ch := fun b o e hx hb => by
    rcases (hch b hb).1 with z | z
    · exact hx z
    · exact absurd (Nat.lt_of_lt_of_le (Heap.lt_size e) z) (Nat.lt_irrefl _)
  have cellK : ∀ x c, X.env.cells.lookup x = some c → ∀ v, s.heap.IsCell c v → h'.IsCell c v := fun x c e v ⟨o, ho, hd⟩ => by
    have nch : c ∉ ch := fun z => (hch c z).2.2.1 x c e rfl
    by_cases hc : c ∈ X.fs
    · obtain ⟨sl, q⟩ := slot c o (I.cne x c e) hc nch ho (I.freeC x c e)
      exact ⟨_, q, hd⟩
    · exact ⟨o, keep c o (I.cne x c e) hc nch ho (I.freeC x c e), hd⟩
  refine ⟨I.ok, I.os, hg, ⟨fun b o e n hb hx => ?_, fun b o e n hb hx => ?_, fun b o e n hx => ?_, fun b o e hx => ?_, fun b xs e => tups b xs (I.base.tups b xs e), fun b o xs e => frzs b o xs (I.base.frzs b o xs e), fun b ps e => ?_⟩, ?_, fun x c e => ?_, ?_, fun x c e => ?_, fun p hp => ?_, hok, I.len⟩
  · exact keep b o (neL b o e) hb (neC b o e hx) (I.base.keep b o e n hb hx) (I.base.free b o e n hx)
  · obtain ⟨sl, e1⟩ := I.base.slot b o e n hb hx
    obtain ⟨sl', e2⟩ := slot b _ (neL b o e) hb (neC b o e hx) e1 (I.base.free b o e n hx)
    exact ⟨sl', e2⟩
  · obtain ⟨o', e1⟩ := I.base.there b o e hx
    exact free b o' (neC b o e hx) e1 (I.base.free b o e n hx)
  · obtain ⟨o', e1⟩ := I.base.there b o e hx
    exact there b o' (neC b o e hx) e1
  · obtain ⟨m1, e1⟩ := I.base.tbls b ps e
    obtain ⟨m2, e2⟩ := tbls b _ e1
    exact ⟨m1 ++ m2, by rw [e2, Array.append_assoc]⟩
  · obtain ⟨m, hn, hl⟩ := I.loc
    refine ⟨m, ns m hn, fun i x v e1 e2 e3 => ?_⟩
    obtain ⟨u, r, l⟩ := hl i x v e1 e2 e3
    refine ⟨u, r, ?_⟩
    rcases l with l | ⟨k, c, e, z⟩
    · exact .inl l
    · exact .inr ⟨k, c, e, cellK x c e _ z⟩
  · obtain ⟨v, z⟩ := I.cell x c e
    exact ⟨v, cellK x c e v z⟩
  · obtain ⟨m, ⟨o, _, _, ho, _⟩, _⟩ := I.loc
    exact free _ o (fun z => (hch _ z).2.1 rfl) ho I.free
  · obtain ⟨v, o, ho, hd⟩ := I.cell x c e
    exact free c o (fun z => (hch c z).2.2.1 x c e rfl) ho (I.freeC x c e)
  · obtain ⟨e, n, ne, nf, d⟩ := I.pin p hp
    have nch : p.1 ∉ ch := fun z => (hch p.1 z).2.2.2 p hp rfl
    exact ⟨keep p.1 p.2 ne nf nch e n, free p.1 p.2 nch e n, ne, nf, d⟩
/-- .. where the frame's own object is kept too -/
theorem Inv.un {t' : Nat} (I : Inv X pins σ H s) (u : Un X.fs [] H H' s.heap h') (hok : HOk X.prog X.w H' h') : Inv X pins σ H' { s with heap := h', toks := t' } := by
  obtain ⟨m, ⟨o, es, ep, ho, r⟩, _⟩ := id I.loc
  obtain ⟨sl, hL⟩ := u.any ho I.free (by simp)
  exact I.step (g' := s.gens) (d' := s.drawn) (ch := []) (fun _ z => nomatch z) (fun b o _ hb _ e n => u.keep b o e n hb (by simp)) (fun b o _ hb _ e n => u.slot b o e n hb (by simp)) (fun b o _ e n => u.free b o e n (by simp)) (fun b o _ e => u.there b o e (by simp)) u.tups u.frzs u.tbls (fun m' hm => by
    obtain ⟨o', es', ep', ho', r'⟩ := hm
    rw [ho] at ho'; cases ho'
    exact ⟨_, es', ep', hL, r'⟩) hok I.bare
/-- behind a call (or a comprehension's block): the slots of this frame may have changed too, the records at ch may have turned -/
theorem Inv.call {g' : Array GenState} {t' : Nat} {d' : Drawn} {ch : List Addr} (I : Inv X pins σ H s) (u : Un (frs X.stack) ch H H' s.heap h') (hok : HOk X.prog X.w H' h') (hg : AllBare g')
    (hch : ∀ b ∈ ch, (b ∈ X.ex ∨ X.s₀.heap.objs.size ≤ b) ∧ b ≠ X.env.locals ∧ (∀ x c, X.env.cells.lookup x = some c → c ≠ b) ∧ ∀ p ∈ X.pn ++ pins, p.1 ≠ b) :
    Inv X pins σ H' { s with heap := h', gens := g', drawn := d', toks := t' } := by
  obtain ⟨m, ⟨o, es, ep, ho, r⟩, _⟩ := id I.loc
  obtain ⟨sl, hL⟩ := u.any ho I.free fun z => (hch _ z).2.1 rfl
  exact I.step (ch := ch) hch (fun b o hL hb hc e n => u.keep b o e n (fun z => (List.mem_cons.mp (I.stkSub b z)).elim hL hb) hc) (fun b o _ _ hc e n => u.any e n hc) (fun b o hc e n => u.free b o e n hc) (fun b o hc e => u.there b o e hc) u.tups u.frzs u.tbls (fun m' hm => by
    obtain ⟨o', es', ep', ho', r'⟩ := hm
    rw [ho] at ho'; cases ho'
    exact ⟨_, es', ep', hL, r'⟩) hok hg
/-- an untracked record of ours (an iterator) has turned -/
theorem Inv.turned {t' : Nat} {it : Addr} (I : Inv X pins σ H s) (k : ∀ b o, b ≠ it → s.heap.get? b = some o → h'.get? b = some o) (hn : H it = none) (hL : it ≠ X.env.locals)
    (h1 : it ∈ X.ex ∨ X.s₀.heap.objs.size ≤ it) (h2 : ∀ x c, X.env.cells.lookup x = some c → c ≠ it) (h3 : ∀ p ∈ X.pn ++ pins, p.1 ≠ it) : Inv X pins σ H { s with heap := h', toks := t' } := by
  have nit : ∀ b u, H b = some u → b ≠ it := fun b u e z => by rw [z, hn] at e; cases e
  refine I.step (g' := s.gens) (d' := s.drawn) (ch := [it]) (fun b hb => ?_) (fun b o _ _ hc e _ => k b o (fun z => hc (by simp [z])) e) (fun b o _ _ hc e _ => ⟨o.slots, k b o (fun z => hc (by simp [z])) e⟩) (fun _ _ _ _ n => n)
    (fun b o hc e => ⟨o, k b o (fun z => hc (by simp [z])) e⟩) (fun _ _ e => e) (fun _ _ _ e => e) (fun b ps e => ⟨#[], by rw [e]; simp⟩) (fun m hm => ?_) (fun b u e => ?_) I.bare
  · have e : b = it := by simpa using hb
    subst e
    exact ⟨h1, hL, h2, h3⟩
  · obtain ⟨o, es, ep, ho, r⟩ := hm
    exact ⟨o, es, ep, k _ o (Ne.symm hL) ho, r⟩
  · refine (I.hok b u e).stay (fun c v hc q => k c v ?_ q) (fun _ q => q) fun _ _ q => q
    rcases hc with z | z
    · rw [z]; exact nit b u e
    · exact nit c _ z
theorem Inv.tok (I : Inv X pins σ H s) (t : Nat) : Inv X pins σ H { s with toks := t } := I.un (h' := s.heap) (t' := t) Un.refl I.hok
/-- all objects kept -/
theorem Inv.kept {t' : Nat} (I : Inv X pins σ H s) (k : ∀ b u, s.heap.get? b = some u → h'.get? b = some u) : Inv X pins σ H { s with heap := h', toks := t' } := I.un (Un.kept k) (I.hok.kept k)
/-- a new object laid and tracked -/
theorem Inv.laid {a : Addr} {o : HO} {t' : Nat} (I : Inv X pins σ H s) (k : ∀ b u, s.heap.get? b = some u → h'.get? b = some u) (hp : s.heap.objs.size ≤ a) (new : ObjOk X.prog X.w (upd H a o) h' a o) :
    Inv X pins σ (upd H a o) { s with heap := h', toks := t' } := I.un (Un.laid k hp (I.hok.fresh hp)) (I.hok.laid k hp new)
/-- an object written -/
theorem Inv.write {x e : Addr} {o : HO} {t' : Nat} (I : Inv X pins σ H s) (mu : Mut (H x)) (he : e = x ∨ H e = some (.own x)) (k : ∀ b u, b ≠ e → s.heap.get? b = some u → h'.get? b = some u) (heo : ∃ u, h'.get? e = some u)
    (new : ObjOk X.prog X.w (upd H x o) h' x o) : Inv X pins σ (upd H x o) { s with heap := h', toks := t' } := I.un (Un.write mu he k heo) (I.hok.write mu he k heo new)
theorem Inv.pins_of {pins' : List (Addr × Obj)} (I : Inv X pins σ H s) (h : ∀ p ∈ pins', s.heap.get? p.1 = some p.2 ∧ H p.1 = none ∧ p.1 ≠ X.env.locals ∧ p.1 ∉ X.fs ∧ ∀ v, p.2.data ≠ .cell v) : Inv X pins' σ H s :=
  ⟨I.ok, I.os, I.bare, I.base, I.loc, I.cell, I.free, I.freeC, fun p hp => (List.mem_append.mp hp).elim (fun z => I.pin p (List.mem_append_left _ z)) (h p), I.hok, I.len⟩

theorem nodup_ix {N : List Str} (hN : N.Nodup) {i j : Nat} {x : Str} (a : N[i]? = some x) (b : N[j]? = some x) : i = j := by
  obtain ⟨h1, e1⟩ := List.getElem?_eq_some_iff.mp a
  obtain ⟨h2, e2⟩ := List.getElem?_eq_some_iff.mp b
  exact (List.getElem_inj hN).mp (e1.trans e2.symm)

/-- a name is stored; what changed -/
theorem store_ok2 {M : Model} {A : Around} {E : Value → Shared → Prop} {i : Nat} {x : Str} {v : V} {u : Value} {Q : Unit → Shared → Prop} (I : Inv X pins σ H s) (hN : X.N.Nodup) (hi : X.N[i]? = some x) (hx : Loc X.env.scope x) (r : RelV v u)
    (h : ∀ s', Inv X pins (σ.set i (some v)) H s' → (∃ a, Heap.SameBut a s.heap s'.heap ∧ (a = X.env.locals ∨ X.env.cells.lookup x = some a)) → Q () s') (hf : X.fn x = true ∨ X.env.scope.names.lookup x = some .local := by first | exact .inl rfl | exact .inr rfl | assumption) : wpAny M A (storeName X.env x u) Q E s := by
  obtain ⟨m, hn, hl⟩ := id I.loc
  have hcls : (X.env.scope.kind == .class || (X.env.scope.kind == .module && X.env.locals != X.env.globals)) = false := by rw [I.ok.kind]; rfl
  have hiσ : i < σ.length := by rw [I.len]; exact (List.getElem?_eq_some_iff.mp hi).1
  have cne := I.cne
  have tracked : ∀ {a : Addr} {h' : Heap}, (∃ o, s.heap.get? a = some o ∧ H a = none) → Heap.SameBut a s.heap h' → HOk X.prog X.w H h' := fun {a h'} ha hs b ob e => by
    obtain ⟨_, _, hfree⟩ := ha
    refine (I.hok b ob e).stay (fun c w' hc q => (hs.2 c ?_).trans q) (fun _ q => q) fun _ _ q => q
    rintro rfl
    rcases hc with rfl | hc
    · rw [hfree] at e; cases e
    · rw [hfree] at hc; cases hc
  rcases hx with hk | hk
  · refine wpAny_storeName_local hk hn (fun h' hn' hs => ?_) hcls
    obtain ⟨oL, _, _, hoL, _⟩ := id hn
    refine h _ ⟨I.ok, I.os, I.bare, ⟨fun b o e n hb hx => ?_, fun b o e n hb hx => ?_, I.base.free, fun b o e hx => ?_, I.base.tups, I.base.frzs, I.base.tbls⟩, ⟨_, hn', fun j y v' e1 e2 e3 => ?_⟩, fun y c e => ?_, I.free, I.freeC, fun p hp => ?_, tracked ⟨oL, hoL, I.free⟩ hs, by simpa using I.len⟩ ⟨_, hs, .inl rfl⟩
    · exact (hs.2 b (Nat.ne_of_lt (Nat.lt_of_lt_of_le (Heap.lt_size e) I.ok.above))).trans (I.base.keep b o e n hb hx)
    · obtain ⟨sl, e1⟩ := I.base.slot b o e n hb hx
      exact ⟨sl, (hs.2 b (Nat.ne_of_lt (Nat.lt_of_lt_of_le (Heap.lt_size e) I.ok.above))).trans e1⟩
    · obtain ⟨o', e1⟩ := I.base.there b o e hx
      exact ⟨o', (hs.2 b (Nat.ne_of_lt (Nat.lt_of_lt_of_le (Heap.lt_size e) I.ok.above))).trans e1⟩
    · by_cases hj : j = i
      · subst hj
        rw [hi] at e1; cases e1
        rw [List.getElem?_set_self hiσ] at e2
        cases e2
        exact ⟨u, r, .inl ⟨hk, by simp⟩⟩
      · rw [List.getElem?_set_ne (Ne.symm hj)] at e2
        obtain ⟨u', r', q⟩ := hl j y v' e1 e2 e3
        refine ⟨u', r', ?_⟩
        rcases q with ⟨k, e⟩ | ⟨k, c, e, z⟩
        · refine .inl ⟨k, ?_⟩
          have : y ≠ x := fun e => hj (nodup_ix hN e1 (e ▸ hi))
          simp [this, e]
        · exact .inr ⟨k, c, e, z.sameBut hs (cne y c e)⟩
    · obtain ⟨w', z⟩ := I.cell y c e
      exact ⟨w', z.sameBut hs (cne y c e)⟩
    · obtain ⟨e, n, ne, nf, d⟩ := I.pin p hp
      exact ⟨(hs.2 p.1 ne).trans e, n, ne, nf, d⟩
  · have hfn : X.fn x = true := by
      rcases hf with z | z
      · exact z
      · rw [z] at hk; cases hk
    obtain ⟨c, hc⟩ := I.ok.has x (.inl hk)
    obtain ⟨w', z⟩ := I.cell x c hc
    refine wpAny_storeName_cell I.ok.kind hk hc z (fun h' hc' hs => ?_)
    obtain ⟨oc, hoc, hocd⟩ := id z
    refine h { s with heap := h' } ⟨I.ok, I.os, I.bare, ⟨fun b o e n hb hx => ?_, fun b o e n hb hx => ?_, I.base.free, fun b o e hx => ?_, I.base.tups, I.base.frzs, I.base.tbls⟩, ⟨m, hn.sameBut hs (Ne.symm (cne x c hc)), fun j y v' e1 e2 e3 => ?_⟩, fun y c' e => ?_, I.free, I.freeC, fun p hp => ?_, tracked ⟨oc, hoc, I.freeC x c hc⟩ hs, by simpa using I.len⟩ ⟨c, hs, .inr hc⟩
    · exact (hs.2 b (Nat.ne_of_lt (Nat.lt_of_lt_of_le (Heap.lt_size e) (I.ok.cab x c hfn hc)))).trans (I.base.keep b o e n hb hx)
    · obtain ⟨sl, e1⟩ := I.base.slot b o e n hb hx
      exact ⟨sl, (hs.2 b (Nat.ne_of_lt (Nat.lt_of_lt_of_le (Heap.lt_size e) (I.ok.cab x c hfn hc)))).trans e1⟩
    · obtain ⟨o', e1⟩ := I.base.there b o e hx
      exact ⟨o', (hs.2 b (Nat.ne_of_lt (Nat.lt_of_lt_of_le (Heap.lt_size e) (I.ok.cab x c hfn hc)))).trans e1⟩
    · by_cases hj : j = i
      · subst hj
        rw [hi] at e1; cases e1
        rw [List.getElem?_set_self hiσ] at e2
        cases e2
        exact ⟨u, r, .inr ⟨.inl hk, c, hc, hc'⟩⟩
      · rw [List.getElem?_set_ne (Ne.symm hj)] at e2
        obtain ⟨u', r', q⟩ := hl j y v' e1 e2 e3
        refine ⟨u', r', ?_⟩
        rcases q with q | ⟨k, c', e, z'⟩
        · exact .inl q
        · refine .inr ⟨k, c', e, z'.sameBut hs ?_⟩
          rintro rfl
          exact hj (nodup_ix hN e1 (I.ok.inj _ _ _ e hc ▸ hi))
    · by_cases hcc : c' = c
      · subst hcc; exact ⟨_, hc'⟩
      · obtain ⟨w2, z2⟩ := I.cell y c' e
        exact ⟨w2, z2.sameBut hs hcc⟩
    · obtain ⟨e, n, ne, nf, d⟩ := I.pin p hp
      refine ⟨(hs.2 p.1 ?_).trans e, n, ne, nf, d⟩
      intro q
      rw [q, hoc] at e
      have q' : oc = p.2 := Option.some.inj e
      exact d w' (by rw [← q']; exact hocd)
theorem store_ok {M : Model} {A : Around} {E : Value → Shared → Prop} {i : Nat} {x : Str} {v : V} {u : Value} {Q : Unit → Shared → Prop} (I : Inv X pins σ H s) (hN : X.N.Nodup) (hi : X.N[i]? = some x) (hx : Loc X.env.scope x) (r : RelV v u)
    (h : ∀ s', Inv X pins (σ.set i (some v)) H s' → Q () s') (hf : X.fn x = true ∨ X.env.scope.names.lookup x = some .local := by first | exact .inl rfl | exact .inr rfl | assumption) : wpAny M A (storeName X.env x u) Q E s :=
  store_ok2 I hN hi hx r (fun s' I' _ => h s' I') hf
/-- behind a call or a block, the state as it is -/
theorem Inv.call' {s' : Shared} {ch : List Addr} (I : Inv X pins σ H s) (ho : s'.os = s.os) (u : Un (frs X.stack) ch H H' s.heap s'.heap) (hok : HOk X.prog X.w H' s'.heap) (hg : AllBare s'.gens)
    (hch : ∀ b ∈ ch, (b ∈ X.ex ∨ X.s₀.heap.objs.size ≤ b) ∧ b ≠ X.env.locals ∧ (∀ x c, X.env.cells.lookup x = some c → c ≠ b) ∧ ∀ p ∈ X.pn ++ pins, p.1 ≠ b) : Inv X pins σ H' s' := by
  obtain ⟨h', g', d', t', o'⟩ := s'
  have e : o' = s.os := ho
  subst e
  exact I.call (g' := g') (t' := t') (d' := d') u hok hg hch
end

/-! ### the judgements -/
/-- an exception: its class, its own dict's address (where it has one), the abstract heap behind it -/
abbrev XK := Value → Option Addr → Hp → Prop
abbrev St := List (Option V)
abbrev VK := V → Hp → Prop
/-- an expression's reading; a test's; an argument list's -/
abbrev TE := St → Hp → VK → Prop
abbrev TT := St → Hp → (Bool → Hp → Prop) → Prop
abbrev TA := St → Hp → (List V → Hp → Prop) → Prop
/-- what is wanted behind a statement -/
structure Ends where
  nx : St → Hp → Prop
  rt : VK
  bk : St → Hp → Prop := fun _ _ => False
  ct : St → Hp → Prop := fun _ _ => False
abbrev TS := Ends → St → Hp → Prop

def EP (X : Cx) (pins : List (Addr × Obj)) (σ : St) (Q : VK) (u : Value) (s' : Shared) : Prop := ∃ v H', Inv X pins σ H' s' ∧ RelV v u ∧ Q v H'
def TP (X : Cx) (pins : List (Addr × Obj)) (σ : St) (Q : Bool → Hp → Prop) (b : Bool) (s' : Shared) : Prop := ∃ H', Inv X pins σ H' s' ∧ Q b H'
def AP (X : Cx) (pins : List (Addr × Obj)) (σ : St) (Q : List V → Hp → Prop) (us : List Value) (s' : Shared) : Prop := ∃ vs H', Inv X pins σ H' s' ∧ Vals vs us ∧ Q vs H'
def SP (X : Cx) (pins : List (Addr × Obj)) (D : Ends) (f : Flow) (s' : Shared) : Prop :=
  match f with
  | .next => ∃ σ' H', Inv X pins σ' H' s' ∧ D.nx σ' H'
  | .brk => ∃ σ' H', Inv X pins σ' H' s' ∧ D.bk σ' H'
  | .cont => ∃ σ' H', Inv X pins σ' H' s' ∧ D.ct σ' H'
  | .ret u => ∃ v σ' H', Inv X pins σ' H' s' ∧ RelV v u ∧ D.rt v H'

def PE (X : Cx) (e : Expr) (t : TE) : Prop :=
  ∀ (pins : List (Addr × Obj)) (s : Shared) (σ : St) (H : Hp) (Q : VK), Inv X pins σ H s → t σ H Q → wpAny (model X.prog X.w) X.A (eval e X.env) (EP X pins σ Q) X.xe s
def PT (X : Cx) (e : Expr) (t : TT) : Prop :=
  ∀ (pins : List (Addr × Obj)) (s : Shared) (σ : St) (H : Hp) (Q : Bool → Hp → Prop), Inv X pins σ H s → t σ H Q → wpAny (model X.prog X.w) X.A (isTrue e X.env (eval e X.env)) (TP X pins σ Q) X.xe s
/-- a test whatever its 'whole' is (and, or) -/
def PW (X : Cx) (e : Expr) (t : TT) : Prop :=
  ∀ (whole : Sem Value) (pins : List (Addr × Obj)) (s : Shared) (σ : St) (H : Hp) (Q : Bool → Hp → Prop), Inv X pins σ H s → t σ H Q → wpAny (model X.prog X.w) X.A (isTrue e X.env whole) (TP X pins σ Q) X.xe s
theorem PW.pt {X : Cx} {e : Expr} {t : TT} (h : PW X e t) : PT X e t := h _
/-- an argument list (no star), from the left -/
def PA (X : Cx) (es : List Expr) (t : TA) : Prop :=
  ∀ (pos : Pos) (pins : List (Addr × Obj)) (s : Shared) (σ : St) (H : Hp) (Q : List V → Hp → Prop), Inv X pins σ H s → t σ H Q → wpAny (model X.prog X.w) X.A (spliced (backTo pos (starEach es X.env))) (AP X pins σ Q) X.xe s
def PS (X : Cx) (st : Stmt) (t : TS) : Prop :=
  ∀ (pins : List (Addr × Obj)) (s : Shared) (σ : St) (H : Hp) (D : Ends), Inv X pins σ H s → t D σ H → wpAny (model X.prog X.w) X.A (exec st X.env) (SP X pins D) X.xe s
def PSs (X : Cx) (st : List Stmt) (t : TS) : Prop :=
  ∀ (pins : List (Addr × Obj)) (s : Shared) (σ : St) (H : Hp) (D : Ends), Inv X pins σ H s → t D σ H → wpAny (model X.prog X.w) X.A (execs st X.env) (SP X pins D) X.xe s
/-- weaken the end -/
theorem thn {α : Type} {t : Sem α} {Q Q' : α → Shared → Prop} {M : Model} {A : Around} {E : Value → Shared → Prop} {s : Shared} (h : wpAny M A t Q E s) (hQ : ∀ a s, Q a s → Q' a s) : wpAny M A t Q' E s := wpAny_mono h hQ fun _ _ x => x
end L2

namespace L2
open PySem PySem.Spec PyProof.Rows
section
variable {X : Cx}

/-! ### names and constants -/
def tVar (i : Nat) : TE := fun σ H Q => ∃ v, σ[i]? = some (some v) ∧ Q v H
def tC (v : V) : TE := fun _ H Q => Q v H
theorem pe_var {i : Nat} {x : Str} {pos : Pos} (hN : X.N[i]? = some x) (hv : Vis X.env.scope x) (hd : (x == ("__debug__" : Str)) = false := by decide) (hcd : (x == ("__classdict__" : Str)) = false := by decide) : PE X (.Name x pos) (tVar i) := by
  intro pins s σ H Q I h
  obtain ⟨v, e, h⟩ := h
  obtain ⟨m, hn, hl⟩ := I.loc
  obtain ⟨u, r, l⟩ := hl i x v hN e hv
  have fin : EP X pins σ Q u s := ⟨v, H, I, r, h⟩
  rcases l with ⟨hk, hm⟩ | ⟨hk, c, hc, hcell⟩
  · exact wpAny_Name (wpAny_loadName_local I.ok.kind hk hn hm fin) hd
  · rcases hk with hk | hk
    · exact wpAny_Name (wpAny_loadName_cell I.ok.kind hk hc hcell fin) hd
    · exact wpAny_Name (wpAny_loadName_free I.ok.kind hk hc hcell fin hcd) hd
theorem pe_int {i j pos} : PE X (.Constant (.int i) j pos) (tC (.int i)) := fun _ _ _ H _ I h => wpAny_Constant_int ⟨.int i, H, I.tok _, ⟨_, rfl⟩, h⟩
theorem pe_bl {b j pos} : PE X (.Constant (.bool b) j pos) (tC (.bl b)) := fun _ _ _ H _ I h => Constant_bool ⟨.bl b, H, I, rfl, h⟩
/-- a global name of the def -/
def Gl (X : Cx) (x : Str) : Prop := X.env.kindOf x = some .globalImplicit
theorem ld_glob {E : Value → Shared → Prop} {pins : List (Addr × Obj)} {s : Shared} {σ : St} {H : Hp} {x : Str} {u : Value} {pos : Pos} {Q : Value → Shared → Prop} (I : Inv X pins σ H s) (hg : Gl X x) (hm : X.mg x = some u) (h : Q u s)
    (hd : (x == ("__debug__" : Str)) = false := by decide) : wpAny (model X.prog X.w) X.A (eval (.Name x pos) X.env) Q E s :=
  Calls.Name_function_global I.ok.kind hg (Calls.loadGlobal_global (by rw [I.ok.glob]; exact I.mod.glob.keeps I.bk) hm h) hd
theorem ld_blt {E : Value → Shared → Prop} {pins : List (Addr × Obj)} {s : Shared} {σ : St} {H : Hp} {x : Str} {u : Value} {pos : Pos} {Q : Value → Shared → Prop} (I : Inv X pins σ H s) (hg : Gl X x) (hm : X.mg x = none) (hv : bootBuiltins x = some u) (h : Q u s)
    (hn : x ≠ "__name__" := by decide) (hd : (x == ("__debug__" : Str)) = false := by decide) : wpAny (model X.prog X.w) X.A (eval (.Name x pos) X.env) Q E s := by
  obtain ⟨mb, h1, h2⟩ := I.mod.blt
  exact Calls.Name_function_global I.ok.kind hg (Calls.loadGlobal_builtin (by rw [I.ok.glob]; exact I.mod.glob.keeps I.bk) hm (by rw [I.ok.blt]; exact h1.keeps I.bk) ((h2 x hn).trans hv) h) hd
/-- a module's constant, a class, a function, as a value -/
theorem pe_glob {x : Str} {v : V} {u : Value} {pos : Pos} (hg : Gl X x) (hm : X.mg x = some u) (r : RelV v u) (hd : (x == ("__debug__" : Str)) = false := by decide) : PE X (.Name x pos) (tC v) :=
  fun _ _ _ H _ I h => ld_glob I hg hm ⟨v, H, I, r, h⟩ hd
theorem pe_bltn {x : Str} {v : V} {u : Value} {pos : Pos} (hg : Gl X x) (hm : X.mg x = none) (hv : bootBuiltins x = some u) (r : RelV v u) (hn : x ≠ "__name__" := by decide) (hd : (x == ("__debug__" : Str)) = false := by decide) : PE X (.Name x pos) (tC v) :=
  fun _ _ _ H _ I h => ld_blt I hg hm hv ⟨v, H, I, r, h⟩ hn hd

/-! ### arithmetic -/
/-- two ints -/
def t2I (ta tb : TE) (k : Int → Int → Hp → Prop) : St → Hp → Prop := fun σ H => ta σ H fun x H1 => tb σ H1 fun y H2 => ∃ i j, x = .int i ∧ y = .int j ∧ k i j H2
def tAdd (ta tb : TE) : TE := fun σ H Q => t2I ta tb (fun i j H2 => Q (.int (i + j)) H2) σ H
def tSub (ta tb : TE) : TE := fun σ H Q => t2I ta tb (fun i j H2 => Q (.int (i - j)) H2) σ H
/-- the left factor below 2^64 -/
def tMul (ta tb : TE) : TE := fun σ H Q => t2I ta tb (fun i j H2 => (-(2 ^ 64) < i ∧ i < 2 ^ 64) ∧ Q (.int (i * j)) H2) σ H
variable {a b : Expr} {ta tb : TE} {pos : Pos}
/-! ### comparisons -/
def PC (X : Cx) (op : CmpOp) (a b : Expr) (t : TE) : Prop :=
  ∀ (pins : List (Addr × Obj)) (s : Shared) (σ : St) (H : Hp) (Q : VK), Inv X pins σ H s → t σ H Q →
    wpAny (model X.prog X.w) X.A (eval a X.env) (fun v s₁ => wpAny (model X.prog X.w) X.A (eval b X.env) (fun u s₂ => wpAny (model X.prog X.w) X.A (compareOp op v u) (EP X pins σ Q) X.xe s₂) X.xe s₁) X.xe s
def tCmp (p : Int → Int → Bool) (ta tb : TE) : TE := fun σ H Q => t2I ta tb (fun i j H2 => Q (.bl (p i j)) H2) σ H
abbrev tLt : TE → TE → TE := tCmp fun i j => decide (i < j)
abbrev tLe : TE → TE → TE := tCmp fun i j => decide (i ≤ j)
abbrev tGt : TE → TE → TE := tCmp fun i j => decide (j < i)
abbrev tGe : TE → TE → TE := tCmp fun i j => decide (j ≤ i)
abbrev tEqI : TE → TE → TE := tCmp fun i j => decide (i = j)
abbrev tNeI : TE → TE → TE := tCmp fun i j => !decide (i = j)
/-- is None -/
def tIsN (ta : TE) : TE := fun σ H Q => ta σ H fun x H1 => Q (.bl (decide (x = .non))) H1
def tNotN (ta : TE) : TE := fun σ H Q => ta σ H fun x H1 => Q (.bl (!decide (x = .non))) H1
/-- a comparison as a value, as a test -/
def tB (t : TE) : TT := fun σ H Q => t σ H fun x H1 => ∃ c, x = .bl c ∧ Q c H1
/-- an expression whose value is a bool, as a test -/
theorem pt_val {e : Expr} {t : TE} (h : PE X e t) (he : ∀ whole, isTrue e X.env whole = (do let v ← whole; standAt e.pos; holding [v] (truthy v)) := by intro _; rfl) : PT X e (tB t) := by
  intro pins s σ H Q I hw
  refine isTrue_plain (thn (h pins s σ H _ I hw) fun v s1 ⟨x, H1, I1, r1, q1⟩ => ?_) (he _)
  obtain ⟨d, rfl, q⟩ := q1
  cases r1
  exact wpAny_truthy_bool ⟨H1, I1, q⟩

/-! ### and, or, not -/
variable {tA tB' : TT} {rest : List Expr}
def tAnd (t u : TT) : TT := fun σ H Q => t σ H fun c H1 => if c = true then u σ H1 Q else Q false H1
def tOr (t u : TT) : TT := fun σ H Q => t σ H fun c H1 => if c = true then Q true H1 else u σ H1 Q
def tNot (t : TT) : TT := fun σ H Q => t σ H fun c H1 => Q (!c) H1
theorem pw_or1 (ha : PT X a tA) : PW X (.BoolOp .Or [a] pos) tA := by
  intro wh pins s σ H Q I h
  refine isTrue_or (thn (ha pins s σ H Q I h) fun c s1 e => ?_)
  cases c with
  | false => exact isTrue_or_nil e
  | true => exact e
theorem pw_or (ha : PT X a tA) (hb : PW X (.BoolOp .Or (b :: rest) pos) tB') : PW X (.BoolOp .Or (a :: b :: rest) pos) (tOr tA tB') := by
  intro wh pins s σ H Q I h
  refine isTrue_or (thn (ha pins s σ H _ I h) fun c s1 ⟨H1, I1, q1⟩ => ?_)
  cases c with
  | true => exact ⟨H1, I1, q1⟩
  | false => exact hb wh pins s1 σ H1 Q I1 q1
theorem pt_not (ha : PT X a tA) : PT X (.UnaryOp .Not a pos) (tNot tA) := by
  intro pins s σ H Q I h
  exact isTrue_not (ha pins s σ H (fun c H1 => Q (!c) H1) I h)
/-- .. as values (bools) -/
def tAndV (ta tb : TE) : TE := fun σ H Q => ta σ H fun x H1 => ∃ c, x = .bl c ∧ if c = true then tb σ H1 Q else Q (.bl false) H1
def tOrV (ta tb : TE) : TE := fun σ H Q => ta σ H fun x H1 => ∃ c, x = .bl c ∧ if c = true then Q (.bl true) H1 else tb σ H1 Q
def tNotV (ta : TE) : TE := fun σ H Q => ta σ H fun x H1 => ∃ c, x = .bl c ∧ Q (.bl (!c)) H1
theorem pe_one {op} {t : TE} (h : PE X a t) : PE X (.BoolOp op [a] pos) t := fun pins s σ H Q I hw => BoolOp_one (h pins s σ H Q I hw)
theorem pe_and (ha : PE X a ta) (hb : PE X (.BoolOp .And (b :: rest) pos) tb) : PE X (.BoolOp .And (a :: b :: rest) pos) (tAndV ta tb) := by
  intro pins s σ H Q I h
  refine BoolOp_and (thn (ha pins s σ H _ I h) fun v s1 ⟨x, H1, I1, r1, q1⟩ => ?_)
  obtain ⟨c, rfl, q1⟩ := q1
  cases r1
  refine wpAny_truthy_bool ?_
  cases c with
  | true => exact hb pins s1 σ H1 Q I1 q1
  | false => exact ⟨.bl false, H1, I1, rfl, q1⟩
theorem pe_not (ha : PE X a ta) : PE X (.UnaryOp .Not a pos) (tNotV ta) := by
  intro pins s σ H Q I h
  refine UnaryOp_ (thn (ha pins s σ H _ I h) fun v s1 ⟨x, H1, I1, r1, q1⟩ => ?_)
  obtain ⟨c, rfl, q1⟩ := q1
  cases r1
  exact not_of (wpAny_truthy_bool ⟨.bl (!c), H1, I1, rfl, q1⟩)
/-- a if t else b -/
def tIf (t : TT) (ta tb : TE) : TE := fun σ H Q => t σ H fun c H1 => if c = true then ta σ H1 Q else tb σ H1 Q
theorem pe_ifExp {c : Expr} (hc : PT X c tA) (ha : PE X a ta) (hb : PE X b tb) : PE X (.IfExp c a b pos) (tIf tA ta tb) := by
  intro pins s σ H Q I h
  refine wpAny_IfExp (thn (hc pins s σ H _ I h) fun d s1 ⟨H1, I1, q1⟩ => ?_)
  cases d with
  | true => exact ha pins s1 σ H1 Q I1 q1
  | false => exact hb pins s1 σ H1 Q I1 q1
end
end L2

namespace L2
open PySem PySem.Spec PyProof.Rows

/-! ### a list, a tuple that is read: tracked, frozen, or an object of the module -/
def SqL (K : PySem.W.Frag) (H : Hp) (a : Addr) (xs : List V) : Prop :=
  Rd H a (.lst xs) ∨
    ∃ (o : Obj) (its : Array Value) (n : Nat), K.lookup a = some o ∧ o.cls = .type "list" ∧ o.dict = none ∧ o.data = .seq its n ∧ its.size ≤ sizeLine ∧ Vals xs its.toList
def SqT (K : PySem.W.Frag) (H : Hp) (a : Addr) (xs : List V) : Prop :=
  Rd H a (.tup xs) ∨
    ∃ (o : Obj) (its : Array Value) (n : Nat), K.lookup a = some o ∧ o.cls = .type "tuple" ∧ o.data = .seq its n ∧ its.size ≤ sizeLine ∧ Vals xs its.toList
def absV : Value → Option V
  | .none => some .non
  | .bool b => some (.bl b)
  | .int i _ => some (.int i)
  | .str x _ => some (.str x)
  | .bytes b _ => some (.byt b)
  | .float b _ => some (.flt b)
  | .ref a => some (.ref a)
  | .type n => some (.ty n)
  | _ => none
theorem RelV.abs {x : V} {u : Value} (r : RelV x u) : absV u = some x := by
  cases x with
  | non => cases r; rfl
  | bl _ => cases r; rfl
  | int _ => obtain ⟨t, rfl⟩ := r; rfl
  | str _ => obtain ⟨t, rfl⟩ := r; rfl
  | byt _ => obtain ⟨t, rfl⟩ := r; rfl
  | flt _ => obtain ⟨t, rfl⟩ := r; rfl
  | ref _ => cases r; rfl
  | ty _ => cases r; rfl
theorem RelV.inj {x y : V} {u : Value} (r : RelV x u) (q : RelV y u) : x = y := Option.some.inj (r.abs.symm.trans q.abs)
theorem Vals.inj : ∀ {xs ys : List V} {us : List Value}, Vals xs us → Vals ys us → xs = ys
  | _, _, _, .nil, .nil => rfl
  | _, _, _, .cons r t, .cons r' t' => by rw [r.inj r', Vals.inj t t']
section
variable {X : Cx} {pins : List (Addr × Obj)} {σ : St} {H : Hp} {s : Shared} {a : Addr} {xs ys : List V}
theorem SqL.of {K : PySem.W.Frag} (h : H a = some (.lst xs)) : SqL K H a xs := .inl (.inl h)
theorem SqT.of {K : PySem.W.Frag} (h : H a = some (.tup xs)) : SqT K H a xs := .inl (.inl h)
theorem Inv.list (I : Inv X pins σ H s) (h : SqL X.K H a xs) : ∃ its : List Value, Vals xs its ∧ PlainL s.heap a its.toArray ∧ xs.length ≤ sizeLine := by
  rcases h with h | ⟨o, its, n, hk, hc, hd, hs, hz, r⟩
  · obtain ⟨z, its, n, r, e⟩ := h.ok I.hok
    exact ⟨its, r, ⟨_, n, e, rfl, rfl, rfl⟩, z⟩
  · refine ⟨its.toList, r, ⟨o, n, I.kIn a o hk, hc, hd, by simpa using hs⟩, ?_⟩
    have e := r.length
    simp only [Array.length_toList] at e
    omega
theorem Inv.tuple (I : Inv X pins σ H s) (h : SqT X.K H a xs) : ∃ its : List Value, Vals xs its ∧ IsTup s.heap a its.toArray ∧ xs.length ≤ sizeLine := by
  rcases h with h | ⟨o, its, n, hk, hc, hs, hz, r⟩
  · obtain ⟨z, its, r, p⟩ := h.ok I.hok
    exact ⟨its, r, p, z⟩
  · refine ⟨its.toList, r, ⟨o, I.kIn a o hk, hc, n, by simpa using hs⟩, ?_⟩
    have e := r.length
    simp only [Array.length_toList] at e
    omega
theorem Inv.list_inj (I : Inv X pins σ H s) (h : SqL X.K H a xs) (h' : SqL X.K H a ys) : xs = ys := by
  obtain ⟨its, r, ⟨o, n, e, _, _, d⟩, _⟩ := I.list h
  obtain ⟨its', r', ⟨o', n', e', _, _, d'⟩, _⟩ := I.list h'
  rw [e] at e'; cases e'
  rw [d] at d'
  injection d' with d1 _
  have : its = its' := by simpa using congrArg Array.toList d1
  subst this
  exact r.inj r'
end

/-! ### another wish about exceptions -/
abbrev Cx.wish (X : Cx) (E : Value → Shared → Prop) : Cx := { X with xe := E }
/-- no exception leaves -/
abbrev Cx.nox (X : Cx) : Cx := X.wish fun _ _ => False
theorem Cx.Ok.wish {X : Cx} (ok : X.Ok) (E : Value → Shared → Prop) : (X.wish E).Ok :=
  ⟨ok.mod, ok.kind, ok.glob, ok.blt, ok.above, ok.inj, ok.has, ok.cab, ok.hd, ok.frames, ok.stk, ok.exf, ok.bs, ok.bsz, ok.noex, ok.exfs, ok.funs, ok.frf⟩
theorem Cx.Ok.unwish {X : Cx} {E : Value → Shared → Prop} (ok : (X.wish E).Ok) : X.Ok :=
  ⟨ok.mod, ok.kind, ok.glob, ok.blt, ok.above, ok.inj, ok.has, ok.cab, ok.hd, ok.frames, ok.stk, ok.exf, ok.bs, ok.bsz, ok.noex, ok.exfs, ok.funs, ok.frf⟩
section
variable {X : Cx} {pins : List (Addr × Obj)} {σ : St} {H : Hp} {s : Shared} {E : Value → Shared → Prop}
theorem Inv.wish (I : Inv X pins σ H s) (E : Value → Shared → Prop) : Inv (X.wish E) pins σ H s := ⟨I.ok.wish E, I.os, I.bare, I.base, I.loc, I.cell, I.free, I.freeC, I.pin, I.hok, I.len⟩
theorem Inv.unwish (I : Inv (X.wish E) pins σ H s) : Inv X pins σ H s := ⟨I.ok.unwish, I.os, I.bare, I.base, I.loc, I.cell, I.free, I.freeC, I.pin, I.hok, I.len⟩
theorem SP.unwish {D : Ends} {f : Flow} {s' : Shared} (h : SP (X.wish E) pins D f s') : SP X pins D f s' := by
  cases f with
  | next => obtain ⟨σ', H', I, q⟩ := h; exact ⟨σ', H', I.unwish, q⟩
  | brk => obtain ⟨σ', H', I, q⟩ := h; exact ⟨σ', H', I.unwish, q⟩
  | cont => obtain ⟨σ', H', I, q⟩ := h; exact ⟨σ', H', I.unwish, q⟩
  | ret u => obtain ⟨v, σ', H', I, r, q⟩ := h; exact ⟨v, σ', H', I.unwish, r, q⟩
theorem PSs.nox {st : List Stmt} {t : TS} (h : PSs X.nox st t) : PSs X st t := fun pins s σ H D I hw =>
  wpAny_mono (h pins s σ H D (I.wish _) hw) (fun _ _ q => q.unwish) fun _ _ z => False.elim z
end

/-! ### blocks and small statements -/
section
variable {X : Cx} {st : Stmt} {rest : List Stmt} {t u : TS} {e : Expr} {te : TE} {pos : Pos}
def tNext : TS := fun D σ H => D.nx σ H
def tSeq (t u : TS) : TS := fun D σ H => t { D with nx := u D } σ H
theorem pss_nil : PSs X [] tNext := fun _ _ σ H _ I h => wpAny_execs_nil ⟨σ, H, I, h⟩
theorem pss_cons (h1 : PS X st t) (h2 : PSs X rest u) : PSs X (st :: rest) (tSeq t u) := by
  intro pins s σ H D I h
  refine wpAny_execs_cons (thn (h1 pins s σ H { D with nx := u D } I h) fun f s1 q => ?_)
  cases f with
  | next =>
    obtain ⟨σ', H', I', q⟩ := q
    exact h2 pins s1 σ' H' D I' q
  | ret v => exact q
  | brk => exact q
  | cont => exact q
theorem pss_one (h1 : PS X st t) : PSs X [st] t := by
  intro pins s σ H D I h
  refine wpAny_execs_cons (thn (h1 pins s σ H D I h) fun f s1 q => ?_)
  cases f with
  | next => exact wpAny_execs_nil q
  | ret v => exact q
  | brk => exact q
  | cont => exact q
def tBreak : TS := fun D σ H => D.bk σ H
def tCont : TS := fun D σ H => D.ct σ H
/-- in a def's body nothing is shown -/
theorem Inv.quiet {pins : List (Addr × Obj)} {σ : St} {H : Hp} {s : Shared} (I : Inv X pins σ H s) : interactive X.env = false := by simp [interactive, I.ok.kind]
/-- an expression whose value is dropped -/
def tDrop (te : TE) : TS := fun D σ H => te σ H fun _ H1 => D.nx σ H1
theorem ps_expr (he : PE X e te) (hs : swapsWith e none pos.line X.env = pure false := by rfl) : PS X (.Expr e pos) (tDrop te) := by
  intro pins s σ H D I h
  exact wpAny_Expr_any (thn (he pins s σ H _ I h) fun v s1 ⟨x, H1, I1, r1, q1⟩ => ⟨σ, H1, I1, q1⟩) I.quiet hs
def tRet (te : TE) : TS := fun D σ H => te σ H D.rt
theorem ps_ret (he : PE X e te) : PS X (.Return (some e) pos) (tRet te) := by
  intro pins s σ H D I h
  exact wpAny_Return_some (thn (he pins s σ H _ I h) fun v s1 ⟨x, H1, I1, r1, q1⟩ => ⟨x, σ, H1, I1, r1, q1⟩)
def tRetN : TS := fun D _ H => D.rt .non H
def tIfS (c : TT) (t u : TS) : TS := fun D σ H => c σ H fun b H1 => if b = true then t D σ H1 else u D σ H1
theorem ps_if {c : Expr} {a b : List Stmt} {tc : TT} (hc : PT X c tc) (ha : PSs X a t) (hb : PSs X b u) : PS X (.If c a b pos) (tIfS tc t u) := by
  intro pins s σ H D I h
  refine wpAny_If (thn (hc pins s σ H _ I h) fun d s1 ⟨H1, I1, q1⟩ => ?_)
  cases d with
  | true => exact ha pins s1 σ H1 D I1 q1
  | false => exact hb pins s1 σ H1 D I1 q1
/-- code that the proof never comes to -/
def tNever : TS := fun _ _ _ => False
theorem ps_never : PS X st tNever := fun _ _ _ _ _ _ h => h.elim
end

/-! ### targets -/
abbrev TG := V → St → Hp → (St → Hp → Prop) → Prop
abbrev TGs := List V → St → Hp → (St → Hp → Prop) → Prop
def PG (X : Cx) (target : Expr) (t : TG) : Prop :=
  ∀ (pins : List (Addr × Obj)) (s : Shared) (σ : St) (H : Hp) (v : V) (u : Value) (Q : St → Hp → Prop), Inv X pins σ H s → RelV v u → t v σ H Q →
    wpAny (model X.prog X.w) X.A (assign target X.env u) (fun _ s' => ∃ σ' H', Inv X pins σ' H' s' ∧ Q σ' H') X.xe s
/-- several targets, one after another -/
def PGs (X : Cx) (ts : List Expr) (t : TGs) : Prop :=
  ∀ (pins : List (Addr × Obj)) (s : Shared) (σ : St) (H : Hp) (vs : List V) (us : List Value) (Q : St → Hp → Prop), Inv X pins σ H s → Vals vs us → t vs σ H Q →
    wpAny (model X.prog X.w) X.A (assignInOrder ((assignEach ts X.env).map (·.2)) us) (fun _ s' => ∃ σ' H', Inv X pins σ' H' s' ∧ Q σ' H') X.xe s
/-- o[i] = v, by values -/
abbrev TSet := V → V → V → Hp → (Hp → Prop) → Prop
def PSet (X : Cx) (t : TSet) : Prop :=
  ∀ (pins : List (Addr × Obj)) (s : Shared) (σ : St) (H : Hp) (o i v : V) (ov iv u : Value) (Q : Hp → Prop), Inv X pins σ H s → RelV o ov → RelV i iv → RelV v u → t o i v H Q →
    wpAny (model X.prog X.w) X.A (setItem ov iv u) (fun _ s' => ∃ H', Inv X pins σ H' s' ∧ Q H') X.xe s
/-- a op= b, by values -/
abbrev TIp := V → V → Hp → VK → Prop
def PIp (X : Cx) (op : Operator) (t : TIp) : Prop :=
  ∀ (pins : List (Addr × Obj)) (s : Shared) (σ : St) (H : Hp) (x y : V) (v u : Value) (Q : VK), Inv X pins σ H s → RelV x v → RelV y u → t x y H Q →
    wpAny (model X.prog X.w) X.A (inplaceOp op v u) (EP X pins σ Q) X.xe s
section
variable {X : Cx} {pos : Pos}
def gName (i : Nat) : TG := fun v σ H Q => Q (σ.set i (some v)) H
theorem pg_name {i : Nat} {x : Str} (hN : X.N.Nodup) (hi : X.N[i]? = some x) (hx : Loc X.env.scope x) (hf : X.fn x = true ∨ X.env.scope.names.lookup x = some .local := by first | exact .inl rfl | exact .inr rfl | assumption) : PG X (.Name x pos) (gName i) := by
  intro pins s σ H v u Q I r h
  exact wpAny_assign_Name (store_ok I hN hi hx r (fun s' I' => ⟨_, H, I', h⟩) hf)
def gNil : TGs := fun vs σ H Q => vs = [] ∧ Q σ H
def gCons (t : TG) (u : TGs) : TGs := fun vs σ H Q => ∃ v r, vs = v :: r ∧ t v σ H fun σ' H' => u r σ' H' Q
theorem pgs_nil : PGs X [] gNil := by
  intro pins s σ H vs us Q I r h
  obtain ⟨e, h⟩ := h
  subst e
  cases r
  exact assignInOrder_nil ⟨σ, H, I, h⟩
theorem pgs_cons {e : Expr} {es : List Expr} {t : TG} {u : TGs} (h1 : PG X e t) (h2 : PGs X es u)
    (hs : (assignEach (e :: es) X.env).map (·.2) = assign e X.env :: (assignEach es X.env).map (·.2) := by rfl) : PGs X (e :: es) (gCons t u) := by
  intro pins s σ H vs us Q I r h
  obtain ⟨v, vr, e1, h⟩ := h
  subst e1
  cases r with
  | cons r rr =>
    rw [hs]
    refine assignInOrder_cons (thn (h1 pins s σ H _ _ _ I r h) fun _ s1 ⟨σ1, H1, I1, q1⟩ => ?_)
    exact h2 pins s1 σ1 H1 _ _ Q I1 rr q1
/-- (a, b, ..) = a tuple of that length -/
def gTup (K : PySem.W.Frag) (n : Nat) (t : TGs) : TG := fun v σ H Q => ∃ a xs, v = .ref a ∧ SqT K H a xs ∧ xs.length = n ∧ t xs σ H Q
theorem pg_tup {es : List Expr} {k : Nat} {t : TGs} {n : Nat} (hc : X.calm = true) (h : PGs X es t)
    (hn : (assignEach es X.env).length = n := by rfl) (hst : (assignEach es X.env).findIdx? (·.1) = none := by rfl) : PG X (.Tuple es k pos) (gTup X.K n t) := by
  intro pins s σ H v u Q I r hw
  obtain ⟨a, xs, e1, hq, hl, hw⟩ := hw
  subst e1
  cases r
  obtain ⟨its, rv, ht, hz⟩ := I.tuple hq
  refine assign_Tuple_tuple (I.ok.hd hc) ht (by simp [hn, ← hl, rv.length]) hst fun h' hx => ?_
  have I1 : Inv X pins σ H { s with heap := h' } := I.kept (t' := s.toks) fun b o e => hx b o (Nat.ne_of_lt (Heap.lt_size e)) e
  exact h pins _ σ H xs _ Q I1 (by simpa using rv) hw
/-- o[i] = .. -/
def gSub (to ti : TE) (t : TSet) : TG := fun v σ H Q => to σ H fun o H1 => ti σ H1 fun i H2 => t o i v H2 fun H3 => Q σ H3
theorem pg_sub {o i : Expr} {to ti : TE} {t : TSet} (ho : PE X o to) (hi : PE X i ti) (hs : PSet X t)
    (ha : ∀ v, assign (.Subscript o i pos) X.env v = (do
      let ov ← holding [v] (eval o X.env)
      let iv ← holding [v, ov] (eval i X.env)
      standAt pos
      holding [v, ov, iv] (setItem ov iv v)
      release [v, ov, iv] []) := by intro _; rfl) : PG X (.Subscript o i pos) (gSub to ti t) := by
  intro pins s σ H v u Q I r h
  rw [ha]
  refine wpAny_bind (wpAny_holding (thn (ho pins s σ H _ I h) fun ov s1 ⟨x, H1, I1, r1, q1⟩ => ?_))
  refine wpAny_bind (wpAny_holding (thn (hi pins s1 σ H1 _ I1 q1) fun iv s2 ⟨y, H2, I2, r2, q2⟩ => ?_))
  refine wpAny_bind (wpAny_standAt (wpAny_bind (wpAny_holding (thn (hs pins s2 σ H2 x y v ov iv u _ I2 r1 r2 r q2) fun _ s3 ⟨H3, I3, q3⟩ => ?_))))
  exact wpAny_release ⟨σ, H3, I3, q3⟩
/-- target = value -/
def tAsg (te : TE) (g : TG) : TS := fun D σ H => te σ H fun x H1 => g x σ H1 D.nx
theorem ps_asg {tg e : Expr} {te : TE} {g : TG} (he : PE X e te) (hg : PG X tg g) (hs : swapsWithSole [tg] e pos.line X.env = pure false := by rfl) (hw : swappedStores [tg] e X.env = pure none := by rfl)
    (h1 : (assignEach [tg] X.env).map (·.2) = [assign tg X.env] := by rfl) : PS X (.Assign [tg] e pos) (tAsg te g) := by
  intro pins s σ H D I h
  refine wpAny_Assign_stores (thn (he pins s σ H _ I h) fun v s1 ⟨x, H1, I1, r1, q1⟩ => ?_) hs hw
  rw [h1]
  exact thn (hg pins s1 σ H1 x v _ I1 r1 q1) fun _ s2 q => q
/-- name = value -/
theorem ps_set {i : Nat} {x : Str} {e : Expr} {te : TE} {pos' : Pos} (hN : X.N.Nodup) (hi : X.N[i]? = some x) (hx : Loc X.env.scope x) (he : PE X e te) (hs : swapsWith e (some (.Name x pos')) pos.line X.env = pure false := by rfl) (hf : X.fn x = true ∨ X.env.scope.names.lookup x = some .local := by first | exact .inl rfl | exact .inr rfl | assumption) :
    PS X (.Assign [.Name x pos'] e pos) (tAsg te (gName i)) := by
  intro pins s σ H D I h
  refine wpAny_Assign_Name (thn (he pins s σ H _ I h) fun v s1 ⟨y, H1, I1, r1, q1⟩ => ?_) hs
  exact store_ok I1 hN hi hx r1 (fun s2 I2 => ⟨_, H1, I2, q1⟩) hf
/-- a, b = x, y with plain local names: stored from the right; the pair itself is not tracked (the opening rows as in PyProof/Rows/TupAssign.lean:23) -/
def tPar (i j : Nat) (ta : TA) : TS := fun D σ H => ta σ H fun vs H1 => ∃ v w, vs = [v, w] ∧ D.nx ((σ.set i (some v)).set j (some w)) H1
/-- name op= e -/
def tAug (i : Nat) (te : TE) (ti : TIp) : TS := fun D σ H => ∃ x, σ[i]? = some (some x) ∧ te σ H fun y H1 => ti x y H1 fun z H2 => D.nx (σ.set i (some z)) H2
/-- o[i] op= e -/
def tAugS (to ti te : TE) (tget : V → V → Hp → VK → Prop) (tip : TIp) (tset : TSet) : TS := fun D σ H => to σ H fun o H1 => ti σ H1 fun i H2 => tget o i H2 fun x H3 => te σ H3 fun y H4 => tip x y H4 fun z H5 => tset o i z H5 fun H6 => D.nx σ H6
/-- o[i], by values -/
def PGet (X : Cx) (t : V → V → Hp → VK → Prop) : Prop :=
  ∀ (pins : List (Addr × Obj)) (s : Shared) (σ : St) (H : Hp) (o i : V) (ov iv : Value) (Q : VK), Inv X pins σ H s → RelV o ov → RelV i iv → t o i H Q →
    wpAny (model X.prog X.w) X.A (getItem ov iv) (EP X pins σ Q) X.xe s
theorem ps_augS {o i e : Expr} {to ti te : TE} {tget : V → V → Hp → VK → Prop} {tip : TIp} {tset : TSet} {op : Operator} {tpos : Pos} (ho : PE X o to) (hi : PE X i ti) (hg : PGet X tget) (he : PE X e te) (hp : PIp X op tip) (hs : PSet X tset)
    (ha : ∀ ov iv new, augStore i ov iv new = (do holding [new, ov, iv] (setItem ov iv new); release [new, ov, iv] []; pure .next) := by intros; rfl) : PS X (.AugAssign (.Subscript o i tpos) op e pos) (tAugS to ti te tget tip tset) := by
  intro pins s σ H D I h
  refine wpAny_AugAssign_SubscriptAny (thn (ho pins s σ H _ I h) fun ov s1 ⟨x1, H1, I1, r1, q1⟩ => ?_) ha
  refine thn (hi pins s1 σ H1 _ I1 q1) fun iv s2 ⟨x2, H2, I2, r2, q2⟩ => ?_
  refine thn (hg pins s2 σ H2 x1 x2 ov iv _ I2 r1 r2 q2) fun old s3 ⟨x3, H3, I3, r3, q3⟩ => ?_
  refine thn (he pins s3 σ H3 _ I3 q3) fun v s4 ⟨x4, H4, I4, r4, q4⟩ => ?_
  refine thn (hp pins s4 σ H4 x3 x4 old v _ I4 r3 r4 q4) fun new s5 ⟨x5, H5, I5, r5, q5⟩ => ?_
  exact thn (hs pins s5 σ H5 x1 x2 x5 ov iv new _ I5 r1 r2 r5 q5) fun _ s6 ⟨H6, I6, q6⟩ => ⟨σ, H6, I6, q6⟩
/-- ints -/
def ipI (f : Int → Int → Int) : TIp := fun x y H Q => ∃ i j, x = .int i ∧ y = .int j ∧ Q (.int (f i j)) H
theorem ip_add : PIp X .Add (ipI fun i j => i + j) := by
  intro pins s σ H x y v u Q I r1 r2 h
  obtain ⟨i, j, e1, e2, q⟩ := h
  subst e1; subst e2
  obtain ⟨t, rfl⟩ := r1
  obtain ⟨t', rfl⟩ := r2
  exact iadd_int ⟨.int _, H, I.tok _, ⟨_, rfl⟩, q⟩
end

/-! ### while -/
section
variable {X : Cx} {pos : Pos}
/-- the invariant W with its measure -/
def tWhile (c : TT) (tb : TS) : TS := fun D σ H => ∃ W : Nat → St → Hp → Prop, (∃ m, W m σ H) ∧ ∀ m σ H, W m σ H →
  c σ H fun b H1 => if b = true then ∃ N : St → Hp → Prop, (∀ σ' H', N σ' H' → ∃ m', m' < m ∧ W m' σ' H') ∧ tb { D with nx := N, ct := N, bk := D.nx } σ H1 else D.nx σ H1
end

/-! ### what a loop or a comprehension walks -/
/-- at turn i: it yields x (the heap may grow), or it stops -/
structure It where
  go : Nat → Hp → Prop
  yld : Nat → Hp → V → Hp → Prop
  stop : Nat → Hp → Prop
/-- the iterator's own objects may turn: they are not the frame's, not pinned, younger than the entry (or a comprehension's own) -/
def FpOk (X : Cx) (pins : List (Addr × Obj)) (H : Hp) (b : Addr) : Prop :=
  H b = none ∧ b ≠ X.env.locals ∧ b ∉ X.fs ∧ (b ∈ X.ex ∨ X.s₀.heap.objs.size ≤ b) ∧ (∀ x c, X.env.cells.lookup x = some c → c ≠ b) ∧ ∀ p ∈ X.pn ++ pins, p.1 ≠ b
theorem Inv.fpOk {X : Cx} {pins : List (Addr × Obj)} {σ : St} {H H' : Hp} {s : Shared} {b : Addr} (I : Inv X pins σ H s) (hb : s.heap.objs.size ≤ b) (hn : H' b = none) : FpOk X pins H' b := by
  refine ⟨hn, Nat.ne_of_gt (Nat.lt_of_lt_of_le I.lt hb), I.nofs hb, .inr (Nat.le_trans I.sz hb), fun x c e z => ?_, fun p hp z => ?_⟩
  · obtain ⟨v, q⟩ := I.cell x c e
    exact absurd (Nat.lt_of_lt_of_le q.lt (by rw [z]; exact hb)) (Nat.lt_irrefl _)
  · exact absurd (Nat.lt_of_lt_of_le (Heap.lt_size (I.pin p hp).1) (by rw [z]; exact hb)) (Nat.lt_irrefl _)
structure Turn (P : Program) (w : World) (K : PySem.W.Frag) (tg : Expr) (J : It) (fp : List Addr) (it : Addr) (tn : Nat → Heap → Prop) : Prop where
  mem : it ∈ fp
  obj : ∀ i h, tn i h → ∀ b ∈ fp, ∃ o, h.get? b = some o ∧ ∀ v, o.data ≠ .cell v
  keep : ∀ i h h', tn i h → (∀ b ∈ fp, ∀ o, h.get? b = some o → h'.get? b = some o) → tn i h'
  item : ∀ (X : Cx), X.prog = P → X.w = w → X.K = K → X.calm = true → ∀ (i : Nat) (pins : List (Addr × Obj)) (s : Shared) (σ : St) (H : Hp) (E : Value → Shared → Prop), Inv X pins σ H s → (∀ b ∈ fp, FpOk X pins H b) → tn i s.heap → J.go i H →
    wpAny (model P w) X.A (pyNext (.ref it)) (fun r s1 => ∃ u, r = some u ∧
      wpAny (model P w) X.A (letOwnedTupleGo tg (.ref it) u) (fun _ s2 => ∃ x H', Inv X pins σ H' s2 ∧ RelV x u ∧ J.yld i H x H' ∧ tn (i + 1) s2.heap ∧ ∀ b ∈ fp, H' b = none) E s1) E s
  done : ∀ (X : Cx), X.prog = P → X.w = w → X.K = K → X.calm = true → ∀ (i : Nat) (pins : List (Addr × Obj)) (s : Shared) (σ : St) (H : Hp) (E : Value → Shared → Prop), Inv X pins σ H s → (∀ b ∈ fp, FpOk X pins H b) → tn i s.heap → J.stop i H →
    wpAny (model P w) X.A (pyNext (.ref it)) (fun r s1 => r = none ∧ Inv X pins σ H s1) E s
  self : ∀ (A : Around) (i : Nat) (s : Shared) (Q : Value → Shared → Prop) (E : Value → Shared → Prop), tn i s.heap → Q (.ref it) s → wpAny (model P w) A (pyIter (.ref it)) Q E s
abbrev TI := St → Hp → (It → Hp → Prop) → Prop
/-- an iterator has come -/
def PIE (X : Cx) (pins : List (Addr × Obj)) (σ : St) (tg : Expr) (R : It → Hp → Prop) (itv : Value) (s2 : Shared) : Prop :=
  ∃ (it : Addr) (fp : List Addr) (tn : Nat → Heap → Prop) (J : It) (H' : Hp), itv = .ref it ∧ Inv X pins σ H' s2 ∧ Turn X.prog X.w X.K tg J fp it tn ∧ tn 0 s2.heap ∧ (∀ b ∈ fp, FpOk X pins H' b) ∧ R J H'
def PI (X : Cx) (tg iter : Expr) (wi : TI) : Prop :=
  ∀ (pins : List (Addr × Obj)) (s : Shared) (σ : St) (H : Hp) (R : It → Hp → Prop), Inv X pins σ H s → wi σ H R →
    wpAny (model X.prog X.w) X.A (eval iter X.env) (fun v s1 => wpAny (model X.prog X.w) X.A (pyIter v) (PIE X pins σ tg R) X.xe s1) X.xe s

/-- the step ahead of the store is nothing for an iterator that keeps no tuple -/
theorem go_of {M : Model} {A : Around} {E : Value → Shared → Prop} {s : Shared} {tg : Expr} {it : Addr} {u : Value} {o : Obj} {n : String} {vs : Array Value} {Q : Unit → Shared → Prop} (ho : s.heap.get? it = some o) (hc : o.cls = .type n) (hd : o.data = .fields vs)
    (hn : ["enumerate", "zip", "dict_itemiterator", "dict_reverseitemiterator", "odict_iterator", "itertools.zip_longest", "itertools.pairwise"].contains n = false) (hQ : Q () s) : wpAny M A (letOwnedTupleGo tg (.ref it) u) Q E s := by
  unfold letOwnedTupleGo
  cases tg <;> first
    | exact wpAny_pure hQ
    | (cases u <;> first
        | exact wpAny_pure hQ
        | (refine wpAny_bind (wpAny_load ho ?_)
           rw [hc, hd]
           show wpAny M A (if (["enumerate", "zip", "dict_itemiterator", "dict_reverseitemiterator", "odict_iterator", "itertools.zip_longest", "itertools.pairwise"].contains n && vs[0]? == some (rawInt _)) = true then _ else _) Q E s
           rw [if_neg (by intro h; rw [hn, Bool.false_and] at h; cases h)]
           exact wpAny_pure hQ))

/-- the list at a, as it stands at each turn (a loop may append to it) -/
def Itl (K : PySem.W.Frag) (a : Addr) : It :=
  ⟨fun i H => ∃ xs x, SqL K H a xs ∧ xs[i]? = some x, fun i H x H' => H' = H ∧ ∀ xs, SqL K H a xs → xs[i]? = some x, fun i H => ∃ xs, SqL K H a xs ∧ xs.length ≤ i⟩
def Itt (K : PySem.W.Frag) (a : Addr) : It :=
  ⟨fun i H => ∃ xs x, SqT K H a xs ∧ xs[i]? = some x, fun i H x H' => H' = H ∧ ∀ xs, SqT K H a xs → xs[i]? = some x, fun i H => ∃ xs, SqT K H a xs ∧ xs.length ≤ i⟩
/-- lo, lo + 1, .. (n of them) -/
def Itr (lo : Int) (n : Nat) : It := ⟨fun i _ => i < n, fun i H x H' => H' = H ∧ x = .int (lo + i), fun i _ => n ≤ i⟩
theorem turn_list {P : Program} {w : World} {K : PySem.W.Frag} {tg : Expr} (a it : Addr) : Turn P w K tg (Itl K a) [it] it (fun i h => h.IsListIter it a i) where
  mem := by simp
  obj := fun i h st b hb => by
    have e : b = it := by simpa using hb
    subst e
    obtain ⟨o, e, c, d⟩ := st
    exact ⟨o, e, fun v z => by rw [d] at z; cases z⟩
  keep := fun i h h' st k => st.at fun o e => k it (by simp) o e
  item := by
    intro X hP hw hK hc i pins s σ H E I hf st hg
    subst hP hw hK
    obtain ⟨xs, x, hq, hx⟩ := hg
    obtain ⟨its, rv, p, hz⟩ := I.list hq
    obtain ⟨u, hu, ru⟩ := rv.get hx
    obtain ⟨f0, f1, f2, f3, f4, f5⟩ := hf it (by simp)
    refine wpAny_pyNext_list_item st p.isList (x := u) (by simpa using hu) fun h' st' sb => ?_
    have I1 : Inv X pins σ H { s with heap := h' } := I.turned (t' := s.toks) (fun b o hb e => (sb.2 b hb).trans e) f0 f1 f3 f4 f5
    obtain ⟨o, e, c, d⟩ := id st'
    exact ⟨u, rfl, go_of (s := { s with heap := h' }) e c d (by decide) ⟨x, H, I1, ru, ⟨rfl, fun ys hy => by rw [I.list_inj hy hq]; exact hx⟩, st', fun b hb => (hf b hb).1⟩⟩
  done := by
    intro X hP hw hK hc i pins s σ H E I hf st hg
    subst hP hw hK
    obtain ⟨xs, hq, hx⟩ := hg
    obtain ⟨its, rv, p, hz⟩ := I.list hq
    obtain ⟨f0, f1, f2, f3, f4, f5⟩ := hf it (by simp)
    have hl := rv.length
    exact wpAny_pyNext_list_end (I.ok.hd hc) st p.isList (by simp; omega) fun h' eb => ⟨rfl, I.turned (t' := s.toks) (fun b o hb e => eb b o hb e) f0 f1 f3 f4 f5⟩
  self := fun _ _ _ _ _ st h => wpAny_pyIter_listiter st h
theorem turn_range {P : Program} {w : World} {K : PySem.W.Frag} {tg : Expr} (it : Addr) (lo : Int) (n : Nat) : Turn P w K tg (Itr lo n) [it] it (fun i h => IsRangeIter h it (lo + (i : Nat) * 1) ((n : Int) - (i : Nat)) 1) where
  mem := by simp
  obj := fun i h st b hb => by
    have e : b = it := by simpa using hb
    subst e
    exact ⟨_, st, fun v z => by
      have z' : Data.fields _ = Data.cell v := z
      cases z'⟩
  keep := fun i h h' st k => k it (by simp) _ st
  item := by
    intro X hP hw hK hc i pins s σ H E I hf st hg
    subst hP hw hK
    obtain ⟨f0, f1, f2, f3, f4, f5⟩ := hf it (by simp)
    have W := Walks.range (prog := X.prog) (w := X.w) (I.ok.hd hc) it lo 1 n
    refine W.item i s _ _ hg st fun v h' tk hv st' kk => ?_
    obtain ⟨t, rfl⟩ := hv
    have I1 : Inv X pins σ H { s with heap := h', toks := tk } := I.turned (fun b o hb e => kk b o (by simpa using hb) e) f0 f1 f3 f4 f5
    refine ⟨_, rfl, go_of (s := { s with heap := h', toks := tk }) (n := "range_iterator") st' rfl rfl (by decide) ⟨.int (lo + i), H, I1, ⟨t, ?_⟩, ⟨rfl, rfl⟩, st', fun b hb => (hf b hb).1⟩⟩
    rw [Int.mul_one]
  done := by
    intro X hP hw hK hc i pins s σ H E I hf st hg
    subst hP hw hK
    obtain ⟨f0, f1, f2, f3, f4, f5⟩ := hf it (by simp)
    exact wpAny_pyNext_range_end (I.ok.hd hc) st (by have : n ≤ i := hg; omega) fun h' eb => ⟨rfl, I.turned (t' := s.toks) (fun b o hb e => eb b o hb e) f0 f1 f3 f4 f5⟩
  self := fun _ _ _ _ _ st h => wpAny_pyIter_rangeiter st h
end L2

namespace L2
open PySem PySem.Spec PyProof.Rows
section
variable {X : Cx} {tg : Expr}
def iList (K : PySem.W.Frag) (tl : TE) : TI := fun σ H R => tl σ H fun x H1 => ∃ a, x = .ref a ∧ (∃ xs, SqL K H1 a xs) ∧ R (Itl K a) H1
def iTup (K : PySem.W.Frag) (tl : TE) : TI := fun σ H R => tl σ H fun x H1 => ∃ a, x = .ref a ∧ (∃ xs, SqT K H1 a xs) ∧ R (Itt K a) H1
theorem pi_list {l : Expr} {tl : TE} (hl : PE X l tl) : PI X tg l (iList X.K tl) := by
  intro pins s σ H R I h
  refine thn (hl pins s σ H _ I h) fun v s1 ⟨x, H1, I1, r1, q1⟩ => ?_
  obtain ⟨a, e, ⟨xs, hq⟩, q⟩ := q1
  subst e
  cases r1
  obtain ⟨its, rv, p, hz⟩ := I1.list hq
  refine wpAny_pyIter_list p.isList ?_
  refine ⟨s1.heap.objs.size, [s1.heap.objs.size], _, _, H1, rfl, I1.kept (t' := s1.toks) fun b o e => Heap.get?_push_of_some _ e, turn_list a _, ⟨_, Heap.get?_push_size _ rfl, rfl, rfl⟩, fun b hb => ?_, q⟩
  have e : b = s1.heap.objs.size := by simpa using hb
  subst e
  exact I1.fpOk (Nat.le_refl _) (I1.hok.fresh (Nat.le_refl _))
/-- a range object just made, walked -/
theorem range_it {pins : List (Addr × Obj)} {σ : St} {H : Hp} {s : Shared} {R : It → Hp → Prop} {E : Value → Shared → Prop} {lo hi : Int} {t u v : Tok} {tk : Nat} (I : Inv X pins σ H s) (h1 : -(2 ^ 62) ≤ lo) (h2 : lo < 2 ^ 62) (h3 : -(2 ^ 62) ≤ hi) (h4 : hi < 2 ^ 62)
    (q : R (Itr lo (hi - lo).toNat) H) : wpAny (model X.prog X.w) X.A (pyIter (.ref s.heap.objs.size)) (PIE X pins σ tg R) E { s with heap := s.heap.push { cls := .type "range", data := .fields #[.int lo t, .int hi u, .int 1 v] }, toks := tk } := by
  refine wpAny_pyIter_range (IsRange.new ..) (small_one h1 h2 h3 h4) ?_
  have I1 : Inv X pins σ H { s with heap := s.heap.push { cls := .type "range", data := .fields #[.int lo t, .int hi u, .int 1 v] }, toks := tk } := I.kept fun b o e => Heap.get?_push_of_some _ e
  refine ⟨(s.heap.push { cls := .type "range", data := .fields #[.int lo t, .int hi u, .int 1 v] }).objs.size, [(s.heap.push { cls := .type "range", data := .fields #[.int lo t, .int hi u, .int 1 v] }).objs.size], _, _, H, rfl,
    I1.kept (t' := tk) fun b o e => Heap.get?_push_of_some _ e, turn_range _ lo (hi - lo).toNat, ?_, fun b hb => ?_, q⟩
  · have e1 : lo + ((0 : Nat) : Int) * 1 = lo := by simp
    have e2 : (((hi - lo).toNat : Nat) : Int) - ((0 : Nat) : Int) = Builtin.Range.rangeSize lo hi 1 := by rw [rangeSize_one]; split <;> omega
    show IsRangeIter _ _ (lo + ((0 : Nat) : Int) * 1) ((((hi - lo).toNat : Nat) : Int) - ((0 : Nat) : Int)) 1
    rw [e1, e2]
    exact Heap.get?_push_size _ rfl
  · have e : b = (s.heap.push { cls := .type "range", data := .fields #[.int lo t, .int hi u, .int 1 v] }).objs.size := by simpa using hb
    subst e
    exact I1.fpOk (Nat.le_refl _) (I1.hok.fresh (Nat.le_refl _))
def iRng1 (ta : TA) : TI := fun σ H R => ta σ H fun vs H1 => ∃ j : Int, vs = [.int j] ∧ -(2 ^ 62) ≤ j ∧ j < 2 ^ 62 ∧ R (Itr 0 j.toNat) H1
def iRng2 (ta : TA) : TI := fun σ H R => ta σ H fun vs H1 => ∃ i j : Int, vs = [.int i, .int j] ∧ (-(2 ^ 62) ≤ i ∧ i < 2 ^ 62 ∧ -(2 ^ 62) ≤ j ∧ j < 2 ^ 62) ∧ R (Itr i (j - i).toNat) H1
theorem pi_range1 {a : Expr} {ta : TA} {p pos : Pos} (hg : Gl X "range") (hm : X.mg "range" = none) (ha : PA X [a] ta) (hs : starEach [a] X.env = [(false, eval a X.env)] := by rfl) : PI X tg (.Call (.Name "range" p) [a] [] pos) (iRng1 ta) := by
  intro pins s σ H R I h
  refine Call_ (ld_blt I hg hm boot_range (PyProof.Rows.callWith_type1 (thn (ha pos pins s σ H _ I h) fun us s1 ⟨vs, H1, I1, r1, q1⟩ => ?_) hs rfl))
  obtain ⟨j, e, q1, q2, q⟩ := q1
  subst e
  cases r1 with
  | cons r rr =>
    cases rr
    obtain ⟨t, rfl⟩ := r
    exact call_range_1 (range_it I1 (by omega) (by omega) q1 q2 (by simpa using q))
/-! ### for -/
/-- W: the invariant by the turn and a measure; N: what the body is to reach -/
def tFor (wi : TI) (g : TG) (tb : TS) : TS := fun D σ H => wi σ H fun J H1 => ∃ W : Nat → Nat → St → Hp → Prop, (∃ m, W 0 m σ H1) ∧ ∀ i m σ H, W i m σ H →
  (J.stop i H ∧ D.nx σ H) ∨ (J.go i H ∧ ∃ N : St → Hp → Prop, (∀ σ' H', N σ' H' → ∃ m', m' < m ∧ W (i + 1) m' σ' H') ∧ ∀ x H', J.yld i H x H' → g x σ H' fun σ2 H2 => tb { D with nx := N, ct := N, bk := D.nx } σ2 H2)
/-- the records at fp as they stand -/
def pinsAt (fp : List Addr) (h : Heap) : List (Addr × Obj) := fp.filterMap fun b => (h.get? b).map fun o => (b, o)
theorem mem_pinsAt {fp : List Addr} {h : Heap} {b : Addr} {o : Obj} (hb : b ∈ fp) (e : h.get? b = some o) : (b, o) ∈ pinsAt fp h := List.mem_filterMap.mpr ⟨b, hb, by rw [e]; rfl⟩
theorem of_pinsAt {fp : List Addr} {h : Heap} {p : Addr × Obj} (hp : p ∈ pinsAt fp h) : p.1 ∈ fp ∧ h.get? p.1 = some p.2 := by
  obtain ⟨b, hb, e⟩ := List.mem_filterMap.mp hp
  cases q : h.get? b with
  | none => rw [q] at e; cases e
  | some o =>
    rw [q] at e
    have e' : (b, o) = p := Option.some.inj e
    subst e'
    exact ⟨hb, q⟩
theorem Inv.pinned {pins : List (Addr × Obj)} {σ : St} {H : Hp} {s : Shared} {fp : List Addr} (I : Inv X pins σ H s) (hf : ∀ b ∈ fp, FpOk X pins H b) (ho : ∀ b ∈ fp, ∃ o, s.heap.get? b = some o ∧ ∀ v, o.data ≠ .cell v) : Inv X (pins ++ pinsAt fp s.heap) σ H s :=
  I.pins_of fun p hp => (List.mem_append.mp hp).elim (fun z => I.pin p (List.mem_append_right _ z)) fun z => by
    obtain ⟨hb, e⟩ := of_pinsAt z
    obtain ⟨f0, f1, f2, _⟩ := hf p.1 hb
    obtain ⟨o, e', d⟩ := ho p.1 hb
    rw [e] at e'; cases e'
    exact ⟨e, f0, f1, f2, d⟩
theorem Inv.unpinned {pins pl : List (Addr × Obj)} {σ : St} {H : Hp} {s : Shared} (I : Inv X (pins ++ pl) σ H s) : Inv X pins σ H s := I.pins_of fun p hp => I.pin p (List.mem_append_right _ (List.mem_append_left _ hp))
theorem ps_for {iter : Expr} {body : List Stmt} {wi : TI} {g : TG} {tb : TS} {pos : Pos} (hp : PassesOwn (model X.prog X.w) X.A X.env X.xe) (hc : X.calm = true) (hi : PI X tg iter wi) (hg : PG X tg g) (hb : PSs X body tb)
    (hs : ∀ x, foldedSetIterable iter X.env x = pure x := by intro _; rfl) : PS X (.For tg iter body [] pos) (tFor wi g tb) := by
  intro pins s σ H D I h
  refine wpAny_For (thn (hi pins s σ H _ I h) fun v s1 h1 => thn h1 fun itv s2 h2 => ?_) hs
  obtain ⟨it, fp, tn, J, H2, e, I2, T, st2, f2, W, ⟨m0, w0⟩, turn⟩ := h2
  subst e
  -- what stays true of the iterator's objects through the loop
  have stat : ∀ {H' : Hp}, (∀ b ∈ fp, H' b = none) → ∀ b ∈ fp, FpOk X pins H' b := fun hn b hb => ⟨hn b hb, (f2 b hb).2⟩
  refine codeAny_forLoop_any (fun n s' => ∃ i σ' H', Inv X pins σ' H' s' ∧ tn i s'.heap ∧ (∀ b ∈ fp, H' b = none) ∧ W i n σ' H') ?_ m0 ⟨0, σ, H2, I2, st2, fun b hb => (f2 b hb).1, w0⟩
  rintro n s3 ⟨i, σ3, H3, I3, st3, fr3, w3⟩
  rcases turn i n σ3 H3 w3 with ⟨stop, qn⟩ | ⟨go, N, hN, step⟩
  · refine wpAny_passesOwn hp (thn (T.done X rfl rfl rfl hc i pins s3 σ3 H3 X.xe I3 (stat fr3) st3 stop) fun r s4 ⟨hr, I4⟩ => ?_)
    subst hr
    exact wpAny_execs_nil ⟨σ3, H3, I4, qn⟩
  · refine wpAny_passesOwn hp (thn (T.item X rfl rfl rfl hc i pins s3 σ3 H3 X.xe I3 (stat fr3) st3 go) fun r s4 ⟨u, hr, h4⟩ => ?_)
    subst hr
    refine wpAny_passesOwn hp (thn h4 fun _ s5 ⟨x, H5, I5, r5, y5, st5, fr5⟩ => ?_)
    have I5' := I5.pinned (stat fr5) (T.obj _ _ st5)
    refine wpAny_passesOwn hp (thn (hg _ s5 σ3 H5 x u _ I5' r5 (step x H5 y5)) fun _ s6 ⟨σ6, H6, I6, q6⟩ => ?_)
    refine wpAny_passesOwn hp (thn (hb _ s6 σ6 H6 _ I6 q6) fun f s7 q7 => ?_)
    have again : ∀ {σ7 : St} {H7 : Hp}, Inv X (pins ++ pinsAt fp s5.heap) σ7 H7 s7 → N σ7 H7 → ∃ m, m < n ∧ ∃ i σ' H', Inv X pins σ' H' s7 ∧ tn i s7.heap ∧ (∀ b ∈ fp, H' b = none) ∧ W i m σ' H' := fun {σ7 H7} I7 n7 => by
      obtain ⟨m', hm, w7⟩ := hN σ7 H7 n7
      refine ⟨m', hm, i + 1, σ7, H7, I7.unpinned, T.keep _ _ _ st5 fun b hb o e => (I7.pin (b, o) (List.mem_append_right _ (List.mem_append_right _ (mem_pinsAt hb e)))).1, fun b hb => ?_, w7⟩
      obtain ⟨o, e, d⟩ := T.obj _ _ st5 b hb
      exact (I7.pin (b, o) (List.mem_append_right _ (List.mem_append_right _ (mem_pinsAt hb e)))).2.1
    cases f with
    | next => obtain ⟨σ7, H7, I7, n7⟩ := q7; exact again I7 n7
    | cont => obtain ⟨σ7, H7, I7, n7⟩ := q7; exact again I7 n7
    | brk => obtain ⟨σ7, H7, I7, q7⟩ := q7; exact ⟨σ7, H7, I7.unpinned, q7⟩
    | ret v => obtain ⟨x7, σ7, H7, I7, r7, q7⟩ := q7; exact ⟨x7, σ7, H7, I7.unpinned, r7, q7⟩
end

/-! ### the forms one uses -/
/-- over a list that the body leaves as it is -/
theorem for_list {K : PySem.W.Frag} {a : Addr} {xs : List V} {g : TG} {tb : TS} {D : Ends} {σ : St} {H : Hp} (Pv : Nat → St → Hp → Prop) (h0 : Pv 0 σ H) (hl : ∀ i σ H, i ≤ xs.length → Pv i σ H → SqL K H a xs)
    (hs : ∀ i x σ H, xs[i]? = some x → Pv i σ H → g x σ H fun σ2 H2 => tb { D with nx := Pv (i + 1), ct := Pv (i + 1), bk := D.nx } σ2 H2) (hd : ∀ σ H, Pv xs.length σ H → D.nx σ H) :
    ∃ W : Nat → Nat → St → Hp → Prop, (∃ m, W 0 m σ H) ∧ ∀ i m σ H, W i m σ H →
      ((Itl K a).stop i H ∧ D.nx σ H) ∨ ((Itl K a).go i H ∧ ∃ N : St → Hp → Prop, (∀ σ' H', N σ' H' → ∃ m', m' < m ∧ W (i + 1) m' σ' H') ∧ ∀ x H', (Itl K a).yld i H x H' → g x σ H' fun σ2 H2 => tb { D with nx := N, ct := N, bk := D.nx } σ2 H2) := by
  refine ⟨fun i m σ H => m = xs.length - i ∧ i ≤ xs.length ∧ Pv i σ H, ⟨xs.length, by simp, Nat.zero_le _, h0⟩, ?_⟩
  rintro i m σ H ⟨rfl, hi, p⟩
  have q := hl i σ H hi p
  by_cases hlt : i < xs.length
  · refine .inr ⟨⟨xs, xs[i], q, by simp [hlt]⟩, Pv (i + 1), fun σ' H' p' => ⟨xs.length - (i + 1), by omega, rfl, hlt, p'⟩, fun x H' y => ?_⟩
    obtain ⟨e, y⟩ := y
    subst e
    exact hs i x σ _ (y xs q) p
  · have e : i = xs.length := by omega
    subst e
    exact .inl ⟨⟨xs, q, Nat.le_refl _⟩, hd σ H p⟩
theorem for_range {lo : Int} {n : Nat} {g : TG} {tb : TS} {D : Ends} {σ : St} {H : Hp} (Pv : Nat → St → Hp → Prop) (h0 : Pv 0 σ H)
    (hs : ∀ i σ H, i < n → Pv i σ H → g (.int (lo + i)) σ H fun σ2 H2 => tb { D with nx := Pv (i + 1), ct := Pv (i + 1), bk := D.nx } σ2 H2) (hd : ∀ σ H, Pv n σ H → D.nx σ H) :
    ∃ W : Nat → Nat → St → Hp → Prop, (∃ m, W 0 m σ H) ∧ ∀ i m σ H, W i m σ H →
      ((Itr lo n).stop i H ∧ D.nx σ H) ∨ ((Itr lo n).go i H ∧ ∃ N : St → Hp → Prop, (∀ σ' H', N σ' H' → ∃ m', m' < m ∧ W (i + 1) m' σ' H') ∧ ∀ x H', (Itr lo n).yld i H x H' → g x σ H' fun σ2 H2 => tb { D with nx := N, ct := N, bk := D.nx } σ2 H2) := by
  refine ⟨fun i m σ H => m = n - i ∧ i ≤ n ∧ Pv i σ H, ⟨n, by simp, Nat.zero_le _, h0⟩, ?_⟩
  rintro i m σ H ⟨rfl, hi, p⟩
  by_cases hlt : i < n
  · refine .inr ⟨hlt, Pv (i + 1), fun σ' H' p' => ⟨n - (i + 1), by omega, rfl, hlt, p'⟩, fun x H' y => ?_⟩
    obtain ⟨e, y⟩ := y
    subst e y
    exact hs i σ _ hlt p
  · have e : i = n := by omega
    subst e
    exact .inl ⟨Nat.le_refl _, hd σ H p⟩
end L2

namespace L2
open PySem PySem.Spec PyProof.Rows

abbrev R2 := V → V → Hp → VK → Prop
/-- a two-place operation on values: f is binaryOp op, inplaceOp op or compareOp op -/
def OpR (X : Cx) (f : Value → Value → Sem Value) (r : R2) : Prop :=
  ∀ (pins : List (Addr × Obj)) (s : Shared) (σ : St) (H : Hp) (x y : V) (v u : Value) (Q : VK), Inv X pins σ H s → RelV x v → RelV y u → r x y H Q →
    wpAny (model X.prog X.w) X.A (f v u) (EP X pins σ Q) X.xe s
/-- a one-place operation -/
def UnR (X : Cx) (f : Value → Sem Value) (r : V → Hp → VK → Prop) : Prop :=
  ∀ (pins : List (Addr × Obj)) (s : Shared) (σ : St) (H : Hp) (x : V) (v : Value) (Q : VK), Inv X pins σ H s → RelV x v → r x H Q →
    wpAny (model X.prog X.w) X.A (f v) (EP X pins σ Q) X.xe s
/-- a call of a value that is known (a builtin, a type) with values -/
def CallR (X : Cx) (f : Value) (r : List V → Hp → VK → Prop) : Prop :=
  ∀ (pins : List (Addr × Obj)) (s : Shared) (σ : St) (H : Hp) (xs : List V) (us : List Value) (Q : VK), Inv X pins σ H s → Vals xs us → r xs H Q →
    wpAny (model X.prog X.w) X.A (call f us) (EP X pins σ Q) X.xe s
/-- a value's truth -/
def TruR (X : Cx) (r : V → Hp → (Bool → Hp → Prop) → Prop) : Prop :=
  ∀ (pins : List (Addr × Obj)) (s : Shared) (σ : St) (H : Hp) (x : V) (v : Value) (Q : Bool → Hp → Prop), Inv X pins σ H s → RelV x v → r x H Q →
    wpAny (model X.prog X.w) X.A (truthy v) (TP X pins σ Q) X.xe s

def tOp (r : R2) (ta tb : TE) : TE := fun σ H Q => ta σ H fun x H1 => tb σ H1 fun y H2 => r x y H2 Q
def tUn (r : V → Hp → VK → Prop) (ta : TE) : TE := fun σ H Q => ta σ H fun x H1 => r x H1 Q
/-- ints in, under C, and a value out -/
def rI (C : Int → Int → Prop) (g : Int → Int → V) : R2 := fun x y H Q => ∃ i j, x = .int i ∧ y = .int j ∧ C i j ∧ Q (g i j) H
def rI0 (g : Int → Int → V) : R2 := fun x y H Q => ∃ i j, x = .int i ∧ y = .int j ∧ Q (g i j) H
def rU (g : Int → V) : V → Hp → VK → Prop := fun x H Q => ∃ i, x = .int i ∧ Q (g i) H

section
variable {X : Cx} {a b c : Expr} {ta tb tc : TE} {pos : Pos}

theorem binT (ha : PE X a ta) (hb : PE X b tb) {pins : List (Addr × Obj)} {s : Shared} {σ : St} {H : Hp} {R : V → V → Hp → Prop} (I : Inv X pins σ H s)
    (h : ta σ H fun x H1 => tb σ H1 fun y H2 => R x y H2) {Q : Value → Shared → Prop} {f : Value → Value → Sem Value}
    (hf : ∀ v u s2 x y H2, Inv X pins σ H2 s2 → RelV x v → RelV y u → R x y H2 → wpAny (model X.prog X.w) X.A (f v u) Q X.xe s2) :
    wpAny (model X.prog X.w) X.A (eval a X.env) (fun v s₁ => wpAny (model X.prog X.w) X.A (eval b X.env) (fun u s₂ => wpAny (model X.prog X.w) X.A (f v u) Q X.xe s₂) X.xe s₁) X.xe s := by
  refine thn (ha pins s σ H _ I h) fun v s1 ⟨x, H1, I1, r1, q1⟩ => ?_
  refine thn (hb pins s1 σ H1 _ I1 q1) fun u s2 ⟨y, H2, I2, r2, q2⟩ => ?_
  exact hf v u s2 x y H2 I2 r1 r2 q2

theorem pe_op {op : Operator} {r : R2} (ho : OpR X (binaryOp op) r) (ha : PE X a ta) (hb : PE X b tb) : PE X (.BinOp a op b pos) (tOp r ta tb) := by
  intro pins s σ H Q I h
  exact wpAny_BinOp (binT ha hb I h fun v u s2 x y H2 I2 rx ry q => ho pins s2 σ H2 x y v u Q I2 rx ry q)
theorem pe_un {op : UnaryOp} {r : V → Hp → VK → Prop} (ho : UnR X (unaryOp op) r) (ha : PE X a ta) : PE X (.UnaryOp op a pos) (tUn r ta) := by
  intro pins s σ H Q I h
  exact UnaryOp_ (thn (ha pins s σ H _ I h) fun v s1 ⟨x, H1, I1, r1, q1⟩ => ho pins s1 σ H1 x v Q I1 r1 q1)
/-! ### ints -/
theorem opI {f : Value → Value → Sem Value} {C : Int → Int → Prop} {g : Int → Int → Int}
    (rule : ∀ (i j : Int) (t u : Tok) (s : Shared) (Q : Value → Shared → Prop) (E : Value → Shared → Prop), C i j → Q (.int (g i j) s.toks) { s with toks := s.toks + 1 } → wpAny (model X.prog X.w) X.A (f (.int i t) (.int j u)) Q E s) :
    OpR X f (rI C fun i j => .int (g i j)) := by
  intro pins s σ H x y v u Q I rx ry h
  obtain ⟨i, j, rfl, rfl, hc, q⟩ := h
  obtain ⟨t, rfl⟩ := rx
  obtain ⟨t', rfl⟩ := ry
  exact rule i j t t' s _ _ hc ⟨.int (g i j), H, I.tok _, ⟨_, rfl⟩, q⟩
theorem opI0 {f : Value → Value → Sem Value} {g : Int → Int → Int}
    (rule : ∀ (i j : Int) (t u : Tok) (s : Shared) (Q : Value → Shared → Prop) (E : Value → Shared → Prop), Q (.int (g i j) s.toks) { s with toks := s.toks + 1 } → wpAny (model X.prog X.w) X.A (f (.int i t) (.int j u)) Q E s) :
    OpR X f (rI0 fun i j => .int (g i j)) := by
  intro pins s σ H x y v u Q I rx ry h
  obtain ⟨i, j, rfl, rfl, q⟩ := h
  obtain ⟨t, rfl⟩ := rx
  obtain ⟨t', rfl⟩ := ry
  exact rule i j t t' s _ _ ⟨.int (g i j), H, I.tok _, ⟨_, rfl⟩, q⟩
theorem opB0 {f : Value → Value → Sem Value} {g : Int → Int → Bool}
    (rule : ∀ (i j : Int) (t u : Tok) (s : Shared) (Q : Value → Shared → Prop) (E : Value → Shared → Prop), Q (.bool (g i j)) s → wpAny (model X.prog X.w) X.A (f (.int i t) (.int j u)) Q E s) :
    OpR X f (rI0 fun i j => .bl (g i j)) := by
  intro pins s σ H x y v u Q I rx ry h
  obtain ⟨i, j, rfl, rfl, q⟩ := h
  obtain ⟨t, rfl⟩ := rx
  obtain ⟨t', rfl⟩ := ry
  exact rule i j t t' s _ _ ⟨.bl (g i j), H, I, rfl, q⟩

def CDiv (i j : Int) : Prop := 0 < j ∧ j < 1073741824
def CDivN (i j : Int) : Prop := j ≠ 0 ∧ j.natAbs < 1073741824
def CPow (i j : Int) : Prop := 0 ≤ j ∧ j ≤ 1000000 ∧ i.natAbs < 2 ^ 64
def CMul (i j : Int) : Prop := (-(2 ^ 64) < i ∧ i < 2 ^ 64) ∨ (-(2 ^ 64) < j ∧ j < 2 ^ 64)
theorem op_add : OpR X (binaryOp .Add) (rI0 fun i j => .int (i + j)) := opI0 fun _ _ _ _ _ _ _ q => add_int q
theorem op_sub : OpR X (binaryOp .Sub) (rI0 fun i j => .int (i - j)) := opI0 fun _ _ _ _ _ _ _ q => sub_int q
/-- // by a positive divisor -/
theorem op_fdiv : OpR X (binaryOp .FloorDiv) (rI CDiv fun i j => .int (i / j)) := opI fun i j _ _ _ _ _ hc q => by
  have h1 : (0 : Int) < j := hc.1
  have h2 : j < 1073741824 := hc.2
  exact floordiv_int (by omega) (by rw [Int.fdiv_eq_ediv_of_nonneg i (by omega)]; exact q) (.inl (PyProof.noPylong_small (by omega)))
/-- % by a positive divisor of any size -/
theorem op_mod : OpR X (binaryOp .Mod) (rI (fun _ j => 0 < j) fun i j => .int (i % j)) := opI fun i j _ _ _ _ _ hc q => by
  have h1 : (0 : Int) < j := hc
  exact mod_int' (by omega) (by rw [Int.fmod_eq_emod_of_nonneg i (by omega)]; exact q)
theorem op_pow : OpR X (binaryOp .Pow) (rI CPow fun i j => .int (i ^ j.toNat)) := opI fun _ _ _ _ _ _ _ hc q => pow_int_small hc.1 hc.2.1 hc.2.2 q
theorem unI {f : Value → Sem Value} {g : Int → Int}
    (rule : ∀ (i : Int) (t : Tok) (s : Shared) (Q : Value → Shared → Prop) (E : Value → Shared → Prop), Q (.int (g i) s.toks) { s with toks := s.toks + 1 } → wpAny (model X.prog X.w) X.A (f (.int i t)) Q E s) :
    UnR X f (rU fun i => .int (g i)) := by
  intro pins s σ H x v Q I rx h
  obtain ⟨i, rfl, q⟩ := h
  obtain ⟨t, rfl⟩ := rx
  exact rule i t s _ _ ⟨.int (g i), H, I.tok _, ⟨_, rfl⟩, q⟩
theorem un_neg : UnR X (unaryOp .USub) (rU fun i => .int (-i)) := unI fun _ _ _ _ _ q => neg_int q
/-! ### bools among ints: n += (a < b) -/
end

/-! ### comparisons -/
/-- the scalars that == tells apart as data does -/
def scal : V → V → Bool
  | .non, .non => true | .non, .int _ => true | .int _, .non => true | .non, .bl _ => true | .bl _, .non => true | .non, .str _ => true | .str _, .non => true
  | .int _, .int _ => true | .bl _, .bl _ => true | .str _, .str _ => true | .byt _, .byt _ => true
  | .int _, .str _ => true | .str _, .int _ => true | .bl _, .str _ => true | .str _, .bl _ => true
  | _, _ => false
def rEq : R2 := fun x y H Q => scal x y = true ∧ Q (.bl (decide (x = y))) H
def rNe : R2 := fun x y H Q => scal x y = true ∧ Q (.bl (!decide (x = y))) H

theorem dec_int {i j : Int} : decide (V.int i = V.int j) = (i == j) := by
  rw [Bool.eq_iff_iff]
  simp
theorem dec_bl {i j : Bool} : decide (V.bl i = V.bl j) = (i == j) := by
  rw [Bool.eq_iff_iff]
  simp
theorem dec_str {i j : Str} : decide (V.str i = V.str j) = (i == j) := by
  rw [Bool.eq_iff_iff]
  simp
theorem dec_byt {i j : Array UInt8} : decide (V.byt i = V.byt j) = (i.toList == j.toList) := by
  rw [Bool.eq_iff_iff]
  cases i
  cases j
  simp

section
variable {X : Cx} {a b c : Expr} {ta tb tc : TE} {pos : Pos}
theorem fin_bl {pins : List (Addr × Obj)} {σ : St} {H : Hp} {s : Shared} {Q : VK} {k k' : Bool} (I : Inv X pins σ H s) (q : Q (.bl k) H) (e : k = k') : EP X pins σ Q (.bool k') s := by
  subst e
  exact ⟨.bl k, H, I, rfl, q⟩
theorem op_eq : OpR X (compareOp .Eq) rEq := by
  intro pins s σ H x y v u Q I rx ry h
  obtain ⟨hs, q⟩ := h
  cases x with
  | non =>
    cases rx
    cases y with
    | non => cases ry; exact PySem.EqNone.eq_none_none (fin_bl I q (by simp))
    | bl j => cases ry; exact PySem.EqNone.eq_none_bool (fin_bl I q (by simp))
    | int j => obtain ⟨t', rfl⟩ := ry; exact PySem.EqNone.eq_none_int (fin_bl I q (by simp))
    | str j => obtain ⟨t', rfl⟩ := ry; exact PySem.EqNone.eq_none_str (fin_bl I q (by simp))
    | _ => exact absurd (show false = true from hs) Bool.false_ne_true
  | bl i =>
    cases rx
    cases y with
    | non => cases ry; exact PySem.EqNone.eq_bool_none (fin_bl I q (by simp))
    | bl j => cases ry; exact eq_bool (fin_bl I q dec_bl)
    | str j => obtain ⟨t', rfl⟩ := ry; exact PySem.EqMixed.eq_bool_str (fin_bl I q (by simp))
    | _ => exact absurd (show false = true from hs) Bool.false_ne_true
  | int i =>
    obtain ⟨t, rfl⟩ := rx
    cases y with
    | non => cases ry; exact PySem.EqNone.eq_int_none (fin_bl I q (by simp))
    | int j => obtain ⟨t', rfl⟩ := ry; exact eq_int (fin_bl I q dec_int)
    | str j => obtain ⟨t', rfl⟩ := ry; exact PySem.EqMixed.eq_int_str (fin_bl I q (by simp))
    | _ => exact absurd (show false = true from hs) Bool.false_ne_true
  | str i =>
    obtain ⟨t, rfl⟩ := rx
    cases y with
    | non => cases ry; exact PySem.EqNone.eq_str_none (fin_bl I q (by simp))
    | bl j => cases ry; exact PySem.EqMixed.eq_str_bool (fin_bl I q (by simp))
    | int j => obtain ⟨t', rfl⟩ := ry; exact PySem.EqMixed.eq_str_int (fin_bl I q (by simp))
    | str j => obtain ⟨t', rfl⟩ := ry; exact eq_str (fin_bl I q dec_str)
    | _ => exact absurd (show false = true from hs) Bool.false_ne_true
  | byt i =>
    obtain ⟨t, rfl⟩ := rx
    cases y with
    | byt j => obtain ⟨t', rfl⟩ := ry; exact PySem.W.eq_bytes (fin_bl I q dec_byt)
    | _ => exact absurd (show false = true from hs) Bool.false_ne_true
  | _ => cases y <;> exact absurd (show false = true from hs) Bool.false_ne_true
theorem op_lt : OpR X (compareOp .Lt) (rI0 fun i j => .bl (decide (i < j))) := opB0 fun _ _ _ _ _ _ _ q => lt_int q
theorem op_le : OpR X (compareOp .LtE) (rI0 fun i j => .bl (decide (i ≤ j))) := opB0 fun _ _ _ _ _ _ _ q => le_int q
theorem op_gt : OpR X (compareOp .Gt) (rI0 fun i j => .bl (decide (j < i))) := opB0 fun _ _ _ _ _ _ _ q => gt_int q
theorem op_ge : OpR X (compareOp .GtE) (rI0 fun i j => .bl (decide (j ≤ i))) := opB0 fun _ _ _ _ _ _ _ q => ge_int q
/-- is, is not of two objects that are tracked lists or instances -/
def isObj : HO → Bool
  | .lst _ => true
  | .ins _ _ _ => true
  | _ => false
theorem nomark (b : Expr) {op : CmpOp} (h : op ≠ .In := by decide) (h2 : op ≠ .NotIn := by decide) : behindInMarks op b = false := by
  have e1 : (op == CmpOp.In) = false := by cases op <;> first | rfl | exact absurd rfl h
  have e2 : (op == CmpOp.NotIn) = false := by cases op <;> first | rfl | exact absurd rfl h2
  cases b <;> simp [behindInMarks, e1, e2]
/-- a comparison as a value; hm: nomark b, or (for in, not in) by with_unfolding_all rfl -/
theorem pe_cmpR {op : CmpOp} {r : R2} (ho : OpR X (compareOp op) r) (ha : PE X a ta) (hb : PE X b tb) (hm : behindInMarks op b = false) : PE X (.Compare a [op] [b] pos) (tOp r ta tb) := by
  intro pins s σ H Q I h
  exact wpAny_Compare1 (binT ha hb I h fun v u s2 x y H2 I2 rx ry q => ho pins s2 σ H2 x y v u Q I2 rx ry q) hm
/-- a reading of a value as a test -/
def tTest (t : TE) : TT := fun σ H Q => t σ H fun x H' => ∃ k, x = .bl k ∧ Q k H'
theorem pt_cmpR {op : CmpOp} {r : R2} (ho : OpR X (compareOp op) r) (ha : PE X a ta) (hb : PE X b tb) (hm : behindInMarks op b = false) : PT X (.Compare a [op] [b] pos) (tTest (tOp r ta tb)) := by
  intro pins s σ H Q I h
  refine wpAny_isTrue_Compare1 (thn (ha pins s σ H _ I h) fun v s1 ⟨x, H1, I1, r1, q1⟩ => thn (hb pins s1 σ H1 _ I1 q1) fun u s2 ⟨y, H2, I2, r2, q2⟩ =>
    thn (ho pins s2 σ H2 x y v u _ I2 r1 r2 q2) fun c s3 ⟨z, H3, I3, r3, k, e, q3⟩ => ?_) hm
  subst e
  cases r3
  exact wpAny_truthy_bool ⟨H3, I3, q3⟩
/-- a op1 b op2 c -/
def tChain (r r' : R2) (ta tb tc : TE) : TE := fun σ H Q => ta σ H fun x H1 => tb σ H1 fun y H2 => r x y H2 fun z H3 => ∃ k, z = .bl k ∧
  (if k = true then tc σ H3 fun w' H4 => r' y w' H4 Q else Q (.bl false) H3)
theorem pe_chain {op op' : CmpOp} {r r' : R2} (ho : OpR X (compareOp op) r) (ho' : OpR X (compareOp op') r') (ha : PE X a ta) (hb : PE X b tb) (hc : PE X c tc)
    (hm : lastMarks [op, op'] [b, c] = false := by with_unfolding_all rfl) : PE X (.Compare a [op, op'] [b, c] pos) (tChain r r' ta tb tc) := by
  intro pins s σ H Q I h
  refine Compare_chain (thn (ha pins s σ H _ I h) fun v s1 ⟨x, H1, I1, r1, q1⟩ => chain_link (thn (hb pins s1 σ H1 _ I1 q1) fun u s2 ⟨y, H2, I2, r2, q2⟩ =>
    thn (ho pins s2 σ H2 x y v u _ I2 r1 r2 q2) fun d s3 ⟨z, H3, I3, r3, k, e, q3⟩ => ?_)) hm
  subst e
  cases r3
  refine wpAny_truthy_bool ?_
  cases k with
  | false => exact ite_ff ⟨.bl false, H3, I3, rfl, q3⟩
  | true => exact ite_tt (chain_last (thn (hc pins s3 σ H3 _ I3 q3) fun w' s4 ⟨z', H4, I4, r4, q4⟩ => ho' pins s4 σ H4 y z' u w' Q I4 r2 r4 q4))
/-! ### truth -/
/-- a value's truth by the abstract heap -/
def TruV (K : PySem.W.Frag) (x : V) (H : Hp) (k : Bool) : Prop :=
  match x with
  | .non => k = false
  | .bl b => k = b
  | .int i => k = (i != 0)
  | .str y => y.length ≤ sizeLine ∧ k = ((y.length : Int) != 0)
  | .byt y => y.size ≤ sizeLine ∧ k = ((y.size : Int) != 0)
  | .ref p => (∃ xs, SqL K H p xs ∧ k = !xs.isEmpty) ∨ (∃ xs, SqT K H p xs ∧ k = !xs.isEmpty) ∨ ∃ kvs, H p = some (.dK kvs) ∧ k = !kvs.isEmpty
  | _ => False
theorem line63 : (sizeLine : Nat) < 2 ^ 63 := by rw [sizeLine_eq]; decide
/-! ### strs and bytes -/
def PlainIxT (b : Expr) : Prop := ∀ o i, subscripted b false o i = operate [o, i] (getItem o i)
/-! ### scalar builtins, by CallR -/
theorem vals1 {x : V} {us : List Value} (r : Vals [x] us) : ∃ u, us = [u] ∧ RelV x u := by
  cases r with
  | cons r1 r2 => cases r2; exact ⟨_, rfl, r1⟩
theorem vals2 {x y : V} {us : List Value} (r : Vals [x, y] us) : ∃ u w', us = [u, w'] ∧ RelV x u ∧ RelV y w' := by
  cases r with
  | cons r1 r2 =>
    cases r2 with
    | cons r3 r4 => cases r4; exact ⟨_, _, rfl, r1, r3⟩
theorem call_min2 (hc : X.calm = true) : CallR X (.builtin "min") (fun xs H Q => ∃ i j, xs = [.int i, .int j] ∧ Q (.int (if j < i then j else i)) H) := by
  intro pins s σ H xs us Q I r h
  obtain ⟨i, j, rfl, q⟩ := h
  obtain ⟨u, w', rfl, ⟨t, rfl⟩, ⟨t', rfl⟩⟩ := vals2 r
  refine min_two_ints (I.ok.hd hc) fun h' tk k => ⟨_, H, I.kept k, ?_, q⟩
  by_cases hj : j < i
  · rw [if_pos hj, if_pos hj]; exact ⟨_, rfl⟩
  · rw [if_neg hj, if_neg hj]; exact ⟨_, rfl⟩
/-- len of a str, a bytes, a list, a tuple -/
def LenV (K : PySem.W.Frag) (x : V) (H : Hp) (n : Nat) : Prop :=
  match x with
  | .str y => y.length ≤ sizeLine ∧ n = y.length
  | .byt y => y.size ≤ sizeLine ∧ n = y.size
  | .ref p => (∃ xs, SqL K H p xs ∧ n = xs.length) ∨ ∃ xs, SqT K H p xs ∧ n = xs.length
  | _ => False
end
end L2

namespace L2
open PySem PySem.Spec PyProof.Rows

/-! ### an instance, its attributes a map -/
structure ObjM (h : Heap) (x dx C : Addr) (mA : Str → Option Value) : Prop where
  obj : h.get? x = some (PySem.W.instObj C dx)
  ns : h.Ns1 dx mA
  ne : dx ≠ x

theorem lookIn_ns {h : Heap} {dx : Addr} {mA : Str → Option Value} (n : h.Ns1 dx mA) : ∃ od, h.get? dx = some od ∧ ∀ name, PySem.W.lookIn name od = some (mA name) := by
  obtain ⟨o, es, ep, ho, hd, hk, _, hm⟩ := n
  refine ⟨o, ho, fun name => ?_⟩
  have e := hm name
  unfold nsFind findBy at e
  rw [← Array.find?_toList] at e
  unfold PySem.W.lookIn
  rw [hd]
  dsimp only
  split
  · rename_i y q
    rw [q] at e
    exact congrArg some e
  · rename_i q
    rw [q] at e
    have a : es.toList.any (·.refKey) = false := by
      rw [List.any_eq_false]
      intro y hy
      obtain ⟨z, t, hkey⟩ := hk y (Array.mem_toList_iff.mp hy)
      simp [DictEntry.refKey, hkey]
    have a' : ¬ es.toList.any (·.refKey) = true := by rw [a]; exact Bool.false_ne_true
    rw [if_neg a']
    exact congrArg some e

theorem ObjM.look {h : Heap} {x dx C : Addr} {mA : Str → Option Value} (I : ObjM h x dx C mA) : ∃ od, PySem.W.InstAt h x (PySem.W.instObj C dx) C (some od) ∧ ∀ name, PySem.W.lookIn name od = some (mA name) :=
  let ⟨od, ho, hl⟩ := lookIn_ns I.ns
  ⟨od, ⟨I.obj, rfl, rfl, ho⟩, hl⟩

section
variable {prog : Program} {w : World} {A : Around} {E : Value → Shared → Prop} {s : Shared} {K : PySem.W.Frag} {x dx C f : Addr} {mA : Str → Option Value} {name : Str} {v : Value}

end

/-! ### the attributes as a list of pairs -/
def putF (f : Str) (v : V) : List (Str × V) → List (Str × V)
  | [] => [(f, v)]
  | (g, x) :: r => if g = f then (g, v) :: r else (g, x) :: putF f v r
section
variable {P : Program} {w : World} {H H' : Hp} {h h' : Heap} {a C dx : Addr} {fs fs' : List (Str × V)}
theorem ins_get (hok : HOk P w H h) (e : H a = some (.ins C dx fs)) : ∃ mA, ObjM h a dx C mA ∧ (∀ f, RelO (fs.lookup f) (mA f)) ∧ PySem.Within mA (fs.map (·.1)) ∧ fs.length ≤ 1000 ∧ H dx = some (.own a) := by
  obtain ⟨d, z, ne, ob, mA, n, r, q⟩ := (show ObjOk P w H h a (.ins C dx fs) from hok a _ e)
  exact ⟨mA, ⟨ob, n, ne⟩, r, q, z, d⟩
end

/-! ### what of the text a class must have -/
structure Cls (K : PySem.W.Frag) (C : Addr) : Prop where
  pg : PySem.W.plainGet K C Str.empty = true
  hd : PySem.W.hasDictIn K C = true
  po : PySem.W.plainOver K C = true
  sa : PySem.W.findIn K (.ref C) "__setattr__" = some (some (.builtin "object.__setattr__"))
theorem Cls.get {K : PySem.W.Frag} {C : Addr} (c : Cls K C) (f : Str) : PySem.W.plainGet K C f = true := c.pg
/-- no class of it has the name -/
def NoAttr (K : PySem.W.Frag) (C : Addr) (f : Str) : Prop := PySem.W.findIn K (.ref C) f = some none
/-- a constant of the class -/
structure Con (K : PySem.W.Frag) (C : Addr) (f : Str) (v : V) (u : Value) : Prop where
  at_ : PySem.W.findIn K (.ref C) f = some (some u)
  rel : RelV v u
  get : PySem.W.specialIn K u "__get__" = some none
  cp : PySem.W.copiedNames.contains f = false
/-- a method: a plain def of the class or of one above it -/
structure Meth (K : PySem.W.Frag) (C : Addr) (m : Str) (f : Addr) : Prop where
  at_ : PySem.W.findIn K (.ref C) m = some (some (.ref f))
  fn : PySem.W.isFn K (.ref f) = true
  kp : PySem.W.keepIn K (.ref f) = true

section
variable {X : Cx} {pins : List (Addr × Obj)} {σ : St} {H : Hp} {s : Shared} {a C dx : Addr} {fs : List (Str × V)} {f : Str} {v : V} {A : Around} {E : Value → Shared → Prop}

end

/-! ### readings and rules -/
/-- e.f, an attribute of the instance -/
def tFld (K : PySem.W.Frag) (ta : TE) (f : Str) : TE := fun σ H Q => ta σ H fun x H1 => ∃ a C dx fs v, x = .ref a ∧ H1 a = some (.ins C dx fs) ∧ Cls K C ∧ NoAttr K C f ∧ fs.lookup f = some v ∧ Q v H1
/-- e.f, a constant of the class -/
def tCon (K : PySem.W.Frag) (ta : TE) (f : Str) : TE := fun σ H Q => ta σ H fun x H1 => ∃ a C dx fs v u, x = .ref a ∧ H1 a = some (.ins C dx fs) ∧ Cls K C ∧ Con K C f v u ∧ fs.lookup f = none ∧ Q v H1
/-- e.f = value -/
def sFld (K : PySem.W.Frag) (ta tv : TE) (f : Str) : TS := fun D σ H => tv σ H fun y H1 => ta σ H1 fun x H2 => ∃ a C dx fs, x = .ref a ∧ H2 a = some (.ins C dx fs) ∧ Cls K C ∧ NoAttr K C f ∧ fs.length < 1000 ∧
  D.nx σ (upd H2 a (.ins C dx (putF f y fs)))
/-- an augmented operator on two values -/
def InOp (X : Cx) (op : Operator) (rd : V → V → Hp → VK → Prop) : Prop :=
  ∀ (pins : List (Addr × Obj)) (s : Shared) (σ : St) (H : Hp) (x y : V) (u v : Value) (Q : VK), Inv X pins σ H s → RelV x u → RelV y v → rd x y H Q → wpAny (model X.prog X.w) X.A (inplaceOp op u v) (EP X pins σ Q) X.xe s
/-- e.f op= value -/
def sFldAug (K : PySem.W.Frag) (ta tv : TE) (rd : V → V → Hp → VK → Prop) (f : Str) : TS := fun D σ H => ta σ H fun x H1 => ∃ a C dx fs v, x = .ref a ∧ H1 a = some (.ins C dx fs) ∧ Cls K C ∧ NoAttr K C f ∧ fs.lookup f = some v ∧
  tv σ H1 fun y H2 => rd v y H2 fun z H3 => ∃ dx' fs', H3 a = some (.ins C dx' fs') ∧ fs'.length < 1000 ∧ D.nx σ (upd H3 a (.ins C dx' (putF f z fs')))

section
variable {X : Cx} {o e value : Expr} {f : Str} {pos pos' tpos : Pos} {ta tv : TE}
def rAdd : V → V → Hp → VK → Prop := fun x y H Q => ∃ i j, x = .int i ∧ y = .int j ∧ Q (.int (i + j)) H
def rSub : V → V → Hp → VK → Prop := fun x y H Q => ∃ i j, x = .int i ∧ y = .int j ∧ Q (.int (i - j)) H
end

/-! ### isinstance -/
section
variable {X : Cx} {pins : List (Addr × Obj)} {σ : St} {H : Hp} {s : Shared} {A : Around} {E : Value → Shared → Prop} {Q : Value → Shared → Prop} {c : Value} {b : Bool}
/-- the type of a value, as the fragment's deciders take it; for an instance its class -/
inductive TyOf (K : PySem.W.Frag) (H : Hp) : V → Value → Prop where
  | non : TyOf K H .non (.type "NoneType")
  | bl (x : Bool) : TyOf K H (.bl x) (.type "bool")
  | int (i : Int) : TyOf K H (.int i) (.type "int")
  | str (x : Str) : TyOf K H (.str x) (.type "str")
  | flt (x : UInt64) : TyOf K H (.flt x) (.type "float")
  | lst {a : Addr} {xs : List V} (e : H a = some (.lst xs)) : TyOf K H (.ref a) (.type "list")
  | frz {a : Addr} {o : Obj} {xs : List V} (e : H a = some (.frz o (.lst xs))) : TyOf K H (.ref a) (.type "list")
  | tup {a : Addr} {xs : List V} (e : H a = some (.tup xs)) : TyOf K H (.ref a) (.type "tuple")
  | dK {a : Addr} {kvs : List (Key × V)} (e : H a = some (.dK kvs)) : TyOf K H (.ref a) (.type "dict")
  | dT {a : Addr} {kvs : List (List Key × V)} (e : H a = some (.dT kvs)) : TyOf K H (.ref a) (.type "dict")
  | ins {a C dx : Addr} {fs : List (Str × V)} (e : H a = some (.ins C dx fs)) (cl : Cls K C) (ha : PySem.W.findIn K (.ref C) "__class__" = some (some (.builtin "object.__class__")))
      (hn : PySem.W.specialIn K (.builtin "object.__class__") "__get__" = some (some (.builtin "getset_descriptor.__get__"))) (htk : PySem.W.takesIn K (.builtin "object.__class__") = some true)
      (hm : PySem.W.mroIn K C (.type "object") = some true) : TyOf K H (.ref a) (.ref C)
/-- isinstance(x, c) for one class c, a built-in or an own one: kitOne's answer -/
theorem isinst_ok {x : V} {u t : Value} (I : Inv X pins σ H s) (rx : RelV x u) (ty : TyOf X.K H x t) (e : PySem.W.kitOne X.K t c = some b) (h : ∀ tk, Q (.bool b) { s with toks := tk }) :
    wpAny (model X.prog X.w) A (call (.builtin "isinstance") [u, c]) Q E s := by
  cases ty with
  | non => cases (show u = Value.none from rx); exact PySem.W.kia_one PySem.W.kitx_none I.kIn True.intro e (fun z => nomatch z) h
  | bl y => cases (show u = Value.bool y from rx); exact PySem.W.kia_one PySem.W.kitx_bool I.kIn True.intro e (fun z => nomatch z) h
  | int i => obtain ⟨t, q⟩ := (show ∃ t, u = Value.int i t from rx); cases q; exact PySem.W.kia_one PySem.W.kitx_int I.kIn True.intro e (fun z => nomatch z) h
  | str y => obtain ⟨t, q⟩ := (show ∃ t, u = Value.str y t from rx); cases q; exact PySem.W.kia_one PySem.W.kitx_str I.kIn True.intro e (fun z => nomatch z) h
  | flt y => obtain ⟨t, q⟩ := (show ∃ t, u = Value.float y t from rx); cases q; exact PySem.W.kia_one PySem.W.kitx_float I.kIn True.intro e (fun z => nomatch z) h
  | @lst a xs ea =>
    cases (show u = Value.ref a from rx)
    obtain ⟨_, _, n, _, h1⟩ := (show ObjOk X.prog X.w H s.heap a (.lst xs) from I.hok a _ ea)
    exact PySem.W.kia_one PySem.W.kitx_list I.kIn ⟨_, h1, rfl⟩ e (fun z => nomatch z) h
  | @frz a ob xs ea =>
    cases (show u = Value.ref a from rx)
    obtain ⟨_, _, _, n, _, h1⟩ := (show ObjOk X.prog X.w H s.heap a (.frz ob (.lst xs)) from I.hok a _ ea)
    exact PySem.W.kia_one PySem.W.kitx_list I.kIn ⟨_, h1, rfl⟩ e (fun z => nomatch z) h
  | @tup a xs ea =>
    cases (show u = Value.ref a from rx)
    obtain ⟨_, _, _, p⟩ := (show ObjOk X.prog X.w H s.heap a (.tup xs) from I.hok a _ ea)
    obtain ⟨o, h1, h2, _⟩ := p
    exact PySem.W.kia_one PySem.W.kitx_tuple I.kIn ⟨o, h1, h2⟩ e (fun z => nomatch z) h
  | @dK a kvs ea =>
    cases (show u = Value.ref a from rx)
    obtain ⟨_, _, vs, _, p⟩ := (show ObjOk X.prog X.w H s.heap a (.dK kvs) from I.hok a _ ea)
    obtain ⟨o, es, ep, h1, h2, _⟩ := p
    exact PySem.W.kia_one PySem.W.kitx_dict I.kIn ⟨o, h1, h2.1⟩ e (fun z => nomatch z) h
  | @dT a kvs ea =>
    cases (show u = Value.ref a from rx)
    obtain ⟨_, _, xs, _, o, es, ep, h1, h2, _⟩ := (show ObjOk X.prog X.w H s.heap a (.dT kvs) from I.hok a _ ea)
    exact PySem.W.kia_one PySem.W.kitx_dict I.kIn ⟨o, h1, h2.1⟩ e (fun z => nomatch z) h
  | @ins a C dx fs ea cl ha hn htk hm =>
    cases (show u = Value.ref a from rx)
    obtain ⟨mA, O, _⟩ := ins_get I.hok ea
    obtain ⟨od, J, _⟩ := O.look
    exact PySem.W.kia_one (PySem.W.kitx_own (cl.get _) cl.hd ha hn htk hm) I.kIn J e (fun z => nomatch z) h
end
end L2

namespace L2
open PySem PySem.Spec PyProof.Rows

/-! ### room -/
structure Room (k : Nat) (A : Around) : Prop where
  hd : A.handled = none
  dp : A.depth + 3 * k + 5 < recursionLimit
  un : A.units + 16 * k + 200 < cLine
theorem Room.mono {j k : Nat} {A : Around} (r : Room k A) (h : j ≤ k) : Room j A := ⟨r.hd, by have := r.dp; omega, by have := r.un; omega⟩
theorem Room.deeper {k : Nat} {A : Around} (r : Room (k + 1) A) (env : Env) : Room k (A.deeper env) :=
  ⟨r.hd, by have := r.dp; show A.depth + 1 + 3 * k + 5 < _; omega, by have := r.un; show A.units + 3 + 16 * k + 200 < _; omega⟩
theorem Room.depth {k : Nat} {A : Around} (r : Room k A) : A.depth < recursionLimit := by have := r.dp; omega
theorem Room.units {k : Nat} {A : Around} (r : Room k A) : A.units + 64 < cLine := by have := r.un; omega
/-! ### argument lists and displays -/
def tNil : TA := fun _ H Q => Q [] H
def tCons (ta : TE) (tr : TA) : TA := fun σ H Q => ta σ H fun x H1 => tr σ H1 fun xs H2 => Q (x :: xs) H2
section
variable {X : Cx} {e : Expr} {es : List Expr} {te : TE} {t : TA} {pos : Pos}
theorem pa_nil : PA X [] tNil := fun _ _ _ _ H Q I h => Calls.spliced_nil ⟨[], H, I, .nil, h⟩
theorem pa_cons (ha : PE X e te) (hr : PA X es t) (hs : starEach (e :: es) X.env = (false, eval e X.env) :: starEach es X.env := by rfl) : PA X (e :: es) (tCons te t) := by
  intro pos pins s σ H Q I h
  rw [hs]
  show wpAny _ _ (spliced ((false, eval e X.env) :: backTo pos (starEach es X.env))) _ _ s
  refine Calls.spliced_cons (thn (ha pins s σ H _ I h) fun u s1 ⟨x, H1, I1, r1, q1⟩ => ?_)
  exact thn (hr pos pins s1 σ H1 _ I1 q1) fun us s2 ⟨xs, H2, I2, r2, q2⟩ => ⟨x :: xs, H2, I2, .cons r1 r2, q2⟩

/-- a tuple, a list of written items -/
def tTup (t : TA) : TE := fun σ H Q => t σ H fun xs H1 => xs.length ≤ sizeLine ∧ ∀ p, H1 p = none → Q (.ref p) (upd H1 p (.tup xs))
def tLst (t : TA) : TE := fun σ H Q => t σ H fun xs H1 => xs.length ≤ sizeLine ∧ ∀ p, H1 p = none → Q (.ref p) (upd H1 p (.lst xs))
theorem pe_lst (h : PA X es t) : PE X (.List es pos) (tLst t) := by
  intro pins s σ H Q I hq
  refine wpAny_List_spliced (thn (h pos pins s σ H _ I hq) fun us s1 ⟨xs, H1, I1, r, z, q⟩ => ⟨by rw [← r.length]; exact z, ?_⟩)
  have hf : H1 s1.heap.objs.size = none := I1.hok.fresh (Nat.le_refl _)
  refine ⟨.ref s1.heap.objs.size, upd H1 s1.heap.objs.size (.lst xs), I1.laid (t' := s1.toks) (fun b u e => Heap.get?_push_of_some _ e) (Nat.le_refl _) ?_, rfl, q _ hf⟩
  exact ⟨z, us, 0, r, Heap.get?_push_size _ rfl⟩
end

/-! ### what a def promises -/
/-- a def's promise: the bound arguments in the parameters' order, the heap, the wanted end, the wanted exception -/
abbrev Sp := List V → Hp → VK → XK → Prop
/-- how an exception lies behind a call (file 08 gives it): the callers' frames, abstract heap and state ahead of the call, the wish, the exception, the state -/
abbrev CXT := List Env → Hp → Shared → XK → Value → Shared → Prop

/-- the state at a call -/
structure Env0 (P : Program) (w : World) (K : PySem.W.Frag) (mg : Str → Option Value) (base : Heap) (A : Around) (outer : List Env) (s : Shared) (H : Hp) : Prop where
  frames : A.frames = some outer
  mod : Mod K mg base
  bs : ∀ b o, base.get? b = some o → s.heap.get? b = some o ∧ H b = none
  bsz : base.objs.size ≤ s.heap.objs.size
  funs : s.heap.FunFrames base outer
  frf : ∀ b ∈ frs outer, H b = none
  hok : HOk P w H s.heap
  bare : AllBare s.gens
/-- a call's end -/
def CE (outer : List Env) (P : Program) (w : World) (H : Hp) (s : Shared) (Q : VK) (u : Value) (s' : Shared) : Prop :=
  ∃ v H', s'.os = s.os ∧ AllBare s'.gens ∧ Un (frs outer) [] H H' s.heap s'.heap ∧ HOk P w H' s'.heap ∧ RelV v u ∧ Q v H'
def CR (CX : CXT) (outer : List Env) (P : Program) (w : World) (H : Hp) (s : Shared) (Q : VK) (E : XK) (r : Result) (s' : Shared) : Prop :=
  match r with
  | .ok (.ret u) => CE outer P w H s Q u s'
  | .ok _ => False
  | .error e => CX outer H s E e s'
structure FnOk (P : Program) (w : World) (K : PySem.W.Frag) (mg : Str → Option Value) (base : Heap) (CX : CXT) (k : Nat) (f : Addr) (fd : FuncData) (ps : List Str) (sp : Sp) : Prop where
  len : ∀ vs H Q E, sp vs H Q E → vs.length = ps.length
  run : ∀ (A : Around) (outer : List Env) (s : Shared) (H : Hp) (args : Args) (us : List Value) (vs : List V) (Q : VK) (E : XK), Room k A → Env0 P w K mg base A outer s H → BindsTo s fd args (ps.zip us) → Vals vs us → sp vs H Q E →
    codeAny (model P w) A (.call (.ref f) args) (CR CX outer P w H s Q E) s
theorem FnOk.mono {P : Program} {w : World} {K : PySem.W.Frag} {mg : Str → Option Value} {base : Heap} {CX : CXT} {j k : Nat} {f : Addr} {fd : FuncData} {ps : List Str} {sp : Sp} (F : FnOk P w K mg base CX j f fd ps sp) (h : j ≤ k) :
    FnOk P w K mg base CX k f fd ps sp := ⟨F.len, fun A outer s H args us vs Q E hr => F.run A outer s H args us vs Q E (hr.mono h)⟩
section
variable {X : Cx} {pins : List (Addr × Obj)} {σ : St} {H : Hp} {s s' : Shared}
/-- from a body: what a callee wants -/
theorem Inv.env0 (I : Inv X pins σ H s) : Env0 X.prog X.w X.K X.mg X.base X.A X.stack s H :=
  ⟨I.ok.frames, I.ok.mod, I.bs, Nat.le_trans I.ok.bsz I.sz, I.stack, I.stkFree, I.hok, I.bare⟩
/-- behind a call -/
theorem Inv.after {Q : VK} {u : Value} (I : Inv X pins σ H s) (h : CE X.stack X.prog X.w H s Q u s') : EP X pins σ Q u s' := by
  obtain ⟨v, H', os, bare, un, hok, r, q⟩ := h
  obtain ⟨hh, g, d, t, os'⟩ := s'
  obtain rfl : os' = s.os := os
  exact ⟨v, H', I.call (h' := hh) (g' := g) (d' := d) (t' := t) (ch := []) un hok bare (fun b z => absurd z (by simp)), r, q⟩
end

/-! ### calls -/
/-- f(..): the written arguments, then the defaults dvs; E: what is wanted of an exception -/
def tCall (sp : Sp) (dvs : List V) (E : XK) (t : TA) : TE := fun σ H Q => t σ H fun vs H1 => sp (vs ++ dvs) H1 Q E
/-- o.m(..) of an instance of the class at C -/
def tMeth (C : Addr) (m : Str) (sp : Sp) (dvs : List V) (E : XK) (ta : TE) (t : TA) : TE := fun σ H Q => ta σ H fun x H1 => ∃ a dx fs, x = .ref a ∧ H1 a = some (.ins C dx fs) ∧ fs.lookup m = none ∧
  t σ H1 fun vs H2 => sp (x :: (vs ++ dvs)) H2 Q E
/-- C(..): a new instance and its dict, then __init__ -/
def tMake (C : Addr) (sp : Sp) (dvs : List V) (E : XK) (t : TA) : TE := fun σ H Q => t σ H fun vs H1 => ∀ x dx, H1 x = none → H1 dx = none → dx ≠ x →
  sp (.ref x :: (vs ++ dvs)) (upd (upd H1 dx (.own x)) x (.ins C dx [])) (fun v H2 => v = .non ∧ Q (.ref x) H2) E

/-- how the parameters are bound: us the positional arguments, kw the keywords' values by name, ds the defaults that fill up -/
def Binds (K : PySem.W.Frag) (fd : FuncData) (ps : List Str) (ds : List Value) : Prop :=
  ∀ (s : Shared) (us : List Value), K.In s.heap → (us ++ ds).length = ps.length → BindsTo s fd ⟨us, []⟩ (ps.zip (us ++ ds))
/-- every parameter is given -/
theorem Binds.all {K : PySem.W.Frag} {fd : FuncData} {ps : List Str} (h : ∀ us : List Value, us.length = ps.length → bindArgs fd ⟨us, []⟩ = pure (ps.zip us)) : Binds K fd ps [] := fun s us _ hl => by
  rw [List.append_nil] at hl ⊢
  exact .of_eq (h us hl)

/-- an exception of a callee reaches what this body wants of exceptions -/
def Passes (CX : CXT) (X : Cx) (E : XK) : Prop := ∀ (pins : List (Addr × Obj)) (σ : St) (H : Hp) (s : Shared) (e : Value) (s' : Shared), Inv X pins σ H s → CX X.stack H s E e s' → X.xe e s'

section
variable {X : Cx} {CX : CXT} {k : Nat} {f C : Addr} {fd : FuncData} {ps : List Str} {sp : Sp} {dvs : List V} {ds : List Value} {E : XK} {x m : Str} {p pos apos : Pos} {e o : Expr} {es : List Expr} {ta : TE} {t : TA}

/-- the callee runs -/
theorem run_fn {pins : List (Addr × Obj)} {σ : St} {H : Hp} {s : Shared} {Q : VK} {us : List Value} {vs : List V} (F : FnOk X.prog X.w X.K X.mg X.base CX k f fd ps sp) (hr : Room k X.A) (hb : Binds X.K fd ps ds) (hd : Vals dvs ds) (hx : Passes CX X E)
    (I : Inv X pins σ H s) (r : Vals vs us) (h : sp (vs ++ dvs) H Q E) : wpAny (model X.prog X.w) X.A (call (.ref f) us) (EP X pins σ Q) X.xe s := by
  have r2 : Vals (vs ++ dvs) (us ++ ds) := r.append hd
  have hl : (us ++ ds).length = ps.length := by rw [← r2.length]; exact F.len _ _ _ _ h
  refine wpAny_call (codeAny_mono (F.run X.A X.stack s H ⟨us, []⟩ (us ++ ds) (vs ++ dvs) Q E hr I.env0 (hb s us I.kIn hl) r2 h) fun r s' hq => ?_)
  cases r with
  | error e => exact hx pins σ H s e s' I hq
  | ok fl =>
    cases fl with
    | ret u => exact I.after hq
    | next => exact False.elim hq
    | brk => exact False.elim hq
    | cont => exact False.elim hq

theorem pe_call (F : FnOk X.prog X.w X.K X.mg X.base CX k f fd ps sp) (hr : Room k X.A) (hg : Gl X x) (hm : X.mg x = some (.ref f)) (hk : PySem.W.keepIn X.K (.ref f) = true) (hb : Binds X.K fd ps ds) (hd : Vals dvs ds) (hx : Passes CX X E)
    (ha : PA X (e :: es) t) (hdb : (x == ("__debug__" : Str)) = false := by decide) (he : starEach (e :: es) X.env = (false, eval e X.env) :: starEach es X.env := by rfl) (hpl : (backTo pos (starEach es X.env)).any (·.1) = false := by rfl) :
    PE X (.Call (.Name x p) (e :: es) [] pos) (tCall sp dvs E t) := by
  intro pins s σ H Q I h
  refine wpAny_Call_Name_kw (ld_glob I hg hm ?_ hdb)
  refine PySem.W.callWith_K (h₀ := X.base) I.ok.mod.kin hk (thn (ha pos pins s σ H _ I h) fun us s1 ⟨vs, H1, I1, r, q⟩ => ⟨I1.kIn, ?_⟩) he hpl
  exact run_fn F hr hb hd hx I1 r q
/-- what a class must have to be made -/
structure Mk (K : PySem.W.Frag) (C f : Addr) : Prop where
  makes : PySem.W.makesIn K C = true
  init : PySem.W.findIn K (.ref C) "__init__" = some (some (.ref f))
  fn : PySem.W.isFn K (.ref f) = true
  kp : PySem.W.keepIn K (.ref C) = true

end

/-! ### keywords -/
/-- the values of the keywords, from the left -/
def PK (X : Cx) (kws : List Keyword) (t : TA) : Prop :=
  ∀ (pos : Pos) (pins : List (Addr × Obj)) (s : Shared) (σ : St) (H : Hp) (Q : List V → Hp → Prop), Inv X pins σ H s → t σ H Q → wpAny (model X.prog X.w) X.A (evalAll ((backToKw pos (keywordEach kws X.env)).map (·.2))) (AP X pins σ Q) X.xe s
section
variable {X : Cx} {CX : CXT} {k : Nat} {f C : Addr} {fd : FuncData} {ps ks : List Str} {sp : Sp} {E : XK} {x m : Str} {p pos apos kpos : Pos} {e o : Expr} {es : List Expr} {kws : List Keyword} {te ta : TE} {t tk : TA} {nm : Option Str}
/-- how a call with keywords binds: g puts the positional values us and the keywords' values ws (names ks) in the parameters' order, defaults among them -/
structure KBinds (K : PySem.W.Frag) (fd : FuncData) (ps ks : List Str) (g : List Value → List Value → List Value) (gV : List V → List V → List V) : Prop where
  to : ∀ (s : Shared) (us ws : List Value), K.In s.heap → (g us ws).length = ps.length → BindsTo s fd ⟨us, ks.zip ws⟩ (ps.zip (g us ws))
  rel : ∀ {vs : List V} {us : List Value} {zs : List V} {ws : List Value}, Vals vs us → Vals zs ws → Vals (gV vs zs) (g us ws)
def tCallK (sp : Sp) (gV : List V → List V → List V) (E : XK) (t tk : TA) : TE := fun σ H Q => t σ H fun vs H1 => tk σ H1 fun zs H2 => sp (gV vs zs) H2 Q E
variable {g : List Value → List Value → List Value} {gV : List V → List V → List V}
end

/-! ### a def's body keeps its promise -/
/-- names: the parameters first -/
structure FnScope (N P : List Str) (sc : Scope) : Prop where
  kind : sc.kind = .function
  co : sc.isCoroutine = false
  gen : sc.isGenerator = false
  nd : N.Nodup
  pre : N.take P.length = P
  par : ∀ x ∈ P, sc.names.lookup x = some .local ∨ sc.names.lookup x = some .cell
  nofree : ∀ y ∈ sc.names, y.2 ≠ .free

theorem bindL_out {kindOf : Str → Option NameKind} {x : Str} : ∀ {binds : List (Str × Value)} {m : Str → Option Value}, (∀ v, (x, v) ∉ binds) → bindL kindOf binds m x = m x
  | [], _, _ => rfl
  | (n, v) :: r, m, h => by
    unfold bindL
    rw [bindL_out fun w hw => h w (List.mem_cons_of_mem _ hw)]
    split
    · have : x ≠ n := by rintro rfl; exact h v List.mem_cons_self
      simp [this]
    · rfl
theorem bindC_out {kindOf : Str → Option NameKind} {x : Str} : ∀ {binds : List (Str × Value)} {m : Str → Option Value}, (∀ v, (x, v) ∉ binds) → bindC kindOf binds m x = m x
  | [], _, _ => rfl
  | (n, v) :: r, m, h => by
    unfold bindC
    rw [bindC_out fun w hw => h w (List.mem_cons_of_mem _ hw)]
    split
    · rfl
    · have : x ≠ n := by rintro rfl; exact h v List.mem_cons_self
      simp [this]
theorem bindL_get {kindOf : Str → Option NameKind} {x : Str} {v : Value} : ∀ {P : List Str} {vs : List Value} {i : Nat} {m : Str → Option Value}, P.Nodup → P[i]? = some x → vs[i]? = some v → kindOf x = some .local →
    bindL kindOf (P.zip vs) m x = some v
  | [], _, _, _, _, h, _, _ => by simp at h
  | _ :: _, [], _, _, _, _, h, _ => by simp at h
  | p :: P, w :: vs, 0, m, nd, h1, h2, hk => by
    simp at h1 h2; subst h1; subst h2
    show bindL kindOf ((p, w) :: P.zip vs) m p = _
    unfold bindL
    rw [bindL_out fun v hv => (List.nodup_cons.mp nd).1 (List.of_mem_zip hv).1, if_pos hk]
    simp
  | p :: P, w :: vs, i + 1, m, nd, h1, h2, hk => by
    show bindL kindOf ((p, w) :: P.zip vs) m x = _
    unfold bindL
    exact bindL_get (i := i) (List.nodup_cons.mp nd).2 (by simpa using h1) (by simpa using h2) hk
theorem bindC_get {kindOf : Str → Option NameKind} {x : Str} {v : Value} : ∀ {P : List Str} {vs : List Value} {i : Nat} {m : Str → Option Value}, P.Nodup → P[i]? = some x → vs[i]? = some v → kindOf x ≠ some .local →
    bindC kindOf (P.zip vs) m x = some v
  | [], _, _, _, _, h, _, _ => by simp at h
  | _ :: _, [], _, _, _, _, h, _ => by simp at h
  | p :: P, w :: vs, 0, m, nd, h1, h2, hk => by
    simp at h1 h2; subst h1; subst h2
    show bindC kindOf ((p, w) :: P.zip vs) m p = _
    unfold bindC
    rw [bindC_out fun v hv => (List.nodup_cons.mp nd).1 (List.of_mem_zip hv).1, if_neg hk]
    simp
  | p :: P, w :: vs, i + 1, m, nd, h1, h2, hk => by
    show bindC kindOf ((p, w) :: P.zip vs) m x = _
    unfold bindC
    exact bindC_get (i := i) (List.nodup_cons.mp nd).2 (by simpa using h1) (by simpa using h2) hk

/-- the names' values at the entry -/
def start (N : List Str) (vs : List V) : St := vs.map some ++ List.replicate (N.length - vs.length) none

/-- the context of a def's body, at its entry; an exception leaves the frame, then lies as CX says -/
def cxOf (CX : CXT) (P : Program) (w : World) (K : PySem.W.Frag) (mg : Str → Option Value) (base : Heap) (N : List Str) (qual : Str) (scope : Scope) (f : Addr) (cd : Value) (A : Around) (outer : List Env) (s : Shared) (H : Hp) (E : XK) : Cx where
  prog := P
  w := w
  K := K
  mg := mg
  base := base
  A := A.deeper (envOfC qual scope s.heap.objs.size f cd)
  N := N
  s₀ := s
  H₀ := H
  env := envOfC qual scope s.heap.objs.size f cd
  outer := outer
  stack := envOfC qual scope s.heap.objs.size f cd :: outer
  ex := []
  calm := true
  fn := fun _ => true
  pn := []
  xe := fun e s' => wpAny (model P w) (A.deeper (envOfC qual scope s.heap.objs.size f cd)) (leaving (envOfC qual scope s.heap.objs.size f cd) e) (fun _ s'' => CX outer H s E e s'') (fun e' s'' => CX outer H s E e' s'') s'

theorem cell_has {sc : Scope} {n : Nat} {x : Str} (h : sc.names.lookup x = some .cell) : ∃ c, (cellsFrom n sc.names []).lookup x = some c := by
  have q := PySem.W.cellsFrom_some sc.names n [] (.inl h)
  exact Option.isSome_iff_exists.mp q

theorem inv_start {CX : CXT} {P : Program} {w : World} {K : PySem.W.Frag} {mg : Str → Option Value} {base : Heap} {N ps : List Str} {qual : Str} {scope : Scope} {f : Addr} {cd : Value} {A : Around} {outer : List Env} {s s1 : Shared} {H : Hp} {E : XK} {us : List Value} {vs : List V}
    (S : FnScope N ps scope) (hd : A.handled = none) (e0 : Env0 P w K mg base A outer s H) (hl : vs.length = ps.length) (r : Vals vs us)
    (x : InCallC s s.heap.objs.size (bindL (envOfC qual scope s.heap.objs.size f cd).kindOf (ps.zip us) fun _ => none) (cellsFrom (s.heap.objs.size + 1) scope.names []) (bindC (envOfC qual scope s.heap.objs.size f cd).kindOf (ps.zip us) fun _ => none) s1) :
    Inv (cxOf CX P w K mg base N qual scope f cd A outer s H E) [] (start N vs) H s1 := by
  have hpl : ps.length ≤ N.length := by have := congrArg List.length S.pre; rw [List.length_take] at this; omega
  obtain ⟨h1, tk, rfl, hk⟩ := x.done
  have noA : ∀ b : Addr, b ∉ (cxOf CX P w K mg base N qual scope f cd A outer s H E).ex := fun b z => absurd (show b ∈ ([] : List Addr) from z) (by simp)
  refine ⟨⟨e0.mod, S.kind, rfl, rfl, Nat.le_refl _, fun y z c h1 h2 => ?_, fun y hy => ?_, fun y c _ h => ?_, fun _ => hd, Around.frames_deeper e0.frames, .inr ⟨rfl, rfl⟩, fun b z => absurd z (noA b), e0.bs, e0.bsz, fun b _ _ => noA b, fun b z => absurd z (noA b), e0.funs, e0.frf⟩,
    rfl, e0.bare, Un.kept hk, ⟨_, x.toInCall.ns, fun i y v h1 h2 h3 => ?_⟩, fun y c h => ⟨_, x.cell y c h⟩, e0.hok.fresh (Nat.le_refl _), fun y c h => ?_, fun p hp => absurd (show p ∈ ([] : List (Addr × Obj)) from hp) (by simp), e0.hok.kept hk, ?_⟩
  · exact name_of_addr x.apart (PySem.mem_of_lookup h1) (PySem.mem_of_lookup h2)
  · have hy : scope.names.lookup y = some .cell ∨ scope.names.lookup y = some .free := hy
    rcases hy with hy | hy
    · exact cell_has hy
    · exact absurd rfl (S.nofree _ (PySem.mem_of_lookup hy))
  · exact Nat.le_of_lt (x.above y c (PySem.mem_of_lookup h))
  · have hi : i < vs.length := by
      unfold start at h2
      by_cases hi : i < vs.length
      · exact hi
      · rw [List.getElem?_append_right (by simpa using hi)] at h2
        rw [List.getElem?_replicate] at h2
        split at h2 <;> cases h2
    have ha : vs[i]? = some v := by
      unfold start at h2
      rw [List.getElem?_append_left (by simpa using hi), List.getElem?_map] at h2
      cases e : vs[i]? with
      | none => rw [e] at h2; cases h2
      | some a => rw [e] at h2; cases h2; rfl
    obtain ⟨u, hu, rv⟩ := r.get ha
    have hp : ps[i]? = some y := by
      rw [← S.pre, List.getElem?_take_of_lt (by omega)]; exact h1
    have ndP : ps.Nodup := by rw [← S.pre]; exact S.nd.sublist (List.take_sublist _ _)
    refine ⟨u, rv, ?_⟩
    rcases S.par y (List.mem_of_getElem? hp) with k | k
    · exact .inl ⟨k, bindL_get ndP hp hu k⟩
    · obtain ⟨c, e⟩ := cell_has (n := s.heap.objs.size + 1) k
      refine .inr ⟨.inl k, c, e, ?_⟩
      have q := x.cell y c e
      rw [bindC_get ndP hp hu (by show scope.names.lookup y ≠ _; rw [k]; decide)] at q
      exact q
  · exact e0.hok.fresh (Nat.le_of_lt (x.above y c (PySem.mem_of_lookup h)))
  · unfold start
    show _ = N.length
    rw [List.length_append, List.length_map, List.length_replicate]
    omega

/-- THE RULE: a def (or a method) of the text, by its body. The body's reading t is chosen for each entry; it is run at the parameters' values -/
theorem fn_of {CX : CXT} {P : Program} {w : World} {K : PySem.W.Frag} {mg : Str → Option Value} {base : Heap} {k : Nat} {f : Addr} {name qual : Str} {params : Arguments} {body : List Stmt} {scope : Scope} {dV kV doc pm cdv ct oc : Value} {an od : Option Addr}
    {osl : Array (Option Value)} {N ps : List Str} {sp : Sp} (lk : K.lookup f = some ⟨oc, od, .func (PySem.W.fnOf name qual params body scope dV kV doc pm an cdv ct), osl⟩) (hcd : PySem.W.codeIn K cdv qual = true) (S : FnScope N ps scope)
    (len : ∀ vs H Q E, sp vs H Q E → vs.length = ps.length)
    (hbody : ∀ (A : Around) (outer : List Env) (s : Shared) (H : Hp) (vs : List V) (Q : VK) (E : XK), Room k (A.deeper (envOfC qual scope s.heap.objs.size f cdv)) → sp vs H Q E →
      ∃ t, PSs (cxOf CX P w K mg base N qual scope f cdv A outer s H E) body t ∧ t { nx := fun _ H' => Q .non H', rt := Q } (start N vs) H) :
    FnOk P w K mg base CX (k + 1) f (PySem.W.fnOf name qual params body scope dV kV doc pm an cdv ct) ps sp := by
  refine ⟨len, fun A outer s H args us vs Q E hr e0 hb r hsp => ?_⟩
  have hl := len _ _ _ _ hsp
  have KX : K.In s.heap := e0.mod.kin.keeps fun b o e => (e0.bs b o e).1
  have lim : s.heap.NoLimit := e0.mod.nolimit.keeps fun b o e => (e0.bs b o e).1
  have hkind : ∀ y ∈ ps.zip us, scope.names.lookup y.1 = some .local ∨ (scope.names.lookup y.1 = some .cell ∧ ((cellsFrom (s.heap.objs.size + 1) scope.names []).lookup y.1).isSome = true) := fun ⟨n, v⟩ hy => by
    rcases S.par n (List.of_mem_zip hy).1 with q | q
    · exact .inl q
    · exact .inr ⟨q, PySem.W.cellsFrom_some _ _ _ (.inl q)⟩
  refine codeAny_call_function hr.depth (KX _ _ lk) rfl S.co S.gen rfl (PySem.W.codeRec_of KX hcd) (hb _ _ _ _ ?_)
  refine wpAny_newFunctionEnv_cells S.kind hkind fun env he s1 x => ?_
  subst he
  refine ⟨lim.keeps x.toInCall.keep, codeAny_func ?_⟩
  obtain ⟨t, ht, hq⟩ := hbody A outer s H vs Q E (hr.deeper _) hsp
  have I : Inv (cxOf CX P w K mg base N qual scope f cdv A outer s H E) [] (start N vs) H s1 := inv_start S hr.hd e0 hl r x
  refine wpAny_mono (ht [] s1 (start N vs) H _ I hq) (fun fl s' hs => ?_) fun e s' hs => hs
  have fin : ∀ {σ' : St} {H' : Hp} {v : V} {u : Value}, Inv (cxOf CX P w K mg base N qual scope f cdv A outer s H E) [] σ' H' s' → RelV v u → Q v H' → CE outer P w H s Q u s' :=
    fun {σ' H' v u} J rv q => ⟨v, H', J.os, J.bare, J.base, J.hok, rv, q⟩
  cases fl with
  | ret u =>
    obtain ⟨v, σ', H', J, rv, q⟩ := hs
    exact fin J rv q
  | next =>
    obtain ⟨σ', H', J, q⟩ := hs
    exact fin (v := V.non) (u := Value.none) J rfl q
  | brk =>
    obtain ⟨_, _, _, q⟩ := hs
    exact False.elim q
  | cont =>
    obtain ⟨_, _, _, q⟩ := hs
    exact False.elim q
end L2

namespace L2
open PySem PySem.Spec PyProof.Rows
section
variable {X : Cx} {x : Str} {p pos : Pos} {e : Expr} {es : List Expr} {t : TA} {id T : String} {r : List V → Hp → VK → Prop}

def tCB (r : List V → Hp → VK → Prop) (t : TA) : TE := fun σ H Q => t σ H fun vs H1 => r vs H1 Q
/-- f(e, ..), f a built-in function -/
theorem pe_callB (hc : CallR X (.builtin id) r) (hg : Gl X x) (hm : X.mg x = none) (hv : bootBuiltins x = some (.builtin id)) (ha : PA X (e :: es) t) (hn : x ≠ "__name__" := by decide) (hdb : (x == ("__debug__" : Str)) = false := by decide)
    (he : starEach (e :: es) X.env = (false, eval e X.env) :: starEach es X.env := by rfl) (hpl : (backTo pos (starEach es X.env)).any (·.1) = false := by rfl) : PE X (.Call (.Name x p) (e :: es) [] pos) (tCB r t) := by
  intro pins s σ H Q I h
  refine wpAny_Call_Name_kw (ld_blt I hg hm hv ?_ hn hdb)
  exact PyProof.Rows.callWith_builtin1 (thn (ha pos pins s σ H _ I h) fun us s1 ⟨vs, H1, I1, r1, q1⟩ => hc pins s1 σ H1 vs us Q I1 r1 q1) he hpl
/-- T(e, ..), T a built-in type -/
theorem pe_callTy (hc : CallR X (.type T) r) (hg : Gl X x) (hm : X.mg x = none) (hv : bootBuiltins x = some (.type T)) (ha : PA X (e :: es) t) (hn : x ≠ "__name__" := by decide) (hdb : (x == ("__debug__" : Str)) = false := by decide)
    (he : starEach (e :: es) X.env = (false, eval e X.env) :: starEach es X.env := by rfl) (hpl : (backTo pos (starEach es X.env)).any (·.1) = false := by rfl) : PE X (.Call (.Name x p) (e :: es) [] pos) (tCB r t) := by
  intro pins s σ H Q I h
  refine wpAny_Call_Name_kw (ld_blt I hg hm hv ?_ hn hdb)
  exact PyProof.Rows.callWith_type1 (thn (ha pos pins s σ H _ I h) fun us s1 ⟨vs, H1, I1, r1, q1⟩ => hc pins s1 σ H1 vs us Q I1 r1 q1) he hpl
end
end L2

namespace HT
open PySem PyProof.Rows

/-- t < u of tuples of ints -/
def lexLt : List Int → List Int → Bool
  | [], [] => false
  | [], _ :: _ => true
  | _ :: _, [] => false
  | x :: xs, y :: ys => if x = y then lexLt xs ys else decide (x < y)
section
open PySem.SeqAt
open PySem.AutoSeq1 (wpAny_loadPart')
open PySem.MeetsSeq PySem.MeetsSeq2 PySem.MeetsSeq3

end

section
variable {prog : Program} {w : World} {A : Around} {E : Value → Shared → Prop} {s : Shared}

/-! ### t[a:b], not the whole -/
/-- a slice's bound as a place among n (d where it is left out) -/
def sIx (n d : Nat) : Option Int → Nat
  | none => d
  | some v => if v < 0 then (v + (n : Int)).toNat else min v.toNat n
theorem sIx_nat (n d k : Nat) : sIx n d (some (k : Int)) = min k n := by
  show (if (k : Int) < 0 then ((k : Int) + (n : Int)).toNat else min (k : Int).toNat n) = min k n
  rw [if_neg (by omega), Int.toNat_natCast]
end
end HT

namespace L2
open PySem PySem.Spec PyProof.Rows

/-! ### the parts of a slice -/
abbrev TO := St → Hp → (Option Int → Hp → Prop) → Prop
/-- a slice's part (left out, or an int) -/
def PO (X : Cx) (e : Option Expr) (t : TO) : Prop :=
  ∀ (pins : List (Addr × Obj)) (s : Shared) (σ : St) (H : Hp) (Q : Option Int → Hp → Prop), Inv X pins σ H s → t σ H Q →
    wpAny (model X.prog X.w) X.A (evalPart e X.env) (fun u s' => ∃ o H', Inv X pins σ H' s' ∧ IsPart u o ∧ Q o H') X.xe s
def tNoPart : TO := fun _ H Q => Q none H
def tPart (t : TE) : TO := fun σ H Q => t σ H fun x H1 => ∃ i, x = .int i ∧ Q (some i) H1

theorem intsAre_of {ns : List Int} : ∀ {us : List Value}, Vals (ns.map V.int) us → IntsAre us ns := by
  induction ns with
  | nil => intro us r; rw [List.map_nil] at r; cases r; exact .nil
  | cons n ns ih =>
    intro us r
    rw [List.map_cons] at r
    cases r with
    | cons r1 r2 =>
      obtain ⟨t, e⟩ := r1
      subst e
      exact .cons n t (ih r2)

section
variable {X : Cx} {e : Expr} {te : TE} {lo hi : Option Expr} {tl th : TO} {pos p2 : Pos}

theorem po_some (h : PE X e te) : PO X (some e) (tPart te) := by
  intro pins s σ H Q I hw
  rw [evalPart_some]
  refine thn (h pins s σ H _ I hw) fun u s1 ⟨x, H1, I1, r1, q1⟩ => ?_
  obtain ⟨i, rfl, q⟩ := q1
  obtain ⟨t, rfl⟩ := r1
  exact ⟨some i, H1, I1, .int i t, q⟩

/-- what a slice of a value is, by values: the slice object stands at sl -/
def SlR (X : Cx) (r : V → Option Int → Option Int → Hp → VK → Prop) : Prop :=
  ∀ (pins : List (Addr × Obj)) (s : Shared) (σ : St) (H : Hp) (x : V) (v vl vu : Value) (lo hi : Option Int) (sl : Addr) (Q : VK), Inv X pins σ H s → RelV x v → s.heap.IsSliceOf sl vl vu .none → IsPart vl lo → IsPart vu hi → r x lo hi H Q →
    ∃ T id, typeLookup (.type T) "__getitem__" = pure (some (.builtin id)) ∧ s.TypeIs v T ∧ wpAny (model X.prog X.w) X.A (getItem v (.ref sl)) (EP X pins σ Q) X.xe s
def tSl (r : V → Option Int → Option Int → Hp → VK → Prop) (te : TE) (tl th : TO) : TE := fun σ H Q => te σ H fun x H1 => tl σ H1 fun l H2 => th σ H2 fun u H3 => r x l u H3 Q
/-- a[lo:hi], any a -/
theorem pe_slice {r : V → Option Int → Option Int → Hp → VK → Prop} (hr : SlR X r) (he : PE X e te) (hl : PO X lo tl) (hu : PO X hi th) : PE X (.Subscript e (.Slice lo hi none p2) pos) (tSl r te tl th) := by
  intro pins s σ H Q I h
  refine Subscript_ (thn (he pins s σ H _ I h) fun v s1 ⟨x, H1, I1, r1, q1⟩ => ?_)
  refine wpAny_Slice (thn (hl pins s1 σ H1 _ I1 q1) fun vl s2 ⟨l, H2, I2, pl, q2⟩ => thn (hu pins s2 σ H2 _ I2 q2) fun vu s3 ⟨u, H3, I3, pu, q3⟩ => ?_)
  rw [evalPart_none]
  refine wpAny_pure ?_
  have I4 : Inv X pins σ H3 { s3 with heap := s3.heap.push { cls := .type "slice", data := .fields #[vl, vu, .none] } } := I3.kept (t' := s3.toks) fun b ob q => Heap.get?_push_of_some _ q
  obtain ⟨T, id, hT, ht, hg⟩ := hr pins { s3 with heap := s3.heap.push { cls := .type "slice", data := .fields #[vl, vu, .none] } } σ H3 x v vl vu l u s3.heap.objs.size Q I4 r1 (Heap.IsSliceOf.new ..) pl pu q3
  show wpAny (model X.prog X.w) X.A (subscriptTail e (.Slice lo hi none p2) v (.ref s3.heap.objs.size)) (EP X pins σ Q) X.xe { s3 with heap := s3.heap.push { cls := .type "slice", data := .fields #[vl, vu, .none] } }
  exact tail_any (ops := [.ref s3.heap.objs.size, v]) ht hT hg (by with_unfolding_all rfl)

/-- the items of xs[lo:hi] -/
def cutV (xs : List V) (lo hi : Option Int) : List V := (xs.drop (HT.sIx xs.length 0 lo)).take (HT.sIx xs.length xs.length hi - HT.sIx xs.length 0 lo)
theorem cutV_length (xs : List V) (lo hi : Option Int) : (cutV xs lo hi).length ≤ xs.length := by
  unfold cutV
  rw [List.length_take, List.length_drop]
  omega
/-- t[lo:hi], not the whole of it (the whole would be t itself) -/
def rSlT (K : PySem.W.Frag) : V → Option Int → Option Int → Hp → VK → Prop := fun x lo hi H Q => ∃ a xs, x = .ref a ∧ SqT K H a xs ∧
  ¬ (HT.sIx xs.length 0 lo = 0 ∧ HT.sIx xs.length xs.length hi = xs.length) ∧ ∀ p, H p = none → Q (.ref p) (upd H p (.tup (cutV xs lo hi)))
/-! ### t < u, t + u -/
def rLtT (K : PySem.W.Frag) : R2 := fun x y H Q => ∃ a b ns ms, x = .ref a ∧ y = .ref b ∧ SqT K H a (ns.map V.int) ∧ SqT K H b (ms.map V.int) ∧ Q (.bl (HT.lexLt ns ms)) H
/-- t + u, t not empty: u empty gives t itself -/
def rCatT (K : PySem.W.Frag) : R2 := fun x y H Q => ∃ a b xs ys, x = .ref a ∧ y = .ref b ∧ SqT K H a xs ∧ SqT K H b ys ∧ xs ≠ [] ∧ xs.length + ys.length ≤ sizeLine ∧
  (ys = [] → Q (.ref a) H) ∧ (ys ≠ [] → ∀ p, H p = none → Q (.ref p) (upd H p (.tup (xs ++ ys))))
end
end L2

namespace L2
open PySem PySem.Spec PyProof.Rows

/-! ### places -/
/-- the place that an index of any sign means -/
def ixN (n : Nat) (i : Int) : Option Nat := if 0 ≤ i then (if i < n then some i.toNat else none) else if -(n : Int) ≤ i then some (i + n).toNat else none
def atI {α : Type} (xs : List α) (i : Int) : Option α := (ixN xs.length i).bind fun j => xs[j]?
theorem ixN_seq {n : Nat} {i : Int} {j : Nat} (h : ixN n i = some j) : seqIndex? i n = some j ∧ j < n ∧ -(n : Int) ≤ i ∧ i < n := by
  unfold ixN at h
  by_cases h0 : 0 ≤ i
  · rw [if_pos h0] at h
    by_cases h1 : i < n
    · rw [if_pos h1] at h
      have e : i.toNat = j := Option.some.inj h
      exact ⟨by rw [seqIndex_of h0 h1, e], by omega, by omega, h1⟩
    · rw [if_neg h1] at h; cases h
  · rw [if_neg h0] at h
    by_cases h1 : -(n : Int) ≤ i
    · rw [if_pos h1] at h
      have e : (i + n).toNat = j := Option.some.inj h
      exact ⟨by rw [seqIndex_neg (by omega) h1, e], by omega, h1, by omega⟩
    · rw [if_neg h1] at h; cases h
theorem atI_get {α : Type} {xs : List α} {i : Int} {v : α} (h : atI xs i = some v) : ∃ j, seqIndex? i xs.length = some j ∧ xs[j]? = some v ∧ j < xs.length ∧ -(xs.length : Int) ≤ i ∧ i < xs.length := by
  unfold atI at h
  cases e : ixN xs.length i with
  | none => rw [e] at h; cases h
  | some j =>
    rw [e] at h
    obtain ⟨h1, h2, h3, h4⟩ := ixN_seq e
    exact ⟨j, h1, h, h2, h3, h4⟩
theorem atI_nat {α : Type} {xs : List α} {j : Nat} {v : α} (h : xs[j]? = some v) : atI xs (j : Int) = some v := by
  have hj : j < xs.length := (List.getElem?_eq_some_iff.mp h).1
  have e : ixN xs.length (j : Int) = some j := by
    unfold ixN
    rw [if_pos (by omega), if_pos (by omega)]; simp
  unfold atI; rw [e]; exact h
/-! ### what may be subscripted -/
/-- what stands as an index of a plain subscript -/
def PlainIx (b : Expr) : Prop := ∀ o i, subscripted b false o i = operate [o, i] (getItem o i)
/-- a subscript by values -/
def IxR (X : Cx) (r : R2) : Prop :=
  ∀ (value slice : Expr) (pins : List (Addr × Obj)) (s : Shared) (σ : St) (H : Hp) (x y : V) (v u : Value) (Q : VK), Inv X pins σ H s → RelV x v → RelV y u → r x y H Q →
    subscripted slice false v u = operate [v, u] (getItem v u) → wpAny (model X.prog X.w) X.A (subscriptTail value slice v u) (EP X pins σ Q) X.xe s
/-- a call of a builtin's method by values: the receiver, the arguments -/
def MtR (X : Cx) (id : String) (r : V → List V → Hp → VK → Prop) : Prop :=
  ∀ (pins : List (Addr × Obj)) (s : Shared) (σ : St) (H : Hp) (x : V) (xs : List V) (v : Value) (us : List Value) (Q : VK), Inv X pins σ H s → RelV x v → Vals xs us → r x xs H Q →
    wpAny (model X.prog X.w) X.A (call (.builtin id) (v :: us)) (EP X pins σ Q) X.xe s
section
variable {X : Cx} {a b : Expr} {ta tb : TE} {pos : Pos}
/-- a[b] -/
theorem pe_ix {r : R2} (hr : IxR X r) (ha : PE X a ta) (hb : PE X b tb) (hs : PlainIx b) : PE X (.Subscript a b pos) (tOp r ta tb) := by
  intro pins s σ H Q I h
  exact Subscript_ (binT ha hb I h fun v u s2 x y H2 I2 rx ry q => hr a b pins s2 σ H2 x y v u Q I2 rx ry q (hs _ _))

def rIxL (K : PySem.W.Frag) : R2 := fun x y H Q => ∃ p xs i v, x = .ref p ∧ y = .int i ∧ SqL K H p xs ∧ atI xs i = some v ∧ Q v H
def rIxT (K : PySem.W.Frag) : R2 := fun x y H Q => ∃ p xs i v, x = .ref p ∧ y = .int i ∧ SqT K H p xs ∧ atI xs i = some v ∧ Q v H
def rIxS : R2 := fun x y H Q => ∃ z i c, x = .str z ∧ y = .int i ∧ z.length ≤ sizeLine ∧ atI z.cps.toList i = some c ∧ Q (.str ⟨#[c]⟩) H
theorem ix_list : IxR X (rIxL X.K) := by
  intro value slice pins s σ H x y v u Q I rx ry h hs
  obtain ⟨p, xs, i, z, rfl, rfl, hq, he, q⟩ := h
  cases rx
  obtain ⟨t, rfl⟩ := ry
  obtain ⟨its, r, pl, hz⟩ := I.list hq
  obtain ⟨j, h1, h2, h3, h4, h5⟩ := atI_get he
  obtain ⟨w, ew, rw'⟩ := r.get h2
  have hl := r.length
  have hn := line63
  have fin : EP X pins σ Q w s := ⟨z, H, I, rw', q⟩
  by_cases h0 : 0 ≤ i
  · have hj : i.toNat = j := by
      rw [seqIndex_of h0 h5] at h1
      exact Option.some.inj h1
    exact item_listR pl.isList h0 (by omega) (by rw [hj]; simpa using ew) fin hs
  · have hj : (i + (its.toArray.size : Int)).toNat = j := by
      rw [seqIndex_neg (by omega) h4] at h1
      rw [List.size_toArray, ← hl]
      exact Option.some.inj h1
    exact subscriptTail_builtinR (x := w) pl.isList.typeIs slot_list_getitem.lookup
      (wpAny_getItem_list_neg (Q := fun r s' => r = w ∧ EP X pins σ Q r s') pl.isList (by omega) (by rw [List.size_toArray] <;> omega) (by omega) (by rw [hj]; simpa using ew) ⟨rfl, fin⟩) hs
/-- list, tuple or str -/
def rIx (K : PySem.W.Frag) : R2 := fun x y H Q => rIxL K x y H Q ∨ rIxT K x y H Q ∨ rIxS x y H Q
/-! ### xs[i] = v, any sign -/
/-- the list's object behind a store -/
theorem mapSeq_set (its : List Value) (n j : Nat) (u : Value) : Obj.mapSeq (·.setIfInBounds j u) { cls := .type "list", data := .seq its.toArray n } = { cls := .type "list", data := .seq (its.set j u).toArray n } := by
  simp [Obj.mapSeq]
theorem Inv.lst {pins : List (Addr × Obj)} {σ : St} {H : Hp} {s : Shared} {p : Addr} {xs : List V} (I : Inv X pins σ H s) (h : H p = some (.lst xs)) :
    ∃ (its : List Value) (n : Nat), Vals xs its ∧ s.heap.get? p = some { cls := .type "list", data := .seq its.toArray n } ∧ xs.length ≤ sizeLine := by
  obtain ⟨z, its, n, r, e⟩ := I.hok p _ h
  exact ⟨its, n, r, e, z⟩
/-- the list at p is written by an update of its object -/
theorem Inv.lstUpd {pins : List (Addr × Obj)} {σ : St} {H : Hp} {s : Shared} {p : Addr} {xs ys : List V} {its its' : List Value} {n n' : Nat} {f : Obj → Obj} (I : Inv X pins σ H s) (h : H p = some (.lst xs))
    (ho : s.heap.get? p = some { cls := .type "list", data := .seq its.toArray n }) (hf : f { cls := .type "list", data := .seq its.toArray n } = { cls := .type "list", data := .seq its'.toArray n' }) (r : Vals ys its') (hz : ys.length ≤ sizeLine) (t : Nat) :
    Inv X pins σ (upd H p (.lst ys)) { s with heap := s.heap.update p f, toks := t } := by
  have e : (s.heap.update p f).get? p = some { cls := .type "list", data := .seq its'.toArray n' } := by
    rw [Heap.get?_update_self f ho (by rw [hf] <;> rfl), hf]
  refine I.write (x := p) (e := p) (by rw [h]; trivial) (.inl rfl) (fun b u hb q => (Heap.get?_update_other _ _ (Ne.symm hb)).trans q) ⟨_, e⟩ ?_
  exact ⟨hz, its', n', r, e⟩
def rSetL : V → V → V → Hp → (Hp → Prop) → Prop := fun o i v H Q => ∃ p xs k j, o = .ref p ∧ i = .int k ∧ H p = some (.lst xs) ∧ ixN xs.length k = some j ∧ Q (upd H p (.lst (xs.set j v)))
theorem set_list : PSet X rSetL := by
  intro pins s σ H o i v ov iv u Q I ro ri rv h
  obtain ⟨p, xs, k, j, rfl, rfl, hp, hj, q⟩ := h
  cases ro
  obtain ⟨t, rfl⟩ := ri
  obtain ⟨its, n, r, ho, hz⟩ := I.lst hp
  obtain ⟨h1, h2, h3, h4⟩ := ixN_seq hj
  have hl := r.length
  have hn := line63
  have I' : Inv X pins σ (upd H p (.lst (xs.set j v))) { s with heap := s.heap.update p (Obj.mapSeq (·.setIfInBounds j u)) } :=
    I.lstUpd hp ho (mapSeq_set its n j u) (r.set rv j) (by rw [List.length_set]; exact hz) s.toks
  by_cases h0 : 0 ≤ k
  · have hk : k.toNat = j := by
      rw [seqIndex_of h0 h4] at h1
      exact Option.some.inj h1
    exact PySem.W.ki_setAt ho h0 (by omega) (by rw [List.size_toArray, ← hl]; exact h4) (by rw [hk]; exact ⟨_, I', q⟩)
  · have hk : (k + (its.toArray.size : Int)).toNat = j := by
      rw [seqIndex_neg (by omega) h3] at h1
      rw [List.size_toArray, ← hl]
      exact Option.some.inj h1
    exact PySem.W.ki_setBack ho (by omega) (by rw [List.size_toArray, ← hl]; exact h3) (by omega) (by rw [hk]; exact ⟨_, I', q⟩)

/-! ### slices -/
theorem slice_bounds (lo hi : Option Int) (n : Nat) : (sliceBounds lo hi none n).1 = ((HT.sIx n 0 lo : Nat) : Int) ∧ (sliceBounds lo hi none n).2.1 = ((HT.sIx n n hi : Nat) : Int) ∧ (sliceBounds lo hi none n).2.2 = 1 := by
  refine ⟨?_, ?_, rfl⟩
  · cases lo with
    | none => simp [sliceBounds, HT.sIx]
    | some i =>
      simp only [sliceBounds, HT.sIx, Option.getD_none, show (1 : Int) > 0 by decide, if_true]
      by_cases h : i < 0
      · simp only [h, if_true] <;> omega
      · simp only [h, if_false] <;> omega
  · cases hi with
    | none => simp [sliceBounds, HT.sIx]
    | some i =>
      simp only [sliceBounds, HT.sIx, Option.getD_none, show (1 : Int) > 0 by decide, if_true]
      by_cases h : i < 0
      · simp only [h, if_true] <;> omega
      · simp only [h, if_false] <;> omega
theorem slicePick_cut (its : List Value) (lo hi : Option Int) : slicePick its.toArray lo hi none = ((its.drop (HT.sIx its.length 0 lo)).take (HT.sIx its.length its.length hi - HT.sIx its.length 0 lo)).toArray := by
  obtain ⟨h1, h2, h3⟩ := slice_bounds lo hi its.toArray.size
  unfold slicePick
  rw [h1, h2, h3]
  simp only [sliceRange_one, pick_run, List.size_toArray] <;> rfl
/-- xs[lo:hi] of a list: a new list -/
def rSlL (K : PySem.W.Frag) : V → Option Int → Option Int → Hp → VK → Prop := fun x lo hi H Q => ∃ a xs, x = .ref a ∧ SqL K H a xs ∧ ∀ p, H p = none → Q (.ref p) (upd H p (.lst (cutV xs lo hi)))
theorem sl_list : SlR X (rSlL X.K) := by
  intro pins s σ H x v vl vu lo hi sl Q I rx hs pl pu h
  obtain ⟨a, xs, rfl, hx, q⟩ := h
  cases rx
  obtain ⟨its, r, ht, hz⟩ := I.list hx
  have hlen := r.length
  refine ⟨"list", _, slot_list_getitem.lookup, ht.isList.typeIs, ?_⟩
  refine wpAny_getItem_list_slice ht.isList hs pl pu .none (by simp) ?_ (by rw [List.size_toArray] <;> omega)
  rw [slicePick_cut, ← hlen]
  refine ⟨.ref s.heap.objs.size, _, I.laid (t' := s.toks) (o := .lst (cutV xs lo hi)) (fun b ob q => Heap.get?_push_of_some _ q) (Nat.le_refl _) ?_, rfl, q _ (I.hok.fresh (Nat.le_refl _))⟩
  exact ⟨Nat.le_trans (cutV_length xs lo hi) hz, _, 0, (r.drop (HT.sIx xs.length 0 lo)).take (HT.sIx xs.length xs.length hi - HT.sIx xs.length 0 lo), Heap.get?_push_size _ rfl⟩

/-! ### in, not in: flat items -/
def flatV : V → Bool
  | .non => true
  | .bl _ => true
  | .int _ => true
  | .str _ => true
  | _ => false
/-- == of flat values -/
def eqV : V → V → Bool
  | .non, .non => true
  | .bl a, .bl b => a == b
  | .bl a, .int b => (if a then 1 else 0) == b
  | .int a, .bl b => a == (if b then 1 else 0)
  | .int a, .int b => a == b
  | .str a, .str b => a == b
  | _, _ => false
theorem eqAt_V {A : Around} {s : Shared} {y x : V} {u v : Value} (ry : RelV y u) (rx : RelV x v) (fy : flatV y = true) (fx : flatV x = true) : SeqAt.EqAt A s u v (eqV y x) := by
  cases y with
  | non =>
    cases ry
    cases x with
    | non => cases rx; exact SeqAt.EqAt.same _
    | bl b => cases rx; exact SeqAt.EqAt.none_bool b
    | int b => obtain ⟨t, rfl⟩ := rx; exact SeqAt.EqAt.none_int b t
    | str b => obtain ⟨t, rfl⟩ := rx; exact SeqAt.EqAt.none_str b t
    | _ => exact absurd (show false = true from fx) Bool.false_ne_true
  | bl a =>
    cases ry
    cases x with
    | non => cases rx; exact SeqAt.EqAt.bool_none a
    | bl b => cases rx; exact SeqAt.EqAt.bool_bool a b
    | int b => obtain ⟨t, rfl⟩ := rx; exact SeqAt.EqAt.bool_int a b t
    | str b => obtain ⟨t, rfl⟩ := rx; exact SeqAt.EqAt.bool_str a b t
    | _ => exact absurd (show false = true from fx) Bool.false_ne_true
  | int a =>
    obtain ⟨t', rfl⟩ := ry
    cases x with
    | non => cases rx; exact SeqAt.EqAt.int_none a t'
    | bl b => cases rx; exact SeqAt.EqAt.int_bool a t' b
    | int b => obtain ⟨t, rfl⟩ := rx; exact SeqAt.EqAt.int_int a t' b t
    | str b => obtain ⟨t, rfl⟩ := rx; exact SeqAt.EqAt.int_str a t' b t
    | _ => exact absurd (show false = true from fx) Bool.false_ne_true
  | str a =>
    obtain ⟨t', rfl⟩ := ry
    cases x with
    | non => cases rx; exact SeqAt.EqAt.str_none a t'
    | bl b => cases rx; exact SeqAt.EqAt.str_bool a t' b
    | int b => obtain ⟨t, rfl⟩ := rx; exact SeqAt.EqAt.str_int a t' b t
    | str b => obtain ⟨t, rfl⟩ := rx; exact SeqAt.EqAt.str_str a t' b t
    | _ => exact absurd (show false = true from fx) Bool.false_ne_true
  | _ => exact absurd (show false = true from fy) Bool.false_ne_true
/-- the items' answers, read off the values (a value's own answer does not lean on its token) -/
def eqU (x : V) (u : Value) : Bool := match u with
  | .none => eqV .non x
  | .bool b => eqV (.bl b) x
  | .int i _ => eqV (.int i) x
  | .str z _ => eqV (.str z) x
  | _ => false
theorem eqU_of {x y : V} {u : Value} (r : RelV y u) (f : flatV y = true) : eqU x u = eqV y x := by
  cases y with
  | non => cases r; rfl
  | bl b => cases r; rfl
  | int i => obtain ⟨t, rfl⟩ := r; rfl
  | str z => obtain ⟨t, rfl⟩ := r; rfl
  | _ => exact absurd (show false = true from f) Bool.false_ne_true
theorem mem_eqAt {A : Around} {s : Shared} {x : V} {v : Value} (rx : RelV x v) (fx : flatV x = true) : ∀ {xs : List V} {us : List Value}, Vals xs us → xs.all flatV = true → ∀ u ∈ us, SeqAt.EqAt A s u v (eqU x u)
  | _, _, .nil, _ => fun u hu => by cases hu
  | y :: xs, u :: us, .cons r t, f => fun u' hu => by
    rw [List.all_cons, Bool.and_eq_true] at f
    rcases List.mem_cons.mp hu with rfl | hu
    · rw [eqU_of r f.1]; exact eqAt_V r rx f.1 fx
    · exact mem_eqAt rx fx t f.2 u' hu
def inV (x : V) (xs : List V) : Bool := xs.any fun y => eqV y x
/-- x in a list or tuple of flat items -/
def rIn (K : PySem.W.Frag) (neg : Bool) : R2 := fun x y H Q => ∃ p xs, y = .ref p ∧ (SqL K H p xs ∨ SqT K H p xs) ∧ flatV x = true ∧ xs.all flatV = true ∧ Q (.bl (if neg then !inV x xs else inV x xs)) H
/-! ### len, list(x), tuple(x) of any list or tuple that is read -/
theorem call_len_seq : CallR X (.builtin "len") (fun xs H Q => ∃ p ys, xs = [.ref p] ∧ (SqL X.K H p ys ∨ SqT X.K H p ys) ∧ Q (.int ys.length) H) := by
  intro pins s σ H xs us Q I r h
  obtain ⟨p, ys, rfl, hq, q⟩ := h
  obtain ⟨u, rfl, rx⟩ := vals1 r
  cases rx
  have hn := line63
  rcases hq with hq | hq
  · obtain ⟨its, r', pl, hz⟩ := I.list hq
    have hlen := r'.length
    exact Calls.call_len_list pl.isList (by simp only [List.size_toArray] <;> omega) ⟨.int ys.length, H, I.tok _, ⟨s.toks + 1, by rw [List.size_toArray, hlen]⟩, q⟩
  · obtain ⟨its, r', pl, hz⟩ := I.tuple hq
    have hlen := r'.length
    exact len_tuple pl (by simp only [List.size_toArray] <;> omega) ⟨.int ys.length, H, I.tok _, ⟨s.toks + 1, by rw [List.size_toArray, hlen]⟩, q⟩
theorem call_list_of : CallR X (.type "list") (fun xs H Q => ∃ p ys, xs = [.ref p] ∧ (SqL X.K H p ys ∨ SqT X.K H p ys) ∧ ∀ l, H l = none → Q (.ref l) (upd H l (.lst ys))) := by
  intro pins s σ H xs us Q I r h
  obtain ⟨p, ys, rfl, hq, q⟩ := h
  obtain ⟨u, rfl, rx⟩ := vals1 r
  cases rx
  have fin : ∀ (its : List Value), Vals ys its → ys.length ≤ sizeLine → ∀ (h' : Heap) (c' : Nat), (∀ b o', s.heap.get? b = some o' → h'.get? b = some o') →
      h'.get? s.heap.objs.size = some { cls := .type "list", dict := none, data := .seq its.toArray c', slots := #[] } → EP X pins σ Q (.ref s.heap.objs.size) { s with heap := h' } := fun its r' hz h' c' kp e =>
    ⟨.ref s.heap.objs.size, _, I.laid (t' := s.toks) kp (Nat.le_refl _) (show ObjOk X.prog X.w _ h' _ (.lst ys) from ⟨hz, its, c', r', e⟩), rfl, q _ (I.hok.fresh (Nat.le_refl _))⟩
  rcases hq with hq | hq
  · obtain ⟨its, r', pl, hz⟩ := I.list hq
    have hlen := r'.length
    obtain ⟨o, ho, hc, n, hd⟩ := pl.isList
    exact call_list_seq p (.inl rfl) ho hc hd (fun h' c' kp e => fin its r' hz h' c' kp e) (by simp only [List.size_toArray] <;> omega)
  · obtain ⟨its, r', pl, hz⟩ := I.tuple hq
    have hlen := r'.length
    obtain ⟨o, ho, hc, n, hd⟩ := pl
    exact call_list_seq p (.inr rfl) ho hc hd (fun h' c' kp e => fin its r' hz h' c' kp e) (by simp only [List.size_toArray] <;> omega)
/-! ### the call of a builtin's method: o.m(..) -/
/-- the value is of that builtin type -/
def tyV (K : PySem.W.Frag) (T : String) (x : V) (H : Hp) : Prop := match x with
  | .str _ => T = "str"
  | .int _ => T = "int"
  | .ref p => (T = "list" ∧ ∃ xs, SqL K H p xs) ∨ (T = "tuple" ∧ ∃ o, K.lookup p = some o ∧ o.cls = .type "tuple" ∧ o.dict = none) ∨
      (T = "dict" ∧ ((∃ kvs, H p = some (.dK kvs)) ∨ ∃ kvs, H p = some (.dT kvs))) ∨ (T = "set" ∧ ∃ S n, H p = some (.set S n))
  | _ => False
theorem tyV_is {pins : List (Addr × Obj)} {σ : St} {H : Hp} {s : Shared} {T : String} {x : V} {v : Value} (I : Inv X pins σ H s) (r : RelV x v) (ty : tyV X.K T x H) :
    s.TypeIs v T ∧ ∀ a, v = .ref a → ∃ ob, s.heap.get? a = some ob ∧ ob.dict = none := by
  cases x with
  | str z =>
    obtain ⟨t, rfl⟩ := r
    cases (show T = "str" from ty)
    exact ⟨typeIs_str s z t, fun _ e => nomatch e⟩
  | int i =>
    obtain ⟨t, rfl⟩ := r
    cases (show T = "int" from ty)
    exact ⟨typeIs_int s i t, fun _ e => nomatch e⟩
  | ref p =>
    cases r
    rcases ty with ⟨rfl, xs, hq⟩ | ⟨rfl, o, hk, hc, hd⟩ | ⟨rfl, hk⟩ | ⟨rfl, S, n, hk⟩
    · obtain ⟨its, _, pl, _⟩ := I.list hq
      refine ⟨pl.isList.typeIs, fun a e => ?_⟩
      cases e
      obtain ⟨o, n, e, c, hd, _⟩ := pl
      exact ⟨o, e, hd⟩
    · refine ⟨⟨o, I.kIn p o hk, hc⟩, fun a e => ?_⟩
      cases e
      exact ⟨o, I.kIn _ o hk, hd⟩
    · have z : ∃ o, s.heap.get? p = some o ∧ o.ExactDict := by
        rcases hk with ⟨kvs, hk⟩ | ⟨kvs, hk⟩
        · obtain ⟨_, _, _, _, o, _, _, e, ex, _⟩ := I.hok p _ hk
          exact ⟨o, e, ex⟩
        · obtain ⟨_, _, _, _, o, _, _, e, ex, _⟩ := I.hok p _ hk
          exact ⟨o, e, ex⟩
      obtain ⟨o, e, ex⟩ := z
      refine ⟨⟨o, e, ex.1⟩, fun a e2 => ?_⟩
      cases e2
      exact ⟨o, e, ex.2.1⟩
    · obtain ⟨o, _, _, _, e, ex, _⟩ := I.hok p _ hk
      refine ⟨⟨o, e, ex.1⟩, fun a e2 => ?_⟩
      cases e2
      exact ⟨o, e, ex.2.1⟩
  | _ => exact False.elim ty
def tBM0 (K : PySem.W.Frag) (T : String) (r : V → List V → Hp → VK → Prop) (to : TE) : TE := fun σ H Q => to σ H fun x H1 => tyV K T x H1 ∧ r x [] H1 Q
def tBM (K : PySem.W.Frag) (T : String) (r : V → List V → Hp → VK → Prop) (to : TE) (t : TA) : TE := fun σ H Q => to σ H fun x H1 => tyV K T x H1 ∧ t σ H1 fun xs H2 => r x xs H2 Q
variable {o e : Expr} {es : List Expr} {to : TE} {t : TA} {name : Str} {apos cpos : Pos} {T id : String} {r : V → List V → Hp → VK → Prop}
theorem pe_bm (pa : PlainAttrs T) (slot : Slot T name id) (hty : typeOf (.builtin id) = pure (.type "method_descriptor")) (hm : MtR X id r) (ho : PE X o to) (ha : PA X (e :: es) t)
    (hbase : attributeBase o name X.env (eval o X.env) = eval o X.env := by rfl)
    (hfew : ((backTo cpos (starEach (e :: es) X.env)).all (fun x => !x.1) && (backToKw cpos (keywordEach [] X.env)).all (fun x => x.1.isSome)
      && decide ((e :: es).length + ([] : List Keyword).length + (if ([] : List Keyword).isEmpty then 0 else 1) < 30)) = true := by rfl)
    (hline : (apos.endLine == cpos.line) = true := by rfl) (hs : starEach (e :: es) X.env = (false, eval e X.env) :: starEach es X.env := by rfl) (hplain : (backTo cpos (starEach es X.env)).any (·.1) = false := by rfl) :
    PE X (.Call (.Attribute o name apos) (e :: es) [] cpos) (tBM X.K T r to t) := by
  intro pins s σ H Q I h
  refine wpAny_Call_method_late hbase hfew hline rfl (thn (ho pins s σ H _ I h) fun v s1 ⟨x, H1, I1, r1, ty, q1⟩ => ?_)
  obtain ⟨h1, h2⟩ := tyV_is I1 r1 ty
  refine ⟨T, id, pa, slot, hty, h1, h2, ?_⟩
  have hA := ha cpos pins s1 σ H1 _ I1 q1
  rw [hs] at hA ⊢
  refine Calls.callWith_builtin (by show (false || (backTo cpos (starEach es X.env)).any (·.1)) = false; rw [hplain] <;> rfl) (Calls.evalArgs_plain ?_)
  exact thn hA fun us s2 ⟨vs, H2, I2, r2, q2⟩ => hm pins s2 σ H2 x vs v us Q I2 r1 r2 q2
/- xs.append(e), list.index on a module's tuple .. are MtR facts of 06m -/
end
end L2

namespace L2
open PySem PySem.Spec PyProof.Rows

def MtM (X : Cx) (id : String) (r : V → List V → Hp → VK → Prop) : Prop :=
  ∀ (pins : List (Addr × Obj)) (s : Shared) (σ : St) (H : Hp) (x : V) (xs : List V) (v : Value) (us : List Value) (Q : VK), Inv X pins σ H s → RelV x v → Vals xs us → r x xs H Q →
    wpAny (model X.prog X.w) X.A (call (.builtin id) (v :: us)) (EP X pins σ Q) X.xe s

/-! ### lists of values -/
theorem Vals.one : ∀ {x : V} {us : List Value}, Vals [x] us → ∃ u, us = [u] ∧ RelV x u
  | _, _, .cons r .nil => ⟨_, rfl, r⟩
theorem Vals.eraseIdx : ∀ {xs : List V} {us : List Value} (i : Nat), Vals xs us → Vals (xs.eraseIdx i) (us.eraseIdx i)
  | _, _, _, .nil => .nil
  | _, _, 0, .cons _ t => t
  | _, _, i + 1, .cons r t => .cons r (Vals.eraseIdx i t)
theorem Vals.rep {xs : List V} {us : List Value} (h : Vals xs us) : ∀ k : Nat, Vals (List.replicate k xs).flatten (List.replicate k us).flatten
  | 0 => .nil
  | k + 1 => by
    rw [List.replicate_succ, List.replicate_succ, List.flatten_cons, List.flatten_cons]
    exact Vals.append h (Vals.rep h k)
theorem len_erase {α : Type} : ∀ (l : List α) (i : Nat), (l.eraseIdx i).length ≤ l.length
  | [], _ => Nat.le_refl _
  | _ :: _, 0 => Nat.le_succ _
  | _ :: r, i + 1 => Nat.succ_le_succ (len_erase r i)
theorem foldl_rep (its : List Value) : ∀ (k : Nat) (acc : List Value),
    List.foldl (fun x1 x2 => x1 ++ x2) acc.toArray (List.replicate k its.toArray) = (acc ++ (List.replicate k its).flatten).toArray
  | 0, acc => by simp
  | k + 1, acc => by
    have e : acc.toArray ++ its.toArray = (acc ++ its).toArray := by simp
    have e2 : (acc ++ its) ++ (List.replicate k its).flatten = acc ++ (List.replicate (k + 1) its).flatten := by
      rw [List.replicate_succ, List.flatten_cons, List.append_assoc]
    rw [← e2, ← foldl_rep its k (acc ++ its), ← e, List.replicate_succ, List.foldl_cons]

section
variable {X : Cx} {pins : List (Addr × Obj)} {σ : St} {H : Hp} {s : Shared} {l b : Addr} {xs ys zs : List V}

/-! ### the two steps: a tracked list is rewritten, a new list is laid -/
theorem Inv.lset {its its' : List Value} {n : Nat} {f : Array Value → Array Value} {t' : Nat} (I : Inv X pins σ H s) (hH : H l = some (.lst xs))
    (e : s.heap.get? l = some { cls := .type "list", data := .seq its.toArray n }) (hf : f its.toArray = its'.toArray) (hv : Vals ys its') (hz : ys.length ≤ sizeLine) :
    Inv X pins σ (upd H l (.lst ys)) { s with heap := s.heap.update l (Obj.mapSeq f), toks := t' } := by
  have q := PySem.IsL.update e f
  rw [hf] at q
  refine I.write (x := l) (e := l) (by rw [hH]; exact trivial) (.inl rfl) (fun b' u hb hu => (Heap.get?_update_other s.heap (Obj.mapSeq f) (Ne.symm hb)).trans hu) ⟨_, q⟩ ?_
  exact ⟨hz, its', _, hv, q⟩
theorem Inv.lnew {its : List Value} {t' : Nat} (I : Inv X pins σ H s) (hv : Vals ys its) (hz : ys.length ≤ sizeLine) :
    Inv X pins σ (upd H s.heap.objs.size (.lst ys)) { s with heap := s.heap.push { cls := .type "list", data := .seq its.toArray }, toks := t' } :=
  I.laid (fun _ _ q => Heap.get?_push_of_some _ q) (Nat.le_refl _) ⟨hz, its, 0, hv, Heap.get?_push_size _ rfl⟩
theorem Inv.fresh (I : Inv X pins σ H s) : H s.heap.objs.size = none := I.hok.fresh (Nat.le_refl _)
theorem Inv.lstM (I : Inv X pins σ H s) (hH : H l = some (.lst xs)) : xs.length ≤ sizeLine ∧ ∃ (its : List Value) (n : Nat), Vals xs its ∧ xs.length = its.length ∧ s.heap.get? l = some { cls := .type "list", data := .seq its.toArray n } := by
  obtain ⟨z, its, n, r, e⟩ := I.hok l _ hH
  exact ⟨z, its, n, r, r.length, e⟩

theorem notLongL {n : Nat} (h : n ≤ sizeLine) : Builtin.List.listTooLong n = false := by
  unfold Builtin.List.listTooLong
  exact decide_eq_false (by omega)
end

section
variable {X : Cx}

/-! ### methods -/
def rAppend : V → List V → Hp → VK → Prop := fun x vs H Q => ∃ l xs y, x = .ref l ∧ vs = [y] ∧ H l = some (.lst xs) ∧ xs.length < sizeLine ∧ Q .non (upd H l (.lst (xs ++ [y])))
theorem mt_append : MtM X "list.append" rAppend := by
  intro pins s σ H x vs v us Q I rx rv h
  obtain ⟨l, xs, y, rfl, rfl, hH, hz, q⟩ := h
  cases rx
  obtain ⟨u, rfl, ru⟩ := rv.one
  obtain ⟨z, its, n, r, hl, e⟩ := I.lstM hH
  refine call_meets F.slot_list_append ⟨_, e, rfl⟩ F.entry_list_append (F.args_list_append_2 _ _) (PySem.list_append l its.toArray n u (by rw [List.size_toArray]; omega)) ⟨e, ?_⟩
  refine ⟨.non, _, I.lset (its' := its ++ [u]) hH e (by simp) (r.append (.cons ru .nil)) ?_, rfl, q⟩
  rw [List.length_append, List.length_singleton]
  omega

def rExtend : V → List V → Hp → VK → Prop := fun x vs H Q => ∃ l b xs zs, x = .ref l ∧ vs = [.ref b] ∧ H l = some (.lst xs) ∧ H b = some (.lst zs) ∧ xs.length + zs.length ≤ sizeLine ∧ Q .non (upd H l (.lst (xs ++ zs)))
theorem mt_extend : MtM X "list.extend" rExtend := by
  intro pins s σ H x vs v us Q I rx rv h
  obtain ⟨l, b, xs, zs, rfl, rfl, hH, hB, hz, q⟩ := h
  cases rx
  obtain ⟨u, rfl, ru⟩ := rv.one
  cases ru
  obtain ⟨z, its, n, r, hl, e⟩ := I.lstM hH
  obtain ⟨z2, its2, n2, r2, hl2, e2⟩ := I.lstM hB
  have hsz : its.toArray.size + its2.toArray.size ≤ sizeLine := by rw [List.size_toArray, List.size_toArray]; omega
  have hlong : ¬ (!its.toArray.isEmpty && Builtin.List.listTooLong (its.toArray.size + its2.toArray.size)) = true := by
    rw [notLongL hsz, Bool.and_false]
    exact Bool.false_ne_true
  refine call_meets F.slot_list_extend ⟨_, e, rfl⟩ F.entry_list_extend (F.args_list_extend_2 _ _)
    (AutoSeq1.list_extend_list_list_0 l its.toArray n b its2.toArray n2 hlong (by rw [List.size_toArray]; omega) (by omega)) ⟨e, e2, ?_⟩
  refine ⟨.non, _, I.lset (its' := its ++ its2) hH e (by simp) (r.append r2) ?_, rfl, q⟩
  rw [List.length_append]
  omega

def rPop : V → List V → Hp → VK → Prop := fun x vs H Q => ∃ l xs y, x = .ref l ∧ vs = [] ∧ H l = some (.lst xs) ∧ xs[xs.length - 1]? = some y ∧ Q y (upd H l (.lst xs.dropLast))
def rPopAt : V → List V → Hp → VK → Prop := fun x vs H Q => ∃ l xs i k y, x = .ref l ∧ vs = [.int i] ∧ H l = some (.lst xs) ∧ -(2 ^ 63) ≤ i ∧ i < 2 ^ 63 ∧ seqIndex? i xs.length = some k ∧ xs[k]? = some y ∧ Q y (upd H l (.lst (xs.eraseIdx k)))
theorem mt_popAt : MtM X "list.pop" rPopAt := by
  intro pins s σ H x vs v us Q I rx rv h
  obtain ⟨l, xs, i, k, y, rfl, rfl, hH, h1, h2, hk, hy, q⟩ := h
  cases rx
  obtain ⟨u, rfl, ru⟩ := rv.one
  obtain ⟨t, rfl⟩ := ru
  obtain ⟨z, its, n, r, hl, e⟩ := I.lstM hH
  obtain ⟨w, hw, rw'⟩ := r.get hy
  refine call_meets F.slot_list_pop ⟨_, e, rfl⟩ F.entry_list_pop (F.args_list_pop_2 _ _)
    (MeetsSeq.list_pop_at l its.toArray n i t k w (fitsIndex_both h1 h2) (by rw [List.size_toArray, ← hl]; exact hk) (by rw [← Array.getElem?_toList]; exact hw) (by rw [List.size_toArray]; omega)) ⟨e, ?_⟩
  refine ⟨y, _, I.lset (its' := its.eraseIdx k) hH e ?_ (r.eraseIdx k) ?_, rw', q⟩
  · show its.toArray.eraseIdxIfInBounds k = (its.eraseIdx k).toArray
    rw [List.eraseIdxIfInBounds_toArray]
  · have := len_erase xs k
    omega

def rReverse : V → List V → Hp → VK → Prop := fun x vs H Q => ∃ l xs, x = .ref l ∧ vs = [] ∧ H l = some (.lst xs) ∧ Q .non (upd H l (.lst xs.reverse))
def rClear : V → List V → Hp → VK → Prop := fun x vs H Q => ∃ l xs, x = .ref l ∧ vs = [] ∧ H l = some (.lst xs) ∧ Q .non (upd H l (.lst []))
/-! ### list + list, list += list, list * int -/
def rCat : R2 := fun x y H Q => ∃ l b xs zs, x = .ref l ∧ y = .ref b ∧ H l = some (.lst xs) ∧ H b = some (.lst zs) ∧ xs.length + zs.length ≤ sizeLine ∧ ∀ p, H p = none → Q (.ref p) (upd H p (.lst (xs ++ zs)))
theorem op_cat : OpR X (binaryOp .Add) rCat := by
  intro pins s σ H x y v u Q I rx ry h
  obtain ⟨l, b, xs, zs, rfl, rfl, hH, hB, hz, q⟩ := h
  cases rx
  cases ry
  obtain ⟨z, its, n, r, hl, e⟩ := I.lstM hH
  obtain ⟨z2, its2, n2, r2, hl2, e2⟩ := I.lstM hB
  refine PySem.P.add_list e e2 ?_ (by rw [List.size_toArray, List.size_toArray]; omega)
  have ea : its.toArray ++ its2.toArray = (its ++ its2).toArray := by simp
  rw [ea]
  exact ⟨.ref _, _, I.lnew (t' := s.toks) (r.append r2) (by rw [List.length_append]; omega), rfl, q _ I.fresh⟩
/-- a list times an int (a negative one is nothing) -/
def rRep : R2 := fun x y H Q => ∃ l k xs, x = .ref l ∧ y = .int k ∧ H l = some (.lst xs) ∧ -(2 ^ 63) ≤ k ∧ k < 2 ^ 63 ∧ xs.length * k.toNat ≤ sizeLine ∧
  ∀ p, H p = none → Q (.ref p) (upd H p (.lst (List.replicate k.toNat xs).flatten))
theorem len_rep {α : Type} (xs : List α) (k : Nat) : (List.replicate k xs).flatten.length = k * xs.length := by
  induction k with
  | zero => simp
  | succ k ih => rw [List.replicate_succ, List.flatten_cons, List.length_append, ih, Nat.succ_mul, Nat.add_comm]
theorem op_rep : OpR X (binaryOp .Mult) rRep := by
  intro pins s σ H x y v u Q I rx ry h
  obtain ⟨l, k, xs, rfl, rfl, hH, h1, h2, hz, q⟩ := h
  cases rx
  obtain ⟨t, rfl⟩ := ry
  obtain ⟨z, its, n, r, hl, e⟩ := I.lstM hH
  have hlen : its.toArray.size * k.toNat ≤ sizeLine := by rw [List.size_toArray, ← hl]; exact hz
  have hcap : ¬ its.toArray.size * k.toNat > (2 ^ 63 - 1) / 8 := by
    have : (sizeLine : Nat) ≤ (2 ^ 63 - 1) / 8 := by decide
    omega
  have hfit : ¬ (!Builtin.List.listFitsIndex k) = true := by
    rw [fitsIndex_both h1 h2]
    exact Bool.false_ne_true
  have hlong : ¬ Builtin.List.listTooLong (its.toArray.size * k.toNat) = true := by
    rw [notLongL hlen]
    exact Bool.false_ne_true
  have hnew : List.foldl (fun x1 x2 => x1 ++ x2) #[] (List.replicate (if its.toArray.isEmpty = true then 0 else k.toNat) its.toArray) = (List.replicate k.toNat its).flatten.toArray := by
    have f0 : ∀ m : Nat, List.foldl (fun x1 x2 => x1 ++ x2) #[] (List.replicate m its.toArray) = (List.replicate m its).flatten.toArray := fun m => by
      have := foldl_rep its m []
      rw [List.nil_append] at this
      exact this
    rw [f0]
    cases its with
    | nil => simp
    | cons a r' => rw [if_neg (by simp)]
  refine wpAny_binaryOp_repeat_ref (T := "list") (U := "int") (by decide) ⟨_, e, rfl⟩ (fun s' => typeIs_int s' k t) noFill_list_mul F.fills_int_mul F.slot_int_rmul repeat_list F.slot_int_index.lookup
    (call_meets F.slot_int_rmul (typeIs_int s k t) F.entry_int_rmul (F.args_int_rmul_2 _ _) (int___rmul___int_list k t l its.toArray n)
      ⟨e, rfl, ⟨_, e, rfl⟩, call_meets F.slot_list_mul ⟨_, e, rfl⟩ F.entry_list_mul (F.args_list_mul_2 _ _) (AutoListH.list___mul___list_int_3 l its.toArray n k t hfit hcap hlong) ⟨e, ?_⟩⟩)
  rw [hnew]
  exact ⟨.ref _, _, I.lnew (t' := s.toks) (r.rep k.toNat) (by rw [len_rep, Nat.mul_comm]; exact hz), rfl, q _ I.fresh⟩

/-! ### del xs[i] -/
end

/-! ### xs[a:b] = ys -/
section
variable {prog : Program} {w : World} {A : Around} {E : Value → Shared → Prop} {s : Shared}
end

section
variable {X : Cx}
end
end L2

namespace Att
open PySem PySem.W PySem.Calls PyProof.Rows

/-! ### the script -/
theorem ints_of_wellAll {P : Params} {h : Heap} : ∀ (ns : List Int) (vs : List Value), WellAll P h vs (ns.map WData.int) → IntsAre vs ns := by
  intro ns
  induction ns with
  | nil =>
    intro vs w
    rw [List.map_nil] at w
    cases w
    exact .nil
  | cons n ns ih =>
    intro vs w
    rw [List.map_cons] at w
    cases w with
    | cons a b =>
      cases a
      exact .cons _ _ (ih _ b)

theorem script_of {l : OpenLaw} {n : Nat} (hn : l.most = some n) {P : Params} {h : Heap} {args : List WData} {vals : List Value}
    (hpre : l.row.toRowW.claim.pre args = true) (hwl : WellAll P h vals args) :
    ∃ a vs ns, vals = [Value.ref a] ∧ args = [WData.list (ns.map WData.int)] ∧ h.get? a = some { cls := .type "list", data := .seq vs.toArray } ∧ IntsAre vs ns ∧ ns.length ≤ n := by
  have hsh : WShape.hasAll [] args [.list .int] = true := (pre_splitW hpre).1
  have hc : l.pre.holds [] { args := args } = true := (pre_splitW hpre).2
  obtain ⟨d, r, rfl, h1, h2⟩ := hasAllW_cons hsh
  obtain rfl := hasAllW_nil h2
  obtain ⟨xs, rfl, h3⟩ := hasW_list h1
  obtain ⟨ns, rfl⟩ := items_int h3
  have hlen : ns.length ≤ n := by
    unfold OpenLaw.pre at hc
    have h4 : (WTm.not (.lt (.lit (.int (n : Int))) (.len (.arg 0)))).holds [] { args := [.list (ns.map .int)] } = true := by
      have h4 := (holds_andW hc).1
      rw [hn] at h4
      exact h4
    have h5 := condW_of h4 (w_not (w_lt w_lit (w_len_list (w_arg rfl))))
    rw [List.length_map] at h5
    refine Nat.le_of_not_lt fun q => ?_
    have q' : (n : Int) < ((ns.length : Nat) : Int) := by omega
    first
      | (rw [decide_eq_true q'] at h5; exact absurd h5 (by decide))
      | (simp at h5; omega)
  cases hwl with
  | cons w1 w2 =>
    cases w2
    cases w1 with
    | list ho hall => exact ⟨_, _, ns, rfl, rfl, ho, ints_of_wellAll ns _ hall, hlen⟩

theorem post_true (l : OpenLaw) (args : List WData) : l.row.toRowW.claim.post args (.bool true) args = true :=
  postW_of (r := l.row.toRowW) (X := (true == true))
    (show WShape.has [] (.bool true) .bool = true by first | rfl | decide | simp [WShape.has, WShape.arms, WShape.armsAll])
    (show (WTm.eq .res (.lit (.bool true))).value [] { args := args, res := some (.bool true), after := args } = some (.bool (true == true)) from w_eq_bool (w_res rfl) w_lit) rfl

/-! ### the attachment: holds_open's last premise (the goal 'hc' behind k_head) from a wpAny of the law's body -/
/-- the same from a codeAny of the CALL (for a layer whose function contracts speak of calls) -/
theorem attach_call {l : OpenLaw} {n : Nat} {q : Program} {loose : List Str} {XP : (Str → Option Value) → Heap → Prop} {YP : World → Heap → Prop} {d : DefRec}
    (hn : l.most = some n) (hdf : d.params.defaults = [])
    (call : ∀ (w : World) (s₀ s₁ : Shared) (mg mb : Str → Option Value) (fa : Addr) (o : Obj) (pm cd doc : Value) (a : Addr) (vs : List Value) (ns : List Int),
      Ground q loose [] XP w s₀ mg mb s₁.heap → YP w s₁.heap →
      s₁.heap.get? fa = some o → o.data = .func (docDef d.name d.params d.body d.scope pm cd doc) → s₁.heap.CodeRec cd d.name → mg d.name = some (.ref fa) →
      s₁.heap.get? a = some { cls := .type "list", data := .seq vs.toArray } → IntsAre vs ns → ns.length ≤ n → s₁.gens = #[] →
      codeAny (model l.prog w) callerA (.call (.ref fa) ⟨[.ref a], []⟩) (fun r s' => r = .ok (.ret (.bool true)) ∧ OldK s₁.heap s'.heap ∧ s'.os = s₁.os ∧ AllBare s'.gens) s₁) :
    WalkO q loose XP YP l.row.toRowW d [] (fun f vs => PySem.call f vs) := by
  intro w s₀ s₁ mg mb G Y fa o pm cd doc dV kV ho hd hcd hD hmg hg args vals as hpre hlay hrd hwl hlo
  obtain rfl : dV = .none := Dflts.none hD hdf
  obtain rfl : kV = .none := Dflts.noKw hD
  obtain ⟨a, vs, ns, rfl, rfl, hobj, hints, hlen⟩ := script_of hn hpre hwl
  refine enter_call (codeAny_mono (call w s₀ s₁ mg mb fa o pm cd doc a vs ns G Y ho (fd_plain hd) hcd hmg hobj hints hlen hg) fun r s' hq => ?_)
  obtain ⟨rfl, h2, h3, h4⟩ := hq
  exact ⟨.inl ⟨.bool true, .bool true, [], rfl, fun _ => rfl, .bool true, post_true l _, fun _ => ⟨List.Pairwise.nil, fun _ hm => (nomatch hm)⟩⟩, h2, h3, h4⟩

/-! ### rules over ANY heap (no ledger) from facts about the written part K: the library's own take a ledger (News) for what they write -/
section
variable {prog : Program} {w : World} {A : Around} {E : Value → Shared → Prop} {s : Shared} {K : Frag}

/-! the whole heap as the ledger: makes every rule that writes through a ledger a rule over any heap -/
def noObjs (h : Heap) : Heap := { h with objs := #[] }
def ledger (h : Heap) (L d : Addr) : List (Addr × Obj) := (List.range h.objs.size).filterMap fun a => if a = L ∨ a = d then none else (h.get? a).map fun o => (a, o)
end
end Att

namespace L2
open PySem PySem.Spec PyProof.Rows

theorem vals_ints : ∀ {vs : List Value} {ns : List Int}, IntsAre vs ns → Vals (ns.map V.int) vs
  | _, _, .nil => .nil
  | _, _, .cons n t h => .cons ⟨t, rfl⟩ (vals_ints h)

/-- nothing is tracked but the script, known to the object (or it is an object of the module) -/
def Only (H : Hp) : Prop := ∀ b, H b = none ∨ ∃ o xs, H b = some (.frz o (.lst xs))

/-- THE HEAD: the law's promise, at the heap behind the top. F, the promise of the law's def, may use that base is part of the heap (so K.In base, base.Ns mainGlobals mg stand in Mod) -/
theorem law_call {P : Program} {w : World} {K : PySem.W.Frag} {mg mb : Str → Option Value} {CX : CXT} {k : Nat} {fa a : Addr} {fd : FuncData} {x : Str} {sp : Sp} {s₁ : Shared} {vs : List Value} {ns : List Int}
    (KX : K.In s₁.heap) (hns : s₁.heap.Ns mainGlobals mg) (hb : s₁.heap.Ns builtinsNs mb) (hbb : ∀ x : Str, x ≠ "__name__" → mb x = bootBuiltins x) (hlim : s₁.heap.NoLimit) (hg : s₁.gens = #[])
    (ha : s₁.heap.get? a = some { cls := .type "list", data := .seq vs.toArray }) (hi : IntsAre vs ns) (hl : ns.length ≤ sizeLine) (hr : Room k callerA)
    (F : ∀ base : Heap, K.In base → base.Ns mainGlobals mg → FnOk P w K mg base CX k fa fd [x] sp) (hbind : ∀ (s : Shared) (u : Value), BindsTo s fd ⟨[u], []⟩ [(x, u)])
    (hsp : ∀ H : Hp, Only H → SqL K H a (ns.map V.int) → sp [.ref a] H (fun v _ => v = .bl true) fun _ _ _ => False)
    (hCX : ∀ H e s', CX [] H s₁ (fun _ _ _ => False) e s' → False) :
    codeAny (model P w) callerA (.call (.ref fa) ⟨[.ref a], []⟩) (fun r s' => r = .ok (.ret (.bool true)) ∧ OldK s₁.heap s'.heap ∧ s'.os = s₁.os ∧ AllBare s'.gens) s₁ := by
  have rv := vals_ints hi
  have lenV := hi.length
  -- from an abstract heap in which nothing but the script may be tracked
  have core : ∀ H : Hp, Only H → SqL K H a (ns.map V.int) → HOk P w H s₁.heap → (∀ b, H b ≠ none → b = a) → (H a ≠ none → K.lookup a = none) →
      codeAny (model P w) callerA (.call (.ref fa) ⟨[.ref a], []⟩) (fun r s' => r = .ok (.ret (.bool true)) ∧ OldK s₁.heap s'.heap ∧ s'.os = s₁.os ∧ AllBare s'.gens) s₁ := by
    intro H hO hS hok hA hK
    have base_of : ∀ {b : Addr} {o : Obj}, s₁.heap.get? b = some o → H b = none → (hidT s₁.heap H).get? b = some o := fun e n => hidT_get e n
    have noA : ∀ {b : Addr} {o : Obj} {es : Array DictEntry} {ep : Nat}, s₁.heap.get? b = some o → o.data = .dict es ep → H b = none := fun {b o es ep} e d => by
      cases q : H b with
      | none => rfl
      | some u =>
        have e' : b = a := hA b (by rw [q]; simp)
        subst e'
        rw [ha] at e; cases e
        have d' : Data.seq vs.toArray _ = Data.dict es ep := d
        cases d'
    have nsK : ∀ {b : Addr} {m : Str → Option Value}, s₁.heap.Ns b m → (hidT s₁.heap H).Ns b m := fun {b m} ⟨o, es, ep, e, d, r⟩ => ⟨o, es, ep, base_of e (noA e d), d, r⟩
    have hKb : K.In (hidT s₁.heap H) := fun b o e => base_of (KX b o e) (by
      cases q : H b with
      | none => rfl
      | some u =>
        have e' : b = a := hA b (by rw [q]; simp)
        subst e'
        rw [hK (by rw [q]; simp)] at e; cases e)
    have hM : Mod K mg (hidT s₁.heap H) := ⟨hKb, nsK hns, ⟨mb, nsK hb, hbb⟩, let ⟨mc, h1, h2⟩ := hlim; ⟨mc, nsK h1, h2⟩⟩
    have e0 : Env0 P w K mg (hidT s₁.heap H) callerA [] s₁ H := ⟨rfl, hM, fun b o e => of_hidT e, Nat.le_of_eq (hidT_size _ _), trivial, fun b hb => absurd (show b ∈ ([] : List Addr) from hb) (by simp), hok, .of_eq hg⟩
    refine codeAny_mono ((F _ hKb (nsK hns)).run callerA [] s₁ H ⟨[.ref a], []⟩ [.ref a] [.ref a] _ _ hr e0 (hbind s₁ (.ref a)) (.cons rfl .nil) (hsp H hO hS)) fun r s' h => ?_
    cases r with
    | error e => exact (hCX H e s' h).elim
    | ok fl =>
      cases fl with
      | next => exact False.elim h
      | brk => exact False.elim h
      | cont => exact False.elim h
      | ret u =>
        obtain ⟨v, H', os, bare, un, hok', r', q⟩ := h
        have q' : v = .bl true := q
        subst q'
        obtain rfl : u = Value.bool true := r'
        refine ⟨rfl, OldK.of_keep fun b o e => ?_, os, bare⟩
        cases q : H b with
        | none => exact un.keep b o e q (by intro z; exact absurd (show b ∈ ([] : List Addr) from z) (by simp)) (by simp)
        | some u =>
          rcases hO b with z | ⟨ob, xs, z⟩
          · rw [q] at z; cases z
          · have z2 := un.frzs b ob _ z
            obtain ⟨e1, _⟩ := hok b _ z
            obtain ⟨e2, _⟩ := hok' b _ z2
            rw [e] at e1; cases e1
            exact e2
  cases hk : K.lookup a with
  | some o =>
    -- the script is one of the module's own objects
    have e := KX a o hk
    rw [ha] at e
    cases e
    refine core (fun _ => none) (fun _ => .inl rfl) (.inr ⟨_, vs.toArray, _, hk, rfl, rfl, rfl, by rw [List.size_toArray, lenV]; exact hl, by simpa using rv⟩) (fun b u z => by have z' : (none : Option HO) = some u := z; cases z') (fun b z => absurd rfl z) fun z => absurd rfl z
  | none =>
    refine core (fun b => if b = a then some (.frz { cls := .type "list", data := .seq vs.toArray } (.lst (ns.map V.int))) else none) (fun b => ?_) (.inl (.inr ⟨{ cls := .type "list", data := .seq vs.toArray }, if_pos rfl⟩)) (fun b u z => ?_) (fun b z => ?_) fun _ => hk
    · by_cases hb : b = a
      · exact .inr ⟨_, _, if_pos hb⟩
      · exact .inl (if_neg hb)
    · by_cases hb : b = a
      · have z' := (if_pos hb).symm.trans z
        cases z'
        subst hb
        exact ⟨ha, by rw [List.length_map]; exact hl, vs, _, rv, ha⟩
      · have z' := (if_neg hb).symm.trans z
        cases z'
    · by_cases hb : b = a
      · exact hb
      · exact absurd (if_neg hb) z
end L2

namespace L2
open PySem PySem.Spec PyProof.Rows

abbrev KOf {K : PySem.W.Frag} {h : Heap} (_ : K.In h) : PySem.W.Frag := K

/-- the goal that k_head leaves (case hc), from the law's promise. F gives the function object fd (K's own) once, then the promise over every base -/
theorem walk_of {l : PySem.W.OpenLaw} {n k : Nat} {q : Program} {loose : List Str} {XP : (Str → Option Value) → Heap → Prop} {YP : World → Heap → Prop} {d : DefRec} {K : Params → PySem.W.Frag} {CX : World → CXT} {sp : World → Sp} {x : Str}
    (hn : l.most = some n) (hn2 : n ≤ sizeLine) (hdf : d.params.defaults = []) (hr : Room k callerA)
    (hY : ∀ (w : World) (h : Heap), YP w h → (K w.params).In h)
    (F : ∀ (w : World) (mg : Str → Option Value) (fa : Addr) (h : Heap), (K w.params).In h → h.Ns mainGlobals mg → mg d.name = some (.ref fa) →
      ∃ fd : FuncData, (∀ (s : Shared) (u : Value), BindsTo s fd ⟨[u], []⟩ [(x, u)]) ∧
        ∀ base : Heap, (K w.params).In base → base.Ns mainGlobals mg → FnOk l.prog w (K w.params) mg base (CX w) k fa fd [x] (sp w))
    (hsp : ∀ (w : World) (H : Hp) (a : Addr) (ns : List Int), ns.length ≤ n → Only H → SqL (K w.params) H a (ns.map V.int) → sp w [.ref a] H (fun v _ => v = .bl true) fun _ _ _ => False)
    (hCX : ∀ (w : World) (H : Hp) (s : Shared) (e : Value) (s' : Shared), CX w [] H s (fun _ _ _ => False) e s' → False) :
    PySem.W.WalkO q loose XP YP l.row.toRowW d [] (fun f vs => PySem.call f vs) := by
  refine Att.attach_call hn hdf fun w s₀ s₁ mg mb fa o pm cd doc a vs ns G Y ho hd hcd hmg hobj hints hlen hg => ?_
  have KX := hY w _ Y
  obtain ⟨fd, hb, hF⟩ := F w mg fa _ KX G.T.g hmg
  exact law_call KX G.T.g G.T.b G.T.builtins G.T.nolimit hg hobj hints (Nat.le_trans hlen hn2) hr hF hb (fun H hO hS => hsp w H a ns hlen hO hS) fun H e s' => hCX w H s₁ e s'
/-- the same where the promise hangs on the written part alone: (sp := My.sp_law), no hole under a binder -/
theorem walk_ofK {l : PySem.W.OpenLaw} {n k : Nat} {q : Program} {loose : List Str} {XP : (Str → Option Value) → Heap → Prop} {YP : World → Heap → Prop} {d : DefRec} {K : Params → PySem.W.Frag} {CX : CXT} {sp : PySem.W.Frag → Sp} {x : Str}
    (hn : l.most = some n) (hn2 : n ≤ sizeLine) (hdf : d.params.defaults = []) (hr : Room k callerA)
    (hY : ∀ (w : World) (h : Heap), YP w h → (K w.params).In h)
    (F : ∀ (w : World) (mg : Str → Option Value) (fa : Addr) (h : Heap), (K w.params).In h → h.Ns mainGlobals mg → mg d.name = some (.ref fa) →
      ∃ fd : FuncData, (∀ (s : Shared) (u : Value), BindsTo s fd ⟨[u], []⟩ [(x, u)]) ∧
        ∀ base : Heap, (K w.params).In base → base.Ns mainGlobals mg → FnOk l.prog w (K w.params) mg base CX k fa fd [x] (sp (K w.params)))
    (hsp : ∀ (K : PySem.W.Frag) (H : Hp) (a : Addr) (ns : List Int), ns.length ≤ n → Only H → SqL K H a (ns.map V.int) → sp K [.ref a] H (fun v _ => v = .bl true) fun _ _ _ => False)
    (hCX : ∀ (H : Hp) (s : Shared) (e : Value) (s' : Shared), CX [] H s (fun _ _ _ => False) e s' → False) :
    PySem.W.WalkO q loose XP YP l.row.toRowW d [] (fun f vs => PySem.call f vs) :=
  walk_of (K := K) (CX := fun _ => CX) (sp := fun w => sp (K w.params)) hn hn2 hdf hr hY F (fun w H a ns h1 h2 h3 => hsp (K w.params) H a ns h1 h2 h3) fun _ H s e s' => hCX H s e s'
end L2

/- THE LAST THEOREM (shape; LID, My.* are yours):
   My.Adr: a structure of the addresses that your layer names (classes, functions); My.Txt K t: a structure (Prop) of the equations over K;
   My.txt_mk : {K} {implicit addresses ..} (e1 : nsIn K mainGlobals "law" = some (some (.ref f))) (e2 : K.lookup f = some ⟨oc, od, .func (fnOf "law" "law" params body scope dV kV doc pm an cdv ct), sl⟩) (e3 : codeIn K cdv "law" = true) .. : ∃ t, My.Txt K t

set_option maxRecDepth 100000 in
set_option maxHeartbeats 0 in
theorem PySem.Challenge.cw_LID_holds : PySem.Challenge.rw_LID.Holds := by
  w_on; o_law; k_head; (case hw => w_witness2)
  k_fill
  refine L2.walk_of (l := PySem.Challenge.rw_LID) (n := 63) (k := 40) (x := "script") (CX := fun w => ..) (sp := fun _ => My.sp_law) rfl (by decide) rfl ⟨rfl, by decide, by decide⟩ (fun w h Y => PySem.W.kIn_of Y) ?F ?S ?C
  case F =>
    intro w mg fa h KX G hmg
    have T : ∃ t, My.Txt (L2.KOf KX) t := by
      dsimp only [L2.KOf]                          -- K must stand as «<heap const> w.params» for k_is
      refine' My.txt_mk ?e1 ?e2 ?e3 ..
      (case e1 => PySem.W.k_is)                    -- in the order: a name -> its address -> its object -> its parts
      (case e2 => PySem.W.k_is)
      ..
    obtain ⟨t, T⟩ := T
    have e0 := hmg.symm.trans (PySem.W.mg_of KX G T.law)
    cases e0                                       -- fa is the law's own address
    exact ⟨_, fun s u => .of_eq rfl, fun base kb nb => My.law_fn T kb nb⟩     -- if «.of_eq rfl» comes too early: refine' ⟨_, ?b, fun base kb nb => My.law_fn T kb nb⟩; exact fun s u => .of_eq rfl
  case S => exact fun w H a ns hl hO hS => ..
  case C => exact ..
(the tactic k_is has no namespace: write k_is) -/

/-! SHORT WORDS over the layer: a def of the text, its body, what a loop and a test want. -/
namespace L2
open PySem PySem.Spec PyProof.Rows

/-! ### the text by places -/
/-- the j-th statement of a class's body -/
def inClass (s : Stmt) (j : Nat) : Stmt := match s with
  | .ClassDef _ _ _ body _ _ _ _ _ _ _ => body.getD j (.Pass ⟨0, 0, 0, 0⟩)
  | _ => .Pass ⟨0, 0, 0, 0⟩
def defArgs (s : Stmt) : Arguments := match s with
  | .FunctionDef _ a _ _ _ _ _ _ _ _ => a
  | _ => { posonlyargs := [], args := [], vararg := none, kwonlyargs := [], kw_defaults := [], kwarg := none, defaults := [] }
def defBody (s : Stmt) : List Stmt := match s with
  | .FunctionDef _ _ b _ _ _ _ _ _ _ => b
  | _ => []
def defScope (s : Stmt) : Scope := match s with
  | .FunctionDef _ _ _ _ _ _ sc _ _ _ => sc
  | _ => { kind := .function, names := [], isGenerator := false, isCoroutine := false }

/-! ### no exception leaves a def -/
abbrev CX0 : CXT := fun _ _ _ _ _ _ => False
abbrev E0 : XK := fun _ _ _ => False
theorem pass0 {X : Cx} : Passes CX0 X E0 := fun _ _ _ _ _ _ _ h => h.elim

/-! ### a def (or method) of the text as it stands behind the top -/
structure Fun (K : PySem.W.Frag) (x qual : Str) (st : Stmt) (f : Addr) (fd : FuncData) : Prop where
  ex : ∃ (oc : Value) (od : Option Addr) (kV doc pm : Value) (an : Option Addr) (cdv ct : Value) (osl : Array (Option Value)),
    fd = PySem.W.fnOf x qual (defArgs st) (defBody st) (defScope st) .none kV doc pm an cdv ct ∧ K.lookup f = some ⟨oc, od, .func fd, osl⟩ ∧ PySem.W.codeIn K cdv qual = true
  kp : PySem.W.keepIn K (.ref f) = true
section
variable {P : Program} {w : World} {K : PySem.W.Frag} {mg : Str → Option Value} {base : Heap}
/-- THE RULE for a def: its body as a term of rules, and the reading of that term -/
theorem Fun.ok {x qual : Str} {st : Stmt} {f : Addr} {fd : FuncData} {N ps : List Str} {k : Nat} {sp : Sp} (F : Fun K x qual st f fd) (S : FnScope N ps (defScope st)) (len : ∀ vs H Q E, sp vs H Q E → vs.length = ps.length)
    (hbody : ∀ (cdv : Value) (A : Around) (outer : List Env) (s : Shared) (H : Hp) (vs : List V) (Q : VK) (E : XK), Room k (A.deeper (envOfC qual (defScope st) s.heap.objs.size f cdv)) → sp vs H Q E →
      ∃ t, PSs (cxOf CX0 P w K mg base N qual (defScope st) f cdv A outer s H E).nox (defBody st) t ∧ t { nx := fun _ H' => Q .non H', rt := Q } (start N vs) H) : FnOk P w K mg base CX0 (k + 1) f fd ps sp := by
  obtain ⟨oc, od, kV, doc, pm, an, cdv, ct, osl, rfl, lk, hcd⟩ := F.ex
  refine fn_of lk hcd S len fun A outer s H vs Q E hr hsp => ?_
  obtain ⟨t, h, q⟩ := hbody cdv A outer s H vs Q E hr hsp
  exact ⟨t, h.nox, q⟩
/-- how its arguments bind (no defaults): h is «fun _ _ _ _ _ _ us hl => match us, hl with | [_, _], _ => rfl», one _ a parameter -/
theorem Fun.binds {x qual : Str} {st : Stmt} {f : Addr} {fd : FuncData} {ps : List Str} (F : Fun K x qual st f fd)
    (h : ∀ (kV doc pm : Value) (an : Option Addr) (cdv ct : Value) (us : List Value), us.length = ps.length → bindArgs (PySem.W.fnOf x qual (defArgs st) (defBody st) (defScope st) .none kV doc pm an cdv ct) ⟨us, []⟩ = pure (ps.zip us)) : Binds K fd ps [] := by
  obtain ⟨oc, od, kV, doc, pm, an, cdv, ct, osl, rfl, lk, hcd⟩ := F.ex
  exact .all (h kV doc pm an cdv ct)
theorem fun_mk {x qual : Str} {st : Stmt} {f : Addr} {oc : Value} {od an : Option Addr} {osl : Array (Option Value)} {kV doc pm cdv ct : Value} (l : K.lookup f = some ⟨oc, od, .func (PySem.W.fnOf x qual (defArgs st) (defBody st) (defScope st) .none kV doc pm an cdv ct), osl⟩)
    (c : PySem.W.codeIn K cdv qual = true) (k : PySem.W.keepIn K (.ref f) = true) : Fun K x qual st f (PySem.W.fnOf x qual (defArgs st) (defBody st) (defScope st) .none kV doc pm an cdv ct) := ⟨⟨oc, od, kV, doc, pm, an, cdv, ct, osl, rfl, l, c⟩, k⟩
end
/-! ### expressions in short: the name that stands in the i-th slot -/
section
variable {X : Cx}
theorem pv (i : Nat) {x : Str} {pos : Pos} (hN : X.N[i]? = some x := by rfl) (hv : Vis X.env.scope x := by first | exact Or.inl rfl | exact Or.inr (Or.inl rfl) | exact Or.inr (Or.inr rfl)) (hd : (x == ("__debug__" : Str)) = false := by decide)
    (hcd : (x == ("__classdict__" : Str)) = false := by decide) : PE X (.Name x pos) (tVar i) := pe_var hN hv hd hcd
end

/-! ### tests -/
theorem iteF {A B : Prop} (h : B) : if false = true then A else B := by
  rw [if_neg Bool.false_ne_true]
  exact h
theorem iteT {A B : Prop} (h : A) : if true = true then A else B := by
  rw [if_pos rfl]
  exact h
theorem ite2 {c A B : Prop} [Decidable c] (h1 : c → A) (h2 : ¬ c → B) : if c then A else B := by
  by_cases h : c
  · rw [if_pos h]
    exact h1 h
  · rw [if_neg h]
    exact h2 h
/-! ### heaps -/
/-- all that was tracked is as it was -/
def Same (H H' : Hp) : Prop := ∀ b o, H b = some o → H' b = some o
theorem Same.refl (H : Hp) : Same H H := fun _ _ h => h
theorem Same.trans {H H1 H2 : Hp} (a : Same H H1) (b : Same H1 H2) : Same H H2 := fun c o h => b c o (a c o h)
theorem Same.free {H H' : Hp} (e : Same H H') {l : Addr} (h : H' l = Option.none) : H l = Option.none := by
  cases q : H l with
  | none => rfl
  | some o =>
    rw [e l o q] at h
    cases h
theorem Same.seq {K : PySem.W.Frag} {H H' : Hp} {a : Addr} {xs : List V} (e : Same H H') (h : SqL K H a xs) : SqL K H' a xs := by
  rcases h with (h | ⟨o, h⟩) | h
  · exact .inl (.inl (e _ _ h))
  · exact .inl (.inr ⟨o, e _ _ h⟩)
  · exact .inr h

end L2
set_option Elab.async false
set_option linter.all false
set_option maxRecDepth 100000
set_option maxHeartbeats 4000000
/-! own rules over the hand layer -/
namespace L2
open PySem PySem.Spec PyProof.Rows
/-! ### a def that is known by its promise -/
structure Has (P : Program) (w : World) (K : PySem.W.Frag) (mg : Str → Option Value) (base : Heap) (k : Nat) (x : Str) (ps : List Str) (sp : Sp) : Prop where
  ex : ∃ f fd, FnOk P w K mg base CX0 k f fd ps sp ∧ Binds K fd ps [] ∧ PySem.W.keepIn K (.ref f) = true ∧ mg x = some (.ref f) ∧ ∃ oc od osl, K.lookup f = some ⟨oc, od, .func fd, osl⟩
theorem Has.mono {P : Program} {w : World} {K : PySem.W.Frag} {mg : Str → Option Value} {base : Heap} {j k : Nat} {x : Str} {ps : List Str} {sp : Sp} (h : Has P w K mg base j x ps sp) (hjk : j ≤ k) : Has P w K mg base k x ps sp := by
  obtain ⟨f, fd, a, b, c, d, l⟩ := h.ex
  exact ⟨f, fd, a.mono hjk, b, c, d, l⟩
section
variable {X : Cx} {k : Nat} {x : Str} {ps : List Str} {sp : Sp} {p pos : Pos} {e : Expr} {es : List Expr} {t : TA}
def tCallH (sp : Sp) (t : TA) : TE := fun σ H Q => t σ H fun vs H1 => sp vs H1 Q E0
theorem pe_callH (F : Has X.prog X.w X.K X.mg X.base k x ps sp) (hr : Room k X.A) (ha : PA X (e :: es) t) (hg : Gl X x := by rfl)
    (hdb : (x == ("__debug__" : Str)) = false := by decide) (he : starEach (e :: es) X.env = (false, eval e X.env) :: starEach es X.env := by rfl) (hpl : (backTo pos (starEach es X.env)).any (·.1) = false := by rfl) :
    PE X (.Call (.Name x p) (e :: es) [] pos) (tCallH sp t) := by
  obtain ⟨f, fd, G, b, c, d, _⟩ := F.ex
  intro pins s σ H Q I h
  refine (pe_call (E := E0) G hr hg d c b .nil pass0 ha hdb he hpl) pins s σ H Q I ?_
  show t σ H fun vs H1 => sp (vs ++ []) H1 Q E0
  simp only [List.append_nil]
  exact h
end
/-! ### products of any size -/
section
variable {X : Cx}
theorem op_mulB : OpR X (binaryOp .Mult) (rI IntMulOk fun i j => .int (i * j)) := opI fun _ _ _ _ _ _ _ hc q => mul_int q hc
theorem call_isinst : CallR X (.builtin "isinstance") (fun xs H Q => ∃ x t n b, xs = [x, .ty n] ∧ TyOf X.K H x t ∧ PySem.W.kitOne X.K t (.type n) = some b ∧ Q (.bl b) H) := by
  intro pins s σ H xs us Q I r h
  obtain ⟨x, t, n, b, rfl, ty, e, q⟩ := h
  obtain ⟨u, w', rfl, rx, ry⟩ := vals2 r
  cases ry
  exact isinst_ok I rx ty e fun tk => ⟨.bl b, H, I.tok _, rfl, q⟩
end
/-! ### a range by steps -/
def Itrs (lo c : Int) (n : Nat) : It := ⟨fun i _ => i < n, fun i H x H' => H' = H ∧ x = .int (lo + i * c), fun i _ => n ≤ i⟩
theorem turn_rangeS {P : Program} {w : World} {K : PySem.W.Frag} {tg : Expr} (it : Addr) (lo c : Int) (n : Nat) : Turn P w K tg (Itrs lo c n) [it] it (fun i h => IsRangeIter h it (lo + (i : Nat) * c) ((n : Int) - (i : Nat)) c) where
  mem := by simp
  obj := fun i h st b hb => by
    have e : b = it := by simpa using hb
    subst e
    exact ⟨_, st, fun v z => by
      have z' : Data.fields _ = Data.cell v := z
      cases z'⟩
  keep := fun i h h' st k => k it (by simp) _ st
  item := by
    intro X hP hw hK hc i pins s σ H E I hf st hg
    subst hP hw hK
    obtain ⟨f0, f1, f2, f3, f4, f5⟩ := hf it (by simp)
    have W := Walks.range (prog := X.prog) (w := X.w) (I.ok.hd hc) it lo c n
    refine W.item i s _ _ hg st fun v h' tk hv st' kk => ?_
    obtain ⟨t, rfl⟩ := hv
    have I1 : Inv X pins σ H { s with heap := h', toks := tk } := I.turned (fun b o hb e => kk b o (by simpa using hb) e) f0 f1 f3 f4 f5
    exact ⟨_, rfl, go_of (s := { s with heap := h', toks := tk }) (n := "range_iterator") st' rfl rfl (by decide) ⟨.int (lo + i * c), H, I1, ⟨t, rfl⟩, ⟨rfl, rfl⟩, st', fun b hb => (hf b hb).1⟩⟩
  done := by
    intro X hP hw hK hc i pins s σ H E I hf st hg
    subst hP hw hK
    obtain ⟨f0, f1, f2, f3, f4, f5⟩ := hf it (by simp)
    exact wpAny_pyNext_range_end (I.ok.hd hc) st (by have : n ≤ i := hg; omega) fun h' eb => ⟨rfl, I.turned (t' := s.toks) (fun b o hb e => eb b o hb e) f0 f1 f3 f4 f5⟩
  self := fun _ _ _ _ _ st h => wpAny_pyIter_rangeiter st h
section
variable {X : Cx} {tg : Expr}
theorem rangeS_it {pins : List (Addr × Obj)} {σ : St} {H : Hp} {s : Shared} {R : It → Hp → Prop} {E : Value → Shared → Prop} {lo hi c : Int} {t u v : Tok} {tk : Nat} (I : Inv X pins σ H s) (hs : Builtin.Range.small lo hi c = true) (h0 : 0 ≤ Builtin.Range.rangeSize lo hi c)
    (q : R (Itrs lo c (Builtin.Range.rangeSize lo hi c).toNat) H) : wpAny (model X.prog X.w) X.A (pyIter (.ref s.heap.objs.size)) (PIE X pins σ tg R) E { s with heap := s.heap.push { cls := .type "range", data := .fields #[.int lo t, .int hi u, .int c v] }, toks := tk } := by
  refine wpAny_pyIter_range (IsRange.new ..) hs ?_
  have I1 : Inv X pins σ H { s with heap := s.heap.push { cls := .type "range", data := .fields #[.int lo t, .int hi u, .int c v] }, toks := tk } := I.kept fun b o e => Heap.get?_push_of_some _ e
  refine ⟨(s.heap.push { cls := .type "range", data := .fields #[.int lo t, .int hi u, .int c v] }).objs.size, [(s.heap.push { cls := .type "range", data := .fields #[.int lo t, .int hi u, .int c v] }).objs.size], _, _, H, rfl,
    I1.kept (t' := tk) fun b o e => Heap.get?_push_of_some _ e, turn_rangeS _ lo c (Builtin.Range.rangeSize lo hi c).toNat, ?_, fun b hb => ?_, q⟩
  · have e1 : lo + ((0 : Nat) : Int) * c = lo := by simp
    have e2 : (((Builtin.Range.rangeSize lo hi c).toNat : Nat) : Int) - ((0 : Nat) : Int) = Builtin.Range.rangeSize lo hi c := by omega
    show IsRangeIter _ _ (lo + ((0 : Nat) : Int) * c) ((((Builtin.Range.rangeSize lo hi c).toNat : Nat) : Int) - ((0 : Nat) : Int)) c
    rw [e1, e2]
    exact Heap.get?_push_size _ rfl
  · have e : b = (s.heap.push { cls := .type "range", data := .fields #[.int lo t, .int hi u, .int c v] }).objs.size := by simpa using hb
    subst e
    exact I1.fpOk (Nat.le_refl _) (I1.hok.fresh (Nat.le_refl _))
/-- range(a, b, c), c a small step up or down -/
def iRng3 (ta : TA) : TI := fun σ H R => ta σ H fun vs H1 => ∃ i j c : Int, vs = [.int i, .int j, .int c] ∧ (c ≠ 0 ∧ -1000000 < c ∧ c < 1000000) ∧ (Builtin.Range.small i j c = true ∧ 0 ≤ Builtin.Range.rangeSize i j c) ∧ R (Itrs i c (Builtin.Range.rangeSize i j c).toNat) H1
theorem pi_range3 {a b c : Expr} {ta : TA} {p pos : Pos} (hg : Gl X "range") (hm : X.mg "range" = none) (ha : PA X [a, b, c] ta) (hs : starEach [a, b, c] X.env = [(false, eval a X.env), (false, eval b X.env), (false, eval c X.env)] := by rfl) (hs2 : starEach [b, c] X.env = [(false, eval b X.env), (false, eval c X.env)] := by rfl) :
    PI X tg (.Call (.Name "range" p) [a, b, c] [] pos) (iRng3 ta) := by
  intro pins s σ H R I h
  refine Call_ (ld_blt I hg hm boot_range (PyProof.Rows.callWith_type1 (thn (ha pos pins s σ H _ I h) fun us s1 ⟨vs, H1, I1, r1, q1⟩ => ?_) (by rw [hs, hs2]) (by rw [hs2]; rfl)))
  obtain ⟨i, j, c', e, ⟨q1, q2, q3⟩, ⟨q4, q5⟩, q⟩ := q1
  subst e
  cases r1 with
  | cons r rr =>
    cases rr with
    | cons r' rr =>
      cases rr with
      | cons r'' rr =>
        cases rr
        obtain ⟨t, rfl⟩ := r
        obtain ⟨t', rfl⟩ := r'
        obtain ⟨t'', rfl⟩ := r''
        exact call_range_3 q1 (rangeS_it I1 q4 q5 q) (.inl (PyProof.noPylong_small (by omega)))
end
theorem for_rangeS {lo c : Int} {n : Nat} {g : TG} {tb : TS} {D : Ends} {σ : St} {H : Hp} (Pv : Nat → St → Hp → Prop) (h0 : Pv 0 σ H)
    (hs : ∀ i σ H, i < n → Pv i σ H → g (.int (lo + i * c)) σ H fun σ2 H2 => tb { D with nx := Pv (i + 1), ct := Pv (i + 1), bk := D.nx } σ2 H2) (hd : ∀ σ H, Pv n σ H → D.nx σ H) :
    ∃ W : Nat → Nat → St → Hp → Prop, (∃ m, W 0 m σ H) ∧ ∀ i m σ H, W i m σ H →
      ((Itrs lo c n).stop i H ∧ D.nx σ H) ∨ ((Itrs lo c n).go i H ∧ ∃ N : St → Hp → Prop, (∀ σ' H', N σ' H' → ∃ m', m' < m ∧ W (i + 1) m' σ' H') ∧ ∀ x H', (Itrs lo c n).yld i H x H' → g x σ H' fun σ2 H2 => tb { D with nx := N, ct := N, bk := D.nx } σ2 H2) := by
  refine ⟨fun i m σ H => m = n - i ∧ i ≤ n ∧ Pv i σ H, ⟨n, by simp, Nat.zero_le _, h0⟩, ?_⟩
  rintro i m σ H ⟨rfl, hi, p⟩
  by_cases hlt : i < n
  · refine .inr ⟨hlt, Pv (i + 1), fun σ' H' p' => ⟨n - (i + 1), by omega, rfl, hlt, p'⟩, fun x H' y => ?_⟩
    obtain ⟨e, y⟩ := y
    subst e y
    exact hs i σ _ hlt p
  · have e : i = n := by omega
    subst e
    exact .inl ⟨Nat.le_refl _, hd σ H p⟩
/-! ### products: the bits -/
theorem mulOk_of {a b : Int} {m n : Nat} (ha : a.natAbs < 2 ^ m) (hb : b.natAbs < 2 ^ n) (h : m + n ≤ 134217728) : IntMulOk a b := IntMulOk.of_le (intBits_le_iff.mpr ha) (intBits_le_iff.mpr hb) h
end L2
namespace L2
open PySem PySem.Spec PyProof.Rows
/-! ### a def of the text, its name, its parameters -/
structure Def (K : PySem.W.Frag) (mg : Str → Option Value) (x : Str) (st : Stmt) (ps : List Str) : Prop where
  ex : ∃ f fd, Fun K x x st f fd ∧ Binds K fd ps [] ∧ mg x = some (.ref f)
section
variable {P : Program} {w : World} {K : PySem.W.Frag} {mg : Str → Option Value} {base : Heap}
theorem Def.has {x : Str} {st : Stmt} {N ps : List Str} {k : Nat} {sp : Sp} (F : Def K mg x st ps) (S : FnScope N ps (defScope st)) (len : ∀ vs H Q E, sp vs H Q E → vs.length = ps.length)
    (hbody : ∀ (f : Addr) (cdv : Value) (A : Around) (outer : List Env) (s : Shared) (H : Hp) (vs : List V) (Q : VK) (E : XK), Room k (A.deeper (envOfC x (defScope st) s.heap.objs.size f cdv)) → sp vs H Q E →
      ∃ t, PSs (cxOf CX0 P w K mg base N x (defScope st) f cdv A outer s H E).nox (defBody st) t ∧ t { nx := fun _ H' => Q .non H', rt := Q } (start N vs) H) : Has P w K mg base (k + 1) x ps sp := by
  obtain ⟨f, fd, F, b, m⟩ := F.ex
  refine ⟨f, fd, F.ok S len (hbody f), b, F.kp, m, ?_⟩
  obtain ⟨oc, od, kV, doc, pm, an, cdv, ct, osl, e, lk, hcd⟩ := F.ex
  exact ⟨oc, od, osl, lk⟩
/-- the law's own def, for the last theorem -/
theorem fin_of {x y : Str} {st : Stmt} {fa : Addr} {k : Nat} {sp : Sp} (D : Def K mg x st [y]) (hfa : mg x = some (.ref fa)) (h : ∀ base : Heap, Has P w K mg base k x [y] sp)
    (b : ∀ (kV doc pm : Value) (an : Option Addr) (cdv ct u : Value), bindArgs (PySem.W.fnOf x x (defArgs st) (defBody st) (defScope st) .none kV doc pm an cdv ct) ⟨[u], []⟩ = pure [(y, u)]) :
    ∃ fd : FuncData, (∀ (s : Shared) (u : Value), BindsTo s fd ⟨[u], []⟩ [(y, u)]) ∧ ∀ base : Heap, FnOk P w K mg base CX0 k fa fd [y] sp := by
  obtain ⟨f, fd, F, _, m⟩ := D.ex
  rw [hfa] at m
  cases m
  obtain ⟨oc, od, kV, doc, pm, an, cdv, ct, osl, rfl, lk, hcd⟩ := F.ex
  refine ⟨PySem.W.fnOf x x (defArgs st) (defBody st) (defScope st) .none kV doc pm an cdv ct, fun s u => .of_eq (b ..), fun base => ?_⟩
  obtain ⟨f', fd', G, _, _, m', oc', od', osl', lk'⟩ := (h base).ex
  rw [hfa] at m'
  cases m'
  rw [lk] at lk'
  cases lk'
  exact G
theorem def_mk {x : Str} {st : Stmt} {f : Addr} {ps : List Str} {h : Heap} {oc : Value} {od an : Option Addr} {osl : Array (Option Value)} {kV doc pm cdv ct : Value} (X : K.In h) (G : h.Ns mainGlobals mg) (a : PySem.W.nsIn K mainGlobals x = some (some (.ref f)))
    (l : K.lookup f = some ⟨oc, od, .func (PySem.W.fnOf x x (defArgs st) (defBody st) (defScope st) .none kV doc pm an cdv ct), osl⟩) (c : PySem.W.codeIn K cdv x = true) (k : PySem.W.keepIn K (.ref f) = true)
    (b : ∀ (kV doc pm : Value) (an : Option Addr) (cdv ct : Value) (us : List Value), us.length = ps.length → bindArgs (PySem.W.fnOf x x (defArgs st) (defBody st) (defScope st) .none kV doc pm an cdv ct) ⟨us, []⟩ = pure (ps.zip us)) : Def K mg x st ps :=
  let F := fun_mk (st := st) l c k
  ⟨f, _, F, F.binds b, PySem.W.mg_of X G a⟩
end
/-! ### promises by the number of arguments -/
def sp1 (φ : V → Hp → VK → Prop) : Sp := fun vs H Q _ => ∃ a, vs = [a] ∧ φ a H Q
def sp2 (φ : V → V → Hp → VK → Prop) : Sp := fun vs H Q _ => ∃ a b, vs = [a, b] ∧ φ a b H Q
def sp3 (φ : V → V → V → Hp → VK → Prop) : Sp := fun vs H Q _ => ∃ a b c, vs = [a, b, c] ∧ φ a b c H Q
def sp4 (φ : V → V → V → V → Hp → VK → Prop) : Sp := fun vs H Q _ => ∃ a b c d, vs = [a, b, c, d] ∧ φ a b c d H Q
theorem len1 {φ : V → Hp → VK → Prop} {x : Str} : ∀ vs H Q E, sp1 φ vs H Q E → vs.length = [x].length := fun _ _ _ _ ⟨_, e, _⟩ => by rw [e]; rfl
theorem len2 {φ : V → V → Hp → VK → Prop} {x y : Str} : ∀ vs H Q E, sp2 φ vs H Q E → vs.length = [x, y].length := fun _ _ _ _ ⟨_, _, e, _⟩ => by rw [e]; rfl
theorem len3 {φ : V → V → V → Hp → VK → Prop} {x y z : Str} : ∀ vs H Q E, sp3 φ vs H Q E → vs.length = [x, y, z].length := fun _ _ _ _ ⟨_, _, _, e, _⟩ => by rw [e]; rfl
theorem len4 {φ : V → V → V → V → Hp → VK → Prop} {x y z u : Str} : ∀ vs H Q E, sp4 φ vs H Q E → vs.length = [x, y, z, u].length := fun _ _ _ _ ⟨_, _, _, _, e, _⟩ => by rw [e]; rfl
/-! ### small conditions -/
theorem mulS1 {i j : Int} (h1 : -(2 ^ 64) < i) (h2 : i < 2 ^ 64) : IntMulOk i j := IntMulOk.of_left (intBits_le_64 h1 h2)
theorem mulS2 {i j : Int} (h1 : -(2 ^ 64) < j) (h2 : j < 2 ^ 64) : IntMulOk i j := IntMulOk.of_right (intBits_le_64 h1 h2)
theorem range_up {lo hi c : Int} (h1 : -(2 ^ 60) ≤ lo) (h2 : lo < 2 ^ 60) (h3 : -(2 ^ 60) ≤ hi) (h4 : hi < 2 ^ 60) (h5 : 0 < c) (h6 : c < 2 ^ 20) : Builtin.Range.small lo hi c = true ∧ 0 ≤ Builtin.Range.rangeSize lo hi c ∧ Builtin.Range.rangeSize lo hi c ≤ 2 ^ 61 := by
  have e : Builtin.Range.rangeSize lo hi c = if lo < hi then (hi - lo - 1) / c + 1 else 0 := by unfold Builtin.Range.rangeSize; rw [if_pos h5]
  have k0 : lo < hi → 0 ≤ (hi - lo - 1) / c := fun h => Int.ediv_nonneg (by omega) (by omega)
  have k1 : lo < hi → (hi - lo - 1) / c ≤ hi - lo - 1 := fun h => Int.ediv_le_self _ (by omega)
  have k2 : lo < hi → (hi - lo - 1) / c * c ≤ hi - lo - 1 := fun h => Int.ediv_mul_le _ (by omega)
  have k3 : 0 ≤ Builtin.Range.rangeSize lo hi c ∧ Builtin.Range.rangeSize lo hi c ≤ 2 ^ 61 := by
    rw [e]
    split
    · rename_i h; have := k0 h; have := k1 h; omega
    · omega
  refine ⟨?_, k3⟩
  unfold Builtin.Range.small
  rw [if_pos (show c > 0 from h5)]
  simp only [Builtin.Range.rangeFitsLong, Bool.and_eq_true, Bool.or_eq_true, decide_eq_true_eq, beq_iff_eq]
  generalize Builtin.Range.rangeSize lo hi c = r at k3 ⊢
  clear e k0 k1 k2
  omega
end L2
set_option Elab.async false
set_option linter.all false
set_option maxRecDepth 100000
set_option maxHeartbeats 4000000
/-! list comprehensions over the hand layer -/
namespace L2
open PySem PySem.Spec PyProof.Rows
/-! ### the captured cells -/
def closG (names : List (Str × NameKind)) (cells : List (Str × Addr)) (cs : List (Str × Addr)) : List (Str × Addr) :=
  match names with
  | [] => cs
  | (n, k) :: r => closG r cells (if k == .free then (n, (cells.lookup n).getD 0) :: cs else cs)
theorem closureFor_go {env : Env} : ∀ (names : List (Str × NameKind)) (cs : List (Str × Addr)), (∀ x ∈ names, x.2 = .free → ∃ c, env.cells.lookup x.1 = some c) →
    (forIn names cs fun (x : Str × NameKind) (cs : List (Str × Addr)) => (if (x.2 == NameKind.free) = true then (do let c ← cellOf env x.1; pure (ForInStep.yield ((x.1, c) :: cs))) else pure (ForInStep.yield cs) : Sem (ForInStep (List (Str × Addr))))) = pure (closG names env.cells cs)
  | [], cs, _ => rfl
  | (n, k) :: r, cs, h => by
    rw [List.forIn_cons]
    have hr : ∀ x ∈ r, x.2 = .free → ∃ c, env.cells.lookup x.1 = some c := fun x hx => h x (List.mem_cons_of_mem _ hx)
    by_cases hk : k = .free
    · subst hk
      obtain ⟨c, hc⟩ := h (n, .free) List.mem_cons_self rfl
      have hc : env.cells.lookup n = some c := hc
      have e : cellOf env n = pure c := by unfold cellOf; rw [hc]
      rw [if_pos (by rfl), e, pure_bind, pure_bind]
      show (forIn r ((n, c) :: cs) _ : Sem _) = _
      rw [closureFor_go r _ hr]
      show _ = pure (closG r env.cells (if (NameKind.free == NameKind.free) = true then (n, (env.cells.lookup n).getD 0) :: cs else cs))
      rw [if_pos (by rfl), hc]
      rfl
    · have hb : (k == NameKind.free) = false := by simpa using hk
      rw [if_neg (by rw [hb]; decide), pure_bind]
      show (forIn r cs _ : Sem _) = _
      rw [closureFor_go r _ hr]
      show _ = pure (closG r env.cells (if (k == NameKind.free) = true then (n, (env.cells.lookup n).getD 0) :: cs else cs))
      rw [if_neg (by rw [hb]; decide)]
theorem closureFor_is {scope : Scope} {env : Env} (h : ∀ x ∈ scope.names, x.2 = .free → ∃ c, env.cells.lookup x.1 = some c) : closureFor scope env = pure (closG scope.names env.cells []) := by
  have e := closureFor_go (env := env) scope.names [] h
  unfold closureFor
  rw [← e]
  first | rfl | simp
theorem closG_look {cells : List (Str × Addr)} {x : Str} {c : Addr} : ∀ (names : List (Str × NameKind)) (cs : List (Str × Addr)), (∀ y ∈ names, y.2 = .free → ∃ c, cells.lookup y.1 = some c) → (cs.lookup x = some c → cells.lookup x = some c) →
    (closG names cells cs).lookup x = some c → cells.lookup x = some c
  | [], cs, _, h0, h => h0 h
  | (n, k) :: r, cs, hf, h0, h => by
    have hr : ∀ x ∈ r, x.2 = .free → ∃ c, cells.lookup x.1 = some c := fun x hx => hf x (List.mem_cons_of_mem _ hx)
    unfold closG at h
    by_cases hk : k = .free
    · subst hk
      obtain ⟨c', hc⟩ := hf (n, .free) List.mem_cons_self rfl
      have hc : cells.lookup n = some c' := hc
      rw [if_pos (by rfl), hc] at h
      refine closG_look r _ hr (fun q => ?_) h
      rw [List.lookup_cons] at q
      cases e : x == n with
      | true =>
        rw [e] at q
        have e' : x = n := by simpa using e
        subst e'
        cases q
        exact hc
      | false => rw [e] at q; exact h0 q
    · have hb : (k == NameKind.free) = false := by simpa using hk
      rw [if_neg (by rw [hb]; decide)] at h
      exact closG_look r _ hr h0 h
theorem closG_has {cells : List (Str × Addr)} {x : Str} : ∀ (names : List (Str × NameKind)) (cs : List (Str × Addr)), ((x, NameKind.free) ∈ names ∨ ∃ c, cs.lookup x = some c) → ∃ c, (closG names cells cs).lookup x = some c
  | [], cs, h => by
    rcases h with h | h
    · cases h
    · exact h
  | (n, k) :: r, cs, h => by
    unfold closG
    refine closG_has r _ ?_
    rcases h with h | ⟨c, h⟩
    · rcases List.mem_cons.mp h with e | e
      · cases e
        refine .inr ⟨(cells.lookup x).getD 0, ?_⟩
        rw [if_pos (by rfl), List.lookup_cons]
        simp
      · exact .inl e
    · split
      · rw [List.lookup_cons]
        cases e : x == n with
        | true => exact .inr ⟨_, rfl⟩
        | false => exact .inr ⟨c, h⟩
      · exact .inr ⟨c, h⟩

/-! ### the loop of a comprehension, without exceptions -/
section
variable {prog : Program} {w : World} {A : Around} {R : Result → Shared → Prop} {s : Shared}
abbrev F0 : Value → Shared → Prop := fun _ _ => False
abbrev testsOf (ifs : List Expr) (env : Env) : Sem Bool := forIn ifs true fun c r => if r = true then do let ok ← isTrue c env (eval c env); pure (ForInStep.yield ok) else pure (ForInStep.yield r)
theorem compLoop_any {elt target iter : Expr} {ifs : List Expr} {scope : Scope} {pos : Pos} {it acc : Value} {env : Env} (I : Nat → Shared → Prop)
    (turn : ∀ n s, I n s → wpAny (model prog w) A (pyNext it) (fun r s1 => match r with
      | none => R (.ok .next) s1
      | some v => wpAny (model prog w) A (letOwnedTupleGo target it v) (fun _ s2 => wpAny (model prog w) A (assign target env v) (fun _ s3 =>
          wpAny (model prog w) A (testsOf ifs env) (fun ok s4 =>
            if ok = true then wpAny (model prog w) A (eval elt env) (fun x s5 =>
              wpAny (model prog w) A (call (.builtin "list.append") [acc, x]) (fun _ s6 => ∃ m, m < n ∧ I m s6) F0 s5) F0 s4
            else ∃ m, m < n ∧ I m s4) F0 s3) F0 s2) F0 s1) F0 s)
    (n : Nat) (h : I n s) :
    codeAny (model prog w) A (.compLoop (.ListComp elt [⟨target, iter, ifs, 0⟩] scope pos) 0 it acc env) R s := by
  refine codeAny_loop rfl I (fun n s hI => ?_) n h
  show wpAny _ A ((compTurn (.ListComp elt [⟨target, iter, ifs, 0⟩] scope pos) 0 it acc env).onRaise (fun x => do noteFrame x env; theTreesLotGoes x)) _ _ s
  refine wpAny_noted ?_
  rw [compTurn_list]
  refine wpAny_bind (wpAny_standAt (wpAny_bind (wpAny_mono (turn n s hI) (fun r s1 h1 => ?_) fun _ _ z => False.elim z)))
  cases r with
  | none => exact wpAny_pure h1
  | some v =>
    refine wpAny_bind (wpAny_mono h1 (fun _ s2 h2 => ?_) fun _ _ z => False.elim z)
    refine wpAny_bind (wpAny_mono h2 (fun _ s3 h3 => wpAny_bind (wpAny_mono h3 (fun ok s4 h4 => ?_) fun _ _ z => False.elim z)) fun _ _ z => False.elim z)
    cases ok with
    | false => exact wpAny_pure ⟨rfl, h4⟩
    | true =>
      exact wpAny_bind (wpAny_bind (wpAny_mono h4 (fun x s5 h5 => wpAny_bind (wpAny_mono h5 (fun _ s6 h6 => wpAny_pure (wpAny_pure ⟨rfl, h6⟩)) fun _ _ z => False.elim z)) fun _ _ z => False.elim z))
end
/-! ### the block's context -/
def compCx (X : Cx) (N' : List Str) (scope : Scope) (s3 : Shared) (H3 : Hp) (fp : List Addr) (pins : List (Addr × Obj)) : Cx :=
  { prog := X.prog, w := X.w, K := X.K, mg := X.mg, base := X.base, A := X.A, N := N', s₀ := s3, H₀ := H3, env := compEnvC scope (closG scope.names X.env.cells []) s3.heap.objs.size X.env,
    outer := X.stack, stack := X.stack, ex := fp, fn := fun _ => false, calm := X.calm, pn := X.pn ++ pins, xe := F0 }
/-- the names of the block: its own, then those of the def that it reads, by their slots there -/
def compN (X : Cx) (vars : List Str) (caps : List Nat) : List Str := vars ++ caps.map fun j => X.N.getD j ""
def compS (vars : List Str) (caps : List Nat) (σ : St) : St := vars.map (fun _ => none) ++ caps.map fun j => σ.getD j none
structure CompScope (X : Cx) (scope : Scope) (caps : List Nat) : Prop where
  kind : scope.kind = .function
  loc : ∀ x ∈ scope.names, x.2 = .local → scope.names.lookup x.1 = some .local
  nocell : ∀ x ∈ scope.names, x.2 ≠ .cell
  free : ∀ x ∈ scope.names, x.2 = .free → X.env.kindOf x.1 = some .cell
  caps : ∀ j ∈ caps, ∃ x, X.N[j]? = some x ∧ X.env.kindOf x = some .cell ∧ (x, NameKind.free) ∈ scope.names ∧ (relabel scope X.env).names.lookup x = some .cell
section
variable {X : Cx} {scope : Scope} {caps : List Nat} {pins : List (Addr × Obj)} {σ : St} {H : Hp} {s : Shared} {fp : List Addr}
theorem CompScope.cells (S : CompScope X scope caps) (I : Inv X pins σ H s) : ∀ x ∈ scope.names, x.2 = .free → ∃ c, X.env.cells.lookup x.1 = some c := fun x hx hf => I.ok.has x.1 (.inl (S.free x hx hf))
theorem CompScope.look (S : CompScope X scope caps) (I : Inv X pins σ H s) {x : Str} {c : Addr} (h : (closG scope.names X.env.cells []).lookup x = some c) : X.env.cells.lookup x = some c :=
  closG_look scope.names [] (S.cells I) (fun q => by cases q) h
theorem relabel_kind {env : Env} {x : Str} : ∀ {names : List (Str × NameKind)} {k : NameKind}, (names.map fun (n, k) => if (k == NameKind.free && env.scope.kind == .function && env.kindOf n == some .cell) then (n, NameKind.cell) else (n, k)).lookup x = some k →
    ((x, k) ∈ names) ∨ (k = .cell ∧ (x, NameKind.free) ∈ names)
  | [], _, h => by simp at h
  | (n, k0) :: r, k, h => by
    have ih := @relabel_kind env x r k
    have g : List.lookup x ((if (k0 == NameKind.free && env.scope.kind == .function && env.kindOf n == some .cell) = true then (n, NameKind.cell) else (n, k0)) :: (r.map fun (n, k) => if (k == NameKind.free && env.scope.kind == .function && env.kindOf n == some .cell) then (n, NameKind.cell) else (n, k))) = some k := h
    by_cases hc : (k0 == NameKind.free && env.scope.kind == .function && env.kindOf n == some .cell) = true
    · rw [if_pos hc, List.lookup_cons] at g
      have hk0 : k0 = .free := by
        simp only [Bool.and_eq_true] at hc
        simpa using hc.1.1
      cases hx : x == n with
      | true =>
        rw [hx] at g
        have e : x = n := by simpa using hx
        subst e
        have g : some NameKind.cell = some k := g
        cases g
        exact .inr ⟨rfl, by rw [hk0]; exact List.mem_cons_self⟩
      | false =>
        rw [hx] at g
        rcases ih g with z | ⟨z1, z2⟩
        · exact .inl (List.mem_cons_of_mem _ z)
        · exact .inr ⟨z1, List.mem_cons_of_mem _ z2⟩
    · rw [if_neg hc, List.lookup_cons] at g
      cases hx : x == n with
      | true =>
        rw [hx] at g
        have e : x = n := by simpa using hx
        subst e
        have g : some k0 = some k := g
        cases g
        exact .inl List.mem_cons_self
      | false =>
        rw [hx] at g
        rcases ih g with z | ⟨z1, z2⟩
        · exact .inl (List.mem_cons_of_mem _ z)
        · exact .inr ⟨z1, List.mem_cons_of_mem _ z2⟩
theorem CompScope.ok (S : CompScope X scope caps) {N' : List Str} (I : Inv X pins σ H s) (hf : ∀ b ∈ fp, FpOk X pins H b) (hob : ∀ b ∈ fp, ∃ o, s.heap.get? b = some o) : (compCx X N' scope s H fp pins).Ok where
  mod := I.ok.mod
  kind := S.kind
  glob := I.ok.glob
  blt := I.ok.blt
  above := Nat.le_refl _
  inj := fun x y c h1 h2 => I.ok.inj x y c (S.look I h1) (S.look I h2)
  has := fun x h => by
    refine closG_has scope.names [] (.inl ?_)
    rcases h with h | h
    · rcases relabel_kind h with z | ⟨_, z⟩
      · exact absurd rfl (S.nocell _ z)
      · exact z
    · rcases relabel_kind h with z | ⟨z, _⟩
      · exact z
      · cases z
  cab := fun _ _ h => by cases h
  hd := I.ok.hd
  frames := I.ok.frames
  stk := .inl rfl
  exf := fun b hb => by
    obtain ⟨o, ho⟩ := hob b hb
    refine ⟨Nat.ne_of_lt (Heap.lt_size ho), fun x c e => (hf b hb).2.2.2.2.1 x c (S.look I e)⟩
  bs := I.bs
  bsz := Nat.le_trans I.ok.bsz I.sz
  noex := fun b o e hb => by
    rcases (hf b hb).2.2.2.1 with z | z
    · exact I.ok.noex b o e z
    · exact absurd (Nat.lt_of_lt_of_le (Heap.lt_size e) (Nat.le_trans I.ok.bsz z)) (Nat.lt_irrefl _)
  exfs := fun b hb z => by
    rcases List.mem_cons.mp (I.stkSub b z) with e | e
    · exact (hf b hb).2.1 e
    · exact (hf b hb).2.2.1 e
  funs := I.stack
  frf := I.stkFree
/-- the block's first state -/
theorem CompScope.start (S : CompScope X scope caps) {vars : List Str} {h' : Heap} {tk : Nat} (I : Inv X pins σ H s) (hf : ∀ b ∈ fp, FpOk X pins H b) (hob : ∀ b ∈ fp, ∃ o, s.heap.get? b = some o)
    (hn : h'.Ns s.heap.objs.size (fun _ => none)) (hk : ∀ b o, s.heap.get? b = some o → h'.get? b = some o) : Inv (compCx X (compN X vars caps) scope s H fp pins) [] (compS vars caps σ) H { s with heap := h', toks := tk } := by
  refine ⟨S.ok I hf hob, rfl, I.bare, Un.kept hk, ⟨_, hn, fun i x v h1 h2 h3 => ?_⟩, fun x c h => ?_, I.hok.fresh (Nat.le_refl _), fun x c h => I.freeC x c (S.look I h), fun p hp => ?_, I.hok.kept hk, ?_⟩
  · have h1 : (vars ++ caps.map fun j => X.N.getD j "")[i]? = some x := h1
    have h2 : (vars.map (fun _ => (none : Option V)) ++ caps.map fun j => σ.getD j none)[i]? = some (some v) := h2
    have hi : ¬ i < vars.length := fun hi => by
      rw [List.getElem?_append_left (by simpa using hi), List.getElem?_map] at h2
      cases e : vars[i]? with
      | none => rw [e] at h2; cases h2
      | some z => rw [e] at h2; cases h2
    rw [List.getElem?_append_right (by simpa using hi), List.getElem?_map, List.length_map] at h2
    rw [List.getElem?_append_right (by omega), List.getElem?_map] at h1
    cases e : caps[i - vars.length]? with
    | none => rw [e] at h2; cases h2
    | some j =>
      rw [e] at h1 h2
      obtain ⟨y, hy, hyk, hyf, hyl⟩ := S.caps j (List.mem_of_getElem? e)
      have exy : y = x := by
        have : X.N.getD j "" = x := by simpa using h1
        rw [← this]
        simp [List.getD, hy]
      subst exy
      have hσ : σ[j]? = some (some v) := by
        have q : σ.getD j none = some v := by simpa using h2
        cases e2 : σ[j]? with
        | none => simp [List.getD, e2] at q
        | some z =>
          simp [List.getD, e2] at q
          rw [q]
      obtain ⟨m, _, hl⟩ := I.loc
      obtain ⟨u, r, l⟩ := hl j y v hy hσ (.inr (.inl hyk))
      refine ⟨u, r, ?_⟩
      rcases l with ⟨k, _⟩ | ⟨_, c, hc, hcell⟩
      · rw [hyk] at k; cases k
      · obtain ⟨c', hc'⟩ := closG_has (cells := X.env.cells) (x := y) scope.names [] (.inl hyf)
        have ecc : c = c' := by
          have := S.look I hc'
          rw [hc] at this
          exact Option.some.inj this
        subst ecc
        refine .inr ⟨?_, c, hc', ?_⟩
        · exact .inl hyl
        · obtain ⟨o, ho, hd⟩ := hcell
          exact ⟨o, hk c o ho, hd⟩
  · obtain ⟨v, o, ho, hd⟩ := I.cell x c (S.look I h)
    exact ⟨v, o, hk c o ho, hd⟩
  · have hp : p ∈ X.pn ++ pins := by
      have : p ∈ (X.pn ++ pins) ++ [] := hp
      simpa using this
    obtain ⟨e, n, ne, nf, d⟩ := I.pin p hp
    refine ⟨hk _ _ e, n, Nat.ne_of_lt (Heap.lt_size e), fun z => ?_, d⟩
    rcases List.mem_cons.mp (I.stkSub _ z) with q | q
    · exact ne q
    · exact nf q
  · show (compS vars caps σ).length = (compN X vars caps).length
    simp [compS, compN]

/-- behind the block -/
theorem CompScope.behind (S : CompScope X scope caps) {N' : List Str} {σ' : St} {H' : Hp} {s' : Shared} {pl : List (Addr × Obj)} (I : Inv X pins σ H s) (hf : ∀ b ∈ fp, FpOk X pins H b) (J : Inv (compCx X N' scope s H fp pins) pl σ' H' s') : Inv X pins σ H' s' :=
  I.call' (ch := fp) J.os J.base J.hok J.bare fun b hb => ⟨(hf b hb).2.2.2.1, (hf b hb).2.1, (hf b hb).2.2.2.2.1, (hf b hb).2.2.2.2.2⟩
end
/-! ### the rule -/
abbrev TT1 := TT
def tTrue : TT := fun _ H Q => Q true H
def PTs (X : Cx) (ifs : List Expr) (t : TT) : Prop :=
  ∀ (pins : List (Addr × Obj)) (s : Shared) (σ : St) (H : Hp) (Q : Bool → Hp → Prop), Inv X pins σ H s → t σ H Q → wpAny (model X.prog X.w) X.A (testsOf ifs X.env) (TP X pins σ Q) X.xe s
theorem pts_nil {X : Cx} : PTs X [] tTrue := fun pins s σ H Q I h => wpAny_tests_nil ⟨H, I, h⟩
theorem pts_one {X : Cx} {c : Expr} {t : TT} (h : PT X c t) : PTs X [c] t := fun pins s σ H Q I q => wpAny_tests_one (h pins s σ H Q I q)
/-- the list at acc is built; W: an invariant by the turn and a measure -/
def rComp (vars : List Str) (caps : List Nat) (J : It) (g : TG) (tt : TT) (te : TE) (σ : St) (H1 : Hp) (Q : VK) : Prop :=
  ∀ acc, H1 acc = none → ∃ W : Nat → Nat → St → Hp → Prop, (∃ m, W 0 m (compS vars caps σ) (upd H1 acc (.lst []))) ∧ ∀ i m σ' H', W i m σ' H' →
    (J.stop i H' ∧ Q (.ref acc) H') ∨ (J.go i H' ∧ ∃ N : St → Hp → Prop, (∀ σ'' H'', N σ'' H'' → ∃ m', m' < m ∧ W (i + 1) m' σ'' H'') ∧ ∀ x H2, J.yld i H' x H2 → g x σ' H2 fun σ2 H3 => tt σ2 H3 fun b H4 =>
      if b = true then te σ2 H4 fun v H5 => ∃ ys, H5 acc = some (.lst ys) ∧ ys.length < sizeLine ∧ N σ2 (upd H5 acc (.lst (ys ++ [v]))) else N σ2 H4)
def tComp (vars : List Str) (caps : List Nat) (wi : TI) (g : TG) (tt : TT) (te : TE) : TE := fun σ H Q => wi σ H fun J H1 => rComp vars caps J g tt te σ H1 Q
structure CompBody (X : Cx) (vars : List Str) (caps : List Nat) (scope : Scope) (tg : Expr) (ifs : List Expr) (elt : Expr) (g : TG) (tt : TT) (te : TE) : Prop where
  ok : ∀ (s3 : Shared) (H3 : Hp) (fp : List Addr) (pins : List (Addr × Obj)), PG (compCx X (compN X vars caps) scope s3 H3 fp pins) tg g ∧ PTs (compCx X (compN X vars caps) scope s3 H3 fp pins) ifs tt ∧ PE (compCx X (compN X vars caps) scope s3 H3 fp pins) elt te
section
variable {X : Cx} {vars : List Str} {caps : List Nat} {scope : Scope} {tg iter elt : Expr} {ifs : List Expr} {pos : Pos} {wi : TI} {g : TG} {tt : TT} {te : TE}
/-- from the iterator on: the new list, the block's frame, the loop; RR: what is wanted behind the loop, at the list, the block's frame -/
theorem comp_run (S : CompScope X scope caps) (hc : X.calm = true) (B : CompBody X vars caps scope tg ifs elt g tt te) {pins : List (Addr × Obj)} {s2 : Shared} {σ : St} {H1 : Hp} {Q : VK} {it : Addr} {fp : List Addr} {tn : Nat → Heap → Prop} {J : It} {E : Value → Shared → Prop}
    {RR : Value → Addr → Result → Shared → Prop} (I2 : Inv X pins σ H1 s2) (T : Turn X.prog X.w X.K tg J fp it tn) (st2 : tn 0 s2.heap) (f2 : ∀ b ∈ fp, FpOk X pins H1 b) (q : rComp vars caps J g tt te σ H1 Q)
    (hRR : ∀ acc C s' H' m, Inv X pins σ H' s' → s'.heap.Ns C m → s2.heap.objs.size ≤ C → H' C = none → Q (.ref acc) H' → RR (.ref acc) C (.ok .next) s') :
    wpAny (model X.prog X.w) X.A (newList []) (fun acc s3 => wpAny (model X.prog X.w) X.A (newFunctionEnv scope X.env.globals (closG scope.names X.env.cells []) [] X.env.qual none .none (some X.env)) (fun cenv s4 =>
      codeAny (model X.prog X.w) X.A (.compStart (.ListComp elt [⟨tg, iter, ifs, 0⟩] scope pos) 0 (.ref it) acc { cenv with scope := relabel scope X.env }) (RR acc cenv.locals) s4) E s3) E s2 := by
  refine wpAny_newObj_type ?_
  have hfr : H1 s2.heap.objs.size = none := I2.hok.fresh (Nat.le_refl _)
  obtain ⟨W, ⟨m0, w0⟩, turn⟩ := q s2.heap.objs.size hfr
  generalize hs3 : ({ s2 with heap := s2.heap.push { cls := .type "list", dict := none, data := .seq ([] : List Value).toArray } } : Shared) = s3
  have hsz : s3.heap.objs.size = s2.heap.objs.size + 1 := by rw [← hs3]; simp [Heap.size_push]
  have old : ∀ b o, s2.heap.get? b = some o → s3.heap.get? b = some o := fun b o e => by rw [← hs3]; exact Heap.get?_push_of_some _ e
  have I3 : Inv X pins σ (upd H1 s2.heap.objs.size (.lst [])) s3 := by
    rw [← hs3]
    exact I2.laid (t' := s2.toks) (fun b u e => Heap.get?_push_of_some _ e) (Nat.le_refl _) ⟨by show 0 ≤ sizeLine; decide, [], 0, .nil, Heap.get?_push_size _ rfl⟩
  have hob : ∀ b ∈ fp, ∃ o, s2.heap.get? b = some o := fun b hb => by
    obtain ⟨o, ho, _⟩ := T.obj 0 _ st2 b hb
    exact ⟨o, ho⟩
  have f3 : ∀ b ∈ fp, FpOk X pins (upd H1 s2.heap.objs.size (.lst [])) b := fun b hb => by
    obtain ⟨o, ho⟩ := hob b hb
    exact ⟨by rw [upd_ne (Nat.ne_of_lt (Heap.lt_size ho))]; exact (f2 b hb).1, (f2 b hb).2⟩
  have hob3 : ∀ b ∈ fp, ∃ o, s3.heap.get? b = some o := fun b hb => by
    obtain ⟨o, ho⟩ := hob b hb
    exact ⟨o, old b o ho⟩
  refine wpAny_newFunctionEnv S.nocell (by intro y hy; simp at hy) (fun h4 hn4 hs4 => ?_) S.kind
  have keep4 : ∀ b o, s3.heap.get? b = some o → h4.get? b = some o := fun b o e => hs4.extBut b o (Nat.ne_of_lt (Heap.lt_size e)) (Heap.get?_push_of_some _ e)
  have I4 := S.start (vars := vars) (tk := s3.toks + ([] : List (Str × Value)).length) I3 f3 hob3 hn4 keep4
  obtain ⟨PG', PT', PE'⟩ := B.ok s3 (upd H1 s2.heap.objs.size (.lst [])) fp pins
  generalize hX : compCx X (compN X vars caps) scope s3 (upd H1 s2.heap.objs.size (.lst [])) fp pins = X' at *
  have st4 : tn 0 h4 := T.keep 0 _ _ st2 fun b _ o e => keep4 b o (old b o e)
  have eA : X'.A = X.A := by rw [← hX]; rfl
  have eP : X'.prog = X.prog := by rw [← hX]; rfl
  have eW : X'.w = X.w := by rw [← hX]; rfl
  have eK : X'.K = X.K := by rw [← hX]; rfl
  have ec : X'.calm = true := by rw [← hX]; exact hc
  have ex : X'.xe = F0 := by rw [← hX]; rfl
  have eE : X'.env = compEnvC scope (closG scope.names X.env.cells []) s3.heap.objs.size X.env := by rw [← hX]; rfl
  have stat : ∀ {H' : Hp}, (∀ b ∈ fp, H' b = none) → ∀ b ∈ fp, FpOk X' [] H' b := fun {H'} hn b hb => by
    obtain ⟨a1, a2, a3, a4, a5, a6⟩ := f3 b hb
    obtain ⟨o, ho⟩ := hob3 b hb
    rw [← hX]
    refine ⟨hn b hb, Nat.ne_of_lt (Heap.lt_size ho), fun z => ?_, .inl hb, fun x c e => a5 x c (S.look I3 e), fun p hp => a6 p ?_⟩
    · rcases List.mem_cons.mp (I3.stkSub b z) with e | e
      · exact a2 e
      · exact a3 e
    · have hp : p ∈ (X.pn ++ pins) ++ [] := hp
      simpa using hp
  have loop : ∀ s5 : Shared, s5 = { s3 with heap := h4, toks := s3.toks + ([] : List (Str × Value)).length } →
      codeAny (model X.prog X.w) X.A (.compLoop (.ListComp elt [⟨tg, iter, ifs, 0⟩] scope pos) 0 (.ref it) (.ref s2.heap.objs.size) (compEnvC scope (closG scope.names X.env.cells []) s3.heap.objs.size X.env)) (RR (.ref s2.heap.objs.size) s3.heap.objs.size) s5 := by
    rintro s5 rfl
    refine compLoop_any (fun n s' => ∃ i σ' H', Inv X' [] σ' H' s' ∧ tn i s'.heap ∧ (∀ b ∈ fp, H' b = none) ∧ W i n σ' H') ?_ m0 ⟨0, _, _, I4, st4, fun b hb => (f3 b hb).1, w0⟩
    rintro n s6 ⟨i, σ6, H6, I6, st6, fr6, w6⟩
    rw [← eA, ← eE, ← eP, ← eW]
    rcases turn i n σ6 H6 w6 with ⟨stop, qn⟩ | ⟨go, N, hN, step⟩
    · have z := T.done X' eP eW eK ec i [] s6 σ6 H6 F0 I6 (stat fr6) st6 stop
      rw [← eP, ← eW] at z
      refine thn z fun r s7 ⟨hr, I7⟩ => ?_
      subst hr
      obtain ⟨m, hm, _⟩ := id I7.loc
      have I7' : Inv X pins σ H6 s7 := by
        rw [← hX] at I7
        exact S.behind I3 f3 I7
      have hm : s7.heap.Ns s3.heap.objs.size m := by rw [eE] at hm; exact hm
      have hC : H6 s3.heap.objs.size = none := by
        have := I7.free
        rw [eE] at this
        exact this
      exact hRR s2.heap.objs.size s3.heap.objs.size s7 H6 m I7' hm (by omega) hC qn
    · have z := T.item X' eP eW eK ec i [] s6 σ6 H6 F0 I6 (stat fr6) st6 go
      rw [← eP, ← eW] at z
      refine thn z fun r s7 ⟨u, hr, h7⟩ => ?_
      subst hr
      refine thn h7 fun _ s8 ⟨x, H8, I8, r8, y8, st8, fr8⟩ => ?_
      have I8' := I8.pinned (stat fr8) (T.obj _ _ st8)
      have z9 := PG' _ s8 σ6 H8 x u _ I8' r8 (step x H8 y8)
      rw [ex] at z9
      refine thn z9 fun _ s9 ⟨σ9, H9, I9, q9⟩ => ?_
      have z10 := PT' _ s9 σ9 H9 _ I9 q9
      rw [ex] at z10
      refine thn z10 fun ok s10 ⟨H10, I10, q10⟩ => ?_
      have again : ∀ {s11 : Shared} {H11 : Hp}, Inv X' ([] ++ pinsAt fp s8.heap) σ9 H11 s11 → N σ9 H11 → ∃ m, m < n ∧ ∃ i σ' H', Inv X' [] σ' H' s11 ∧ tn i s11.heap ∧ (∀ b ∈ fp, H' b = none) ∧ W i m σ' H' := fun {s11 H11} I11 n11 => by
        obtain ⟨m', hm, w11⟩ := hN σ9 H11 n11
        refine ⟨m', hm, i + 1, σ9, H11, I11.unpinned, T.keep _ _ _ st8 fun b hb o e => (I11.pin (b, o) (List.mem_append_right _ (List.mem_append_right _ (mem_pinsAt hb e)))).1, fun b hb => ?_, w11⟩
        obtain ⟨o, e, d⟩ := T.obj _ _ st8 b hb
        exact (I11.pin (b, o) (List.mem_append_right _ (List.mem_append_right _ (mem_pinsAt hb e)))).2.1
      cases ok with
      | false =>
        rw [if_neg Bool.false_ne_true] at q10 ⊢
        exact again I10 q10
      | true =>
        rw [if_pos rfl] at q10 ⊢
        have z11 := PE' _ s10 σ9 H10 _ I10 q10
        rw [ex] at z11
        refine thn z11 fun v s11 ⟨y, H11, I11, r11, ys, hy, hlen, n11⟩ => ?_
        have z12 := mt_append (X := X') _ s11 σ9 H11 (.ref s2.heap.objs.size) [y] _ [v] (fun _ H12 => N σ9 H12) I11 rfl (.cons r11 .nil) ⟨_, ys, y, rfl, rfl, hy, hlen, n11⟩
        rw [ex] at z12
        exact thn z12 fun _ s12 ⟨_, H12, I12, _, n12⟩ => again I12 n12
  exact codeAny_compStart_list (loop _ rfl) (T.self X.A 0 _ _ _ st4 (loop _ rfl))
/-- [elt for tg in iter if ..], as a value -/
theorem pe_comp (S : CompScope X scope caps) (hc : X.calm = true) (hi : PI X tg iter wi) (B : CompBody X vars caps scope tg ifs elt g tt te) (hs : ∀ x, foldedSetIterable iter X.env x = pure x := by intro _; rfl) :
    PE X (.ListComp elt [⟨tg, iter, ifs, 0⟩] scope pos) (tComp vars caps wi g tt te) := by
  intro pins s σ H Q I h
  rw [eval_ListComp]
  refine wpAny_comprehension_free (use := none) rfl hs (closureFor_is (S.cells I)) S.kind S.loc ?_
  refine thn (hi pins s σ H _ I h) fun v s1 h1 => thn h1 fun itv s2 h2 => ?_
  obtain ⟨it, fp, tn, J, H2, e, I2, T, st2, f2, q⟩ := h2
  subst e
  refine comp_run (RR := fun acc C => compPost (model X.prog X.w) X.A X.xe none (EP X pins σ Q) acc C) S hc B I2 T st2 f2 q fun acc C s' H' m I' hm hC hn q' => ?_
  refine ⟨m, hm, fun h'' hs'' => ?_⟩
  have hCL : C ≠ X.env.locals := fun z => absurd (Nat.lt_of_lt_of_le I2.lt (z ▸ hC)) (Nat.lt_irrefl _)
  exact ⟨.ref acc, H', I'.turned (t' := s'.toks) (fun b o hb e => hs''.extBut b o hb e) hn hCL (.inr (Nat.le_trans I2.sz hC)) (fun x c e z => by
    obtain ⟨v, hv⟩ := I2.cell x c e
    exact absurd (Nat.lt_of_lt_of_le hv.lt (z ▸ hC)) (Nat.lt_irrefl _)) (fun p hp z => by
    exact absurd (Nat.lt_of_lt_of_le (Heap.lt_size (I2.pin p hp).1) (z ▸ hC)) (Nat.lt_irrefl _)), rfl, q'⟩
end
/-! ### the scope's conditions, by the written scopes alone -/
structure CompScopeC (outer : Scope) (N : List Str) (scope : Scope) (caps : List Nat) : Prop where
  ok : outer.kind = .function ∧ scope.kind = .function ∧ (∀ x ∈ scope.names, x.2 = .local → scope.names.lookup x.1 = some .local) ∧ (∀ x ∈ scope.names, x.2 ≠ .cell) ∧ (∀ x ∈ scope.names, x.2 = .free → outer.names.lookup x.1 = some .cell) ∧
    ∀ j ∈ caps, j < N.length ∧ outer.names.lookup (N.getD j "") = some .cell ∧ (N.getD j "", NameKind.free) ∈ scope.names ∧ scope.names.lookup (N.getD j "") = some .free
theorem relabel_free {env : Env} {x : Str} (hk : env.scope.kind = .function) (hx : env.kindOf x = some .cell) : ∀ {names : List (Str × NameKind)}, names.lookup x = some .free →
    (names.map fun (n, k) => if (k == NameKind.free && env.scope.kind == .function && env.kindOf n == some .cell) then (n, NameKind.cell) else (n, k)).lookup x = some .cell
  | [], h => by simp at h
  | (n, k) :: r, h => by
    have ih := @relabel_free env x hk hx r
    show List.lookup x ((if (k == NameKind.free && env.scope.kind == .function && env.kindOf n == some .cell) = true then (n, NameKind.cell) else (n, k)) :: _) = _
    rw [List.lookup_cons] at h
    cases e : x == n with
    | true =>
      rw [e] at h
      have e' : x = n := by simpa using e
      subst e'
      have hk' : k = .free := Option.some.inj h
      subst hk'
      have hc : (NameKind.free == NameKind.free && env.scope.kind == .function && env.kindOf x == some .cell) = true := by rw [hk, hx]; rfl
      rw [if_pos hc, List.lookup_cons]
      simp
    | false =>
      rw [e] at h
      have q := ih h
      by_cases hc : (k == NameKind.free && env.scope.kind == .function && env.kindOf n == some .cell) = true
      · rw [if_pos hc, List.lookup_cons, e]; exact q
      · rw [if_neg hc, List.lookup_cons, e]; exact q
theorem CompScope.of {X : Cx} {outer : Scope} {N : List Str} {scope : Scope} {caps : List Nat} (h1 : X.env.scope = outer) (h2 : X.N = N) (h : CompScopeC outer N scope caps) : CompScope X scope caps := by
  subst h1; subst h2
  obtain ⟨a, b, c, d, e, f⟩ := h.ok
  refine ⟨b, c, d, e, fun j hj => ?_⟩
  obtain ⟨f1, f2, f3, f4⟩ := f j hj
  have g : X.N.getD j "" = X.N[j] := by simp [List.getD, List.getElem?_eq_getElem f1]
  rw [g] at f2 f3 f4
  exact ⟨X.N[j], List.getElem?_eq_getElem f1, f2, f3, relabel_free (env := X.env) a f2 f4⟩
end L2
set_option Elab.async false
set_option linter.all false
set_option maxRecDepth 100000
set_option maxHeartbeats 4000000
namespace L2
open PySem PySem.Spec PyProof.Rows
/-! ### == and != of lists, at any depth -/
inductive DEq (K : PySem.W.Frag) (H : Hp) : Nat → V → V → Bool → Prop where
  | flat {n : Nat} {x y : V} : flatV x = true → flatV y = true → DEq K H n x y (eqV x y)
  | same {n : Nat} (a : Addr) : DEq K H n (.ref a) (.ref a) true
  | list {n : Nat} {a b : Addr} {xs ys : List V} (e : Nat → Bool) : a ≠ b → SqL K H a xs → SqL K H b ys → xs.length = ys.length → (∀ (i : Nat) (x y : V), xs[i]? = some x → ys[i]? = some y → DEq K H n x y (e i)) →
      DEq K H (n + 1) (.ref a) (.ref b) ((List.range xs.length).all e)
  | short {n : Nat} {a b : Addr} {xs ys : List V} : a ≠ b → SqL K H a xs → SqL K H b ys → xs.length ≠ ys.length → DEq K H (n + 1) (.ref a) (.ref b) false
  | tup {n : Nat} {a b : Addr} {xs ys : List V} (e : Nat → Bool) : a ≠ b → SqT K H a xs → SqT K H b ys → (∀ (i : Nat) (x y : V), xs[i]? = some x → ys[i]? = some y → DEq K H n x y (e i)) →
      DEq K H (n + 1) (.ref a) (.ref b) ((List.range (min xs.length ys.length)).all e && xs.length == ys.length)
section
variable {X : Cx} {pins : List (Addr × Obj)} {σ : St} {H : Hp} {s : Shared}
theorem Vals.getA {xs : List V} {us : List Value} {j : Nat} (r : Vals xs us) (h : j < us.toArray.size) : ∃ x, xs[j]? = some x ∧ RelV x us.toArray[j] := by
  have hl := r.length
  have hj : j < xs.length := by simp at h; omega
  obtain ⟨u, e1, e2⟩ := r.get (List.getElem?_eq_getElem hj)
  refine ⟨xs[j], List.getElem?_eq_getElem hj, ?_⟩
  have : us.toArray[j] = u := by
    have q : us[j]? = some us[j] := List.getElem?_eq_getElem (by omega)
    rw [q] at e1
    simpa using e1
  rw [this]
  exact e2
theorem DEq.eqAt {n : Nat} {x y : V} {b : Bool} (I : Inv X pins σ H s) (d : DEq X.K H n x y b) : ∀ {A : Around} {u v : Value}, RelV x u → RelV y v → A.units + n < cLine → SeqAt.EqAt A s u v b := by
  induction d with
  | flat f1 f2 => intro A u v r1 r2 _; exact eqAt_V r1 r2 f1 f2
  | same a => intro A u v r1 r2 _; cases r1; cases r2; exact SeqAt.EqAt.same _
  | @list n a b xs ys e hne h1 h2 hl hd ih =>
    intro A u v r1 r2 hu
    cases r1; cases r2
    obtain ⟨its, q1, p1, _⟩ := I.list h1
    obtain ⟨its2, q2, p2, _⟩ := I.list h2
    have l1 := q1.length
    have l2 := q2.length
    have z := SeqAt.RcAt.lists (A := A) (e := e) p1.isList p2.isList (by simp; omega) (by omega) (fun j g1 g2 => by
      obtain ⟨x, ex, rx⟩ := q1.getA g1
      obtain ⟨y, ey, ry⟩ := q2.getA g2
      exact ih j x y ex ey rx ry (by show A.units + 1 + n < cLine; omega))
    rw [show its.toArray.size = xs.length by simp; omega] at z
    exact SeqAt.EqAt.of_refs hne z
  | @short n a b xs ys hne h1 h2 hl =>
    intro A u v r1 r2 hu
    cases r1; cases r2
    obtain ⟨its, q1, p1, _⟩ := I.list h1
    obtain ⟨its2, q2, p2, _⟩ := I.list h2
    have l1 := q1.length
    have l2 := q2.length
    exact SeqAt.EqAt.of_refs hne (SeqAt.RcAt.lists_lengths p1.isList p2.isList (by simp; omega) (by omega))
  | @tup n a b xs ys e hne h1 h2 hd ih =>
    intro A u v r1 r2 hu
    cases r1; cases r2
    obtain ⟨its, q1, p1, _⟩ := I.tuple h1
    obtain ⟨its2, q2, p2, _⟩ := I.tuple h2
    have l1 := q1.length
    have l2 := q2.length
    have z := SeqAt.RcAt.tuples (A := A) (e := e) p1 p2 (by omega) (fun j g1 g2 => by
      obtain ⟨x, ex, rx⟩ := q1.getA g1
      obtain ⟨y, ey, ry⟩ := q2.getA g2
      exact ih j x y ex ey rx ry (by show A.units + 1 + n < cLine; omega))
    rw [show its.toArray.size = xs.length by simp; omega, show its2.toArray.size = ys.length by simp; omega] at z
    exact SeqAt.EqAt.of_refs hne z
/-- the answer of == on two lists whose items are compared by e -/
def rEqD (K : PySem.W.Frag) (neg : Bool) : R2 := fun x y H Q => ∃ a b xs ys, x = .ref a ∧ y = .ref b ∧ SqL K H a xs ∧ SqL K H b ys ∧
  ((xs.length ≠ ys.length ∧ Q (.bl neg) H) ∨ (xs.length = ys.length ∧ ∃ e : Nat → Bool, (∀ (i : Nat) (x y : V), xs[i]? = some x → ys[i]? = some y → DEq K H 40 x y (e i)) ∧ Q (.bl (if neg then !((List.range xs.length).all e) else (List.range xs.length).all e)) H))
theorem op_eqD (hu : X.A.units + 64 < cLine) : OpR X (compareOp .Eq) (rEqD X.K false) := by
  intro pins s σ H x y v u Q I rx ry h
  obtain ⟨a, b, xs, ys, rfl, rfl, h1, h2, q⟩ := h
  cases rx; cases ry
  obtain ⟨its, q1, p1, _⟩ := I.list h1
  obtain ⟨its2, q2, p2, _⟩ := I.list h2
  have l1 := q1.length
  have l2 := q2.length
  rcases q with ⟨hl, q⟩ | ⟨hl, e, he, q⟩
  · exact SeqAt.eq_list_lengthsAt p1.isList p2.isList (by simp; omega) (by omega) ⟨.bl false, H, I, rfl, q⟩
  · refine SeqAt.eq_listAt (e := e) p1.isList p2.isList (by simp; omega) (by omega) (fun j g1 g2 => ?_) ⟨.bl _, H, I, rfl, ?_⟩
    · obtain ⟨x, ex, rx⟩ := q1.getA g1
      obtain ⟨y, ey, ry⟩ := q2.getA g2
      exact (he j x y ex ey).eqAt I rx ry (by show X.A.units + 1 + 40 < cLine; omega)
    · rw [show its.toArray.size = xs.length by simp; omega]
      exact q
theorem op_neD (hu : X.A.units + 64 < cLine) : OpR X (compareOp .NotEq) (rEqD X.K true) := by
  intro pins s σ H x y v u Q I rx ry h
  obtain ⟨a, b, xs, ys, rfl, rfl, h1, h2, q⟩ := h
  cases rx; cases ry
  obtain ⟨its, q1, p1, _⟩ := I.list h1
  obtain ⟨its2, q2, p2, _⟩ := I.list h2
  have l1 := q1.length
  have l2 := q2.length
  rcases q with ⟨hl, q⟩ | ⟨hl, e, he, q⟩
  · exact SeqAt.RcNeAt.lists_lengths p1.isList p2.isList (by simp; omega) (by omega) _ _ _ _ ⟨.bl true, H, I, rfl, q⟩
  · refine SeqAt.RcNeAt.lists (e := e) p1.isList p2.isList (by simp; omega) (by omega) (fun j g1 g2 => ?_) _ _ _ _ ⟨.bl _, H, I, rfl, ?_⟩
    · obtain ⟨x, ex, rx⟩ := q1.getA g1
      obtain ⟨y, ey, ry⟩ := q2.getA g2
      exact (he j x y ex ey).eqAt I rx ry (by show X.A.units + 1 + 40 < cLine; omega)
    · rw [show its.toArray.size = xs.length by simp; omega]
      exact q
/-- two lists of ints -/
def rEqL (K : PySem.W.Frag) (neg : Bool) : R2 := fun x y H Q => ∃ (a b : Addr) (ns ms : List Int), x = .ref a ∧ y = .ref b ∧ SqL K H a (ns.map V.int) ∧ SqL K H b (ms.map V.int) ∧ Q (.bl (if neg then !decide (ns = ms) else decide (ns = ms))) H
end

/-! ### an iterator of two records, that makes a tuple at each turn: enumerate -/
section
variable {X : Cx} {pins : List (Addr × Obj)} {σ : St} {H : Hp} {s : Shared} {h' : Heap}
theorem Inv.turnedNew {ch : List Addr} {T : Addr} {o : HO} {tk : Nat} (I : Inv X pins σ H s) (k : ∀ b u, b ∉ ch → s.heap.get? b = some u → h'.get? b = some u) (hf : ∀ b ∈ ch, FpOk X pins H b) (hT : s.heap.objs.size ≤ T) (th : ∃ u, h'.get? T = some u)
    (new : ObjOk X.prog X.w (upd H T o) h' T o) : Inv X pins σ (upd H T o) { s with heap := h', toks := tk } := by
  have hn : H T = none := I.hok.fresh hT
  have nch : ∀ b u, H b = some u → b ∉ ch := fun b u e z => by
    have := (hf b z).1
    rw [e] at this
    cases this
  refine I.step (g' := s.gens) (d' := s.drawn) (ch := ch) (fun b hb => ⟨(hf b hb).2.2.2.1, (hf b hb).2.1, (hf b hb).2.2.2.2.1, (hf b hb).2.2.2.2.2⟩) (fun b u _ _ hc e _ => k b u hc e) (fun b u _ _ hc e _ => ⟨u.slots, k b u hc e⟩)
    (fun b u _ e n => by rw [upd_ne (fun (z : b = T) => absurd (Nat.lt_of_lt_of_le (Heap.lt_size e) (z ▸ hT)) (Nat.lt_irrefl _))]; exact n) (fun b u hc e => ⟨u, k b u hc e⟩)
    (fun b xs e => by rw [upd_ne (ne_of_none e hn)]; exact e) (fun b u v e => by rw [upd_ne (ne_of_none e hn)]; exact e) (fun b ps e => ⟨#[], by rw [upd_ne (ne_of_none e hn), e]; simp⟩) (fun m hm => ?_) (fun b u e => ?_) I.bare
  · obtain ⟨ob, es, ep, ho, r⟩ := hm
    refine ⟨ob, es, ep, k _ ob (fun z => (hf _ z).2.1 rfl) ho, r⟩
  · by_cases hb : b = T
    · subst hb; rw [upd_same] at e; cases e; exact new
    · rw [upd_ne hb] at e
      refine (I.hok b u e).stay (fun c v hc q => k c v ?_ q) (fun c q => by rw [upd_ne (ne_of_none q hn)]; exact q) fun c xs q => by rw [upd_ne (ne_of_none q hn)]; exact q
      rcases hc with z | z
      · rw [z]; exact nch b u e
      · exact nch c _ z
theorem Inv.turnedMany {ch : List Addr} {tk : Nat} (I : Inv X pins σ H s) (k : ∀ b u, b ∉ ch → s.heap.get? b = some u → h'.get? b = some u) (hf : ∀ b ∈ ch, FpOk X pins H b) : Inv X pins σ H { s with heap := h', toks := tk } := by
  have nch : ∀ b u, H b = some u → b ∉ ch := fun b u e z => by
    have := (hf b z).1
    rw [e] at this
    cases this
  refine I.step (g' := s.gens) (d' := s.drawn) (ch := ch) (fun b hb => ⟨(hf b hb).2.2.2.1, (hf b hb).2.1, (hf b hb).2.2.2.2.1, (hf b hb).2.2.2.2.2⟩) (fun b u _ _ hc e _ => k b u hc e) (fun b u _ _ hc e _ => ⟨u.slots, k b u hc e⟩)
    (fun b u _ e n => n) (fun b u hc e => ⟨u, k b u hc e⟩) (fun b xs e => e) (fun b u v e => e) (fun b ps e => ⟨#[], by rw [e]; simp⟩) (fun m hm => ?_) (fun b u e => ?_) I.bare
  · obtain ⟨ob, es, ep, ho, r⟩ := hm
    refine ⟨ob, es, ep, k _ ob (fun z => (hf _ z).2.1 rfl) ho, r⟩
  · refine (I.hok b u e).stay (fun c v hc q => k c v ?_ q) (fun c q => q) fun c xs q => q
    rcases hc with z | z
    · rw [z]; exact nch b u e
    · exact nch c _ z
end
def Ite (K : PySem.W.Frag) (a : Addr) : It :=
  ⟨fun i H => ∃ xs x, SqL K H a xs ∧ xs[i]? = some x, fun i H x H' => ∃ T v, x = .ref T ∧ H T = none ∧ H' = upd H T (.tup [.int i, v]) ∧ ∀ xs, SqL K H a xs → xs[i]? = some v, fun i H => ∃ xs, SqL K H a xs ∧ xs.length = i⟩
section
variable {X : Cx} {elts : List Expr} {k : Nat} {tp : Pos}
def iEnum (K : PySem.W.Frag) (ta : TA) : TI := fun σ H R => ta σ H fun vs H1 => ∃ a, vs = [.ref a] ∧ (∃ xs, SqL K H1 a xs) ∧ R (Ite K a) H1
end
end L2
set_option Elab.async false
set_option linter.all false
set_option maxRecDepth 100000
set_option maxHeartbeats 4000000
namespace L2
open PySem PySem.Spec PyProof.Rows
/-! ### list(range(..)) -/
/-- lo, lo + 1, .., n of them -/
def rangeL (lo : Int) (n : Nat) : List Int := (List.range n).map fun i => lo + (i : Nat)
theorem rangeL_length (lo : Int) (n : Nat) : (rangeL lo n).length = n := by simp [rangeL]
theorem vals_range {lo : Int} {n : Nat} {acc : Array Value} (h : ItemsOf (fun i v => ∃ t, v = .int (lo + i * 1) t) acc n) : Vals ((rangeL lo n).map V.int) acc.toList := by
  obtain ⟨h1, h2⟩ := h
  have key : ∀ (xs : List V) (us : List Value), xs.length = us.length → (∀ (i : Nat) x u, xs[i]? = some x → us[i]? = some u → RelV x u) → Vals xs us := by
    intro xs
    induction xs with
    | nil => intro us hl _; cases us with | nil => exact .nil | cons _ _ => cases hl
    | cons x xs ih =>
      intro us hl h
      cases us with
      | nil => cases hl
      | cons u us => exact .cons (h 0 x u rfl rfl) (ih us (by simpa using hl) fun i y v a b => h (i + 1) y v (by simpa using a) (by simpa using b))
  refine key _ _ (by simp [rangeL, h1]) fun i x u hx hu => ?_
  obtain ⟨t, rfl⟩ := h2 i u (by simpa using hu)
  have hi : i < n := by
    have := (List.getElem?_eq_some_iff.mp hu).1
    simp at this
    omega
  have : x = .int (lo + i) := by
    simp [rangeL, hi] at hx
    exact hx.symm
  subst this
  exact ⟨t, by rw [Int.mul_one]⟩
section
variable {X : Cx} {pos pos2 p p2 : Pos} {a b : Expr} {ta : TA}
def rMade (xs : List V) (H : Hp) (Q : VK) : Prop := ∀ l, H l = none → Q (.ref l) (upd H l (.lst xs))
def tListRange1 (ta : TA) : TE := fun σ H Q => ta σ H fun vs H1 => ∃ j : Int, vs = [.int j] ∧ -1000000 < j ∧ j < 1000000 ∧ rMade ((rangeL 0 j.toNat).map V.int) H1 Q
def tListRange2 (ta : TA) : TE := fun σ H Q => ta σ H fun vs H1 => ∃ i j : Int, vs = [.int i, .int j] ∧ (-1000000 < i ∧ i < 1000000 ∧ -1000000 < j ∧ j < 1000000) ∧ rMade ((rangeL i (j - i).toNat).map V.int) H1 Q
/-- a range object just made, listed -/
theorem list_rng {pins : List (Addr × Obj)} {σ : St} {H : Hp} {s : Shared} {E : Value → Shared → Prop} {Q : VK} {lo hi : Int} {t u v : Tok} {tk : Nat} (hc : X.calm = true) (I : Inv X pins σ H s) (h1 : -1000000 < lo) (h2 : lo < 1000000) (h3 : -1000000 < hi) (h4 : hi < 1000000)
    (q : rMade ((rangeL lo (hi - lo).toNat).map V.int) H Q) :
    wpAny (model X.prog X.w) X.A (call (.type "list") [.ref s.heap.objs.size]) (EP X pins σ Q) E { s with heap := s.heap.push { cls := .type "range", data := .fields #[.int lo t, .int hi u, .int 1 v] }, toks := tk } := by
  have I1 : Inv X pins σ H { s with heap := s.heap.push { cls := .type "range", data := .fields #[.int lo t, .int hi u, .int 1 v] }, toks := tk } := I.kept fun b o e => Heap.get?_push_of_some _ e
  have hsz : Builtin.Range.rangeSize lo hi 1 = ((hi - lo).toNat : Int) := by rw [rangeSize_one]; split <;> omega
  refine call_list_range (n := (hi - lo).toNat) (I1.ok.hd hc) (IsRange.new ..) (small_one (by omega) (by omega) (by omega) (by omega)) hsz (by omega) fun h' tk' acc' c' hk hl hit => ?_
  have hf := I1.hok.fresh (Nat.le_refl (s.heap.push { cls := .type "range", data := .fields #[.int lo t, .int hi u, .int 1 v] }).objs.size)
  refine ⟨.ref _, upd H _ (.lst ((rangeL lo (hi - lo).toNat).map V.int)), I1.laid (t' := tk') hk (Nat.le_refl _) ?_, rfl, q _ hf⟩
  refine ⟨?_, acc'.toList, c', vals_range hit, by simpa using hl⟩
  rw [List.length_map, rangeL_length, sizeLine_eq]
  omega
theorem pe_listRange1 (hc : X.calm = true) (hg : Gl X "list") (hm : X.mg "list" = none) (hg2 : Gl X "range") (hm2 : X.mg "range" = none) (ha : PA X [a] ta) (hs : starEach [a] X.env = [(false, eval a X.env)] := by rfl)
    (hs2 : starEach [.Call (.Name "range" p2) [a] [] pos2] X.env = [(false, eval (.Call (.Name "range" p2) [a] [] pos2) X.env)] := by rfl) : PE X (.Call (.Name "list" p) [.Call (.Name "range" p2) [a] [] pos2] [] pos) (tListRange1 ta) := by
  intro pins s σ H Q I h
  refine wpAny_Call_Name_kw (ld_blt I hg hm boot_list ?_)
  refine PyProof.Rows.callWith_type1 ?_ hs2 rfl
  rw [hs2]
  refine Calls.spliced_cons ?_
  refine Call_ (ld_blt I hg2 hm2 boot_range (PyProof.Rows.callWith_type1 (thn (ha pos2 pins s σ H _ I h) fun us s1 ⟨vs, H1, I1, r1, q1⟩ => ?_) hs rfl))
  obtain ⟨j, e, q1, q2, q⟩ := q1
  subst e
  obtain ⟨u, rfl, t, rfl⟩ := vals1 r1
  refine call_range_1 (Calls.spliced_nil ?_)
  exact list_rng hc I1 (by omega) (by omega) q1 q2 (by simpa using q)
end
/-! ### xs.index(y), sorted(xs), all(xs), sum(xs) -/
theorem ofIntsIn : ∀ {ns : List Int} {us : List Value}, IntsAre us ns → Vals (ns.map V.int) us
  | _, _, .nil => .nil
  | _, _, .cons n t h => .cons ⟨t, rfl⟩ (ofIntsIn h)
section
variable {X : Cx}
def rIndex (K : PySem.W.Frag) : V → List V → Hp → VK → Prop := fun x vs H Q => ∃ (l : Addr) (ns : List Int) (y : Int), x = .ref l ∧ vs = [.int y] ∧ SqL K H l (ns.map V.int) ∧ y ∈ ns ∧ Q (.int (ns.idxOf y : Nat)) H
theorem mt_index : MtR X "list.index" (rIndex X.K) := by
  intro pins s σ H x xs v us Q I rx rs h
  obtain ⟨l, ns, y, rfl, rfl, hq, hy, q⟩ := h
  cases rx
  obtain ⟨u, rfl, t, rfl⟩ := vals1 rs
  obtain ⟨its, r, p, hz⟩ := I.list hq
  obtain ⟨⟨cls, dd, data, sl⟩, ho, hc, n, hd⟩ := id p.isList
  simp only at hc hd
  subst hc hd
  have hlen : ns.length = its.length := by have := r.length; simpa using this
  have hj : ns.idxOf y < ns.length := List.idxOf_lt_length_iff.mpr hy
  have eqU_get : ∀ (j : Nat) (hj : j < its.length), eqU (.int y) its[j] = (ns.getD j 0 == y) := fun j hj => by
    have e1 : ns[j]? = some (ns.getD j 0) := by
      rw [List.getElem?_eq_getElem (by omega)]
      simp [List.getD, List.getElem?_eq_getElem (show j < ns.length by omega)]
    obtain ⟨u, e2, ru⟩ := r.get (i := j) (x := .int (ns.getD j 0)) (by rw [List.getElem?_map, e1]; rfl)
    have e3 : its[j] = u := by
      rw [List.getElem?_eq_getElem hj] at e2
      exact Option.some.inj e2
    rw [e3, eqU_of ru rfl]
    rfl
  have hz' : ns.length ≤ 16777216 := by rw [List.length_map, sizeLine_eq] at hz; exact hz
  refine call_meets F.slot_list_index p.isList.typeIs F.entry_list_index (F.args_list_index_2 _ _)
    (SeqAt.list_indexAt l its.toArray n dd sl (.int y t) (eqU (.int y)) (ns.idxOf y) (by simp; omega) (by omega) ?_ ?_) ⟨ho, fun u hu => ?_, ?_⟩
  · have := eqU_get (ns.idxOf y) (by omega)
    simp only [List.getElem_toArray]
    rw [this]
    simp [List.getD, List.getElem?_eq_getElem hj, List.getElem_idxOf]
  · intro m hm hlt
    have := eqU_get m (by simpa using hm)
    simp only [List.getElem_toArray]
    rw [this]
    have hm' : m < ns.length := by omega
    simp only [List.getD, List.getElem?_eq_getElem hm', Option.getD_some]
    have := List.not_of_lt_findIdx (p := (· == y)) (xs := ns) (i := m) (by simpa [List.idxOf] using hlt)
    simpa using this
  · exact mem_eqAt (x := .int y) ⟨t, rfl⟩ rfl r (by simp [flatV]) u (by simpa using hu)
  · exact ⟨.int _, H, I.tok _, ⟨_, rfl⟩, q⟩
def rSorted (K : PySem.W.Frag) : List V → Hp → VK → Prop := fun xs H Q => ∃ (p : Addr) (ns : List Int), xs = [.ref p] ∧ SqL K H p (ns.map V.int) ∧ ns.length < 64 ∧ ∀ ms : List Int, ms.Perm ns → ms.Pairwise (· ≤ ·) → rMade (ms.map V.int) H Q
/-- all(xs), xs a list of truths -/
theorem call_all (hc : X.calm = true) : CallR X (.builtin "all") (fun xs H Q => ∃ (p : Addr) (bs : List Bool), xs = [.ref p] ∧ SqL X.K H p (bs.map V.bl) ∧ Q (.bl (bs.all id)) H) := by
  intro pins s σ H xs us Q I r h
  obtain ⟨p, bs, rfl, hq, q⟩ := h
  obtain ⟨u, rfl, rx⟩ := vals1 r
  cases rx
  obtain ⟨its, rv, pl, hz⟩ := I.list hq
  have hl := rv.length
  refine call_all_walk (wpAny_pyIter_list pl.isList ?_)
  have hne : p ≠ s.heap.objs.size := Nat.ne_of_lt (by obtain ⟨o, ho, _⟩ := pl.isList; exact Heap.lt_size ho)
  refine ⟨s.heap.objs.size, _, _, _, _, _, fun i => bs.getD i true, rfl, Walks.list (A := X.A.in1) (I.ok.hd hc) _ p hne its.toArray, ⟨⟨_, Heap.get?_push_size _ rfl, rfl, rfl⟩, pl.isList.at fun o e => Heap.get?_push_of_some _ e⟩, ?_, fun h' tk hk => ?_⟩
  · intro i v s' Q' E' hv hq'
    have hv : its[i]? = some v := by simpa using hv
    have hi : i < bs.length := by
      have := (List.getElem?_eq_some_iff.mp hv).1
      simp at hl
      omega
    obtain ⟨u, e2, ru⟩ := rv.get (i := i) (x := .bl bs[i]) (by simp [hi])
    rw [hv] at e2
    cases e2
    cases ru
    simp only [List.getD, List.getElem?_eq_getElem hi, Option.getD_some] at hq'
    exact wpAny_truthy_bool hq'
  · have e : ((List.range its.toArray.size).all fun i => bs.getD i true) = bs.all id := by
      have : its.toArray.size = bs.length := by simp at hl ⊢; omega
      rw [this]
      rw [Bool.eq_iff_iff, List.all_eq_true, List.all_eq_true]
      constructor
      · intro h b hb
        obtain ⟨i, hi, rfl⟩ := List.getElem_of_mem hb
        have := h i (List.mem_range.mpr hi)
        simpa [List.getD, List.getElem?_eq_getElem hi] using this
      · intro h i hi
        have hi := List.mem_range.mp hi
        have := h bs[i] (List.getElem_mem hi)
        simpa [List.getD, List.getElem?_eq_getElem hi] using this
    refine ⟨.bl (bs.all id), H, I.kept (t' := tk) (fun b o z => hk b o ?_ (Heap.get?_push_of_some _ z)), ?_, q⟩
    · have := Heap.lt_size z
      intro hm
      have hm : b = s.heap.objs.size := by simpa using hm
      rw [hm] at this
      exact absurd this (Nat.lt_irrefl _)
    · rw [e]; rfl
/-- xs[i], for xs[i] op= .. -/
def gIx (K : PySem.W.Frag) : V → V → Hp → VK → Prop := fun x y H Q => ∃ p xs i v, x = .ref p ∧ y = .int i ∧ SqL K H p xs ∧ 0 ≤ i ∧ xs[i.toNat]? = some v ∧ Q v H
theorem get_list : PGet X (gIx X.K) := by
  intro pins s σ H o i ov iv Q I ro ri h
  obtain ⟨p, xs, k, v, rfl, rfl, hq, h0, he, q⟩ := h
  cases ro
  obtain ⟨t, rfl⟩ := ri
  obtain ⟨its, r, pl, hz⟩ := I.list hq
  obtain ⟨w, ew, rw'⟩ := r.get he
  have hk : k.toNat < xs.length := (List.getElem?_eq_some_iff.mp he).1
  rw [sizeLine_eq] at hz
  exact wpAny_getItem_list pl.isList h0 (by omega) (by simpa using ew) ⟨v, H, I, rw', q⟩
end
/-! ### x = [.. for ..]: the store comes ahead of the end of the block -/
section
variable {X : Cx} {vars : List Str} {caps : List Nat} {scope : Scope} {tg iter elt : Expr} {ifs : List Expr} {pos py spos : Pos} {wi : TI} {g : TG} {tt : TT} {te : TE}
theorem ps_setC {i : Nat} {y : Str} (S : CompScope X scope caps) (hc : X.calm = true) (hN : X.N.Nodup) (hi : X.N[i]? = some y) (hy : X.env.scope.names.lookup y = some .local) (hit : PI X tg iter wi) (B : CompBody X vars caps scope tg ifs elt g tt te)
    (hsw : swapsWith (.ListComp elt [⟨tg, iter, ifs, 0⟩] scope pos) (some (.Name y py)) spos.line X.env = pure true := by rfl) (hs : ∀ x, foldedSetIterable iter X.env x = pure x := by intro _; rfl) :
    PS X (.Assign [.Name y py] (.ListComp elt [⟨tg, iter, ifs, 0⟩] scope pos) spos) (tAsg (tComp vars caps wi g tt te) (gName i)) := by
  intro pins s σ H D I h
  rw [exec_Assign_Name_used _ _ _ _ hsw]
  refine wpAny_bind (wpAny_standAt (wpAny_bind ?_))
  show wpAny _ X.A (do let _ ← comprehension (.ListComp elt [⟨tg, iter, ifs, 0⟩] scope pos) scope X.env _ (newList []) false (eval iter X.env) (some (assign (.Name y py) X.env))) _ _ s
  refine wpAny_bind (wpAny_mono (wpAny_comprehension_free (use := some (assign (.Name y py) X.env)) (Q := fun _ s' => SP X pins D .next s') rfl hs (closureFor_is (S.cells I)) S.kind S.loc ?_) (fun _ s' hq => wpAny_pure (wpAny_pure hq)) fun _ _ e => e)
  refine thn (hit pins s σ H _ I h) fun v s1 h1 => thn h1 fun itv s2 h2 => ?_
  obtain ⟨it, fp, tn, J, H2, e, I2, T, st2, f2, q⟩ := h2
  subst e
  refine comp_run (RR := fun acc C => compPost (model X.prog X.w) X.A X.xe (some (assign (.Name y py) X.env)) (fun _ s' => SP X pins D .next s') acc C) S hc B I2 T st2 f2 q fun acc C s' H' m I' hm hC hn q' => ?_
  have hCL : C ≠ X.env.locals := fun z => absurd (Nat.lt_of_lt_of_le I2.lt (z ▸ hC)) (Nat.lt_irrefl _)
  have hCc : ∀ x c, X.env.cells.lookup x = some c → c ≠ C := fun x c e z => by
    obtain ⟨v, hv⟩ := I2.cell x c e
    exact absurd (Nat.lt_of_lt_of_le hv.lt (z ▸ hC)) (Nat.lt_irrefl _)
  show wpAny _ X.A (assign (.Name y py) X.env (.ref acc)) _ _ s'
  refine wpAny_assign_Name (store_ok2 I' hN hi (.inl hy) (v := .ref acc) rfl (fun s'' I'' ⟨b, hsb, hb⟩ => ?_) (.inr hy))
  have hbC : b ≠ C := by
    rcases hb with z | z
    · rw [z]; exact Ne.symm hCL
    · exact hCc y b z
  refine ⟨m, hm.sameBut hsb (Ne.symm hbC), fun h'' hs'' => ?_⟩
  exact ⟨_, H', I''.turned (t' := s''.toks) (fun b o hb e => hs''.extBut b o hb e) hn hCL (.inr (Nat.le_trans I2.sz hC)) hCc (fun p hp z => by
    exact absurd (Nat.lt_of_lt_of_le (Heap.lt_size (I2.pin p hp).1) (z ▸ hC)) (Nat.lt_irrefl _)), q'⟩
end
end L2
set_option Elab.async false
set_option linter.all false
set_option maxRecDepth 100000
set_option maxHeartbeats 4000000
namespace L2
open PySem PySem.Spec PyProof.Rows
theorem Same.new {H : Hp} {p : Addr} (h : H p = none) (o : HO) : Same H (upd H p o) := fun b u q => by rw [upd_ne (ne_of_none q h)]; exact q
/-- what was made anew here may be changed -/
theorem Same.put {H H' : Hp} {l : Addr} {o : HO} (e : Same H H') (h : H l = none) : Same H (upd H' l o) := fun b u q => by rw [upd_ne (ne_of_none q h)]; exact e b u q
/-- a new list is handed back, all that was tracked stays -/
def rNew (xs : List V) (H : Hp) (Q : VK) : Prop := ∀ r H', Same H H' → H r = none → H' r = some (.lst xs) → Q (.ref r) H'
theorem rNew.made {xs : List V} {H : Hp} {Q : VK} (h : rNew xs H Q) : rMade xs H Q := fun l hl => h l _ (Same.new hl _) hl upd_same
/-! ### comprehensions whose items change nothing -/
section
variable {K : PySem.W.Frag} {a : Addr} {xs : List V} {x : Str} {caps : List Nat} {g : TG} {tt : TT} {te : TE} {σ : St} {H : Hp} {Q : VK}
theorem filter_succ {p : Nat → Bool} (i : Nat) : (List.range (i + 1)).filter p = (List.range i).filter p ++ (if p i = true then [i] else []) := by
  rw [List.range_succ, List.filter_append]
  cases h : p i <;> simp [h]
theorem comp_pure {J : It} {n : Nat} {item : Nat → V → Prop} (F : Nat → V) (p : Nat → Bool) (hn : n ≤ sizeLine)
    (hgo : ∀ i acc ys, i < n → H acc = none → J.go i (upd H acc (.lst ys))) (hst : ∀ acc ys, H acc = none → J.stop n (upd H acc (.lst ys)))
    (hy : ∀ i acc ys v H', i < n → H acc = none → J.yld i (upd H acc (.lst ys)) v H' → H' = upd H acc (.lst ys) ∧ item i v)
    (hs : ∀ (i : Nat) (v : V) (t : Option V) (acc : Addr) (ys : List V) (N : St → Hp → Prop) (Kt : V → St → Hp → Prop), i < n → item i v → H acc = none → (∀ t', p i = true → Kt (F i) (t' :: caps.map fun j => σ.getD j none) (upd H acc (.lst ys))) → (∀ t', p i = false → N (t' :: caps.map fun j => σ.getD j none) (upd H acc (.lst ys))) →
      g v (t :: caps.map fun j => σ.getD j none) (upd H acc (.lst ys)) fun σ2 H3 => tt σ2 H3 fun b H4 => if b = true then te σ2 H4 fun v H5 => Kt v σ2 H5 else N σ2 H4)
    (hQ : rMade (((List.range n).filter p).map F) H Q) : rComp [x] caps J g tt te σ H Q := by
  intro acc hacc
  refine ⟨fun i m σ' H' => m = n - i ∧ i ≤ n ∧ (∃ t, σ' = t :: caps.map fun j => σ.getD j none) ∧ H' = upd H acc (.lst (((List.range i).filter p).map F)), ⟨n, rfl, Nat.zero_le _, ⟨none, rfl⟩, rfl⟩, ?_⟩
  rintro i m σ' H' ⟨rfl, hi, ⟨t, rfl⟩, rfl⟩
  by_cases hlt : i < n
  · refine .inr ⟨hgo i acc _ hlt hacc, fun σ2 H2 => (∃ t, σ2 = t :: caps.map fun j => σ.getD j none) ∧ H2 = upd H acc (.lst (((List.range (i + 1)).filter p).map F)), fun σ'' H'' ⟨h1, h2⟩ => ⟨n - (i + 1), by omega, rfl, hlt, h1, h2⟩, fun v H2 y => ?_⟩
    obtain ⟨rfl, hv⟩ := hy i acc _ v H2 hlt hacc y
    refine hs i v t acc _ _ (fun v σ2 H5 => ∃ ys, H5 acc = some (.lst ys) ∧ ys.length < sizeLine ∧ (∃ t, σ2 = t :: caps.map fun j => σ.getD j none) ∧ upd H5 acc (.lst (ys ++ [v])) = upd H acc (.lst (((List.range (i + 1)).filter p).map F))) hlt hv hacc (fun t' hp => ?_) fun t' hp => ?_
    · refine ⟨_, upd_same, ?_, ⟨t', rfl⟩, ?_⟩
      · rw [List.length_map]
        have := List.length_filter_le p (List.range i)
        rw [List.length_range] at this
        omega
      · rw [upd_upd, filter_succ, if_pos hp, List.map_append]
        rfl
    · refine ⟨⟨t', rfl⟩, ?_⟩
      rw [filter_succ, if_neg (by rw [hp]; decide), List.append_nil]
  · have e : i = n := by omega
    subst e
    exact .inl ⟨hst acc _ hacc, hQ acc hacc⟩
/-- over a list -/
theorem comp_list (F : Nat → V) (p : Nat → Bool) (hn : xs.length ≤ sizeLine) (hq : SqL K H a xs)
    (hs : ∀ (i : Nat) (v : V) (t : Option V) (acc : Addr) (ys : List V) (N : St → Hp → Prop) (Kt : V → St → Hp → Prop), i < xs.length → xs[i]? = some v → H acc = none → (∀ t', p i = true → Kt (F i) (t' :: caps.map fun j => σ.getD j none) (upd H acc (.lst ys))) → (∀ t', p i = false → N (t' :: caps.map fun j => σ.getD j none) (upd H acc (.lst ys))) →
      g v (t :: caps.map fun j => σ.getD j none) (upd H acc (.lst ys)) fun σ2 H3 => tt σ2 H3 fun b H4 => if b = true then te σ2 H4 fun v H5 => Kt v σ2 H5 else N σ2 H4)
    (hQ : rMade (((List.range xs.length).filter p).map F) H Q) : rComp [x] caps (Itl K a) g tt te σ H Q :=
  comp_pure (item := fun i v => xs[i]? = some v) F p hn (fun i acc ys hi h => ⟨xs, xs[i], (Same.new h _).seq hq, List.getElem?_eq_getElem hi⟩) (fun acc ys h => ⟨xs, (Same.new h _).seq hq, Nat.le_refl _⟩)
    (fun i acc ys v H' hi h y => ⟨y.1, y.2 xs ((Same.new h _).seq hq)⟩) hs hQ
/-- over a range -/
theorem comp_range {lo : Int} {n : Nat} (F : Nat → V) (p : Nat → Bool) (hn : n ≤ sizeLine)
    (hs : ∀ (i : Nat) (t : Option V) (acc : Addr) (ys : List V) (N : St → Hp → Prop) (Kt : V → St → Hp → Prop), i < n → H acc = none → (∀ t', p i = true → Kt (F i) (t' :: caps.map fun j => σ.getD j none) (upd H acc (.lst ys))) → (∀ t', p i = false → N (t' :: caps.map fun j => σ.getD j none) (upd H acc (.lst ys))) →
      g (.int (lo + i)) (t :: caps.map fun j => σ.getD j none) (upd H acc (.lst ys)) fun σ2 H3 => tt σ2 H3 fun b H4 => if b = true then te σ2 H4 fun v H5 => Kt v σ2 H5 else N σ2 H4)
    (hQ : rMade (((List.range n).filter p).map F) H Q) : rComp [x] caps (Itr lo n) g tt te σ H Q :=
  comp_pure (item := fun i v => v = .int (lo + i)) F p hn (fun i acc ys hi h => hi) (fun acc ys h => Nat.le_refl _)
    (fun i acc ys v H' hi h y => y) (fun i v t acc ys N Kt hi hv h k1 k2 => by subst hv; exact hs i t acc ys N Kt hi h k1 k2) hQ
end
theorem filter_true {n : Nat} : (List.range n).filter (fun _ => true) = List.range n := by simp
/-! ### reading lists of ints -/
theorem atI_int {ns : List Int} {k : Int} (h0 : 0 ≤ k) (h : k < (ns.length : Int)) : atI (ns.map V.int) k = some (.int (ns.getD k.toNat 0)) := by
  have hk : k.toNat < ns.length := by omega
  have ek : k = ((k.toNat : Nat) : Int) := by omega
  have q : atI (ns.map V.int) ((k.toNat : Nat) : Int) = some (.int (ns.getD k.toNat 0)) := atI_nat (by simp [List.getD, hk])
  rw [← ek] at q
  exact q
theorem atV {xs : List V} {k : Int} {v : V} (h0 : 0 ≤ k) (h : xs[k.toNat]? = some v) : atI xs k = some v := by
  have ek : k = ((k.toNat : Nat) : Int) := by omega
  have q : atI xs ((k.toNat : Nat) : Int) = some v := atI_nat h
  rw [← ek] at q
  exact q
/-! ### the rules by a named written part: no context stands in a reading -/
section
variable {X : Cx} {K : PySem.W.Frag}
theorem k_ix_list (h : X.K = K := by rfl) : IxR X (rIxL K) := h ▸ ix_list
theorem k_len (h : X.K = K := by rfl) : CallR X (.builtin "len") (fun xs H Q => ∃ p ys, xs = [.ref p] ∧ (SqL K H p ys ∨ SqT K H p ys) ∧ Q (.int ys.length) H) := h ▸ call_len_seq
theorem k_index (h : X.K = K := by rfl) : MtR X "list.index" (rIndex K) := h ▸ mt_index
theorem k_sl_list (h : X.K = K := by rfl) : SlR X (rSlL K) := h ▸ sl_list
theorem k_eqD (hu : X.A.units + 64 < cLine) (h : X.K = K := by rfl) : OpR X (compareOp .Eq) (rEqD K false) := h ▸ op_eqD hu
theorem k_neD (hu : X.A.units + 64 < cLine) (h : X.K = K := by rfl) : OpR X (compareOp .NotEq) (rEqD K true) := h ▸ op_neD hu
theorem k_list_of (h : X.K = K := by rfl) : CallR X (.type "list") (fun xs H Q => ∃ p ys, xs = [.ref p] ∧ (SqL K H p ys ∨ SqT K H p ys) ∧ ∀ l, H l = none → Q (.ref l) (upd H l (.lst ys))) := h ▸ call_list_of
theorem k_isinst (h : X.K = K := by rfl) : CallR X (.builtin "isinstance") (fun xs H Q => ∃ x t n b, xs = [x, .ty n] ∧ TyOf K H x t ∧ PySem.W.kitOne K t (.type n) = some b ∧ Q (.bl b) H) := h ▸ call_isinst
theorem k_all (hc : X.calm = true) (h : X.K = K := by rfl) : CallR X (.builtin "all") (fun xs H Q => ∃ (p : Addr) (bs : List Bool), xs = [.ref p] ∧ SqL K H p (bs.map V.bl) ∧ Q (.bl (bs.all id)) H) := h ▸ call_all hc
theorem k_get (h : X.K = K := by rfl) : PGet X (gIx K) := h ▸ get_list
theorem k_pi_list {tg l : Expr} {tl : TE} (hl : PE X l tl) (h : X.K = K := by rfl) : PI X tg l (iList K tl) := h ▸ pi_list hl
theorem k_pg_tup {pos : Pos} {es : List Expr} {k : Nat} {t : TGs} {n : Nat} (hc : X.calm = true) (hh : PGs X es t) (hn : (assignEach es X.env).length = n := by rfl) (hst : (assignEach es X.env).findIdx? (·.1) = none := by rfl) (h : X.K = K := by rfl) : PG X (.Tuple es k pos) (gTup K n t) := h ▸ pg_tup hc hh hn hst
end
section
variable {X : Cx} {K : PySem.W.Frag} {T : String} {name : Str} {id : String} {r : V → List V → Hp → VK → Prop} {o e : Expr} {es : List Expr} {to : TE} {t : TA} {cpos apos : Pos}
theorem k_bm (pa : PlainAttrs T) (slot : Slot T name id) (hty : typeOf (.builtin id) = pure (.type "method_descriptor")) (hm : MtR X id r) (ho : PE X o to) (ha : PA X (e :: es) t)
    (hbase : attributeBase o name X.env (eval o X.env) = eval o X.env := by rfl)
    (hfew : ((backTo cpos (starEach (e :: es) X.env)).all (fun x => !x.1) && (backToKw cpos (keywordEach [] X.env)).all (fun x => x.1.isSome)
      && decide ((e :: es).length + ([] : List Keyword).length + (if ([] : List Keyword).isEmpty then 0 else 1) < 30)) = true := by rfl)
    (hline : (apos.endLine == cpos.line) = true := by rfl) (hs : starEach (e :: es) X.env = (false, eval e X.env) :: starEach es X.env := by rfl) (hplain : (backTo cpos (starEach es X.env)).any (·.1) = false := by rfl) (h : X.K = K := by rfl) :
    PE X (.Call (.Attribute o name apos) (e :: es) [] cpos) (tBM K T r to t) := h ▸ pe_bm pa slot hty hm ho ha hbase hfew hline hs hplain
end
end L2
set_option Elab.async false
set_option linter.all false
set_option maxRecDepth 100000
set_option maxHeartbeats 4000000
namespace L2
open PySem PySem.Spec PyProof.Rows
namespace RV
section
variable {prog : Program} {w : World} {A : Around} {E : Value → Shared → Prop} {s : Shared}
end
end RV
section
variable {X : Cx} {pos pos2 p p2 : Pos} {a : Expr} {ta : TA} {K : PySem.W.Frag}
def tListRev (K : PySem.W.Frag) (ta : TA) : TE := fun σ H Q => ta σ H fun vs H1 => ∃ q xs, SqL K H1 q xs ∧ vs = [.ref q] ∧ rMade xs.reverse H1 Q
end
end L2
set_option Elab.async false
set_option linter.all false
set_option maxRecDepth 100000
set_option maxHeartbeats 4000000
namespace L2
open PySem PySem.Spec PyProof.Rows
/-! ### for x, y in zip(xs, ys): two lists of one length -/
def Itz (K : PySem.W.Frag) (a b : Addr) : It :=
  ⟨fun i H => ∃ xs ys x y, SqL K H a xs ∧ SqL K H b ys ∧ xs[i]? = some x ∧ ys[i]? = some y,
   fun i H x H' => ∃ T u v, x = .ref T ∧ H T = none ∧ H' = upd H T (.tup [u, v]) ∧ ∀ xs ys, SqL K H a xs → SqL K H b ys → xs[i]? = some u ∧ ys[i]? = some v,
   fun i H => ∃ xs ys, SqL K H a xs ∧ SqL K H b ys ∧ min xs.length ys.length = i⟩
theorem ne_cls {h : Heap} {a b : Addr} {o u : Obj} {m n : String} (h1 : h.get? a = some o) (h2 : h.get? b = some u) (c1 : o.cls = .type m) (c2 : u.cls = .type n) (hc : m ≠ n) : a ≠ b := fun e => by
  subst e
  rw [h1] at h2
  cases h2
  rw [c1] at c2
  exact hc (Value.type.inj c2)
structure ZAt (h : Heap) (z TI TO i1 i2 l1 l2 : Addr) (i : Nat) : Prop where
  hz : IsZip h z TI TO .none
  hTI : IsPair h TI (.ref i1) (.ref i2)
  hTO : ∃ a b, IsPair h TO a b
  h1 : h.IsListIter i1 l1 i
  h2 : h.IsListIter i2 l2 i
theorem z_apart {h : Heap} {z TI TO i1 i2 l1 l2 : Addr} {i : Nat} {xs ys : Array Value} (n1 : TI ≠ TO) (n2 : i1 ≠ i2) (Z : ZAt h z TI TO i1 i2 l1 l2 i) (q1 : h.IsList l1 xs) (q2 : h.IsList l2 ys) : ZipApart z TI TO i1 i2 l1 l2 := by
  obtain ⟨hz, hTI, ⟨a, b, hTO⟩, ⟨o1, g1, c1, _⟩, ⟨o2, g2, c2, _⟩⟩ := Z
  obtain ⟨p1, k1, d1, _⟩ := q1
  obtain ⟨p2, k2, d2, _⟩ := q2
  refine ⟨?_, ?_, ?_, ?_, n1, ?_, ?_, ?_, ?_, n2, ?_, ?_, ?_, ?_, ?_, ?_, ?_, ?_⟩
  · exact ne_cls hTI hz rfl rfl (by decide)
  · exact ne_cls hTO hz rfl rfl (by decide)
  · exact ne_cls g1 hz c1 rfl (by decide)
  · exact ne_cls g2 hz c2 rfl (by decide)
  · exact ne_cls hTI g1 rfl c1 (by decide)
  · exact ne_cls hTI g2 rfl c2 (by decide)
  · exact ne_cls hTO g1 rfl c1 (by decide)
  · exact ne_cls hTO g2 rfl c2 (by decide)
  · exact ne_cls k1 hz d1 rfl (by decide)
  · exact ne_cls k1 hTO d1 rfl (by decide)
  · exact ne_cls k1 g1 d1 c1 (by decide)
  · exact ne_cls k1 g2 d1 c2 (by decide)
  · exact ne_cls k2 hz d2 rfl (by decide)
  · exact ne_cls k2 hTO d2 rfl (by decide)
  · exact ne_cls k2 g1 d2 c1 (by decide)
  · exact ne_cls k2 g2 d2 c2 (by decide)
theorem turn_zip {P : Program} {w : World} {K : PySem.W.Frag} {elts : List Expr} {k : Nat} {tp : Pos} (l1 l2 z TI TO i1 i2 : Addr) (n1 : TI ≠ TO) (n2 : i1 ≠ i2) :
    Turn P w K (.Tuple elts k tp) (Itz K l1 l2) [z, TI, TO, i1, i2] z (fun i h => ZAt h z TI TO i1 i2 l1 l2 i) where
  mem := by simp
  obj := fun i h st b hb => by
    obtain ⟨hz, hTI, ⟨a, c, hTO⟩, ⟨o1, g1, c1, d1⟩, ⟨o2, g2, c2, d2⟩⟩ := st
    simp only [List.mem_cons, List.not_mem_nil, or_false] at hb
    rcases hb with rfl | rfl | rfl | rfl | rfl
    · exact ⟨_, hz, fun v z => by have z' : Data.fields _ = Data.cell v := z; cases z'⟩
    · exact ⟨_, hTI, fun v z => by have z' : Data.seq _ _ = Data.cell v := z; cases z'⟩
    · exact ⟨_, hTO, fun v z => by have z' : Data.seq _ _ = Data.cell v := z; cases z'⟩
    · exact ⟨o1, g1, fun v z => by rw [d1] at z; cases z⟩
    · exact ⟨o2, g2, fun v z => by rw [d2] at z; cases z⟩
  keep := fun i h h' st kk => by
    obtain ⟨hz, hTI, ⟨a, c, hTO⟩, h1, h2⟩ := st
    exact ⟨kk z (by simp) _ hz, kk TI (by simp) _ hTI, ⟨a, c, kk TO (by simp) _ hTO⟩, h1.at fun o e => kk i1 (by simp) o e, h2.at fun o e => kk i2 (by simp) o e⟩
  item := by
    intro X hP hw hK hc i pins s σ H E I hf st hg
    subst hP hw hK
    obtain ⟨xs, ys, x, y, hq1, hq2, hx, hy⟩ := hg
    obtain ⟨its1, rv1, p1, hz1⟩ := I.list hq1
    obtain ⟨its2, rv2, p2, hz2⟩ := I.list hq2
    obtain ⟨u1, hu1, ru1⟩ := rv1.get hx
    obtain ⟨u2, hu2, ru2⟩ := rv2.get hy
    have D := z_apart n1 n2 st p1.isList p2.isList
    obtain ⟨hz, hTI, ⟨a, c, hTO⟩, h1, h2⟩ := st
    refine wpAny_pyNext_zip_item D hz hTI hTO h1 h2 p1.isList p2.isList (x := u1) (y := u2) (by simpa using hu1) (by simpa using hu2) fun h' a1 a2 a3 a4 a5 a6 a7 => ?_
    refine ⟨_, rfl, ?_⟩
    refine wpAny_letOwnedTupleGo_zip a1 fun h3 hz3 hs3 => ?_
    have lt : ∀ {c o}, s.heap.get? c = some o → s.heap.objs.size ≠ c := fun e => Nat.ne_of_gt (Heap.lt_size e)
    have tz := lt hz
    have tTI := lt hTI
    have tTO := lt hTO
    have ti1 : s.heap.objs.size ≠ i1 := by obtain ⟨_, e, _⟩ := h1; exact lt e
    have ti2 : s.heap.objs.size ≠ i2 := by obtain ⟨_, e, _⟩ := h2; exact lt e
    have keep : ∀ b o, b ∉ [z, TI, TO, i1, i2] → s.heap.get? b = some o → h3.get? b = some o := fun b o hb q => by
      simp only [List.mem_cons, List.not_mem_nil, or_false, not_or] at hb
      exact hs3.extBut _ _ hb.1 (a7 b o hb.1 hb.2.2.1 hb.2.2.2.1 hb.2.2.2.2 q)
    have hT3 : IsPair h3 s.heap.objs.size u1 u2 := hs3.extBut _ _ tz a5
    refine ⟨.ref s.heap.objs.size, upd H s.heap.objs.size (.tup [x, y]), I.turnedNew (tk := s.toks) keep hf (Nat.le_refl _) ⟨_, hT3⟩ ?_, rfl, ⟨_, x, y, rfl, I.hok.fresh (Nat.le_refl _), rfl, fun as bs ha hb => ?_⟩, ⟨hz3, ?_, ?_, ?_, ?_⟩, fun b hb => ?_⟩
    · exact ⟨by show 2 ≤ sizeLine; decide, [u1, u2], .cons ru1 (.cons ru2 .nil), ⟨_, hT3, rfl, _, rfl⟩⟩
    · rw [I.list_inj ha hq1, I.list_inj hb hq2]; exact ⟨hx, hy⟩
    · exact hs3.extBut _ _ D.TIz (a7 _ _ D.TIz D.TITO D.TIi1 D.TIi2 hTI)
    · exact ⟨_, _, hs3.extBut _ _ D.TOz a2⟩
    · exact a3.at fun o e => hs3.extBut _ _ D.i1z e
    · exact a4.at fun o e => hs3.extBut _ _ D.i2z e
    · rw [upd_ne]
      · exact (hf b hb).1
      · intro e
        simp only [List.mem_cons, List.not_mem_nil, or_false] at hb
        rcases hb with q | q | q | q | q
        · exact tz (e.symm.trans q)
        · exact tTI (e.symm.trans q)
        · exact tTO (e.symm.trans q)
        · exact ti1 (e.symm.trans q)
        · exact ti2 (e.symm.trans q)
  done := by
    intro X hP hw hK hc i pins s σ H E I hf st hg
    subst hP hw hK
    obtain ⟨xs, ys, hq1, hq2, hm⟩ := hg
    obtain ⟨its1, rv1, p1, hz1⟩ := I.list hq1
    obtain ⟨its2, rv2, p2, hz2⟩ := I.list hq2
    have hl1 := rv1.length
    have hl2 := rv2.length
    have D := z_apart n1 n2 st p1.isList p2.isList
    obtain ⟨hz, hTI, ⟨a, c, hTO⟩, h1, h2⟩ := st
    have hend : its1.toArray[i]? = none ∨ its2.toArray[i]? = none := by
      rcases Nat.le_total xs.length ys.length with q | q
      · left; rw [Array.getElem?_eq_none]; simp; omega
      · right; rw [Array.getElem?_eq_none]; simp; omega
    refine wpAny_pyNext_zip_end (I.ok.hd hc) D hz hTI hTO h1 h2 p1.isList p2.isList hend fun h' hk => ⟨rfl, ?_⟩
    refine I.turnedMany (ch := [z, TI, TO, i1, i2]) (tk := s.toks) (fun b o hb q => ?_) hf
    simp only [List.mem_cons, List.not_mem_nil, or_false, not_or] at hb
    exact hk b o hb.1 hb.2.2.1 hb.2.2.2.1 hb.2.2.2.2 q
  self := fun _ _ _ _ _ st h => wpAny_pyIter_zip st.hz h
section
variable {X : Cx} {elts : List Expr} {k : Nat} {tp : Pos}
def iZip (K : PySem.W.Frag) (ta : TA) : TI := fun σ H R => ta σ H fun vs H1 => ∃ a b, vs = [.ref a, .ref b] ∧ (∃ xs, SqL K H1 a xs) ∧ (∃ ys, SqL K H1 b ys) ∧ R (Itz K a b) H1
theorem pi_zip {l l' : Expr} {ta : TA} {p pos : Pos} (hg : Gl X "zip") (hm : X.mg "zip" = none) (ha : PA X [l, l'] ta) (hs : starEach [l, l'] X.env = [(false, eval l X.env), (false, eval l' X.env)] := by rfl) (hs2 : starEach [l'] X.env = [(false, eval l' X.env)] := by rfl) :
    PI X (.Tuple elts k tp) (.Call (.Name "zip" p) [l, l'] [] pos) (iZip X.K ta) := by
  intro pins s σ H R I h
  refine Call_ (ld_blt I hg hm boot_zip (PyProof.Rows.callWith_type1 (thn (ha pos pins s σ H _ I h) fun us s1 ⟨vs, H1, I1, r1, q1⟩ => ?_) (by rw [hs, hs2]) (by rw [hs2]; rfl)))
  obtain ⟨a, b, e, ⟨xs, hq1⟩, ⟨ys, hq2⟩, q⟩ := q1
  subst e
  obtain ⟨u, v, rfl, ru, rv⟩ : ∃ u v, us = [u, v] ∧ RelV (.ref a) u ∧ RelV (.ref b) v := by
    cases r1 with
    | cons r rr =>
      cases rr with
      | cons r' rr => cases rr; exact ⟨_, _, rfl, r, r'⟩
  cases ru
  cases rv
  obtain ⟨its1, rv1, p1, hz1⟩ := I1.list hq1
  obtain ⟨its2, rv2, p2, hz2⟩ := I1.list hq2
  refine call_zip_2 p1.isList p2.isList fun h1 hz hTI hTO hi1 hi2 hsz hk => ?_
  refine wpAny_pyIter_zip hz ?_
  refine ⟨s1.heap.objs.size + 4, [s1.heap.objs.size + 4, s1.heap.objs.size + 2, s1.heap.objs.size + 3, s1.heap.objs.size, s1.heap.objs.size + 1], _, _, H1, rfl, I1.kept (t' := s1.toks) hk, turn_zip a b _ _ _ _ _ (Nat.ne_of_lt (Nat.lt_succ_self _)) (Nat.ne_of_lt (Nat.lt_succ_self _)), ⟨hz, hTI, ⟨_, _, hTO⟩, hi1, hi2⟩, fun b hb => ?_, q⟩
  have hb : s1.heap.objs.size ≤ b := by
    simp only [List.mem_cons, List.not_mem_nil, or_false] at hb
    rcases hb with q | q | q | q | q <;> rw [q] <;> omega
  exact I1.fpOk hb (I1.hok.fresh hb)
end
/-- for x, y in zip(xs, ys), where the body leaves both as they are -/
theorem for_zip {K : PySem.W.Frag} {a b : Addr} {xs ys : List V} {g : TG} {tb : TS} {D : Ends} {σ : St} {H : Hp} (he : xs.length = ys.length) (Pv : Nat → St → Hp → Prop) (h0 : Pv 0 σ H) (hl : ∀ i σ H, i ≤ xs.length → Pv i σ H → SqL K H a xs ∧ SqL K H b ys)
    (hs : ∀ i x y σ H T, xs[i]? = some x → ys[i]? = some y → Pv i σ H → H T = none → g (.ref T) σ (upd H T (.tup [x, y])) fun σ2 H2 => tb { D with nx := Pv (i + 1), ct := Pv (i + 1), bk := D.nx } σ2 H2) (hd : ∀ σ H, Pv xs.length σ H → D.nx σ H) :
    ∃ W : Nat → Nat → St → Hp → Prop, (∃ m, W 0 m σ H) ∧ ∀ i m σ H, W i m σ H →
      ((Itz K a b).stop i H ∧ D.nx σ H) ∨ ((Itz K a b).go i H ∧ ∃ N : St → Hp → Prop, (∀ σ' H', N σ' H' → ∃ m', m' < m ∧ W (i + 1) m' σ' H') ∧ ∀ x H', (Itz K a b).yld i H x H' → g x σ H' fun σ2 H2 => tb { D with nx := N, ct := N, bk := D.nx } σ2 H2) := by
  refine ⟨fun i m σ H => m = xs.length - i ∧ i ≤ xs.length ∧ Pv i σ H, ⟨xs.length, by simp, Nat.zero_le _, h0⟩, ?_⟩
  rintro i m σ H ⟨rfl, hi, p⟩
  obtain ⟨q1, q2⟩ := hl i σ H hi p
  by_cases hlt : i < xs.length
  · refine .inr ⟨⟨xs, ys, xs[i], ys[i], q1, q2, by simp [hlt], by simp⟩, Pv (i + 1), fun σ' H' p' => ⟨xs.length - (i + 1), by omega, rfl, hlt, p'⟩, fun x H' y => ?_⟩
    obtain ⟨T, u, v, rfl, hT, rfl, y⟩ := y
    exact hs i u v σ H T (y xs ys q1 q2).1 (y xs ys q1 q2).2 p hT
  · have e : i = xs.length := by omega
    subst e
    exact .inl ⟨⟨xs, ys, q1, q2, by omega⟩, hd σ H p⟩
/-! ### a comprehension over zip: the tuples it makes stay behind -/
section
variable {K : PySem.W.Frag} {a b : Addr} {xs ys : List V} {x y : Str} {caps : List Nat} {g : TG} {tt : TT} {te : TE} {σ : St} {H : Hp} {Q : VK}
end
/-! ### xs.count(x) -/
section
variable {X : Cx}
def rCount (K : PySem.W.Frag) : V → List V → Hp → VK → Prop := fun x vs H Q => ∃ (l : Addr) (xs : List V) (y : V), x = .ref l ∧ vs = [y] ∧ SqL K H l xs ∧ flatV y = true ∧ xs.all flatV = true ∧ Q (.int (xs.countP fun z => eqV z y : Nat)) H
theorem countP_eqU {x : V} : ∀ {xs : List V} {us : List Value}, Vals xs us → xs.all flatV = true → us.countP (eqU x) = xs.countP fun y => eqV y x
  | _, _, .nil, _ => rfl
  | y :: xs, u :: us, .cons r t, f => by
    rw [List.all_cons, Bool.and_eq_true] at f
    rw [List.countP_cons, List.countP_cons, eqU_of r f.1, countP_eqU t f.2]
theorem mt_count : MtR X "list.count" (rCount X.K) := by
  intro pins s σ H x xs v us Q I rx rs h
  obtain ⟨l, ys, y, rfl, rfl, hq, hy, hf, q⟩ := h
  cases rx
  obtain ⟨u, rfl, ru⟩ := vals1 rs
  obtain ⟨its, r, p, hz⟩ := I.list hq
  obtain ⟨⟨cls, dd, data, sl⟩, ho, hc, n, hd⟩ := id p.isList
  simp only at hc hd
  subst hc hd
  refine call_meets F.slot_list_count p.isList.typeIs F.entry_list_count (F.args_list_count_2 _ _) (SeqAt.list_countAt l its.toArray n dd sl u (eqU y)) ⟨ho, fun w hw => ?_, ?_⟩
  · exact mem_eqAt ru hy r hf w (by simpa using hw)
  · rw [show its.toArray.toList = its from rfl, countP_eqU r hf]
    exact ⟨.int _, H, I.tok _, ⟨_, rfl⟩, q⟩
theorem k_count {K : PySem.W.Frag} (h : X.K = K := by rfl) : MtR X "list.count" (rCount K) := h ▸ mt_count
theorem k_pi_zip {K : PySem.W.Frag} {elts : List Expr} {k : Nat} {tp : Pos} {l l' : Expr} {ta : TA} {p pos : Pos} (hg : Gl X "zip") (hm : X.mg "zip" = none) (ha : PA X [l, l'] ta) (hs : starEach [l, l'] X.env = [(false, eval l X.env), (false, eval l' X.env)] := by rfl) (hs2 : starEach [l'] X.env = [(false, eval l' X.env)] := by rfl) (h : X.K = K := by rfl) :
    PI X (.Tuple elts k tp) (.Call (.Name "zip" p) [l, l'] [] pos) (iZip K ta) := h ▸ pi_zip hg hm ha hs hs2
theorem count_ints (ns : List Int) (k : Int) : ((ns.map V.int).countP fun z => eqV z (.int k)) = ns.count k := by
  induction ns with
  | nil => rfl
  | cons a l ih => rw [List.map_cons, List.countP_cons, List.count_cons, ih]; rfl
theorem flat_ints (ns : List Int) : (ns.map V.int).all flatV = true := by simp [flatV]
/-! ### xs[::-1] -/
def tRev (K : PySem.W.Frag) (te : TE) (ts : TO) : TE := fun σ H Q => te σ H fun x H1 => ts σ H1 fun k H2 => k = some (-1) ∧ ∃ a xs, x = .ref a ∧ SqL K H2 a xs ∧ rMade xs.reverse H2 Q
end
/-! ### == of lists that are the same -/
theorem eqV_self : ∀ {x : V}, flatV x = true → eqV x x = true
  | .non, _ => rfl
  | .bl b, _ => by simp [eqV]
  | .int i, _ => by simp [eqV]
  | .str z, _ => by simp [eqV]
  | .ref _, h => by cases h
  | .ty _, h => by cases h
  | .flt _, h => by cases h
  | .byt _, h => by cases h
/-- two lists with the same flat items -/
theorem eqD_same {K : PySem.W.Frag} {neg : Bool} {H : Hp} {Q : VK} {a b : Addr} {xs : List V} (h1 : SqL K H a xs) (h2 : SqL K H b xs) (f : xs.all flatV = true) (q : Q (.bl (!neg)) H) : rEqD K neg (.ref a) (.ref b) H Q := by
  refine ⟨a, b, xs, xs, rfl, rfl, h1, h2, .inr ⟨rfl, fun _ => true, fun i x y hx hy => ?_, ?_⟩⟩
  · rw [hx] at hy
    cases hy
    have fx : flatV x = true := List.all_eq_true.mp f x (List.mem_of_getElem? hx)
    have := DEq.flat (K := K) (H := H) (n := 40) fx fx
    rw [eqV_self fx] at this
    exact this
  · have e : ((List.range xs.length).all fun _ => true) = true := by simp
    rw [e]
    cases neg <;> exact q
end L2
set_option Elab.async false
set_option linter.all false
set_option maxRecDepth 100000
set_option maxHeartbeats 4000000
namespace L2
open PySem PySem.Spec PyProof.Rows
theorem atI_bl {bs : List Bool} {k : Int} (h0 : 0 ≤ k) (h : k < (bs.length : Int)) : atI (bs.map V.bl) k = some (.bl (bs.getD k.toNat false)) := by
  have hk : k.toNat < bs.length := by omega
  refine atV h0 ?_
  rw [List.getElem?_map, List.getElem?_eq_getElem hk]
  simp [List.getD, List.getElem?_eq_getElem hk]
theorem new_is {H H1 : Hp} {g : Addr} {o : HO} (hg : H g = none) (e : upd H g o = H1) : Same H H1 ∧ H1 g = some o := by
  subst e
  exact ⟨Same.new hg _, upd_same⟩
theorem set_is {H H1 H2 : Hp} {g : Addr} {o : HO} (hg : H g = none) (s : Same H H1) (e : upd H1 g o = H2) : Same H H2 ∧ H2 g = some o := by
  subst e
  exact ⟨s.put hg, upd_same⟩
theorem cut_mid {xs : List V} {a b : Nat} (hab : a + b ≤ xs.length) : cutV xs (some (a : Int)) (some ((a : Int) + (b : Int))) = (xs.drop a).take b := by
  unfold cutV
  have e1 : HT.sIx xs.length 0 (some (a : Int)) = a := by rw [HT.sIx_nat]; omega
  have e2 : HT.sIx xs.length xs.length (some ((a : Int) + (b : Int))) = a + b := by
    rw [show ((a : Int) + (b : Int)) = ((a + b : Nat) : Int) by omega, HT.sIx_nat]; omega
  rw [e1, e2]
  congr 1
  omega
def sp5 (φ : V → V → V → V → V → Hp → VK → Prop) : Sp := fun vs H Q _ => ∃ a b c d e, vs = [a, b, c, d, e] ∧ φ a b c d e H Q
end L2
set_option Elab.async false
set_option linter.all false
set_option maxRecDepth 100000
set_option maxHeartbeats 4000000
namespace L2
open PySem PySem.Spec PyProof.Rows
/-! ### a comprehension over a list whose items may change the heap -/
section
variable {K : PySem.W.Frag} {a : Addr} {xs : List V} {x : Str} {caps : List Nat} {g : TG} {tt : TT} {te : TE} {σ : St} {H : Hp} {Q : VK}
end
end L2
set_option Elab.async false
set_option linter.all false
set_option maxRecDepth 100000
set_option maxHeartbeats 4000000
namespace L2
open PySem PySem.Spec PyProof.Rows

/-! ### lists of pairs as tables -/
section
variable {κ : Type} [DecidableEq κ]
def valV (kvs : List (κ × V)) (k : κ) : Option V := (kvs.find? fun kv => decide (kv.1 = k)).map (·.2)
/-- in its place, or at the end -/
def putK (kvs : List (κ × V)) (k : κ) (v : V) : List (κ × V) :=
  if (kvs.any fun kv => decide (kv.1 = k)) = true then kvs.map (fun kv => if kv.1 = k then (kv.1, v) else kv) else kvs ++ [(k, v)]
def dropK (kvs : List (κ × V)) (k : κ) : List (κ × V) := kvs.filter fun kv => decide (kv.1 ≠ k)

end


/-! ### a tracked dict, its keys ints and texts or tuples of these -/
/-- raw entries of a dict with tuple keys -/
abbrev KT (H : Hp) : List (List Key × V) → List (List Key × Addr × Value) → Prop := Paired fun p q => p.1 = q.1 ∧ H q.2.1 = some (.tup (p.1.map kV)) ∧ RelV p.2 q.2.2
section
variable {P : Program} {w : World} {H : Hp} {h : Heap} {a : Addr}
end

/-- what the dict at a holds at the key y -/
def DGet (H : Hp) (a : Addr) (y : V) (r : Option V) : Prop :=
  (∃ kvs k, Rd H a (.dK kvs) ∧ y = kV k ∧ r = valV kvs k) ∨ ∃ kvs k b, Rd H a (.dT kvs) ∧ y = .ref b ∧ H b = some (.tup (k.map kV)) ∧ r = valV kvs k
/-- the heap behind a[y] = v -/
def DPut (H : Hp) (a : Addr) (y v : V) (H' : Hp) : Prop :=
  (∃ kvs k, H a = some (.dK kvs) ∧ y = kV k ∧ kvs.length < sizeLine ∧ H' = upd H a (.dK (putK kvs k v))) ∨
  ∃ kvs k b, H a = some (.dT kvs) ∧ y = .ref b ∧ H b = some (.tup (k.map kV)) ∧ kvs.length < sizeLine ∧ H' = upd H a (.dT (putK kvs k v))
section
variable {X : Cx} {pins : List (Addr × Obj)} {σ : St} {H : Hp} {s : Shared} {a : Addr} {y v : V} {u r : Value} {o : Option V} {A : Around} {E : Value → Shared → Prop}

end

section
variable {X : Cx} {pins : List (Addr × Obj)} {σ : St} {H : Hp} {s : Shared} {a : Addr} {kvs : List (Key × V)} {k : Key} {u : Value} {A : Around} {E : Value → Shared → Prop}
end


/-! ### readings and rules -/
/-- the element of a subscription, not a slice -/
def NoSl (i : Expr) : Prop := ∀ ov iv, subscripted i false ov iv = operate [ov, iv] (getItem ov iv)
/-- d[y] -/
def tDGet (td ty : TE) : TE := fun σ H Q => td σ H fun x H1 => ty σ H1 fun y H2 => ∃ a v, x = .ref a ∧ DGet H2 a y (some v) ∧ Q v H2
/-- y in d, y not in d -/
def tDIn (ty td : TE) : TE := fun σ H Q => ty σ H fun y H1 => td σ H1 fun x H2 => ∃ a o, x = .ref a ∧ DGet H2 a y o ∧ Q (.bl o.isSome) H2
def tDNotIn (ty td : TE) : TE := fun σ H Q => ty σ H fun y H1 => td σ H1 fun x H2 => ∃ a o, x = .ref a ∧ DGet H2 a y o ∧ Q (.bl (!o.isSome)) H2
/-- d[y] = v -/
def sDPut (td ty tv : TE) : TS := fun D σ H => tv σ H fun v H1 => td σ H1 fun x H2 => ty σ H2 fun y H3 => ∃ a H4, x = .ref a ∧ DPut H3 a y v H4 ∧ D.nx σ H4
/-- d[y] op= v -/
def sDAug (td ty tv : TE) (rd : V → V → Hp → VK → Prop) : TS := fun D σ H => td σ H fun x H1 => ty σ H1 fun y H2 => ∃ a v, x = .ref a ∧ DGet H2 a y (some v) ∧
  tv σ H2 fun y2 H3 => rd v y2 H3 fun z H4 => ∃ H5, DPut H4 a y z H5 ∧ D.nx σ H5
/-- del d[y] -/
def sDDel (td ty : TE) : TS := fun D σ H => td σ H fun x H1 => ty σ H1 fun y H2 => ∃ a kvs k, x = .ref a ∧ H2 a = some (.dK kvs) ∧ y = kV k ∧ (valV kvs k).isSome = true ∧ D.nx σ (upd H2 a (.dK (dropK kvs k)))

section
variable {X : Cx} {o i e value : Expr} {pos pos' tpos : Pos} {td ty tv : TE}
end


/-! ### displays -/
/-- {}, to be a dict of the kind that is wanted -/
def tDNewK : TE := fun _ H Q => ∀ p, H p = none → Q (.ref p) (upd H p (.dK []))
def tDNewT : TE := fun _ H Q => ∀ p, H p = none → Q (.ref p) (upd H p (.dT []))
section
variable {X : Cx} {pos : Pos}
end

/-- the pairs of a display, from the left -/
def tPairs : List (TE × TE) → St → Hp → (List (V × V) → Hp → Prop) → Prop
  | [], _, H, Q => Q [] H
  | (tk, tv) :: r, σ, H, Q => tk σ H fun x H1 => tv σ H1 fun y H2 => tPairs r σ H2 fun ps H3 => Q ((x, y) :: ps) H3
abbrev VV : List (V × V) → List (Value × Value) → Prop := Paired fun p q => RelV p.1 q.1 ∧ RelV p.2 q.2
def PPs (X : Cx) (pos : Pos) (keys : List (Option Expr)) (values : List Expr) (trs : List (TE × TE)) : Prop :=
  ∀ (pins : List (Addr × Obj)) (s : Shared) (σ : St) (H : Hp) (Q : List (V × V) → Hp → Prop), Inv X pins σ H s → tPairs trs σ H Q →
    wpAny (model X.prog X.w) X.A (evalPairs (pairTrees keys values X.env pos)) (fun vs s' => ∃ ps H', Inv X pins σ H' s' ∧ VV ps vs ∧ Q ps H') X.xe s
def mergeK (kvs more : List (Key × V)) : List (Key × V) := more.foldl (fun acc kv => putK acc kv.1 kv.2) kvs
/-- {k: v, ..} with keys ints and texts; the new dict stands empty while the pairs are made -/
def tDisp (trs : List (TE × TE)) : TE := fun σ H Q => ∀ p, H p = none → tPairs trs σ (upd H p (.dK [])) fun ps H2 => H2 p = some (.dK []) ∧ ∃ kvs : List (Key × V), ps = kvs.map (fun kv => (kV kv.1, kv.2)) ∧ kvs.length ≤ 15 ∧ Q (.ref p) (upd H2 p (.dK (mergeK [] kvs)))
/-! ### methods -/
/-- a method call o.m(e) of a built-in, with one argument: what must be seen of the text -/
structure M1 (X : Cx) (o : Expr) (m : Str) (apos : Pos) (e : Expr) (cpos : Pos) : Prop where
  base : attributeBase o m X.env (eval o X.env) = eval o X.env
  few : ((backTo cpos (starEach [e] X.env)).all (fun x => !x.1) && (backToKw cpos (keywordEach [] X.env)).all (fun x => x.1.isSome)
    && decide (([e] : List Expr).length + ([] : List Keyword).length + (if ([] : List Keyword).isEmpty then 0 else 1) < 30)) = true
  line : (apos.endLine == cpos.line) = true
  trees : backTo cpos (starEach [e] X.env) = [(false, eval e X.env)]
structure M2 (X : Cx) (o : Expr) (m : Str) (apos : Pos) (e f : Expr) (cpos : Pos) : Prop where
  base : attributeBase o m X.env (eval o X.env) = eval o X.env
  few : ((backTo cpos (starEach [e, f] X.env)).all (fun x => !x.1) && (backToKw cpos (keywordEach [] X.env)).all (fun x => x.1.isSome)
    && decide (([e, f] : List Expr).length + ([] : List Keyword).length + (if ([] : List Keyword).isEmpty then 0 else 1) < 30)) = true
  line : (apos.endLine == cpos.line) = true
  trees : backTo cpos (starEach [e, f] X.env) = [(false, eval e X.env), (false, eval f X.env)]

/-- a is a dict, whatever its keys -/
def IsD (H : Hp) (a : Addr) : Prop := (∃ kvs, Rd H a (.dK kvs)) ∨ ∃ kvs, Rd H a (.dT kvs)
section
variable {X : Cx} {pins : List (Addr × Obj)} {σ : St} {H : Hp} {s : Shared} {a : Addr} {y d : V} {u r : Value} {o : Option V} {A : Around} {E : Value → Shared → Prop}
end

def tDGet1 (td ty : TE) : TE := fun σ H Q => td σ H fun x H1 => ∃ a, x = .ref a ∧ IsD H1 a ∧ ty σ H1 fun y H2 => ∃ o, DGet H2 a y o ∧ Q (o.getD .non) H2
def tDGet2 (td ty tx : TE) : TE := fun σ H Q => td σ H fun x H1 => ∃ a, x = .ref a ∧ IsD H1 a ∧ ty σ H1 fun y H2 => tx σ H2 fun z H3 => ∃ o, DGet H3 a y o ∧ Q (o.getD z) H3
/-- d.pop(k): there; d.pop(k, x): there or not -/
def tDPop1 (td ty : TE) : TE := fun σ H Q => td σ H fun x H1 => ∃ a, x = .ref a ∧ IsD H1 a ∧ ty σ H1 fun y H2 => ∃ kvs k v, H2 a = some (.dK kvs) ∧ y = kV k ∧ valV kvs k = some v ∧ Q v (upd H2 a (.dK (dropK kvs k)))
def tDPop2 (td ty tx : TE) : TE := fun σ H Q => td σ H fun x H1 => ∃ a, x = .ref a ∧ IsD H1 a ∧ ty σ H1 fun y H2 => tx σ H2 fun z H3 => ∃ kvs k, H3 a = some (.dK kvs) ∧ y = kV k ∧
  (∀ v, valV kvs k = some v → Q v (upd H3 a (.dK (dropK kvs k)))) ∧ (valV kvs k = none → Q z H3)
section
variable {X : Cx} {o e f : Expr} {apos cpos : Pos} {td ty tx : TE}
end

/-! ### dict(d): a copy -/
section
variable {X : Cx} {pins : List (Addr × Obj)} {σ : St} {H : Hp} {s : Shared} {a : Addr} {kvs : List (Key × V)} {A : Around} {E : Value → Shared → Prop}
end


section
variable {X : Cx} {pins : List (Addr × Obj)} {σ : St} {H : Hp} {s : Shared} {a : Addr} {y : V} {u : Value} {A : Around} {E : Value → Shared → Prop}
end
end L2
namespace L2
open PySem PySem.Spec PyProof.Rows
/-! ### a dict's pairs: keys that differ -/
section
variable {κ : Type} [DecidableEq κ]
end
end L2
set_option Elab.async false
set_option linter.all false
set_option maxRecDepth 100000
set_option maxHeartbeats 4000000
namespace L2
open PySem PySem.Spec PyProof.Rows
/-! ### set(xs) of a list of ints, and its length -/
section
variable {X : Cx} {K : PySem.W.Frag}
def met (ns : List Int) : List Int := firstMet (fun i => ns.getD i 0) ns.length
end
end L2
set_option Elab.async false
set_option linter.all false
namespace L2
open PySem PyProof.Rows
/-! the length of the set of a list's numbers -/
theorem met_mem (val : Nat → Int) : ∀ (i : Nat) (k : Int), (firstMet val i).any (· == k) = true ↔ ∃ j, j < i ∧ val j = k
  | 0, k => by
    rw [firstMet_zero]
    exact ⟨(fun h => by cases h), (fun ⟨j, hj, _⟩ => absurd hj (Nat.not_lt_zero _))⟩
  | i + 1, k => by
    rw [firstMet_succ, step_any, Bool.or_eq_true, met_mem val i k, decide_eq_true_iff]
    constructor
    · rintro (⟨j, hj, e⟩ | e)
      · exact ⟨j, by omega, e⟩
      · exact ⟨i, by omega, e.symm⟩
    · rintro ⟨j, hj, e⟩
      by_cases h : j = i
      · subst h; exact .inr e.symm
      · exact .inl ⟨j, by omega, e⟩
end L2
set_option Elab.async false
set_option linter.all false
set_option maxRecDepth 100000
set_option maxHeartbeats 4000000
/-! the places of a set's table rise -/
namespace M
open PySem
def Up (l : List Nat) : Prop := l.Pairwise (· < ·)
theorem up_lt {l : List Nat} (h : Up l) {i k : Nat} (hik : i < k) (hk : k < l.length) : l.getD i 0 < l.getD k 0 := by
  have := List.pairwise_iff_getElem.mp h i k (by omega) hk hik
  rw [List.getD, List.getD, List.getElem?_eq_getElem (by omega), List.getElem?_eq_getElem hk]
  exact this
theorem up_le {l : List Nat} (h : Up l) {i k : Nat} (hik : i ≤ k) (hk : k < l.length) : l.getD i 0 ≤ l.getD k 0 := by
  rcases Nat.lt_or_ge i k with q | q
  · exact Nat.le_of_lt (up_lt h q hk)
  · have : i = k := by omega
    subst this; exact Nat.le_refl _
theorem arr_getD {xs : Array Nat} {i d : Nat} (h : i < xs.size) : xs.getD i d = xs.toList.getD i 0 := by
  rw [List.getD, List.getElem?_eq_getElem (by simpa using h)]
  simp [Array.getD, h]
theorem below_go (xs : Array Nat) (j : Nat) (hs : Up xs.toList) : ∀ (fuel lo hi : Nat), hi ≤ xs.size → lo ≤ hi → hi - lo ≤ fuel → (∀ i, i < lo → xs.toList.getD i 0 < j) → (∀ i, hi ≤ i → i < xs.size → j ≤ xs.toList.getD i 0) →
    SetTable.below.go xs j fuel lo hi ≤ xs.size ∧ (∀ i, i < SetTable.below.go xs j fuel lo hi → xs.toList.getD i 0 < j) ∧ ∀ i, SetTable.below.go xs j fuel lo hi ≤ i → i < xs.size → j ≤ xs.toList.getD i 0
  | 0, lo, hi, h1, h2, h3, h4, h5 => by
    have : lo = hi := by omega
    subst this
    exact ⟨h1, h4, h5⟩
  | fuel + 1, lo, hi, h1, h2, h3, h4, h5 => by
    have el : xs.toList.length = xs.size := Array.length_toList
    unfold SetTable.below.go
    by_cases hl : lo < hi
    · rw [if_pos hl]
      have hm : (lo + hi) / 2 < xs.size := by omega
      show (if xs.getD ((lo + hi) / 2) j < j then SetTable.below.go xs j fuel ((lo + hi) / 2 + 1) hi else SetTable.below.go xs j fuel lo ((lo + hi) / 2)) ≤ _ ∧ (∀ i, i < (if xs.getD ((lo + hi) / 2) j < j then SetTable.below.go xs j fuel ((lo + hi) / 2 + 1) hi else SetTable.below.go xs j fuel lo ((lo + hi) / 2)) → _) ∧ ∀ i, (if xs.getD ((lo + hi) / 2) j < j then SetTable.below.go xs j fuel ((lo + hi) / 2 + 1) hi else SetTable.below.go xs j fuel lo ((lo + hi) / 2)) ≤ i → _ → _
      rw [arr_getD hm]
      by_cases q : xs.toList.getD ((lo + hi) / 2) 0 < j
      · rw [if_pos q]
        exact below_go xs j hs fuel _ hi h1 (by omega) (by omega) (fun i hi' => Nat.lt_of_le_of_lt (up_le hs (show i ≤ (lo + hi) / 2 by omega) (by omega)) q) h5
      · rw [if_neg q]
        exact below_go xs j hs fuel lo _ (by omega) (by omega) (by omega) h4 (fun i hi' hs' => Nat.le_trans (Nat.le_of_not_lt q) (up_le hs hi' (by omega)))
    · rw [if_neg hl]
      have : lo = hi := by omega
      subst this
      exact ⟨h1, h4, h5⟩
theorem below_is (xs : Array Nat) (j : Nat) (hs : Up xs.toList) : SetTable.below xs j ≤ xs.size ∧ (∀ i, i < SetTable.below xs j → xs.toList.getD i 0 < j) ∧ ∀ i, SetTable.below xs j ≤ i → i < xs.size → j ≤ xs.toList.getD i 0 :=
  below_go xs j hs xs.size 0 xs.size (Nat.le_refl _) (Nat.zero_le _) (by omega) (fun i h => by omega) (fun i h1 h2 => by omega)
/-- the place behind the i-th -/
theorem below_next {xs : Array Nat} (hs : Up xs.toList) {i : Nat} (h : i < xs.size) : SetTable.below xs (xs.toList.getD i 0 + 1) = i + 1 := by
  have el : xs.toList.length = xs.size := Array.length_toList
  obtain ⟨h1, h2, h3⟩ := below_is xs (xs.toList.getD i 0 + 1) hs
  generalize SetTable.below xs (xs.toList.getD i 0 + 1) = r at h1 h2 h3
  rcases Nat.lt_trichotomy r (i + 1) with q | q | q
  · have := h3 i (by omega) h
    omega
  · exact q
  · have a := h2 (i + 1) q
    have b := up_lt hs (show i < i + 1 by omega) (show i + 1 < xs.toList.length by omega)
    omega
theorem below_zero (xs : Array Nat) (hs : Up xs.toList) : SetTable.below xs 0 = 0 := by
  obtain ⟨h1, h2, h3⟩ := below_is xs 0 hs
  generalize SetTable.below xs 0 = r at h1 h2 h3
  rcases Nat.eq_zero_or_pos r with q | q
  · exact q
  · have := h2 0 q
    omega
theorem below_mem {xs : Array Nat} {j : Nat} (hs : Up xs.toList) (hm : j ∈ xs.toList) : xs[SetTable.below xs j]? = some j := by
  have el : xs.toList.length = xs.size := Array.length_toList
  obtain ⟨k, hk, e⟩ := List.mem_iff_getElem.mp hm
  have e' : xs.toList.getD k 0 = j := by rw [List.getD, List.getElem?_eq_getElem hk]; exact e
  obtain ⟨h1, h2, h3⟩ := below_is xs j hs
  have : SetTable.below xs j = k := by
    generalize SetTable.below xs j = r at h1 h2 h3
    rcases Nat.lt_trichotomy r k with q | q | q
    · have a := h3 r (Nat.le_refl _) (by omega)
      have b := up_lt hs q hk
      omega
    · exact q
    · have := h2 k q
      omega
  rw [this, ← Array.getElem?_toList, List.getElem?_eq_getElem hk, e]
theorem ins_up {xs : Array Nat} {j : Nat} (hs : Up xs.toList) (hn : j ∉ xs.toList) : Up (SetTable.insertAt xs (SetTable.below xs j) j).toList := by
  have el : xs.toList.length = xs.size := Array.length_toList
  obtain ⟨h1, h2, h3⟩ := below_is xs j hs
  generalize SetTable.below xs j = r at h1 h2 h3
  have e : (SetTable.insertAt xs r j).toList = xs.toList.take r ++ j :: xs.toList.drop r := by
    unfold SetTable.insertAt
    simp [Array.toList_append]
    exact List.take_of_length_le (by simp)
  rw [e]
  refine List.pairwise_append.mpr ⟨hs.sublist (List.take_sublist ..), List.pairwise_cons.mpr ⟨fun b hb => ?_, hs.sublist (List.drop_sublist ..)⟩, fun a ha b hb => ?_⟩
  · obtain ⟨k, hk, eb⟩ := List.mem_iff_getElem.mp hb
    have hb' : b ∈ xs.toList := List.mem_of_mem_drop hb
    have lk : r + k < xs.toList.length := by simp at hk; omega
    have a := h3 (r + k) (by omega) (by omega)
    have : xs.toList.getD (r + k) 0 = b := by rw [List.getD, List.getElem?_eq_getElem lk]; simpa using eb
    rw [this] at a
    rcases Nat.eq_or_lt_of_le a with q | q
    · exact absurd (q ▸ hb') hn
    · exact q
  · have la : ∀ a ∈ xs.toList.take r, a < j := fun a ha => by
      obtain ⟨k, hk, ea⟩ := List.mem_iff_getElem.mp ha
      have hk' : k < r ∧ k < xs.toList.length := by simp at hk; omega
      have := h2 k hk'.1
      have e2 : xs.toList.getD k 0 = a := by rw [List.getD, List.getElem?_eq_getElem hk'.2]; simpa using ea
      omega
    rcases List.mem_cons.mp hb with rfl | hb
    · exact la a ha
    · obtain ⟨k, hk, eb⟩ := List.mem_iff_getElem.mp hb
      have lk : r + k < xs.toList.length := by simp at hk; omega
      have q := h3 (r + k) (by omega) (by omega)
      have e2 : xs.toList.getD (r + k) 0 = b := by rw [List.getD, List.getElem?_eq_getElem lk]; simpa using eb
      have := la a ha
      omega
theorem slot_not {t : SetTable} {j : Nat} (hs : Up t.place.toList) (h : ∀ i, t.slot j ≠ .live i) : j ∉ t.place.toList := fun hm => by
  have e := below_mem hs hm
  refine h (SetTable.below t.place j) ?_
  unfold SetTable.slot
  simp [e]
theorem probe_go {t : SetTable} {ha : Nat → Int} {h : Int} : ∀ (fuel : Nat) (p : SetTable.Probe) (j : Nat) (d : Option Nat), (∀ x, p.dummy = some x → t.slot x = .dummy) → SetTable.probe.go t ha h fuel p = some (.empty j d) → t.slot j = .empty ∧ ∀ x, d = some x → t.slot x = .dummy
  | 0, p, j, d, hp, e => by unfold SetTable.probe.go at e; cases e
  | fuel + 1, p, j, d, hp, e => by
    have ad : ∀ q : SetTable.Probe, (t.advance q).dummy = q.dummy := fun q => by
      unfold SetTable.advance
      split <;> rfl
    unfold SetTable.probe.go at e
    cases q : t.slot p.j with
    | empty =>
      rw [q] at e
      cases e
      exact ⟨q, hp⟩
    | dummy =>
      rw [q] at e
      exact probe_go fuel _ j d (fun x hx => by rw [ad] at hx; cases hx; exact q) e
    | live i =>
      rw [q] at e
      simp only at e
      split at e
      · cases e
      · exact probe_go fuel _ j d (fun x hx => by rw [ad] at hx; exact hp x hx) e
theorem free_not {t : SetTable} {h : Int} {s : Nat} {b : Bool} (hs : Up t.place.toList) (e : t.freeSlot h = some (s, b)) : s ∉ t.place.toList := by
  unfold SetTable.freeSlot at e
  cases q : t.probe (fun _ => h + 1) h (t.probeStart h) with
  | none => rw [q] at e; cases e
  | some m =>
    rw [q] at e
    cases m with
    | candidate j i n => cases e
    | empty j d =>
      obtain ⟨a, c⟩ := probe_go _ _ j d (fun x hx => by cases hx) q
      simp only [Option.some.injEq, Prod.mk.injEq] at e
      rw [← e.1]
      cases d with
      | none => exact slot_not hs fun i z => by rw [show (none : Option Nat).getD j = j from rfl, a] at z; cases z
      | some x => exact slot_not hs fun i z => by rw [show (some x : Option Nat).getD j = x from rfl, c x rfl] at z; cases z
def Gds (b : Bool) (t : SetTable) : Prop := Up t.place.toList ∧ t.led = b
theorem up_range (n : Nat) : Up (Array.range n).toList := by
  rw [Array.toList_range]
  exact List.pairwise_lt_range
theorem stand_gd {b : Bool} {t : SetTable} {n : Nat} (h : Gds b t) : Gds b (t.standIn n) := ⟨up_range n, h.2⟩
theorem lay_gd {b : Bool} {t : SetTable} {es : Array (Int × Value)} {h : Int} {x : Value} (g : Gds b t) : Gds b (layNew t es h x).2.1 := by
  unfold layNew
  cases q : t.freeSlot h with
  | none => exact stand_gd g
  | some p =>
    obtain ⟨s, d⟩ := p
    have g' : Gds b (t.put s).1 := ⟨ins_up g.1 (free_not g.1 q), g.2⟩
    show Gds b ((t.put s).1.orStandIn _)
    unfold SetTable.orStandIn
    split
    · exact g'
    · exact stand_gd g'
theorem laid_gd {mask finger moves : Nat} {led plain : Bool} {hs : Array Int} {t : SetTable} {o : Array Nat} (e : SetTable.laid mask finger moves led plain hs = some (t, o)) : Gds led t := by
  unfold SetTable.laid at e
  cases q : SetTable.layClean mask hs with
  | none => rw [q] at e; cases e
  | some ow =>
    rw [q] at e
    cases e
    refine ⟨?_, rfl⟩
    show Up (List.map (·.1) ((List.range (mask + 1)).filterMap fun j => (ow.getD j none).map (j, ·)))
    have : List.Sublist (List.map (·.1) ((List.range (mask + 1)).filterMap fun j => (ow.getD j none).map (j, ·))) (List.range (mask + 1)) := by
      generalize List.range (mask + 1) = l
      induction l with
      | nil => exact List.Sublist.slnil
      | cons a r ih =>
        rw [List.filterMap_cons]
        cases ow.getD a none with
        | none => exact ih.cons _
        | some k => exact ih.cons₂ _
    exact List.pairwise_lt_range.sublist this
theorem relay_gd {b : Bool} {t : SetTable} {es : Array (Int × Value)} {n : Nat} (g : Gds b t) : Gds b (relayAll t es n).2.1 := by
  unfold relayAll
  cases q : t.relaid (es.map (·.1)) n with
  | none => exact stand_gd g
  | some p =>
    obtain ⟨t', o⟩ := p
    unfold SetTable.relaid at q
    have := laid_gd q
    rw [g.2] at this
    simp only
    split
    · exact this
    · exact stand_gd g
end M
set_option Elab.async false
set_option linter.all false
set_option maxRecDepth 100000
set_option maxHeartbeats 4000000
/-! ### a set of ints whose table is known to rise; walking it; sorted(set(xs)) -/
namespace L2
open PySem PySem.Spec PyProof.Rows
section
variable {prog : Program} {w : World} {A : Around} {E : Value → Shared → Prop} {s : Shared}
/-- the set's own object -/
def SetIs (h : Heap) (a : Addr) (es : Array (Int × Value)) (ep : Nat) (t : SetTable) : Prop := ∃ o, h.get? a = some o ∧ o.ExactSet ∧ o.data = .set es ep t
/-- what its entries are -/
structure Ent (prog : Program) (w : World) (S : Int → Bool) (n : Nat) (es : Array (Int × Value)) (t : SetTable) : Prop where
  el : ElemsOf (intKind prog w) es.toList
  mm : ∀ k, S k = true ↔ ∃ e ∈ es.toList, (intKind prog w).is k e.2 = true
  bd : es.size < scanBound
  ft : t.fits es.size = true
  sz : es.size = n
  gd : M.Gds (!w.params.followText "set-order") t
def SetG (prog : Program) (w : World) (h : Heap) (a : Addr) (S : Int → Bool) (n : Nat) : Prop := ∃ es ep t, SetIs h a es ep t ∧ Ent prog w S n es t
theorem tail_good {gv : Bool → Sem Unit} (hgv : ∀ (b : Bool) (s1 : Shared) (R : Unit → Shared → Prop), R () s1 → wpAny (model prog w) A (gv b) R E s1) {a : Addr} {es ea : Array (Int × Value)} {ep m : Nat} {t tb : SetTable} {T : Int → Bool} {wd : Bool}
    (si : SetIs s.heap a es ep t) (en : Ent prog w T m ea tb) {R : Option Bool → Shared → Prop} (fin : ∀ h', Heap.SameBut a s.heap h' → SetG prog w h' a T m → R (some true) { s with heap := h' }) :
    wpAny (model prog w) A (do
        storeSet a ea tb
        if (!wd && tb.tooFull) = true then do
            gv (relayAll tb ea (SetTable.grown ea.size)).2.2
            storeSet a (relayAll tb ea (SetTable.grown ea.size)).1 (relayAll tb ea (SetTable.grown ea.size)).2.1
            pure (some true)
          else pure (some true)) R E s := by
  obtain ⟨o, ho, hex, hd⟩ := si
  obtain ⟨ho1, _⟩ := SetOf_store (knd := intKind prog w) ho hex hd en.el en.mm en.bd en.ft
  refine wpAny_bind (wpAny_storeSet_of ho hd ?_ (fits_of_scanBound en.bd))
  have b1 := Heap.SameBut.update s.heap a (Obj.putSet ea tb)
  split
  · have pm := relayAll_perm tb ea (SetTable.grown ea.size)
    have fi := relayAll_fits tb ea (SetTable.grown ea.size)
    have gi := M.relay_gd (es := ea) (n := SetTable.grown ea.size) en.gd
    generalize relayAll tb ea (SetTable.grown ea.size) = z at pm fi gi ⊢
    obtain ⟨ec, tc, gc⟩ := z
    dsimp only at pm fi gi ⊢
    have lz : ec.size = ea.size := by have := pm.length_eq; simpa using this
    have en2 : Ent prog w T m ec tc := ⟨en.el.perm pm, fun k => (en.mm k).trans ⟨fun ⟨x, hx, q⟩ => ⟨x, pm.mem_iff.mpr hx, q⟩, fun ⟨x, hx, q⟩ => ⟨x, pm.mem_iff.mp hx, q⟩⟩, by rw [lz]; exact en.bd, fi, by rw [lz]; exact en.sz, gi⟩
    refine wpAny_bind (hgv _ _ _ ?_)
    refine wpAny_bind (wpAny_storeSet_of ho1 rfl ?_ (fits_of_scanBound en2.bd))
    obtain ⟨ho2, _⟩ := SetOf_store (knd := intKind prog w) ho1 hex rfl en2.el en2.mm en2.bd en2.ft
    exact wpAny_pure (fin _ (b1.trans (Heap.SameBut.update _ a _)) ⟨ec, _, tc, ⟨_, ho2, hex, rfl⟩, en2⟩)
  · exact wpAny_pure (fin _ b1 ⟨ea, _, tb, ⟨_, ho1, hex, rfl⟩, en⟩)
theorem add_good {a : Addr} {S : Int → Bool} {n : Nat} {k : Int} {x : Value} {Q : Bool → Shared → Prop} (hk : (intKind prog w).is k x = true) (hx : x.scannable = true) (hS : SetG prog w s.heap a S n) (room : n + 1 < scanBound)
    (fin : ∀ h', Heap.SameBut a s.heap h' → SetG prog w h' a (fun k' => S k' || decide (k' = k)) (if S k then n else n + 1) → Q (!S k) { s with heap := h' }) :
    wpAny (model prog w) A (setAddHashed a x ((intKind prog w).hash k)) Q E s := by
  obtain ⟨es, ep, t, ⟨o, ho, hex, hd⟩, en⟩ := hS
  unfold setAddHashed setAddHashedIn
  refine wpAny_holding (wpAny_bind (wpAny_setState_of ho hd en.ft ?_))
  dsimp only
  rw [byScan_of hx en.bd en.el]
  simp only [↓reduceIte]
  unfold setAddByScan
  refine wpAny_bind (wpAny_bind (wpAny_rule (wpAny_bind (wpAny_setScan_of hk ho hd en.ft en.el ?_))))
  cases hr : List.findIdx? (fun e => (intKind prog w).is k e.2) es.toList with
  | some j =>
    dsimp only
    obtain ⟨hj, hp, _⟩ := List.findIdx?_eq_some_iff_getElem.mp hr
    have yes : S k = true := (en.mm k).mpr ⟨es.toList[j], List.getElem_mem hj, hp⟩
    refine wpAny_pure (wpAny_pure ?_)
    have z := fin s.heap (Heap.SameBut.refl a s.heap) ⟨es, ep, t, ⟨o, ho, hex, hd⟩, en.el, fun k' => by
      rw [← en.mm k', Bool.or_eq_true, decide_eq_true_eq]
      exact ⟨fun q => q.elim id (fun e => e ▸ yes), .inl⟩, en.bd, en.ft, by rw [yes]; exact en.sz, en.gd⟩
    rw [yes] at z
    cases s
    exact z
  | none =>
    dsimp only
    have nope : S k = false := by
      cases q : S k with
      | false => rfl
      | true =>
        obtain ⟨e, he, hp⟩ := (en.mm k).mp q
        have := List.findIdx?_eq_none_iff.mp hr e he
        rw [hp] at this
        cases this
    have hgw : ∀ (b : Bool) (s1 : Shared) (R : Unit → Shared → Prop), R () s1 → wpAny (model prog w) A (match b with | true => rule "set.scan.the-table-gave-way" | false => pure ()) R E s1 := fun b s1 R q => by cases b <;> first | exact wpAny_pure q | exact wpAny_rule q
    have pm := layNew_perm t es ((intKind prog w).hash k) x
    have fi := layNew_fits t es ((intKind prog w).hash k) x
    have gi := M.lay_gd (es := es) (h := (intKind prog w).hash k) (x := x) en.gd
    generalize layNew t es ((intKind prog w).hash k) x = z at pm fi gi ⊢
    obtain ⟨ea, ta, wd, gv⟩ := z
    dsimp only at pm fi gi ⊢
    rw [Array.toList_push] at pm
    have lz : ea.size = n + 1 := by have := pm.length_eq; rw [List.length_append] at this; simp at this; rw [en.sz] at this; exact this
    have en1 : ∀ tb : SetTable, tb.fits ea.size = true → M.Gds (!w.params.followText "set-order") tb → Ent prog w (fun k' => S k' || decide (k' = k)) (if S k then n else n + 1) ea tb := fun tb f1 f2 =>
      ⟨(en.el.push hk hx).perm pm, mem_push_iff hk en.mm pm, by rw [lz]; exact room, f1, by rw [nope]; exact lz, f2⟩
    have done : ∀ h', Heap.SameBut a s.heap h' → SetG prog w h' a (fun k' => S k' || decide (k' = k)) (if S k then n else n + 1) → Q true { s with heap := h' } := fun h' b g => by
      have := fin h' b g
      rw [nope] at this
      exact this
    refine wpAny_bind (hgw _ _ _ ?_)
    split
    · refine wpAny_bind ?_
      rw [hashByValue_scannable 8 hx]
      refine wpAny_pure ?_
      refine tail_good hgw ⟨o, ho, hex, hd⟩ (en1 _ ?_ ?_) ?_
      · split
        · exact fi
        · exact SetTable.fits_plain_off fi
      · split
        · exact gi
        · exact gi
      · exact fun h' b g => wpAny_pure (done h' b g)
    · refine wpAny_bind (wpAny_pure ?_)
      simp only [↓reduceIte]
      exact tail_good hgw ⟨o, ho, hex, hd⟩ (en1 _ fi gi) fun h' b g => wpAny_pure (done h' b g)
theorem SetG.at_ {h h' : Heap} {a : Addr} {S : Int → Bool} {n : Nat} (g : SetG prog w h a S n) (k : ∀ o, h.get? a = some o → h'.get? a = some o) : SetG prog w h' a S n := by
  obtain ⟨es, ep, t, ⟨o, ho, r⟩, en⟩ := g
  exact ⟨es, ep, t, ⟨o, k o ho, r⟩, en⟩
theorem SetG.cg {h : Heap} {a : Addr} {S T : Int → Bool} {n m : Nat} (g : SetG prog w h a S n) (e : ∀ k, S k = T k) (en : n = m) : SetG prog w h a T m := by
  have : S = T := funext e
  subst this
  subst en
  exact g
theorem upd_loop {I : Addr} {fp wr : List Addr} {G : Array GenState → Array GenState → Prop} {n : Nat} {P : Nat → Value → Prop} {St : Nat → Shared → Prop} {R : Result → Shared → Prop} (W : WalksS prog w A.in1 I fp wr G n P St) (D : Addr) (hD : D ∉ fp)
    (val : Nat → Int) (hv : ∀ i v, P i v → ∃ t, v = .int (val i) t) (small : n + 1 < scanBound) :
    ∀ (k i : Nat) (s : Shared), n - i = k → i ≤ n → St i s → SetG prog w s.heap D (fun x => (firstMet val i).any (· == x)) (firstMet val i).length →
      (∀ s', Moved (D :: wr) G s s' → SetG prog w s'.heap D (fun x => (firstMet val n).any (· == x)) (firstMet val n).length → R (.ok (.ret .none)) s') →
      codeAny (model prog w) A (.builtin "set.update.loop" ⟨[.ref D, .ref I], []⟩) R s := by
  have hw : D ∉ wr := fun z => hD (W.sub _ z)
  have more : ∀ b ∈ wr, b ∈ D :: wr := fun b z => List.mem_cons_of_mem _ z
  intro k
  induction k with
  | zero =>
    intro i s hk hi st g fin
    obtain rfl : i = n := by omega
    refine codeAny_builtin F.entry_set_update_loop ?_
    rw [Around.under_plainId F.plain_set_update_loop _]
    refine wpAny_bind (m := pyNext (.ref I)) (W.done s _ _ st fun s' mv => ?_)
    exact wpAny_pure (fin s' (mv.mono more) (g.at_ fun o e => mv.heap D o hw e))
  | succ k ih =>
    intro i s hk hi st g fin
    have lt : i < n := by omega
    refine codeAny_builtin F.entry_set_update_loop ?_
    rw [Around.under_plainId F.plain_set_update_loop _]
    refine wpAny_bind (m := pyNext (.ref I)) (W.item i s _ _ lt st fun v s' pv st' mv => ?_)
    obtain ⟨tk, rfl⟩ := hv i v pv
    have g' := g.at_ (h' := s'.heap) fun o e => mv.heap D o hw e
    refine wpAny_bind (m := holding [Value.int (val i) tk] (setAdd D (.int (val i) tk))) (wpAny_holding ?_)
    unfold setAdd
    refine wpAny_holding (wpAny_bind ((intKind prog w).pyHash (k := val i) (intKind_is _ _ _ _) ?_))
    have room : (firstMet val i).length + 1 < scanBound := by have := firstMet_length_le val i; omega
    refine add_good (s := { s' with toks := s'.toks + 1 }) (intKind_is _ _ _ _) rfl g' room fun h' sb g2 => ?_
    have g3 : SetG prog w h' D (fun x => (firstMet val (i + 1)).any (· == x)) (firstMet val (i + 1)).length := g2.cg (fun x => by rw [firstMet_succ, step_any]) (by rw [firstMet_succ, step_length])
    refine wpAny_pure ⟨plainId_quiet F.plain_set_update_loop _, ih (i + 1) _ (by omega) lt (W.frame _ s' _ _ st' (Nat.le_succ _) fun b z o e => ?_) g3 fun s2 mv2 g4 => ?_⟩
    · exact (sb.2 b fun q => hD (q ▸ z)).trans e
    · refine fin s2 (Moved.trans W.gtrans ((mv.mono more).then_heap (Nat.le_succ _) fun b o z e => ?_) mv2) g4
      exact (sb.2 b fun q => z (q ▸ List.mem_cons_self)).trans e
/-- a new set, empty: its maker is led unless the world orders sets by text -/
abbrev newSetObj (w : World) : Obj := { cls := .type "set", dict := none, data := .set #[] 0 (.fresh 0 0 (!w.params.followText "set-order")) }
theorem new_good (v : Value) {R : Value → Shared → Prop} (fin : R (.ref s.heap.objs.size) { s with heap := s.heap.push (newSetObj w) }) :
    codeAny (model prog w) A (.call (.builtin "set.__new__") ⟨[.type "set", v], []⟩) (wants R E) s := by
  refine codeAny_of_tree ?_
  refine wpAny_bind (m := checkBuiltinCall "set.__new__" ⟨[.type "set", v], []⟩) (wpAny_of_eq (F.newCall_set_1 v) (wpAny_pure ⟨plainId_quiet F.plain_set_new _, codeAny_builtin F.entry_set_new ?_⟩))
  rw [Around.under_plainId F.plain_set_new _]
  unfold Builtin.«set.__new__» Builtin.Frozenset.newClass
  have sub := sub_set_self
  obtain ⟨hp, gn, dr, tk, os⟩ := s
  dsimp only
  wp_walk
  refine wpAny_askSetting (wpAny_pure ?_)
  dsimp only
  simp only [newObj]
  exact wpAny_bind (wpAny_alloc (wpAny_pure (wpAny_pure fin)))
theorem new_is_good {h : Heap} {a : Addr} (e : h.get? a = some (newSetObj w)) : SetG prog w h a (fun _ => false) 0 :=
  ⟨#[], 0, _, ⟨_, e, ⟨rfl, rfl, rfl⟩, rfl⟩, fun x hx => by simp at hx, fun k => by simp, by decide, by rfl, rfl, List.Pairwise.nil, rfl⟩
theorem made_good {l : Addr} {its : Array Value} {ns : List Int} {Q : Value → Shared → Prop} (hh : A.handled = none) (hl : s.heap.IsList l its) (hi : IntsAre its.toList ns) (small : its.size + 1 < scanBound)
    (fin : ∀ (h' : Heap) (tk : Nat), SetG prog w h' s.heap.objs.size (fun x => (firstMet (fun i => ns.getD i 0) its.size).any (· == x)) (firstMet (fun i => ns.getD i 0) its.size).length →
      (∀ b o, b < s.heap.objs.size → s.heap.get? b = some o → h'.get? b = some o) → Q (.ref s.heap.objs.size) { s with heap := h', toks := tk }) :
    wpAny (model prog w) A (call (.type "set") [.ref l]) Q E s := by
  obtain ⟨c, tl, hmro⟩ := F.called_set.mro
  have m1 := F.called_set.made
  have m2 := F.called_set.sub
  refine wpAny_call (codeAny_of_tree ?_)
  show wpAny _ _ (callAny (.type "set") _) _ _ _
  refine wpAny_pure ⟨Code.quiet_builtin _ (by decide +kernel), codeAny_builtin F.entry_type_call ?_⟩
  rw [Around.under_plain (weight_type_call_type "set" [.ref l] []) rfl]
  have m3 := F.called_set.notType
  have m4 := F.called_set.canCreate
  have m5 := F.typeCall_set_1 (.ref l)
  repeat (any_goals (first | assumption | wp_step))
  refine codeAny_mono (new_good (.ref l) (E := E) (R := fun ob s1 => ob = .ref s.heap.objs.size ∧ s1 = { s with heap := s.heap.push (newSetObj w) }) ⟨rfl, rfl⟩) fun r s1 hr => ?_
  cases r with
  | error e => exact hr
  | ok fl =>
    cases fl with
    | ret ob =>
      obtain ⟨rfl, rfl⟩ := hr
      have at0 : (s.heap.push (newSetObj w)).get? s.heap.objs.size = some (newSetObj w) := Heap.get?_push_size _ rfl
      have ty : Shared.TypeIs { s with heap := s.heap.push (newSetObj w) } (.ref s.heap.objs.size) "set" := ⟨_, at0, rfl⟩
      have n1 := F.called_set.init.lookup
      have n2 := F.called_set.init.bind (.ref s.heap.objs.size)
      repeat (any_goals (first | assumption | wp_step))
      refine codeAny_mono (codeAny_call_builtin (R := wants (fun r s2 => r = .none ∧ ∃ h' tk, s2 = { s with heap := h', toks := tk } ∧ SetG prog w h' s.heap.objs.size (fun x => (firstMet (fun i => ns.getD i 0) its.size).any (· == x)) (firstMet (fun i => ns.getD i 0) its.size).length ∧
          ∀ b o, b < s.heap.objs.size → s.heap.get? b = some o → h'.get? b = some o) E) F.called_set.init.plain F.entry_set_init (check_set_init_1 ty ?_)) fun r2 s2 hr2 => ?_
      · obtain ⟨⟨oc, od, oda, osl⟩, hol, hcl, nl, hdl⟩ := hl
        simp only at hcl hdl
        subst hcl; subst hdl
        have hol' : (s.heap.push (newSetObj w)).get? l = some { cls := .type "list", dict := od, data := .seq its nl, slots := osl } := Heap.get?_push_of_some _ hol
        have p1 := F.sub_list_set
        have p2 := F.sub_list_frozenset
        have p3 : (Value.type "list" == Value.type "dict") = false := by decide
        have hl1 : (s.heap.push (newSetObj w)).IsList l its := ⟨_, hol', rfl, nl, rfl⟩
        unfold Builtin.«set.__init__» noKeywords Builtin.Frozenset.updateFrom
        generalize hPI : pyIter = PI
        wp_walk
        subst hPI
        refine wpAny_pyIter_list hl1 (wpAny_bind (wpAny_runValue ?_))
        have lS : l < s.heap.objs.size := Heap.lt_size hol
        have h3 : A.in1.in1.in1.handled = none := by simp [hh]
        have sz : (s.heap.push (newSetObj w)).objs.size = s.heap.objs.size + 1 := Heap.size_push ..
        have ne : l ≠ (s.heap.push (newSetObj w)).objs.size := by rw [sz]; exact Nat.ne_of_lt (Nat.lt_succ_of_lt lS)
        refine upd_loop ((Walks.list h3 _ l ne its).toS) s.heap.objs.size ?nf (fun i => ns.getD i 0) (fun i v q => IntsAre.int_at hi i v (by rw [Array.getElem?_toList]; exact q)) small (its.size - 0) 0 _ (by omega) (Nat.zero_le _)
          ⟨⟨_, Heap.get?_push_size _ rfl, rfl, rfl⟩, hl1.push _⟩ ((new_is_good (Heap.get?_push_of_some _ at0)).cg (fun _ => rfl) rfl) ?done
        case nf =>
          rw [sz]
          simp only [List.mem_cons, List.not_mem_nil, or_false, not_or]
          exact ⟨Nat.ne_of_lt (Nat.lt_succ_self _), Nat.ne_of_gt lS⟩
        case done =>
          intro s' mv g
          obtain ⟨h', g', d', tk', os'⟩ := s'
          obtain rfl : g' = s.gens := mv.gens
          obtain rfl : d' = s.drawn := mv.drawn
          obtain rfl : os' = s.os := mv.os
          refine wpAny_pure ?_
          refine wpAny_pure ⟨rfl, h', tk', rfl, g, fun b o hb e => ?_⟩
          refine mv.heap b o ?_ (Heap.get?_push_of_some _ (Heap.get?_push_of_some _ e))
          rw [sz]
          simp only [List.mem_cons, List.not_mem_nil, or_false, not_or]
          exact ⟨Nat.ne_of_lt hb, Nat.ne_of_lt (Nat.lt_succ_of_lt hb)⟩
      · cases r2 with
        | error e => exact hr2
        | ok fl2 =>
          cases fl2 with
          | ret r =>
            obtain ⟨rfl, h', tk, rfl, g, kp⟩ := hr2
            repeat (any_goals (first | assumption | wp_step))
            exact fin _ _ g kp
          | next => exact False.elim hr2
          | brk => exact False.elim hr2
          | cont => exact False.elim hr2
    | next => exact False.elim hr
    | brk => exact False.elim hr
    | cont => exact False.elim hr
end
end L2
set_option Elab.async false
set_option linter.all false
set_option maxRecDepth 100000
set_option maxHeartbeats 4000000
namespace L2
open PySem PySem.Spec PyProof.Rows
theorem nx_slot : Slot "set_iterator" "__next__" "set_iterator.__next__" := .of (owner := "set_iterator") (n := "__next__") (by rw [typeLookup_type, builtinLookup_eq_fast]; kernel_rfl) (by decide +kernel) (by decide +kernel) (by decide +kernel) (by first | exact .inl (by decide +kernel) | exact .inr (by decide +kernel)) (by rw [isSubtype_type]; kernel_rfl)
theorem nx_entry : entryFor table "set_iterator.__next__" = some Builtin.«set_iterator.__next__» := entryFor_of_tree (by kernel_rfl)
theorem nx_args (a : Value) : argsOk "set_iterator.__next__" ⟨[a], []⟩ := by unfold argsOk; kernel_rfl
theorem si_slot : Slot "set_iterator" "__iter__" "set_iterator.__iter__" := .of (owner := "set_iterator") (n := "__iter__") (by rw [typeLookup_type, builtinLookup_eq_fast]; kernel_rfl) (by decide +kernel) (by decide +kernel) (by decide +kernel) (by first | exact .inl (by decide +kernel) | exact .inr (by decide +kernel)) (by rw [isSubtype_type]; kernel_rfl)
theorem si_entry : entryFor table "set_iterator.__iter__" = some Builtin.«dict_keyiterator.__iter__» := entryFor_alias (id' := "dict_keyiterator.__iter__") (by kernel_rfl) rfl (by decide +kernel) (by kernel_rfl)
theorem si_args (a : Value) : argsOk "set_iterator.__iter__" ⟨[a], []⟩ := by unfold argsOk; kernel_rfl
theorem it_entry : entryFor table "set.__iter__" = some Builtin.«frozenset.__iter__» := entryFor_alias (id' := "frozenset.__iter__") (by kernel_rfl) rfl (by decide +kernel) (by kernel_rfl)
section
variable {prog : Program} {w : World} {A : Around} {E : Value → Shared → Prop} {s : Shared}
/-- the iterator's own object, behind i items -/
def SetIt (h : Heap) (I : Addr) (f : Value) (i n ep : Nat) (S : Addr) : Prop := ∃ o, h.get? I = some o ∧ o.cls = .type "set_iterator" ∧ o.data = .fields #[f, .int i 0, .ref S, .int n 0, .int ep 0]
theorem SetIt.ty {I S : Addr} {f : Value} {i n ep : Nat} (h : SetIt s.heap I f i n ep S) : s.TypeIs (.ref I) "set_iterator" := let ⟨o, ho, hc, _⟩ := h; ⟨o, ho, hc⟩
theorem ents_of {a : Addr} {es : Array (Int × Value)} {ep : Nat} {t : SetTable} {Q : Array (Int × Value) → Shared → Prop} (si : SetIs s.heap a es ep t) (ft : t.fits es.size = true) (q : Q es s) : wpAny (model prog w) A (setEntries a) Q E s := by
  obtain ⟨o, ho, _, hd⟩ := si
  exact wpAny_setEntries_of ho hd ft q
theorem next_slots {I S : Addr} {es : Array (Int × Value)} {ep : Nat} {t : SetTable} {slot i nx : Nat} {x : Value} {Q : Option Value → Shared → Prop} (si : SetIs s.heap S es ep t) (ft : t.fits es.size = true) (it : SetIt s.heap I (.int slot 0) i es.size ep S)
    (hn : ∀ (A' : Around) (E' : Value → Shared → Prop) (R : Option (Value × Nat) → Shared → Prop), R (some (x, nx)) s → wpAny (model prog w) A' (setNext S slot i ep) R E' s)
    (fin : ∀ h', SetIt h' I (.int nx 0) (i + 1) es.size ep S → Heap.SameBut I s.heap h' → Q (some x) { s with heap := h' }) : wpAny (model prog w) A (pyNext (.ref I)) Q E s := by
  obtain ⟨o, ho, hc, hd⟩ := id it
  unfold pyNext
  refine wpAny_bind (wpAny_attempt (wpAny_callSpecial?_slot (name := Str.ofString "__next__") it.ty nx_slot (wpAny_call_entry nx_slot it.ty nx_entry ?_ (nx_args _))))
  unfold Builtin.«set_iterator.__next__»
  refine wpAny_bind (wpAny_pure ?_)
  refine wpAny_bind (wpAny_fieldsOf ho hd ?_)
  dsimp only
  refine wpAny_bind (ents_of si ft ?_)
  rw [if_neg (by simp)]
  simp only [Int.toNat_natCast]
  refine wpAny_bind (hn _ _ _ ?_)
  dsimp only
  refine wpAny_bind (wpAny_setField ho hd (by simp) ?_)
  have ho1 := Heap.get?_update_self (Obj.mapFields (·.setIfInBounds 0 (rawInt (nx : Int)))) ho (Obj.isFreed_of_fields (Obj.data_mapFields hd _))
  have hd1 := Obj.data_mapFields hd (·.setIfInBounds 0 (rawInt (nx : Int)))
  refine wpAny_bind (wpAny_setField (s := { s with heap := s.heap.update I (Obj.mapFields (·.setIfInBounds 0 (rawInt (nx : Int)))) }) ho1 hd1 (by simp) ?_)
  have ho2 := Heap.get?_update_self (Obj.mapFields (·.setIfInBounds 1 (rawInt ((i : Int) + 1)))) ho1 (Obj.isFreed_of_fields (Obj.data_mapFields hd1 _))
  have hd2 := Obj.data_mapFields hd1 (·.setIfInBounds 1 (rawInt ((i : Int) + 1)))
  refine wpAny_pure ⟨_, rfl, wpAny_pure (fin _ ⟨_, ho2, (Obj.cls_mapFields ..).trans ((Obj.cls_mapFields ..).trans hc), ?_⟩ ((Heap.SameBut.update ..).trans (Heap.SameBut.update ..)))⟩
  rw [hd2]
  simp [rawInt]
/-- the end: StopIteration is raised and taken -/
theorem stop_taken {I : Addr} {A' : Around} {Q : Option Value → Shared → Prop} (hh : A'.handled = none) (fin : ∀ h', (∀ b o, s.heap.get? b = some o → h'.get? b = some o) → Q none { s with heap := h' }) :
    wpAny (model prog w) A' (do let x ← newExc (Value.type "StopIteration") []; (raiseNew x : Sem PySem.Fin)) (fun fin s' => ∃ v, fin = Fin.done (Flow.ret v) ∧ wpAny (model prog w) A (pure (some v)) Q E s')
      (fun e s' => wpAny (model prog w) A (do let y ← isInstance e (Value.type "StopIteration"); if y = true then pure none else throw e) Q E s') s := by
  refine wpAny_bind ?_
  simp only [newExc, newTuple]
  refine wpAny_bind (wpAny_newObj_type ?_ (by size_fits))
  refine wpAny_bind (m := firstArgMember _ _) (wpAny_of_eq (a := Value.none) (by first | rfl | (simp only [firstArgMember]; rfl)) ?_)
  refine wpAny_newObj_type ?_ (by size_fits)
  simp only [raiseNew]
  refine wpAny_bind (wpAny_handled ?_)
  rw [hh]
  refine wpAny_bind (wpAny_pure (wpAny_throw ?_))
  refine wpAny_bind (wpAny_isInstance (T := "StopIteration") (b := true) ⟨_, Heap.get?_push_size _ rfl, rfl⟩ isSubtype_stop ?_)
  exact wpAny_pure (fin _ fun b o e => Heap.get?_push_of_some _ (Heap.get?_push_of_some _ e))
theorem next_end {I S : Addr} {es : Array (Int × Value)} {ep : Nat} {t : SetTable} {slot i : Nat} {Q : Option Value → Shared → Prop} (hh : A.handled = none) (si : SetIs s.heap S es ep t) (ft : t.fits es.size = true) (it : SetIt s.heap I (.int slot 0) i es.size ep S)
    (hn : ∀ (A' : Around) (E' : Value → Shared → Prop) (R : Option (Value × Nat) → Shared → Prop), R none s → wpAny (model prog w) A' (setNext S slot i ep) R E' s)
    (fin : ∀ h', Heap.ExtBut I s.heap h' → Q none { s with heap := h' }) : wpAny (model prog w) A (pyNext (.ref I)) Q E s := by
  obtain ⟨o, ho, hc, hd⟩ := id it
  unfold pyNext
  refine wpAny_bind (wpAny_attempt (wpAny_callSpecial?_slot (name := Str.ofString "__next__") it.ty nx_slot (wpAny_call_entry nx_slot it.ty nx_entry ?_ (nx_args _))))
  unfold Builtin.«set_iterator.__next__»
  refine wpAny_bind (wpAny_pure ?_)
  refine wpAny_bind (wpAny_fieldsOf ho hd ?_)
  dsimp only
  refine wpAny_bind (ents_of si ft ?_)
  rw [if_neg (by simp)]
  simp only [Int.toNat_natCast]
  refine wpAny_bind (hn _ _ _ ?_)
  dsimp only
  refine wpAny_bind (wpAny_setField ho hd (by simp) ?_)
  refine stop_taken (I := I) (A' := A.in1) (by simpa using hh) fun h' kp => fin h' fun b o hb e => ?_
  exact kp b o ((Heap.get?_update_other _ _ (Ne.symm hb)).trans e)
theorem iter_self {I S : Addr} {f : Value} {i n ep : Nat} {Q : Value → Shared → Prop} (it : SetIt s.heap I f i n ep S) (q : Q (.ref I) s) : wpAny (model prog w) A (pyIter (.ref I)) Q E s := by
  refine wpAny_pyIter_slot it.ty si_slot (wpAny_call_entry si_slot it.ty si_entry ?_ (si_args _))
  exact wpAny_pure ⟨_, rfl, "set_iterator", _, it.ty, nx_slot.lookup, q⟩
end
end L2
set_option Elab.async false
set_option linter.all false
set_option maxRecDepth 100000
set_option maxHeartbeats 4000000
namespace L2
open PySem PySem.Spec PyProof.Rows
section
variable {prog : Program} {w : World} {A : Around} {E : Value → Shared → Prop} {s : Shared} {S : Addr} {es : Array (Int × Value)} {ep : Nat} {t : SetTable}
theorem state_of {Q : (Array (Int × Value) × Nat × SetTable) → Shared → Prop} (si : SetIs s.heap S es ep t) (ft : t.fits es.size = true) (q : Q (es, ep, t) s) : wpAny (model prog w) A (setState S) Q E s := by
  obtain ⟨o, ho, _, hd⟩ := si
  exact wpAny_setState_of ho hd ft q
theorem next_text {slot i : Nat} {R : Option (Value × Nat) → Shared → Prop} (hb : w.params.followText "set-order" = true) (si : SetIs s.heap S es ep t) (ft : t.fits es.size = true)
    (q : R (((pickOrder (w.params.setOrder S ep) es)[i]?).map fun e => (e.2, slot)) s) : wpAny (model prog w) A (setNext S slot i ep) R E s := by
  unfold setNext
  refine wpAny_bind (state_of si ft ?_)
  unfold setsByText
  refine wpAny_bind (wpAny_bind (wpAny_askSetting (wpAny_pure ?_)))
  split
  · dsimp only
    rw [if_neg (by simp)]
    unfold setWalk
    refine wpAny_bind (wpAny_bind (state_of si ft ?_))
    unfold setsByText
    refine wpAny_bind (wpAny_bind (wpAny_askSetting (wpAny_pure ?_)))
    split
    · exact wpAny_bind (wpAny_askSetting (wpAny_pure (wpAny_pure q)))
    · exact absurd hb (by assumption)
  · exact absurd hb (by assumption)
theorem next_place {slot i : Nat} {R : Option (Value × Nat) → Shared → Prop} (hb : w.params.followText "set-order" = false) (si : SetIs s.heap S es ep t) (ft : t.fits es.size = true) (led : t.led = true) (nd : (!t.plain && decide (es.size > 1)) = false)
    (q : R (match es[SetTable.below t.place slot]?, t.place[SetTable.below t.place slot]? with | some (_, x), some j => some (x, j + 1) | _, _ => none) s) : wpAny (model prog w) A (setNext S slot i ep) R E s := by
  unfold setNext
  refine wpAny_bind (state_of si ft ?_)
  unfold setsByText
  refine wpAny_bind (wpAny_bind (wpAny_askSetting (wpAny_pure ?_)))
  split
  · rename_i z
    exact absurd (hb.symm.trans z) (by decide)
  · dsimp only
    split
    · rename_i z
      exact absurd (nd.symm.trans z) (by decide)
    · refine wpAny_bind ?_
      show wpAny _ _ (if (!t.led && !es.isEmpty) = true then unsupported "set:maker-not-led" else pure ()) _ _ _
      rw [if_neg (by rw [led]; simp)]
      exact wpAny_pure (wpAny_pure q)
theorem next_drawn {I T : Addr} {oT : Obj} {ps : Array Value} {kT i pl : Nat} {u : Tok} {hx : Int} {x : Value} {Q : Option Value → Shared → Prop} (si : SetIs s.heap S es ep t) (ft : t.fits es.size = true) (it : SetIt s.heap I (.ref T) i es.size ep S)
    (hT : s.heap.get? T = some oT) (dT : oT.data = .seq ps kT) (hp : ps[i]? = some (.int pl u)) (he : es[pl]? = some (hx, x))
    (fin : ∀ h', SetIt h' I (.ref T) (i + 1) es.size ep S → Heap.SameBut I s.heap h' → Q (some x) { s with heap := h' }) : wpAny (model prog w) A (pyNext (.ref I)) Q E s := by
  obtain ⟨o, ho, hc, hd⟩ := id it
  unfold pyNext
  refine wpAny_bind (wpAny_attempt (wpAny_callSpecial?_slot (name := Str.ofString "__next__") it.ty nx_slot (wpAny_call_entry nx_slot it.ty nx_entry ?_ (nx_args _))))
  unfold Builtin.«set_iterator.__next__»
  refine wpAny_bind (wpAny_pure ?_)
  refine wpAny_bind (wpAny_fieldsOf ho hd ?_)
  dsimp only
  refine wpAny_bind (ents_of si ft ?_)
  rw [if_neg (by simp)]
  simp only [Int.toNat_natCast]
  refine wpAny_bind (wpAny_seqItems hT dT ?_)
  dsimp only
  rw [hp]
  simp only [Int.toNat_natCast]
  unfold setNextDrawn
  refine wpAny_bind (wpAny_bind (state_of si ft ?_))
  dsimp only
  rw [if_neg (by simp), he]
  refine wpAny_pure ?_
  refine wpAny_bind (wpAny_setField ho hd (by simp) ?_)
  have ho1 := Heap.get?_update_self (Obj.mapFields (·.setIfInBounds 1 (rawInt ((i : Int) + 1)))) ho (Obj.isFreed_of_fields (Obj.data_mapFields hd _))
  have hd1 := Obj.data_mapFields hd (·.setIfInBounds 1 (rawInt ((i : Int) + 1)))
  refine wpAny_pure ⟨_, rfl, wpAny_pure (fin _ ⟨_, ho1, (Obj.cls_mapFields ..).trans hc, ?_⟩ (Heap.SameBut.update ..))⟩
  rw [hd1]
  simp [rawInt]
theorem end_drawn {I T : Addr} {oT : Obj} {ps : Array Value} {kT i : Nat} {Q : Option Value → Shared → Prop} (hh : A.handled = none) (si : SetIs s.heap S es ep t) (ft : t.fits es.size = true) (it : SetIt s.heap I (.ref T) i es.size ep S)
    (hT : s.heap.get? T = some oT) (dT : oT.data = .seq ps kT) (hp : ps[i]? = none) (fin : ∀ h', Heap.ExtBut I s.heap h' → Q none { s with heap := h' }) : wpAny (model prog w) A (pyNext (.ref I)) Q E s := by
  obtain ⟨o, ho, hc, hd⟩ := id it
  unfold pyNext
  refine wpAny_bind (wpAny_attempt (wpAny_callSpecial?_slot (name := Str.ofString "__next__") it.ty nx_slot (wpAny_call_entry nx_slot it.ty nx_entry ?_ (nx_args _))))
  unfold Builtin.«set_iterator.__next__»
  refine wpAny_bind (wpAny_pure ?_)
  refine wpAny_bind (wpAny_fieldsOf ho hd ?_)
  dsimp only
  refine wpAny_bind (ents_of si ft ?_)
  rw [if_neg (by simp)]
  simp only [Int.toNat_natCast]
  refine wpAny_bind (wpAny_seqItems hT dT ?_)
  dsimp only
  rw [hp]
  dsimp only
  refine wpAny_bind (wpAny_setField ho hd (by simp) ?_)
  have ho1 := Heap.get?_update_self (Obj.mapFields (·.setIfInBounds 0 (rawInt 0))) ho (Obj.isFreed_of_fields (Obj.data_mapFields hd _))
  have hd1 := Obj.data_mapFields hd (·.setIfInBounds 0 (rawInt 0))
  refine wpAny_bind (wpAny_setField (s := { s with heap := s.heap.update I (Obj.mapFields (·.setIfInBounds 0 (rawInt 0))) }) ho1 hd1 (by simp) ?_)
  refine stop_taken (I := I) (A' := A.in1) (by simpa using hh) fun h' kp => fin h' fun b o hb e => ?_
  exact kp b o ((Heap.get?_update_other _ _ (Ne.symm hb)).trans ((Heap.get?_update_other _ _ (Ne.symm hb)).trans e))
theorem take_out {α : Type} {xs : List α} {i : Nat} (h : i < xs.length) : (xs[i] :: xs.eraseIdx i).Perm xs := by
  have e : xs.take i ++ xs[i] :: xs.drop (i + 1) = xs := by rw [← List.drop_eq_getElem_cons h, List.take_append_drop]
  have p := @List.perm_middle _ xs[i] (xs.take i) (xs.drop (i + 1))
  rw [e] at p
  rw [List.eraseIdx_eq_take_drop_succ]
  exact p.symm
theorem choose_wp {src : Source} {n : Nat} {Q : Nat → Shared → Prop} (h0 : n ≠ 0) (q : ∀ i d', i < n → Q i { s with drawn := d' }) : wpAny (model prog w) A (choose src n) Q E s := fun _ _ _ => ⟨h0, q _ _ (Nat.mod_lt _ (Nat.pos_of_ne_zero h0))⟩
theorem draw_wp {α : Type} : ∀ (n : Nat) (xs : List α) (s : Shared) (Q : List α → Shared → Prop), xs.length = n → (∀ out d', out.Perm xs → Q out { s with drawn := d' }) → wpAny (model prog w) A (drawOrder n xs) Q E s
  | 0, xs, s, Q, hl, q => by
    have : xs = [] := List.length_eq_zero_iff.mp hl
    subst this
    unfold drawOrder
    have := q [] s.drawn (List.Perm.refl _)
    cases s
    exact wpAny_pure this
  | n + 1, xs, s, Q, hl, q => by
    cases xs with
    | nil => cases hl
    | cons a r =>
      unfold drawOrder
      refine wpAny_bind (choose_wp (by simp) fun i d' hi => ?_)
      rw [List.getElem?_eq_getElem hi]
      refine wpAny_bind (draw_wp n _ _ _ (by rw [List.length_eraseIdx_of_lt hi]; simp at hl ⊢; exact hl) fun out d2 pm => ?_)
      exact wpAny_pure (q _ _ ((List.Perm.cons _ pm).trans (take_out hi)))
/-- iter(S): the ways in which a set may be walked -/
theorem set_iter {Q : Value → Shared → Prop} (si : SetIs s.heap S es ep t) (ft : t.fits es.size = true) (sb : es.size ≤ sizeLine)
    (q1 : (w.params.followText "set-order" = true ∨ (!t.plain && decide (es.size > 1)) = false) → Q (.ref s.heap.objs.size) { s with heap := s.heap.push { cls := .type "set_iterator", data := .fields #[.int 0 0, .int 0 0, .ref S, .int es.size 0, .int ep 0] } })
    (q2 : ∀ (ps : List Nat) d', w.params.followText "set-order" = false → ps.Perm (List.range es.size) → Q (.ref (s.heap.objs.size + 1)) { s with heap := (s.heap.push { cls := .type "tuple", data := .seq (ps.map fun (i : Nat) => rawInt i).toArray }).push { cls := .type "set_iterator", data := .fields #[.ref s.heap.objs.size, .int 0 0, .ref S, .int es.size 0, .int ep 0] }, drawn := d' }) :
    wpAny (model prog w) A (pyIter (.ref S)) Q E s := by
  obtain ⟨o, ho, hex, hd⟩ := id si
  have ty : s.TypeIs (.ref S) "set" := ⟨o, ho, hex.1⟩
  refine wpAny_pyIter_slot ty F.slot_set_iter (wpAny_call_entry F.slot_set_iter ty it_entry ?_ (F.args_set_iter_1 _))
  unfold Builtin.«frozenset.__iter__»
  have bnd : es.size ≤ sizeLine := sb
  refine wpAny_bind (wpAny_bind (wpAny_pure (wpAny_pure ?_)))
  unfold Builtin.Frozenset.sizeOf
  refine wpAny_bind (wpAny_bind (ents_of si ft (wpAny_pure ?_)))
  unfold setDrawn
  refine wpAny_bind (wpAny_bind (state_of si ft ?_))
  unfold setsByText
  refine wpAny_bind (wpAny_bind (wpAny_askSetting (wpAny_pure ?_)))
  refine wpAny_pure ?_
  dsimp only
  have ep_of : ∀ (s' : Shared) (A' : Around) (R : Nat → Shared → Prop), SetIs s'.heap S es ep t → R ep s' → wpAny (model prog w) A' (setEpoch S) R E s' := fun s' A' R ⟨o', h1, _, h2⟩ r => wpAny_setEpoch_of h1 h2 ft r
  split
  · rename_i z
    have zb : w.params.followText "set-order" = false := by
      have z2 : (!w.params.followText "set-order") = true := (Bool.and_eq_true_iff.mp z).1
      simpa using z2
    refine wpAny_bind (draw_wp es.size _ _ _ (List.length_range ..) fun ps d' pm => ?_)
    have pl : (ps.map fun (i : Nat) => rawInt i).length ≤ sizeLine := by rw [List.length_map, pm.length_eq, List.length_range]; exact bnd
    refine wpAny_bind (wpAny_newTuple ?_ pl)
    refine wpAny_bind (ep_of _ _ _ ⟨o, Heap.get?_push_of_some _ ho, hex, hd⟩ ?_)
    have sz : (s.heap.push { cls := .type "tuple", data := .seq (ps.map fun (i : Nat) => rawInt i).toArray }).objs.size = s.heap.objs.size + 1 := Heap.size_push ..
    refine wpAny_bind (wpAny_newObj_type (wpAny_pure ⟨_, rfl, "set_iterator", _, ⟨_, Heap.get?_push_size _ rfl, rfl⟩, nx_slot.lookup, ?_⟩))
    have := q2 ps d' zb pm
    rw [← sz] at this
    exact this
  · rename_i z
    refine wpAny_bind (wpAny_pure ?_)
    refine wpAny_bind (ep_of _ _ _ si ?_)
    refine wpAny_bind (wpAny_newObj_type (wpAny_pure ⟨_, rfl, "set_iterator", _, ⟨_, Heap.get?_push_size _ rfl, rfl⟩, nx_slot.lookup, ?_⟩))
    refine q1 ?_
    cases zb : w.params.followText "set-order" with
    | true => exact .inl rfl
    | false =>
      refine .inr ?_
      have z' : ¬ ((!w.params.followText "set-order") && (!t.plain && decide (es.size > 1))) = true := z
      rw [zb] at z'
      simpa using z'
end
end L2
set_option Elab.async false
set_option linter.all false
set_option maxRecDepth 100000
set_option maxHeartbeats 4000000
namespace L2
open PySem PySem.Spec PyProof.Rows
theorem pick_go {α : Type} (nx : Nat → Nat) : ∀ (fuel k : Nat) (left : List α) (out : Array α), left.length = fuel → (pickOrder.go nx fuel k left out).toList.Perm (out.toList ++ left)
  | 0, k, left, out, h => by
    have : left = [] := List.length_eq_zero_iff.mp h
    subst this
    unfold pickOrder.go
    simp
  | fuel + 1, k, left, out, h => by
    unfold pickOrder.go
    have hi : nx k % left.length < left.length := Nat.mod_lt _ (by omega)
    rw [List.getElem?_eq_getElem hi]
    refine (pick_go nx fuel (k + 1) _ _ (by rw [List.length_eraseIdx_of_lt hi]; omega)).trans ?_
    rw [Array.toList_push, List.append_assoc]
    exact List.Perm.append_left _ (take_out hi)
theorem pick_perm {α : Type} (nx : Nat → Nat) (xs : Array α) : (pickOrder nx xs).toList.Perm xs.toList := by
  unfold pickOrder
  exact pick_go nx xs.size 0 xs.toList #[] (by simp)
section
variable {prog : Program} {w : World} {A : Around} {E : Value → Shared → Prop} {s : Shared} {S : Addr} {es : Array (Int × Value)} {ep : Nat} {t : SetTable}
theorem SetIs.at_ {h h' : Heap} (si : SetIs h S es ep t) (k : ∀ o, h.get? S = some o → h'.get? S = some o) : SetIs h' S es ep t := let ⟨o, ho, r⟩ := si; ⟨o, k o ho, r⟩
theorem SetIt.at_ {h h' : Heap} {I : Addr} {f : Value} {i n : Nat} (it : SetIt h I f i n ep S) (k : ∀ o, h.get? I = some o → h'.get? I = some o) : SetIt h' I f i n ep S := let ⟨o, ho, r⟩ := it; ⟨o, k o ho, r⟩
/-- walked slot by slot -/
theorem walk_slots (hh : A.handled = none) {I : Addr} (ne : S ≠ I) (ft : t.fits es.size = true) (ord : List (Int × Value)) (lo : ord.length = es.size) (sf : Nat → Nat)
    (hn : ∀ i e, ord[i]? = some e → ∀ (s' : Shared) (A' : Around) (E' : Value → Shared → Prop) (R : Option (Value × Nat) → Shared → Prop), SetIs s'.heap S es ep t → R (some (e.2, sf (i + 1))) s' → wpAny (model prog w) A' (setNext S (sf i) i ep) R E' s')
    (hend : ∀ (s' : Shared) (A' : Around) (E' : Value → Shared → Prop) (R : Option (Value × Nat) → Shared → Prop), SetIs s'.heap S es ep t → R none s' → wpAny (model prog w) A' (setNext S (sf es.size) es.size ep) R E' s') :
    Walks prog w A I [I, S] [I] es.size (fun i v => ∃ e, ord[i]? = some e ∧ v = e.2) (fun i h => SetIs h S es ep t ∧ SetIt h I (.int (sf i) 0) i es.size ep S) where
  sub := fun b hb => by simp at hb; simp [hb]
  frame := fun _ _ _ st hk => ⟨st.1.at_ fun o e => hk S (by simp) o e, st.2.at_ fun o e => hk I (by simp) o e⟩
  item := fun i s Q E hi st hQ => by
    have hio : ord[i]? = some ord[i] := List.getElem?_eq_getElem (by omega)
    refine next_slots st.1 ft st.2 (fun A' E' R r => hn i _ hio s A' E' R st.1 r) fun h' it' sb => ?_
    exact hQ _ h' s.toks ⟨_, hio, rfl⟩ ⟨st.1.at_ fun o e => (sb.2 S ne).trans e, it'⟩ fun b o hb e => (sb.2 b (by simpa using hb)).trans e
  done := fun s Q E st hQ => next_end hh st.1 ft st.2 (fun A' E' R r => hend s A' E' R st.1 r) fun h' ex => hQ h' s.toks fun b o hb e => ex b o (by simpa using hb) e
  self := fun _ _ _ _ st hQ => iter_self st.2 hQ
/-- walked by drawn places -/
theorem walk_drawn (hh : A.handled = none) {I T : Addr} (n1 : S ≠ I) (n2 : T ≠ I) (ft : t.fits es.size = true) (ps : List Nat) (pm : ps.Perm (List.range es.size)) :
    Walks prog w A I [I, S, T] [I] es.size (fun i v => ∃ e, (ps.map fun p => es.toList.getD p (0, .none))[i]? = some e ∧ v = e.2)
      (fun i h => SetIs h S es ep t ∧ SetIt h I (.ref T) i es.size ep S ∧ h.get? T = some { cls := .type "tuple", data := .seq (ps.map fun (i : Nat) => rawInt i).toArray }) where
  sub := fun b hb => by simp at hb; simp [hb]
  frame := fun _ _ _ st hk => ⟨st.1.at_ fun o e => hk S (by simp) o e, st.2.1.at_ fun o e => hk I (by simp) o e, hk T (by simp) _ st.2.2⟩
  item := fun i s Q E hi st hQ => by
    have lp : ps.length = es.size := by rw [pm.length_eq, List.length_range]
    have hip : i < ps.length := by omega
    have lt : ps[i] < es.size := List.mem_range.mp (pm.mem_iff.mp (List.getElem_mem hip))
    have he : es[ps[i]]? = some es[ps[i]] := Array.getElem?_eq_getElem lt
    refine next_drawn (hx := es[ps[i]].1) (x := es[ps[i]].2) (pl := ps[i]) (u := 0) st.1 ft st.2.1 st.2.2 rfl (by simp [hip, rawInt]) he fun h' it' sb => ?_
    refine hQ _ h' s.toks ⟨es[ps[i]], ?_, rfl⟩ ⟨st.1.at_ fun o e => (sb.2 S n1).trans e, it', (sb.2 T n2).trans st.2.2⟩ fun b o hb e => (sb.2 b (by simpa using hb)).trans e
    rw [List.getElem?_map, List.getElem?_eq_getElem hip]
    show some (es.toList.getD ps[i] (0, .none)) = _
    rw [List.getD, Array.getElem?_toList, he]
    rfl
  done := fun s Q E st hQ => end_drawn hh st.1 ft st.2.1 st.2.2 rfl (by
    have lp : ps.length = es.size := by rw [pm.length_eq, List.length_range]
    simp [lp]) fun h' ex => hQ h' s.toks fun b o hb e => ex b o (by simpa using hb) e
  self := fun _ _ _ _ st hQ => iter_self st.2.1 hQ
end
end L2
set_option Elab.async false
set_option linter.all false
set_option maxRecDepth 100000
set_option maxHeartbeats 4000000
namespace L2
open PySem PySem.Spec PyProof.Rows
theorem set_len : typeLookup (.type "set") "__len__" = pure (some (.builtin "set.__len__")) := by rw [typeLookup_type, builtinLookup_eq_fast]; kernel_rfl
section
variable {prog : Program} {w : World} {A : Around} {E : Value → Shared → Prop} {s : Shared} {S : Addr} {es : Array (Int × Value)} {ep : Nat} {t : SetTable}
def Coll (prog : Program) (w : World) (A : Around) (s : Shared) (es : Array (Int × Value)) : PySem.Fin → Shared → Prop
  | .done _, _ => False
  | .again c', s' => c'.quiet = true ∧ codeAny (model prog w) A c' (fun r s' => ∃ (ord : List (Int × Value)) (acc : Array Value) (c : Nat) (h' : Heap) (tk : Nat) (d' : Drawn), ord.Perm es.toList ∧ r = .ok (.ret (.ref s.heap.objs.size)) ∧ s' = { s with heap := h', toks := tk, drawn := d' } ∧
      (∀ b o, s.heap.get? b = some o → h'.get? b = some o) ∧ h'.get? s.heap.objs.size = some { cls := .type "list", data := .seq acc c } ∧ acc.toList = ord.map (·.2)) s'
theorem collect_set {Q : List Value → Shared → Prop} (hh : A.handled = none) (si : SetIs s.heap S es ep t) (ft : t.fits es.size = true) (gd : M.Gds (!w.params.followText "set-order") t) (sb : es.size ≤ sizeLine)
    (fin : ∀ h' tk d' (acc : Array Value), (∀ b o, s.heap.get? b = some o → h'.get? b = some o) → s.heap.objs.size < h'.objs.size → (∃ ord : List (Int × Value), ord.Perm es.toList ∧ acc.toList = ord.map (·.2)) → Q acc.toList { s with heap := h', toks := tk, drawn := d' }) :
    wpAny (model prog w) A (collect (.ref S)) Q E s := by
  obtain ⟨o, ho, hex, hd⟩ := id si
  have sS : S < s.heap.objs.size := Heap.lt_size ho
  unfold collect
  refine wpAny_bind (wpAny_runValue (codeAny_builtin F.entry_proto_collect ?_))
  rw [Around.under_plainId F.plain_proto_collect _]
  refine wpAny_bind (m := newList []) (wpAny_newObj_type ?_)
  refine wpAny_pure ⟨plainId_quiet F.plain_list_iadd _, codeAny_builtin F.entry_list_iadd ?_⟩
  rw [Around.under_plainId F.plain_list_iadd _]
  have si1 : SetIs (s.heap.push { cls := .type "list", data := .seq ([] : List Value).toArray }) S es ep t := si.at_ fun o e => Heap.get?_push_of_some _ e
  show wpAny _ A.in1 (Builtin.List.listExtendWith (.ref s.heap.objs.size) (.ref S) (.ref s.heap.objs.size)) _ _ _
  unfold Builtin.List.listExtendWith
  have ty : Shared.TypeIs { s with heap := s.heap.push { cls := .type "list", data := .seq ([] : List Value).toArray } } (.ref S) "set" := ⟨o, Heap.get?_push_of_some _ ho, hex.1⟩
  refine wpAny_bind (wpAny_typeOf ty ?_)
  have h1 : Builtin.List.listSameRef (.ref s.heap.objs.size) (.ref S) = false := by simp [Builtin.List.listSameRef, Nat.ne_of_gt sS]
  have h2 : (Value.type "set" == Value.type "list") = false := by decide
  have h3 : (Value.type "set" == Value.type "tuple") = false := by decide
  simp only [h1, h2, h3, Bool.or_false, Bool.false_eq_true, if_false]
  -- the walk, whichever it is
  have main : ∀ (bb : Bool), bb = true → ∀ (I : Addr) (s2 : Shared) (fp : List Addr) (ord : List (Int × Value)) (St : Nat → Heap → Prop), (∀ b o, (s.heap.push { cls := .type "list", data := .seq ([] : List Value).toArray }).get? b = some o → s2.heap.get? b = some o) → (∃ d', s2 = { s with heap := s2.heap, drawn := d' }) →
      ord.Perm es.toList → Walks prog w A.in1 I fp [I] es.size (fun i v => ∃ e, ord[i]? = some e ∧ v = e.2) St → St 0 s2.heap → s.heap.objs.size ∉ fp → s.heap.objs.size < I →
      wpAny (model prog w) A.in1 (do
        let room ← holding [Value.ref I] (Builtin.List.listLengthHint (Value.ref S))
        if (room || bb) = true then do
          rule "list.extend.makes-room"
          Builtin.List.listTouch (Value.ref s.heap.objs.size)
          (again (Code.builtin "list.extend.loop" { pos := [Value.ref s.heap.objs.size, .ref I, Value.ref s.heap.objs.size] }) : Sem PySem.Fin)
        else again (Code.builtin "list.extend.loop" { pos := [Value.ref s.heap.objs.size, .ref I, Value.ref s.heap.objs.size] })) (Coll prog w A s es) E s2 := by
    intro bb hbb I s2 fp ord St kp ⟨d2, e2⟩ pm W st nf lI
    subst hbb
    have ty2 : s2.TypeIs (.ref S) "set" := ⟨o, kp S o (Heap.get?_push_of_some _ ho), hex.1⟩
    have hS : s2.heap.get? s.heap.objs.size = some { cls := .type "list", data := .seq ([] : List Value).toArray } := kp _ _ (Heap.get?_push_size _ rfl)
    refine wpAny_bind (wpAny_holding ?_)
    unfold Builtin.List.listLengthHint
    refine wpAny_bind (wpAny_specialOf ty2 set_len ?_)
    wp_delta
    refine wpAny_bind (wpAny_isInstance (b := true) ty2 (by rw [isSubtype_type]; kernel_rfl) ?_)
    show wpAny _ A.in1 (typeOf (Value.ref S) >>= _) _ _ _
    refine wpAny_bind (wpAny_typeOf ty2 ?_)
    refine wpAny_pure ?_
    rw [if_pos (by decide)]
    refine wpAny_bind (wpAny_rule ?_)
    refine wpAny_bind ?_
    show wpAny _ A.in1 (updateSeq s.heap.objs.size (·.push .none) >>= fun _ => updateSeq s.heap.objs.size (·.pop)) _ _ _
    refine wpAny_bind (wpAny_updateSeq hS rfl ?_)
    have hS2 := Heap.get?_update_self (Obj.mapSeq (·.push Value.none)) hS rfl
    refine wpAny_updateSeq hS2 rfl ?_
    have hS3 := Heap.get?_update_self (Obj.mapSeq (·.pop)) hS2 rfl
    have oth : ∀ b x, b ≠ s.heap.objs.size → s2.heap.get? b = some x → ((s2.heap.update s.heap.objs.size (Obj.mapSeq (·.push Value.none))).update s.heap.objs.size (Obj.mapSeq (·.pop))).get? b = some x := fun b x hb e =>
      (Heap.get?_update_other _ _ (Ne.symm hb)).trans ((Heap.get?_update_other _ _ (Ne.symm hb)).trans e)
    refine wpAny_pure ⟨plainId_quiet F.plain_extend_loop _, codeAny_extend_loopS W.toS sb _ nf _ es.size 0 _ _ _ rfl (Nat.zero_le _) (W.frame 0 _ _ st fun b hb x e => oth b x (fun z => nf (z ▸ hb)) e) hS3 (ItemsOf.nil _) fun s' acc' c' mv hS' hacc => ?_⟩
    obtain ⟨h', g', dr', tk', os'⟩ := s'
    have eg : g' = s.gens := by have := mv.gens; rw [e2] at this; exact this
    have eo : os' = s.os := by have := mv.os; rw [e2] at this; exact this
    subst eg; subst eo
    refine ⟨ord, acc', c', h', tk', dr', pm, rfl, rfl, fun b o e => ?_, hS', ?_⟩
    · have lt := Heap.lt_size e
      refine mv.heap b o ?_ (oth b o (Nat.ne_of_lt lt) (kp b o (Heap.get?_push_of_some _ e)))
      simp only [List.mem_cons, List.not_mem_nil, or_false, not_or]
      exact ⟨Nat.ne_of_lt lt, Nat.ne_of_lt (Nat.lt_trans lt lI)⟩
    · obtain ⟨a1, a2⟩ := hacc
      have lo : ord.length = es.size := by rw [pm.length_eq]; simp
      apply List.ext_getElem?
      intro i
      rcases Nat.lt_or_ge i es.size with q | q
      · have hv : acc'[i]? = some acc'[i] := Array.getElem?_eq_getElem (by omega)
        obtain ⟨e, he, hv2⟩ := a2 i _ hv
        rw [Array.getElem?_toList, hv, List.getElem?_map, he, hv2]
        rfl
      · rw [List.getElem?_eq_none (by simp; omega), List.getElem?_eq_none (by simp; omega)]
  have lp : t.place.size = es.size := by
    have := ft
    simp only [SetTable.fits, Bool.and_eq_true, beq_iff_eq] at this
    exact this.1
  have sz1 : (s.heap.push { cls := .type "list", data := .seq ([] : List Value).toArray }).objs.size = s.heap.objs.size + 1 := Heap.size_push ..
  have h3 : A.in1.handled = none := by simpa using hh
  refine wpAny_bind (set_iter si1 ft sb (fun md => ?_) fun ps d' hb pm => ?_)
  · refine wpAny_mono (Q := Coll prog w A s es) ?_ (fun f s' x => ?_) (fun _ _ e => e)
    · cases hb : w.params.followText "set-order" with
      | true =>
        have pp := pick_perm (w.params.setOrder S ep) es
        have pl : (pickOrder (w.params.setOrder S ep) es).toList.length = es.size := by rw [pp.length_eq]; simp
        refine main _ (by decide) _ _ _ _ _ (fun b o e => Heap.get?_push_of_some _ e) ⟨s.drawn, rfl⟩ pp (walk_slots (ep := ep) (t := t) h3 (by rw [sz1]; exact Nat.ne_of_lt (Nat.lt_succ_of_lt sS)) ft (pickOrder (w.params.setOrder S ep) es).toList pl (fun _ => 0) (fun i e he s' A' E' R si' r => ?_) fun s' A' E' R si' r => ?_) ⟨si1.at_ fun o e => Heap.get?_push_of_some _ e, _, Heap.get?_push_size _ rfl, rfl, rfl⟩ ?_ ?_
        · refine next_text hb si' ft ?_
          rw [Array.getElem?_toList] at he
          rw [he]
          exact r
        · refine next_text hb si' ft ?_
          rw [← Array.getElem?_toList, List.getElem?_eq_none (by omega)]
          exact r
        · rw [sz1]; simp only [List.mem_cons, List.not_mem_nil, or_false, not_or]
          exact ⟨Nat.ne_of_lt (Nat.lt_succ_self _), Nat.ne_of_gt sS⟩
        · rw [sz1]; exact Nat.lt_succ_self _
      | false =>
        have nd : (!t.plain && decide (es.size > 1)) = false := md.resolve_left (by rw [hb]; decide)
        have led : t.led = true := by rw [gd.2, hb]; rfl
        have up := gd.1
        have bl : ∀ i, i ≤ es.size → SetTable.below t.place (if i = 0 then 0 else t.place.toList.getD (i - 1) 0 + 1) = i := fun i hi => by
          by_cases q : i = 0
          · rw [if_pos q, M.below_zero _ up, q]
          · rw [if_neg q, M.below_next up (by omega)]; omega
        refine main _ (by decide) _ _ _ _ _ (fun b o e => Heap.get?_push_of_some _ e) ⟨s.drawn, rfl⟩ (List.Perm.refl es.toList) (walk_slots (ep := ep) (t := t) h3 (by rw [sz1]; exact Nat.ne_of_lt (Nat.lt_succ_of_lt sS)) ft es.toList (by simp) (fun i => if i = 0 then 0 else t.place.toList.getD (i - 1) 0 + 1) (fun i e he s' A' E' R si' r => ?_) fun s' A' E' R si' r => ?_) ⟨si1.at_ fun o e => Heap.get?_push_of_some _ e, _, Heap.get?_push_size _ rfl, rfl, rfl⟩ ?_ ?_
        · have hi : i < es.size := by have := (List.getElem?_eq_some_iff.mp he).1; simpa using this
          refine next_place hb si' ft led nd ?_
          rw [bl i (by omega)]
          rw [Array.getElem?_toList] at he
          have hp : t.place[i]? = some (t.place.toList.getD i 0) := by
            rw [← Array.getElem?_toList, List.getElem?_eq_getElem (by simp; omega), List.getD, List.getElem?_eq_getElem (by simp; omega)]
            rfl
          rw [he, hp]
          have e3 : (if i + 1 = 0 then 0 else t.place.toList.getD (i + 1 - 1) 0 + 1) = t.place.toList.getD i 0 + 1 := by rw [if_neg (by omega), Nat.add_sub_cancel]
          rw [e3] at r
          exact r
        · refine next_place hb si' ft led nd ?_
          rw [bl es.size (Nat.le_refl _), Array.getElem?_eq_none (Nat.le_refl _)]
          exact r
        · rw [sz1]; simp only [List.mem_cons, List.not_mem_nil, or_false, not_or]
          exact ⟨Nat.ne_of_lt (Nat.lt_succ_self _), Nat.ne_of_gt sS⟩
        · rw [sz1]; exact Nat.lt_succ_self _
    · cases f with
      | done f => exact False.elim x
      | again c' =>
        refine ⟨x.1, codeAny_mono x.2 fun r s2 y => ?_⟩
        obtain ⟨ord, acc, c, h', tk, d2, pm2, rfl, rfl, kp, hD, ea⟩ := y
        show wpAny _ A (load s.heap.objs.size >>= _) _ _ _
        refine wpAny_bind (wpAny_load hD ?_)
        exact wpAny_pure (fin h' tk d2 acc kp (Heap.lt_size hD) ⟨ord, pm2, ea⟩)
  · refine wpAny_mono (Q := Coll prog w A s es) ?_ (fun f s' x => ?_) (fun _ _ e => e)
    · have sz2 : ((s.heap.push { cls := .type "list", data := .seq ([] : List Value).toArray }).push { cls := .type "tuple", data := .seq (ps.map fun (i : Nat) => rawInt i).toArray }).objs.size = s.heap.objs.size + 1 + 1 := by rw [Heap.size_push, sz1]
      have po : (ps.map fun p => es.toList.getD p (0, .none)).Perm es.toList := by
        refine (pm.map _).trans ?_
        have : (List.range es.size).map (fun p => es.toList.getD p (0, Value.none)) = es.toList := by
          apply List.ext_getElem?
          intro i
          rcases Nat.lt_or_ge i es.size with q | q
          · rw [List.getElem?_map, List.getElem?_range q, List.getElem?_eq_getElem (show i < es.toList.length by simpa using q)]
            show some (es.toList.getD i (0, Value.none)) = _
            rw [List.getD, List.getElem?_eq_getElem (show i < es.toList.length by simpa using q)]
            rfl
          · rw [List.getElem?_eq_none (by simpa using q), List.getElem?_eq_none (by simpa using q)]
        rw [this]
      rw [sz1]
      refine main _ (by decide) (s.heap.objs.size + 1 + 1) _ _ _ _ (fun b o e => Heap.get?_push_of_some _ (Heap.get?_push_of_some _ e)) ⟨d', rfl⟩ po (walk_drawn (ep := ep) (t := t) (T := s.heap.objs.size + 1) h3 (Nat.ne_of_lt (Nat.lt_succ_of_lt (Nat.lt_succ_of_lt sS))) (Nat.ne_of_lt (Nat.lt_succ_self _)) ft ps pm) ⟨si1.at_ fun o e => Heap.get?_push_of_some _ (Heap.get?_push_of_some _ e), ⟨{ cls := .type "set_iterator", data := .fields #[.ref (s.heap.objs.size + 1), .int 0 0, .ref S, .int es.size 0, .int ep 0] }, ?_, rfl, rfl⟩, ?_⟩ ?_ ?_
      · have z := Heap.get?_push_size (o := { cls := .type "set_iterator", data := .fields #[.ref (s.heap.objs.size + 1), .int 0 0, .ref S, .int es.size 0, .int ep 0] }) ((s.heap.push { cls := .type "list", data := .seq ([] : List Value).toArray }).push { cls := .type "tuple", data := .seq (ps.map fun (i : Nat) => rawInt i).toArray }) rfl
        rw [sz2] at z
        exact z
      · refine Heap.get?_push_of_some _ ?_
        have z := Heap.get?_push_size (o := { cls := .type "tuple", data := .seq (ps.map fun (i : Nat) => rawInt i).toArray }) (s.heap.push { cls := .type "list", data := .seq ([] : List Value).toArray }) rfl
        rw [sz1] at z
        exact z
      · simp only [List.mem_cons, List.not_mem_nil, or_false, not_or]
        exact ⟨Nat.ne_of_lt (Nat.lt_succ_of_lt (Nat.lt_succ_self _)), Nat.ne_of_gt sS, Nat.ne_of_lt (Nat.lt_succ_self _)⟩
      · exact Nat.lt_succ_of_lt (Nat.lt_succ_self _)
    · cases f with
      | done f => exact False.elim x
      | again c' =>
        refine ⟨x.1, codeAny_mono x.2 fun r s2 y => ?_⟩
        obtain ⟨ord, acc, c, h', tk, d2, pm2, rfl, rfl, kp, hD, ea⟩ := y
        show wpAny _ A (load s.heap.objs.size >>= _) _ _ _
        refine wpAny_bind (wpAny_load hD ?_)
        exact wpAny_pure (fin h' tk d2 acc kp (Heap.lt_size hD) ⟨ord, pm2, ea⟩)
end
end L2
set_option Elab.async false
set_option linter.all false
set_option maxRecDepth 100000
set_option maxHeartbeats 4000000
namespace L2
open PySem PySem.Spec PyProof.Rows
def numV : Value → Int
  | .int k _ => k
  | _ => 0
theorem nd_perm {α : Type} [BEq α] [LawfulBEq α] : ∀ {l m : List α}, l.Nodup → (∀ x ∈ l, x ∈ m) → m.length ≤ l.length → m.Perm l
  | [], m, _, _, h => by
    have : m = [] := List.length_eq_zero_iff.mp (by simpa using h)
    rw [this]
  | a :: r, m, nd, sub, h => by
    have ha : a ∈ m := sub a List.mem_cons_self
    obtain ⟨n1, n2⟩ := List.nodup_cons.mp nd
    have p := List.perm_cons_erase ha
    refine p.trans (List.Perm.cons a (nd_perm n2 (fun x hx => ?_) ?_))
    · have hne : x ≠ a := fun e => n1 (e ▸ hx)
      exact (List.mem_erase_of_ne hne).mpr (sub x (List.mem_cons_of_mem _ hx))
    · rw [List.length_erase_of_mem ha]
      simp at h
      omega
theorem met_nd (val : Nat → Int) : ∀ i, (firstMet val i).Nodup
  | 0 => by rw [firstMet_zero]; exact List.nodup_nil
  | i + 1 => by
    rw [firstMet_succ]
    unfold step_dedup
    split
    · exact met_nd val i
    · rename_i h
      refine List.nodup_append.mpr ⟨met_nd val i, by simp, fun a ha b hb => ?_⟩
      have : b = val i := by simpa using hb
      subst this
      intro e
      subst e
      exact h (List.any_eq_true.mpr ⟨_, ha, by simp⟩)
section
variable {prog : Program} {w : World} {A : Around} {E : Value → Shared → Prop} {s : Shared} {S : Addr} {es : Array (Int × Value)} {ep : Nat} {t : SetTable}
theorem ents_int {l : List (Int × Value)} (h : ElemsOf (intKind prog w) l) : IntsAre (l.map (·.2)) (l.map fun e => numV e.2) := by
  induction l with
  | nil => exact .nil
  | cons a r ih =>
    obtain ⟨⟨k, hk, _⟩, _⟩ := h.head
    obtain ⟨tk, e⟩ := Value.isInt_shape hk
    rw [List.map_cons, List.map_cons, e]
    exact .cons k tk (ih h.tail)
/-- the ints of the entries are those met -/
theorem ents_met {ns : List Int} (en : Ent prog w (fun x => (met ns).any (· == x)) (met ns).length es t) : (es.toList.map fun e => numV e.2).Perm (met ns) := by
  refine nd_perm (met_nd _ _) (fun x hx => ?_) ?_
  · obtain ⟨e, he, q⟩ := (en.mm x).mp (List.any_eq_true.mpr ⟨x, hx, by simp⟩)
    obtain ⟨tk, ee⟩ := Value.isInt_shape q
    exact List.mem_map.mpr ⟨e, he, by rw [ee]; rfl⟩
  · rw [List.length_map, Array.length_toList, en.sz]
    exact Nat.le_refl _
theorem sorted_set {ns : List Int} {Q : Value → Shared → Prop} (hh : A.handled = none) (si : SetIs s.heap S es ep t) (en : Ent prog w (fun x => (met ns).any (· == x)) (met ns).length es t) (h64 : (met ns).length < 64)
    (fin : ∀ (D : Addr) (h' : Heap) (tk : Nat) (d' : Drawn) (out : List Value) (c : Nat) (ms : List Int), (∀ b o, s.heap.get? b = some o → h'.get? b = some o) → s.heap.objs.size ≤ D → h'.get? D = some { cls := .type "list", data := .seq out.toArray c } → IntsAre out ms → ms.Perm (met ns) → ms.Pairwise (· ≤ ·) → Q (.ref D) { s with heap := h', toks := tk, drawn := d' }) :
    wpAny (model prog w) A (call (.builtin "sorted") [.ref S]) Q E s := by
  have sb : es.size ≤ sizeLine := by rw [en.sz, sizeLine_eq]; omega
  refine Calls.call_function_entry kind_sorted plain_sorted entry_sorted (args_sorted1 _) ?_
  unfold Builtin.«sorted»
  refine wpAny_bind (m := checkCount "sorted" 1 1 _) (wpAny_pure ?_)
  refine wpAny_bind (collect_set (by simpa using hh) si en.ft en.gd sb fun h1 tk d1 acc kp gr ⟨ord, pm, ea⟩ => ?_)
  have hI : IntsAre acc.toList (ord.map fun e => numV e.2) := by rw [ea]; exact ents_int (en.el.perm pm)
  have pk : (ord.map fun e => numV e.2).Perm (met ns) := (pm.map _).trans (ents_met en)
  have la : acc.toList.length < 64 := by
    have := pk.length_eq
    rw [ea, List.length_map]
    simp at this
    omega
  refine wpAny_bind (wpAny_newList ?_ (by rw [sizeLine_eq]; omega))
  have hL : (h1.push (seqObj "list" acc.toList.toArray 0)).get? h1.objs.size = some (seqObj "list" acc.toList.toArray 0) := Heap.get?_push_size _ rfl
  refine wpAny_bind (wpAny_holding (wpAny_call_entry slot_list_sort ⟨_, hL, rfl⟩ entry_list_sort (list_sort_tree hL hI la fun out ms a1 a2 a3 => ⟨_, rfl, ?_⟩) (args_list_sort _)))
  have lt : ∀ b o, s.heap.get? b = some o → b < h1.objs.size := fun b o e => Heap.lt_size (kp b o e)
  refine wpAny_pure ⟨_, rfl, ?_⟩
  generalize hh2 : h1.push (seqObj "list" acc.toList.toArray 0) = h2 at hL
  obtain ⟨e1, g1⟩ : ∃ e1, (h2.update h1.objs.size (Obj.mapSeq fun _ => #[])).get? h1.objs.size = some (seqObj "list" #[] e1) := ⟨_, get?_update_seq hL (fun _ => #[])⟩
  obtain ⟨e2, g2⟩ : ∃ e2, (sortedHeap h2 h1.objs.size acc.toList out).get? h1.objs.size = some (seqObj "list" out e2) := ⟨_, get?_update_seq (Heap.get?_push_of_some _ (Heap.get?_push_of_some _ g1)) (fun _ => out)⟩
  have old : ∀ b o, s.heap.get? b = some o → (sortedHeap h2 h1.objs.size acc.toList out).get? b = some o := fun b o e => by
    have ne : h1.objs.size ≠ b := Nat.ne_of_gt (lt b o e)
    refine (Heap.get?_update_other _ _ ne).trans (Heap.get?_push_of_some _ (Heap.get?_push_of_some _ ((Heap.get?_update_other _ _ ne).trans ?_)))
    rw [← hh2]
    exact Heap.get?_push_of_some _ (kp b o e)
  have ge : s.heap.objs.size ≤ h1.objs.size := Nat.le_of_lt gr
  have z := fin h1.objs.size (sortedHeap h2 h1.objs.size acc.toList out) tk d1 out.toList e2 ms old ge g2 a1 (a2.trans pk) a3
  exact z
end
theorem Inv.drew {X : Cx} {pins : List (Addr × Obj)} {σ : St} {H : Hp} {s : Shared} {d' : Drawn} (I : Inv X pins σ H s) : Inv X pins σ H { s with drawn := d' } := ⟨I.ok, I.os, I.bare, I.base, I.loc, I.cell, I.free, I.freeC, I.pin, I.hok, I.len⟩
section
variable {X : Cx} {K : PySem.W.Frag} {e : Expr} {ta : TA} {p p2 pos pos2 : Pos}
def tSortedSet (K : PySem.W.Frag) (ta : TA) : TE := fun σ H Q => ta σ H fun vs H1 => ∃ (p : Addr) (ns : List Int), vs = [.ref p] ∧ SqL K H1 p (ns.map V.int) ∧ ns.length < 64 ∧ ∀ ms : List Int, ms.Perm (met ns) → ms.Pairwise (· ≤ ·) → rMade (ms.map V.int) H1 Q
/-- sorted(set(xs)) -/
theorem pe_sortedSet (hc : X.calm = true) (hg : Gl X "sorted") (hm : X.mg "sorted" = none) (hg2 : Gl X "set") (hm2 : X.mg "set" = none) (ha : PA X [e] ta) (hs : starEach [e] X.env = [(false, eval e X.env)] := by rfl)
    (hs2 : starEach [.Call (.Name "set" p2) [e] [] pos2] X.env = [(false, eval (.Call (.Name "set" p2) [e] [] pos2) X.env)] := by rfl) (hK : X.K = K := by rfl) : PE X (.Call (.Name "sorted" p) [.Call (.Name "set" p2) [e] [] pos2] [] pos) (tSortedSet K ta) := by
  subst hK
  intro pins s σ H Q I h
  refine wpAny_Call_Name_kw (ld_blt I hg hm boot_sorted ?_)
  refine PyProof.Rows.callWith_builtin1 ?_ hs2 rfl
  rw [hs2]
  refine Calls.spliced_cons ?_
  refine Call_ (ld_blt I hg2 hm2 boot_set (PyProof.Rows.callWith_type1 (thn (ha pos2 pins s σ H _ I h) fun us s1 ⟨vs, H1, I1, r1, q1⟩ => ?_) hs rfl))
  obtain ⟨l, ns, rfl, hq, h64, q⟩ := q1
  obtain ⟨u, rfl, rx⟩ := vals1 r1
  cases rx
  obtain ⟨its, r', pl, hz⟩ := I1.list hq
  have hlen := r'.length
  rw [List.length_map] at hlen
  have hsz : its.toArray.size = ns.length := by rw [List.size_toArray, hlen]
  refine made_good (its := its.toArray) (ns := ns) (I1.ok.hd hc) pl.isList (intsAre_of r') (by rw [hsz]; show ns.length + 1 < 4096; omega) fun h' tk g kp => ?_
  rw [hsz] at g
  obtain ⟨es, ep, t, si, en⟩ := g
  refine Calls.spliced_nil ?_
  have lm : (met ns).length < 64 := Nat.lt_of_le_of_lt (firstMet_length_le _ _) h64
  refine sorted_set (s := { s1 with heap := h', toks := tk }) (ns := ns) (I1.ok.hd hc) si en lm fun D h2 tk2 d2 out c ms kp2 ge hD hI pm so => ?_
  have kk : ∀ b o, s1.heap.get? b = some o → h2.get? b = some o := fun b o e => kp2 b o (kp b o (Heap.lt_size e) e)
  have gt : s1.heap.objs.size ≤ D := by
    obtain ⟨o, ho, _⟩ := si
    exact Nat.le_trans (Nat.le_of_lt (Heap.lt_size ho)) ge
  have hf : H1 D = none := I1.hok.fresh gt
  refine ⟨.ref _, upd H1 D (.lst (ms.map V.int)), (I1.laid (t' := tk2) (o := .lst (ms.map V.int)) kk gt ⟨?_, out, c, ofIntsIn hI, hD⟩).drew, rfl, q ms pm so _ hf⟩
  rw [List.length_map, pm.length_eq, sizeLine_eq]
  omega
end
end L2
set_option Elab.async false
set_option linter.all false
set_option maxRecDepth 100000
set_option maxHeartbeats 4000000
namespace L2
open PySem PySem.Spec PyProof.Rows
/-! ### a comprehension whose items are values that come to be on the way -/
section
variable {K : PySem.W.Frag} {a : Addr} {xs : List V} {x : Str} {caps : List Nat} {g : TG} {tt : TT} {te : TE} {σ : St} {H : Hp} {Q : VK}
theorem comp_it {J : It} {n : Nat} {item : Nat → V → Prop} (Pv : Addr → Nat → List V → Hp → Prop) (hn : n ≤ sizeLine) (h0 : ∀ acc, H acc = none → Pv acc 0 [] (upd H acc (.lst [])))
    (hgo : ∀ acc i vs H', H acc = none → i < n → Pv acc i vs H' → J.go i H') (hst : ∀ acc vs H', H acc = none → Pv acc n vs H' → J.stop n H')
    (hy : ∀ acc i vs H' v H'', H acc = none → i < n → Pv acc i vs H' → J.yld i H' v H'' → H'' = H' ∧ item i v)
    (hs : ∀ (acc : Addr) (i : Nat) (v : V) (t : Option V) (vs : List V) (H' : Hp) (N : St → Hp → Prop) (Kt : V → St → Hp → Prop), H acc = none → i < n → item i v → vs.length = i → Pv acc i vs H' → H' acc = some (.lst vs) →
      (∀ t' y H'', H'' acc = some (.lst vs) → Pv acc (i + 1) (vs ++ [y]) (upd H'' acc (.lst (vs ++ [y]))) → Kt y (t' :: caps.map fun j => σ.getD j none) H'') →
      g v (t :: caps.map fun j => σ.getD j none) H' fun σ2 H3 => tt σ2 H3 fun b H4 => if b = true then te σ2 H4 fun v H5 => Kt v σ2 H5 else N σ2 H4)
    (hQ : ∀ acc vs H', H acc = none → vs.length = n → Pv acc n vs H' → H' acc = some (.lst vs) → Q (.ref acc) H') : rComp [x] caps J g tt te σ H Q := by
  intro acc hacc
  refine ⟨fun i m σ' H' => m = n - i ∧ i ≤ n ∧ (∃ t, σ' = t :: caps.map fun j => σ.getD j none) ∧ ∃ vs, vs.length = i ∧ Pv acc i vs H' ∧ H' acc = some (.lst vs), ⟨n, rfl, Nat.zero_le _, ⟨none, rfl⟩, [], rfl, h0 acc hacc, upd_same⟩, ?_⟩
  rintro i m σ' H' ⟨rfl, hi, ⟨t, rfl⟩, vs, lv, p, ea⟩
  by_cases hlt : i < n
  · refine .inr ⟨hgo acc i vs H' hacc hlt p, fun σ2 H2 => (∃ t, σ2 = t :: caps.map fun j => σ.getD j none) ∧ ∃ vs, vs.length = i + 1 ∧ Pv acc (i + 1) vs H2 ∧ H2 acc = some (.lst vs), fun σ'' H'' ⟨h1, h2⟩ => ⟨n - (i + 1), by omega, rfl, hlt, h1, h2⟩, fun v H2 y => ?_⟩
    obtain ⟨rfl, iv⟩ := hy acc i vs H' v H2 hacc hlt p y
    refine hs acc i v t vs H2 _ (fun v σ2 H5 => ∃ ys, H5 acc = some (.lst ys) ∧ ys.length < sizeLine ∧ (∃ t, σ2 = t :: caps.map fun j => σ.getD j none) ∧ ∃ vs, vs.length = i + 1 ∧ Pv acc (i + 1) vs (upd H5 acc (.lst (ys ++ [v]))) ∧ (upd H5 acc (.lst (ys ++ [v]))) acc = some (.lst vs)) hacc hlt iv lv p ea fun t' y H'' e2 p2 => ?_
    exact ⟨_, e2, by omega, ⟨t', rfl⟩, vs ++ [y], by rw [List.length_append, lv]; rfl, p2, upd_same⟩
  · have e : i = n := by omega
    subst e
    exact .inl ⟨hst acc vs H' hacc p, hQ acc vs H' hacc lv p ea⟩
end
/-! ### tables: lists of lists -/
structure Tb (K : PySem.W.Frag) (H : Hp) (r : Addr) (xss : List (List V)) : Prop where
  ex : ∃ adr : List Addr, SqL K H r (adr.map V.ref) ∧ adr.length = xss.length ∧ ∀ (i : Nat) (a : Addr), adr[i]? = some a → ∃ xs, xss[i]? = some xs ∧ SqL K H a xs
/-- made anew since H0 -/
structure TbN (H0 H : Hp) (r : Addr) (xss : List (List V)) : Prop where
  ex : ∃ adr : List Addr, H r = some (.lst (adr.map V.ref)) ∧ adr.length = xss.length ∧ adr.Nodup ∧ ∀ (i : Nat) (a : Addr), adr[i]? = some a → H0 a = none ∧ a ≠ r ∧ ∃ xs, xss[i]? = some xs ∧ H a = some (.lst xs)
theorem TbN.same {H0 H H' : Hp} {r : Addr} {xss : List (List V)} (h : TbN H0 H r xss) (s : Same H H') : TbN H0 H' r xss := by
  obtain ⟨adr, h1, h2, hn, h3⟩ := h.ex
  refine ⟨adr, s _ _ h1, h2, hn, fun i a ha => ?_⟩
  obtain ⟨q1, q2, xs, e, q⟩ := h3 i a ha
  exact ⟨q1, q2, xs, e, s _ _ q⟩
def rNewT (xss : List (List V)) (H : Hp) (Q : VK) : Prop := ∀ r H', Same H H' → H r = none → TbN H H' r xss → Q (.ref r) H'
/-! a comprehension whose items are new lists -/
section
variable {K : PySem.W.Frag} {a : Addr} {xs : List V} {x : Str} {caps : List Nat} {g : TG} {tt : TT} {te : TE} {σ : St} {H : Hp} {Q : VK}
theorem comp_rows {J : It} {n : Nat} {item : Nat → V → Prop} (F : Nat → List V) (hn : n ≤ sizeLine) (hgo : ∀ i H', Same H H' → i < n → J.go i H') (hst : ∀ H', Same H H' → J.stop n H')
    (hy : ∀ i H' v H'', Same H H' → i < n → J.yld i H' v H'' → H'' = H' ∧ item i v)
    (hs : ∀ (i : Nat) (v : V) (t : Option V) (H' : Hp) (N : St → Hp → Prop) (Kt : V → St → Hp → Prop), i < n → item i v → Same H H' → (∀ t', rNew (F i) H' fun y H'' => Kt y (t' :: caps.map fun j => σ.getD j none) H'') →
      g v (t :: caps.map fun j => σ.getD j none) H' fun σ2 H3 => tt σ2 H3 fun b H4 => if b = true then te σ2 H4 fun v H5 => Kt v σ2 H5 else N σ2 H4)
    (hQ : rNewT ((List.range n).map F) H Q) : rComp [x] caps J g tt te σ H Q := by
  refine comp_it (item := item) (fun acc i vs H' => Same H H' ∧ ∃ adr : List Addr, vs = adr.map V.ref ∧ adr.length = i ∧ adr.Nodup ∧ ∀ (j : Nat) (b : Addr), adr[j]? = some b → H b = none ∧ b ≠ acc ∧ H' b = some (.lst (F j))) hn
    (fun acc hacc => ⟨Same.new hacc _, [], rfl, rfl, List.nodup_nil, fun j b hb => by cases hb⟩) (fun acc i vs H' _ hi p => hgo i H' p.1 hi) (fun acc vs H' _ p => hst H' p.1) (fun acc i vs H' v H'' _ hi p y => hy i H' v H'' p.1 hi y) ?_ ?_
  · intro acc i v t vs H' N Kt hacc hi iv lv p ea k
    obtain ⟨sm, adr, e1, e2, en, e3⟩ := p
    refine hs i v t H' N Kt hi iv sm fun t' r H'' s2 hr er => ?_
    have hra : r ≠ acc := fun e => by rw [e, ea] at hr; cases hr
    refine k t' (.ref r) H'' (s2 _ _ ea) ⟨(sm.trans s2).put hacc, adr ++ [r], by rw [e1, List.map_append]; rfl, by rw [List.length_append, e2]; rfl, ?_, fun j b hb => ?_⟩
    · rw [List.nodup_append]
      refine ⟨en, by simp, fun b hb c hc e => ?_⟩
      rw [List.mem_singleton] at hc
      subst hc
      subst e
      obtain ⟨j, hj⟩ := List.mem_iff_getElem?.mp hb
      rw [(e3 j b hj).2.2] at hr
      cases hr
    rcases Nat.lt_or_ge j adr.length with h | h
    · rw [List.getElem?_append_left h] at hb
      obtain ⟨q1, q2, q3⟩ := e3 j b hb
      exact ⟨q1, q2, by rw [upd_ne q2]; exact s2 _ _ q3⟩
    · rw [List.getElem?_append_right h] at hb
      have eh : j - adr.length = 0 := by
        rcases Nat.eq_zero_or_pos (j - adr.length) with z | z
        · exact z
        · rw [List.getElem?_eq_none (by simp; omega)] at hb; cases hb
      rw [eh] at hb
      cases hb
      have : j = i := by omega
      subst this
      exact ⟨sm.free hr, hra, by rw [upd_ne hra]; exact er⟩
  · intro acc vs H' hacc lv p ea
    obtain ⟨sm, adr, e1, e2, en, e3⟩ := p
    subst e1
    refine hQ acc H' sm hacc ⟨adr, ea, by simp [e2], en, fun i b hb => ?_⟩
    obtain ⟨q1, q2, q3⟩ := e3 i b hb
    have hi : i < n := by have := (List.getElem?_eq_some_iff.mp hb).1; omega
    exact ⟨q1, q2, F i, by rw [List.getElem?_map, List.getElem?_range hi]; rfl, q3⟩
theorem comp_rowsR {lo : Int} {n : Nat} (F : Nat → List V) (hn : n ≤ sizeLine)
    (hs : ∀ (i : Nat) (t : Option V) (H' : Hp) (N : St → Hp → Prop) (Kt : V → St → Hp → Prop), i < n → Same H H' → (∀ t', rNew (F i) H' fun y H'' => Kt y (t' :: caps.map fun j => σ.getD j none) H'') →
      g (.int (lo + i)) (t :: caps.map fun j => σ.getD j none) H' fun σ2 H3 => tt σ2 H3 fun b H4 => if b = true then te σ2 H4 fun v H5 => Kt v σ2 H5 else N σ2 H4)
    (hQ : rNewT ((List.range n).map F) H Q) : rComp [x] caps (Itr lo n) g tt te σ H Q :=
  comp_rows (item := fun i v => v = .int (lo + i)) F hn (fun i H' s hi => hi) (fun H' s => Nat.le_refl _) (fun i H' v H'' s hi y => y) (fun i v t H' N Kt hi hv s k => by subst hv; exact hs i t H' N Kt hi s k) hQ
end
end L2
set_option Elab.async false
set_option linter.all false
set_option maxRecDepth 100000
set_option maxHeartbeats 4000000
namespace L2
open PySem PySem.Spec PyProof.Rows
section
variable {X : Cx}
/-- min(xs), xs a list of ints that is not empty -/
def rMinL (K : PySem.W.Frag) : List V → Hp → VK → Prop := fun xs H Q => ∃ (p : Addr) (ns : List Int), xs = [.ref p] ∧ SqL K H p (ns.map V.int) ∧ 0 < ns.length ∧ ∀ m : Int, m ∈ ns → (∀ a ∈ ns, m ≤ a) → Q (.int m) H
def rMaxL (K : PySem.W.Frag) : List V → Hp → VK → Prop := fun xs H Q => ∃ (p : Addr) (ns : List Int), xs = [.ref p] ∧ SqL K H p (ns.map V.int) ∧ 0 < ns.length ∧ ∀ m : Int, m ∈ ns → (∀ a ∈ ns, a ≤ m) → Q (.int m) H
/-- // by a divisor of many figures -/
def CDivB (_ j : Int) : Prop := j ≠ 0 ∧ j.natAbs < 2 ^ 9000
end
/-! ### != of tuples -/
section
variable {X : Cx}
def rNeT (K : PySem.W.Frag) : R2 := fun x y H Q => ∃ a b xs ys, x = .ref a ∧ y = .ref b ∧ SqT K H a xs ∧ SqT K H b ys ∧ ∃ e : Nat → Bool, (∀ (i : Nat) (x y : V), xs[i]? = some x → ys[i]? = some y → DEq K H 40 x y (e i)) ∧ Q (.bl (!((List.range (min xs.length ys.length)).all e && xs.length == ys.length))) H
end
/-! ### a comprehension with a test, that makes things on the way -/
section
variable {K : PySem.W.Frag} {a : Addr} {xs : List V} {x : Str} {caps : List Nat} {g : TG} {tt : TT} {te : TE} {σ : St} {H : Hp} {Q : VK}
end
end L2
namespace M
def iota (n : Nat) : List Int := (List.range n).map fun i => ((i : Nat) : Int)
theorem iota_length (n : Nat) : (iota n).length = n := by simp [iota]
theorem mem_iota {n : Nat} {c : Int} : c ∈ iota n ↔ 0 ≤ c ∧ c < n := by
  simp only [iota, List.mem_map, List.mem_range]
  constructor
  · rintro ⟨i, hi, rfl⟩; omega
  · rintro ⟨h0, h1⟩; exact ⟨c.toNat, by omega, by omega⟩
theorem iota_nodup (n : Nat) : (iota n).Nodup := by
  unfold iota List.Nodup
  rw [List.pairwise_map]
  refine List.Pairwise.imp ?_ (List.nodup_range (n := n))
  intro a b h e
  exact h (by omega)
theorem iota_getElem? {n i : Nat} (h : i < n) : (iota n)[i]? = some (i : Int) := by simp [iota, h]
/-- an order of n cards -/
structure Ord (n : Nat) (ns : List Int) : Prop where
  len : ns.length = n
  nd : ns.Nodup
  bd : ∀ c ∈ ns, 0 ≤ c ∧ c < n
theorem sub_of_full : ∀ {l m : List Int}, l.Nodup → (∀ c ∈ l, c ∈ m) → m.length ≤ l.length → ∀ c ∈ m, c ∈ l
  | [], m, _, _, h, c, hc => by
    have : m = [] := List.eq_nil_of_length_eq_zero (by simpa using h)
    rw [this] at hc; cases hc
  | a :: l, m, nd, hs, h, c, hc => by
    have nd' := List.nodup_cons.mp nd
    by_cases e : c = a
    · rw [e]; exact List.mem_cons_self
    · have ha : a ∈ m := hs a List.mem_cons_self
      refine List.mem_cons_of_mem _ (sub_of_full (m := m.erase a) nd'.2 (fun d hd => ?_) ?_ c ((List.mem_erase_of_ne e).mpr hc))
      · have : d ≠ a := fun z => nd'.1 (z ▸ hd)
        exact (List.mem_erase_of_ne this).mpr (hs d (List.mem_cons_of_mem _ hd))
      · have := List.length_erase_of_mem ha
        simp at h
        omega
theorem Ord.has {n : Nat} {ns : List Int} (o : Ord n ns) {c : Int} (h0 : 0 ≤ c) (h1 : c < n) : c ∈ ns :=
  sub_of_full (m := iota n) o.nd (fun d hd => mem_iota.mpr (o.bd d hd)) (by rw [iota_length, o.len]; exact Nat.le_refl _) c (mem_iota.mpr ⟨h0, h1⟩)
theorem Ord.of_perm {n : Nat} {ns : List Int} (p : ns.Perm (iota n)) : Ord n ns :=
  ⟨by rw [p.length_eq, iota_length], (List.Perm.nodup_iff p).mpr (iota_nodup n), fun c hc => mem_iota.mp (p.mem_iff.mp hc)⟩
theorem Ord.getD_bd {n : Nat} {ns : List Int} (o : Ord n ns) {i : Nat} (h : i < n) : 0 ≤ ns.getD i 0 ∧ ns.getD i 0 < n := by
  have hi : i < ns.length := by rw [o.len]; exact h
  have : ns.getD i 0 = ns[i] := by simp [List.getD, List.getElem?_eq_getElem hi]
  rw [this]
  exact o.bd _ (List.getElem_mem hi)
theorem take_out_perm : ∀ {l : List Int} {i : Nat} (h : i < l.length), (l[i] :: l.eraseIdx i).Perm l
  | a :: l, 0, _ => List.Perm.refl _
  | a :: l, i + 1, h => by
    have h' : i < l.length := by simpa using h
    show (l[i] :: a :: l.eraseIdx i).Perm (a :: l)
    exact (List.Perm.swap a l[i] _).trans ((take_out_perm h').cons a)
/-- the step of a draw -/
theorem draw_perm {as ls : List Int} {n i : Nat} (h : (as ++ ls).Perm (iota n)) (hi : i < ls.length) : (as ++ [ls[i]] ++ ls.eraseIdx i).Perm (iota n) := by
  refine List.Perm.trans ?_ h
  rw [List.append_assoc]
  refine List.Perm.append_left as ?_
  exact take_out_perm hi
/-! places -/
def plc (n : Nat) (ns : List Int) : List Int := (List.range n).map fun c => ((ns.idxOf ((c : Nat) : Int) : Nat) : Int)
theorem plc_length (n : Nat) (ns : List Int) : (plc n ns).length = n := by simp [plc]
theorem plc_get {n : Nat} {ns : List Int} {c : Nat} (h : c < n) : (plc n ns)[c]? = some ((ns.idxOf (c : Int) : Nat) : Int) := by simp [plc, h]
theorem idx_lt {n : Nat} {ns : List Int} (o : Ord n ns) {c : Int} (h0 : 0 ≤ c) (h1 : c < n) : ns.idxOf c < n := by
  have := List.idxOf_lt_length_iff.mpr (o.has h0 h1)
  rw [o.len] at this
  exact this
theorem getElem_idx {n : Nat} {ns : List Int} (o : Ord n ns) {c : Int} (h0 : 0 ≤ c) (h1 : c < n) : ns[ns.idxOf c]? = some c := by
  have h := List.idxOf_lt_length_iff.mpr (o.has h0 h1)
  rw [List.getElem?_eq_getElem h]
  simp [List.getElem_idxOf]
theorem idx_of_get {n : Nat} {ns : List Int} (o : Ord n ns) {i : Nat} {c : Int} (h : ns[i]? = some c) : ns.idxOf c = i := by
  have hi := (List.getElem?_eq_some_iff.mp h).1
  have hc : c ∈ ns := List.mem_of_getElem? h
  have b := o.bd c hc
  have e := getElem_idx o b.1 b.2
  have hj : ns.idxOf c < ns.length := List.idxOf_lt_length_iff.mpr hc
  rw [← h, List.getElem?_eq_getElem hj, List.getElem?_eq_getElem hi] at e
  exact (List.getElem_inj o.nd).mp (Option.some.inj e)
theorem ord_plc {n : Nat} {ns : List Int} (o : Ord n ns) : Ord n (plc n ns) where
  len := plc_length n ns
  nd := by
    unfold plc List.Nodup
    rw [List.pairwise_map]
    rw [List.pairwise_iff_getElem]
    intro i j hi hj hij e
    simp only [List.length_range] at hi hj
    simp only [List.getElem_range] at e
    have e1 := getElem_idx o (c := (i : Int)) (by omega) (by omega)
    have e2 := getElem_idx o (c := (j : Int)) (by omega) (by omega)
    rw [show ns.idxOf (i : Int) = ns.idxOf (j : Int) by omega, e2] at e1
    have := Option.some.inj e1
    omega
  bd := fun c hc => by
    simp only [plc, List.mem_map, List.mem_range] at hc
    obtain ⟨i, hi, rfl⟩ := hc
    have := idx_lt o (c := (i : Int)) (by omega) (by omega)
    omega
theorem plc_plc {n : Nat} {ns : List Int} (o : Ord n ns) : plc n (plc n ns) = ns := by
  apply List.ext_getElem?
  intro i
  by_cases hi : i < n
  · rw [plc_get hi]
    have hin : i < ns.length := by rw [o.len]; exact hi
    rw [List.getElem?_eq_getElem hin]
    congr 1
    have b := o.bd ns[i] (List.getElem_mem hin)
    have e : (plc n ns)[ns[i].toNat]? = some (i : Int) := by
      rw [plc_get (by omega)]
      congr 1
      rw [show ((ns[i].toNat : Nat) : Int) = ns[i] by omega, idx_of_get o (List.getElem?_eq_getElem hin)]
    have := idx_of_get (ord_plc o) e
    omega
  · rw [List.getElem?_eq_none (by rw [plc_length]; omega), List.getElem?_eq_none (by rw [o.len]; omega)]
/-! one laid by the other -/
def lay (one other : List Int) : List Int := other.map fun c => one.getD c.toNat 0
theorem lay_length (one other : List Int) : (lay one other).length = other.length := by simp [lay]
theorem lay_getD {one other : List Int} {i : Nat} (h : i < other.length) : (lay one other).getD i 0 = one.getD (other.getD i 0).toNat 0 := by
  simp [lay, List.getD, h]
theorem ord_lay {n : Nat} {a b : List Int} (oa : Ord n a) (ob : Ord n b) : Ord n (lay a b) where
  len := by rw [lay_length, ob.len]
  nd := by
    unfold List.Nodup
    rw [List.pairwise_iff_getElem]
    intro i j hi hj hij e
    rw [lay_length] at hi hj
    simp only [lay, List.getElem_map] at e
    have b1 := ob.bd b[i] (List.getElem_mem hi)
    have b2 := ob.bd b[j] (List.getElem_mem hj)
    have h1 : b[i].toNat < a.length := by rw [oa.len]; omega
    have h2 : b[j].toNat < a.length := by rw [oa.len]; omega
    simp only [List.getD, List.getElem?_eq_getElem h1, List.getElem?_eq_getElem h2, Option.getD_some] at e
    have := (List.getElem_inj oa.nd).mp e
    have e2 : b[i] = b[j] := by omega
    have := (List.getElem_inj ob.nd).mp e2
    omega
  bd := fun c hc => by
    simp only [lay, List.mem_map] at hc
    obtain ⟨d, hd, rfl⟩ := hc
    have b1 := ob.bd d hd
    exact oa.getD_bd (by omega)
theorem lay_iota {n : Nat} {a : List Int} (o : Ord n a) : lay (iota n) a = a := by
  unfold lay
  conv => rhs; rw [← List.map_id a]
  apply List.map_congr_left
  intro c hc
  have b := o.bd c hc
  simp only [List.getD, iota_getElem? (show c.toNat < n by omega), Option.getD_some, id]
  omega
theorem lay_plc {n : Nat} {a : List Int} (o : Ord n a) : lay a (plc n a) = iota n := by
  apply List.ext_getElem?
  intro i
  by_cases hi : i < n
  · rw [iota_getElem? hi]
    unfold lay
    rw [List.getElem?_map, plc_get hi]
    simp only [Option.map_some, Int.toNat_natCast]
    have e := getElem_idx o (c := (i : Int)) (by omega) (by omega)
    simp [List.getD, e]
  · rw [List.getElem?_eq_none (by rw [lay_length, plc_length]; omega), List.getElem?_eq_none (by rw [iota_length]; omega)]
theorem lay_assoc {n : Nat} {a b c : List Int} (ob : Ord n b) (oc : Ord n c) : lay (lay a b) c = lay a (lay b c) := by
  unfold lay
  rw [List.map_map]
  apply List.map_congr_left
  intro d hd
  have bd := oc.bd d hd
  have h : d.toNat < b.length := by rw [ob.len]; omega
  simp [List.getD, h]
/-! the loop of places -/
def plcUpTo (n : Nat) (ns : List Int) (i : Nat) : List Int := (List.range n).map fun c => if ((c : Nat) : Int) ∈ ns.take i then ((ns.idxOf ((c : Nat) : Int) : Nat) : Int) else 0
end M
namespace M
def cnt (n : Nat) (P : Nat → Bool) : Nat := ((List.range n).filter P).length
theorem cnt_succ (n : Nat) (P : Nat → Bool) : cnt (n + 1) P = cnt n P + if P n = true then 1 else 0 := by
  unfold cnt
  rw [List.range_succ, List.filter_append, List.length_append]
  cases h : P n <;> simp [h]
theorem cnt_le (n : Nat) (P : Nat → Bool) : cnt n P ≤ n := by
  induction n with
  | zero => exact Nat.le_refl _
  | succ n ih => rw [cnt_succ]; split <;> omega
theorem cnt_congr {n : Nat} {P Q : Nat → Bool} (h : ∀ i, i < n → P i = Q i) : cnt n P = cnt n Q := by
  induction n with
  | zero => rfl
  | succ n ih => rw [cnt_succ, cnt_succ, ih fun i hi => h i (by omega), h n (by omega)]
/-- how many falls -/
def flN (ns : List Int) : Nat := cnt (ns.length - 1) fun p => decide (ns.getD (p + 1) 0 < ns.getD p 0)
/-! cards taken by going through the pack -/
def pos (ns : List Int) (d : Nat) : Nat := ns.idxOf (d : Int)
def dsc (ns : List Int) (d : Nat) : Bool := decide (pos ns (d + 1) < pos ns d)
theorem flN_plc {n : Nat} (ns : List Int) : flN (plc n ns) = cnt (n - 1) (dsc ns) := by
  unfold flN
  rw [plc_length]
  apply cnt_congr
  intro i hi
  have h1 : (plc n ns).getD i 0 = (pos ns i : Int) := by simp only [List.getD]; rw [plc_get (show i < n by omega)]; rfl
  have h2 : (plc n ns).getD (i + 1) 0 = (pos ns (i + 1) : Int) := by simp only [List.getD]; rw [plc_get (show i + 1 < n by omega)]; rfl
  rw [h1, h2]
  unfold dsc
  by_cases h : pos ns (i + 1) < pos ns i
  · rw [decide_eq_true h, decide_eq_true (by omega)]
  · rw [decide_eq_false h, decide_eq_false (by omega)]
/-- going through, from the card c0 on; i cards are looked at, c is wanted -/
structure Pass (n : Nat) (ns : List Int) (c0 i c : Nat) : Prop where
  le0 : c0 ≤ c
  len : c ≤ n
  seen : ∀ d, c0 ≤ d → d < c → pos ns d < i
  up : ∀ d, c0 ≤ d → d + 1 < c → dsc ns d = false
  next : c < n → i ≤ pos ns c ∨ (c0 < c ∧ dsc ns (c - 1) = true)
/-- between two rounds -/
structure Rnd (n : Nat) (ns : List Int) (c r : Nat) : Prop where
  le : c ≤ n
  zero : c = 0 → r = 0
  many : 0 < c → r = 1 + cnt (c - 1) (dsc ns)
  down : 0 < c → c < n → dsc ns (c - 1) = true
end M
namespace M
def ch : Nat → Nat → Nat
  | _, 0 => 1
  | 0, _ + 1 => 0
  | n + 1, k + 1 => ch n k + ch n (k + 1)
theorem ch_zero (n : Nat) : ch n 0 = 1 := by cases n <;> rfl
theorem ch_ss (n k : Nat) : ch (n + 1) (k + 1) = ch n k + ch n (k + 1) := rfl
theorem ch_lt : ∀ {n k : Nat}, n < k → ch n k = 0
  | 0, 0, h => absurd h (by omega)
  | 0, _ + 1, _ => rfl
  | n + 1, 0, h => absurd h (by omega)
  | n + 1, k + 1, h => by rw [ch_ss, ch_lt (by omega : n < k), ch_lt (by omega : n < k + 1)]
theorem ch_self : ∀ n : Nat, ch n n = 1
  | 0 => rfl
  | n + 1 => by rw [ch_ss, ch_self n, ch_lt (by omega : n < n + 1)]
theorem ch_step : ∀ n k : Nat, (k + 1) * ch n (k + 1) = (n - k) * ch n k
  | 0, k => by
    have : ch 0 (k + 1) = 0 := rfl
    rw [this, Nat.zero_sub]; simp
  | n + 1, 0 => by
    have h := ch_step n 0
    rw [ch_zero] at h ⊢
    rw [ch_ss, ch_zero]
    omega
  | n + 1, k + 1 => by
    have h1 := ch_step n k
    have h2 := ch_step n (k + 1)
    rw [ch_ss, ch_ss]
    by_cases hk : k < n
    · have e1 : n + 1 - (k + 1) = n - k := by omega
      have e2 : n - (k + 1) = n - k - 1 := by omega
      rw [e1]
      rw [e2] at h2
      obtain ⟨d, hd⟩ : ∃ d, n - k = d + 1 := ⟨n - k - 1, by omega⟩
      rw [hd] at h1 h2 ⊢
      simp only [Nat.add_sub_cancel] at h2
      rw [Nat.mul_add, h2, Nat.mul_add, ← h1]
      have e3 := Nat.add_mul (k + 1 + 1) d (ch n (k + 1))
      have e4 := Nat.add_mul (k + 1) (d + 1) (ch n (k + 1))
      have e5 : k + 1 + 1 + d = k + 1 + (d + 1) := by omega
      rw [e5] at e3
      omega
    · rw [ch_lt (by omega : n < k + 1), ch_lt (by omega : n < k + 1 + 1)]
      have e : n + 1 - (k + 1) = 0 := by omega
      rw [e]; simp
theorem ch_symm_add : ∀ (m a b : Nat), a + b = m → ch m a = ch m b
  | 0, a, b, h => by
    have h1 : a = 0 := by omega
    have h2 : b = 0 := by omega
    subst h1; subst h2; rfl
  | m + 1, 0, b, h => by
    have h2 : b = m + 1 := by omega
    subst h2
    rw [ch_self]; rfl
  | m + 1, a + 1, 0, h => by
    have h2 : a = m := by omega
    subst h2
    rw [ch_self]; rfl
  | m + 1, a + 1, b + 1, h => by
    rw [ch_ss, ch_ss, ch_symm_add m a (b + 1) (by omega), ch_symm_add m (a + 1) b (by omega)]
    omega
theorem ch_symm {n k : Nat} (h : k ≤ n) : ch n (n - k) = ch n k := ch_symm_add n (n - k) k (by omega)
/-- the product n (n - 1) .., k factors -/
def df (n : Nat) : Nat → Nat
  | 0 => 1
  | k + 1 => df n k * (n - k)
theorem df_s (n k : Nat) : df n (k + 1) = df n k * (n - k) := rfl
theorem df_ss (m : Nat) : ∀ k, df (m + 1) (k + 1) = (m + 1) * df m k
  | 0 => by simp [df]
  | k + 1 => by rw [df_s, df_ss m k, df_s, Nat.mul_assoc, show m + 1 - (k + 1) = m - k by omega]
theorem df_ch (n : Nat) : ∀ k, df n k = ch n k * df k k
  | 0 => by rw [ch_zero]; rfl
  | k + 1 => by
    have h := ch_step n k
    rw [df_s, df_ch n k, df_ss k k]
    rw [Nat.mul_right_comm, Nat.mul_comm (ch n k), ← h, Nat.mul_comm (k + 1) (ch n (k + 1)), Nat.mul_assoc]
theorem df_pos (n : Nat) : ∀ k, k ≤ n → 0 < df n k
  | 0, _ => Nat.one_pos
  | k + 1, h => by rw [df_s]; exact Nat.mul_pos (df_pos n k (by omega)) (by omega)
theorem df_le {n B : Nat} (h : n ≤ B) : ∀ k, df n k ≤ B ^ k
  | 0 => Nat.le_refl _
  | k + 1 => by rw [df_s, Nat.pow_succ]; exact Nat.mul_le_mul (df_le h k) (by omega)
theorem ch_le_df (n k : Nat) : ch n k ≤ df n k := by
  rw [df_ch]
  exact Nat.le_mul_of_pos_right _ (df_pos k k (Nat.le_refl _))
theorem df_bits {n : Nat} (h : n ≤ 10 ^ 30) (k : Nat) : df n k < 2 ^ (100 * k + 1) := by
  refine Nat.lt_of_le_of_lt (df_le (B := 2 ^ 100) (Nat.le_trans h (by decide +kernel)) k) ?_
  rw [← Nat.pow_mul]
  exact Nat.pow_lt_pow_right (by decide) (by omega)
theorem ch_bits {n : Nat} (h : n ≤ 10 ^ 30) (k : Nat) : ch n k < 2 ^ (100 * k + 1) := Nat.lt_of_le_of_lt (ch_le_df n k) (df_bits h k)
/-- the step of the loop -/
theorem ch_div (n k : Nat) : ch n k * (n - k) / (k + 1) = ch n (k + 1) := by
  rw [Nat.mul_comm, ← ch_step, Nat.mul_div_cancel_left _ (by omega)]
/-- over ints -/
def chI (n k : Int) : Int := if k < 0 ∨ n < k then 0 else (ch n.toNat k.toNat : Int)
theorem chI_out {n k : Int} (h : k < 0 ∨ n < k) : chI n k = 0 := by unfold chI; rw [if_pos h]
theorem chI_in {n k : Int} (h0 : 0 ≤ k) (h : k ≤ n) : chI n k = (ch n.toNat k.toNat : Int) := by unfold chI; rw [if_neg (by omega)]
theorem chI_pascal {n k : Int} (hn : 0 < n) : chI (n - 1) k + chI (n - 1) (k - 1) = chI n k := by
  by_cases h0 : k < 0
  · rw [chI_out (.inl h0), chI_out (.inl h0), chI_out (.inl (by omega))]; rfl
  by_cases h1 : k = 0
  · subst h1
    rw [chI_out (k := 0 - 1) (.inl (by omega)), chI_in (by omega) (by omega), chI_in (by omega) (by omega)]
    show ((ch (n - 1).toNat 0 : Nat) : Int) + 0 = ((ch n.toNat 0 : Nat) : Int)
    rw [ch_zero, ch_zero]; rfl
  by_cases h2 : n < k
  · rw [chI_out (.inr h2), chI_out (.inr (by omega)), chI_out (.inr (by omega))]; rfl
  obtain ⟨m, hm⟩ : ∃ m : Nat, n = m + 1 := ⟨n.toNat - 1, by omega⟩
  obtain ⟨j, hj⟩ : ∃ j : Nat, k = j + 1 := ⟨k.toNat - 1, by omega⟩
  subst hm; subst hj
  have e1 : ((m : Int) + 1).toNat = m + 1 := by omega
  have e2 : ((j : Int) + 1).toNat = j + 1 := by omega
  have e3 : ((m : Int) + 1 - 1) = m := by omega
  have e4 : ((j : Int) + 1 - 1) = j := by omega
  have key : chI m (j + 1) = (ch m (j + 1) : Int) := by
    by_cases h3 : (m : Int) < j + 1
    · rw [chI_out (.inr h3), ch_lt (by omega)]; rfl
    · rw [chI_in (by omega) (by omega), e2]; rfl
  rw [e3, e4, key, chI_in (k := (j : Int)) (by omega) (by omega), chI_in (by omega) (by omega), e1, e2, ch_ss]
  simp only [Int.toNat_natCast]
  omega
end M
namespace M
/-- a word for h heaps and n cards -/
structure Wd (h n : Nat) (ws : List Int) : Prop where
  len : ws.length = n
  bd : ∀ x ∈ ws, 0 ≤ x ∧ x < h
def cn (ws : List Int) (h : Nat) : Nat := ws.count (h : Int)
/-- where heap h begins -/
def stt (ws : List Int) : Nat → Nat
  | 0 => 0
  | h + 1 => stt ws h + cn ws h
theorem stt_nil : ∀ h, stt [] h = 0
  | 0 => rfl
  | h + 1 => by rw [stt, stt_nil h]; rfl
theorem stt_cons (w : Int) (ws : List Int) (w0 : 0 ≤ w) : ∀ h : Nat, stt (w :: ws) h = stt ws h + if w < h then 1 else 0
  | 0 => by rw [stt, stt, if_neg (by omega)]
  | h + 1 => by
    rw [stt, stt, stt_cons w ws w0 h]
    unfold cn
    rw [List.count_cons]
    by_cases e : w = (h : Int)
    · rw [if_neg (by omega), if_pos (by simp [e]), if_pos (by omega)]; omega
    · rw [if_neg (show ¬ ((w == (h : Int)) = true) by simpa using e)]
      by_cases l : w < h
      · rw [if_pos l, if_pos (by omega)]; omega
      · rw [if_neg l, if_neg (by omega)]; omega
theorem stt_all {h : Nat} : ∀ {ws : List Int}, (∀ x ∈ ws, 0 ≤ x ∧ x < (h : Int)) → stt ws h = ws.length
  | [], _ => stt_nil h
  | w :: ws, b => by
    have bw := b w (by simp)
    rw [stt_cons w ws bw.1, if_pos bw.2, stt_all fun x hx => b x (by simp [hx])]
    rfl
theorem stt_mono (ws : List Int) {a : Nat} : ∀ {b : Nat}, a ≤ b → stt ws a ≤ stt ws b
  | 0, h => by have : a = 0 := by omega
               rw [this]; exact Nat.le_refl _
  | b + 1, h => by
    by_cases e : a = b + 1
    · rw [e]; exact Nat.le_refl _
    · have := stt_mono ws (a := a) (b := b) (by omega)
      rw [stt]
      omega
/-- the heap of place p -/
def hp (ws : List Int) (p : Nat) : Nat := (ws.getD p 0).toNat
/-- how many of that heap lie ahead -/
def kk (ws : List Int) (p : Nat) : Nat := (ws.take p).count (ws.getD p 0)
theorem split_at {ws : List Int} {p : Nat} (h : p < ws.length) : ws = ws.take p ++ ws.getD p 0 :: ws.drop (p + 1) := by
  have e : ws.getD p 0 = ws[p] := by simp [List.getD, List.getElem?_eq_getElem h]
  rw [e, List.getElem_cons_drop h, List.take_append_drop]
theorem hp_cast {h n : Nat} {ws : List Int} (W : Wd h n ws) {p : Nat} (hp' : p < n) : ((hp ws p : Nat) : Int) = ws.getD p 0 ∧ hp ws p < h := by
  have hl : p < ws.length := by rw [W.len]; exact hp'
  have e : ws.getD p 0 = ws[p] := by simp [List.getD, List.getElem?_eq_getElem hl]
  have := W.bd ws[p] (List.getElem_mem hl)
  unfold hp
  rw [e]
  omega
theorem kk_lt {h n : Nat} {ws : List Int} (W : Wd h n ws) {p : Nat} (hp' : p < n) : kk ws p < cn ws (hp ws p) := by
  have hl : p < ws.length := by rw [W.len]; exact hp'
  unfold cn
  rw [(hp_cast W hp').1]
  unfold kk
  have e := congrArg (List.count (ws.getD p 0)) (split_at hl)
  rw [List.count_append, List.count_cons_self] at e
  omega
/-- from which place the card at p comes -/
def dr (bs : List Bool) (ws : List Int) (p : Nat) : Nat :=
  if bs.getD (hp ws p) false = true then stt ws (hp ws p) + cn ws (hp ws p) - 1 - kk ws p else stt ws (hp ws p) + kk ws p
def drawn (bs : List Bool) (ws : List Int) : List Int := (List.range ws.length).map fun p => ((dr bs ws p : Nat) : Int)
theorem drawn_length (bs : List Bool) (ws : List Int) : (drawn bs ws).length = ws.length := by simp [drawn]
theorem dr_bd {h n : Nat} {bs : List Bool} {ws : List Int} (W : Wd h n ws) {p : Nat} (hp' : p < n) : stt ws (hp ws p) ≤ dr bs ws p ∧ dr bs ws p < stt ws (hp ws p + 1) := by
  have k := kk_lt W hp'
  unfold dr
  rw [stt]
  split <;> omega
theorem dr_lt {h n : Nat} {bs : List Bool} {ws : List Int} (W : Wd h n ws) {p : Nat} (hp' : p < n) : dr bs ws p < n := by
  have b := (dr_bd (bs := bs) W hp').2
  have m := stt_mono ws (show hp ws p + 1 ≤ h from (hp_cast W hp').2)
  rw [stt_all W.bd, W.len] at m
  omega
theorem kk_lt_kk {h n : Nat} {ws : List Int} (W : Wd h n ws) {p q : Nat} (hpq : p < q) (hq : q < n) (e : ws.getD p 0 = ws.getD q 0) : kk ws p < kk ws q := by
  unfold kk
  rw [← e]
  have hl : p < ws.length := by rw [W.len]; omega
  have e1 : (ws.take q).getD p 0 = ws.getD p 0 := by simp [List.getD, List.getElem?_take, hpq]
  have e2 : (ws.take q).take p = ws.take p := by rw [List.take_take]; congr 1; omega
  have hlq : p < (ws.take q).length := by rw [List.length_take, W.len]; omega
  have s := congrArg (List.count (ws.getD p 0)) (split_at hlq)
  rw [e1, e2, List.count_append, List.count_cons_self] at s
  omega
theorem dr_inj {h n : Nat} {bs : List Bool} {ws : List Int} (W : Wd h n ws) {p q : Nat} (hp' : p < n) (hq : q < n) (e : dr bs ws p = dr bs ws q) : p = q := by
  have bp := dr_bd (bs := bs) W hp'
  have bq := dr_bd (bs := bs) W hq
  have eh : hp ws p = hp ws q := by
    rcases Nat.lt_trichotomy (hp ws p) (hp ws q) with l | l | l
    · have := stt_mono ws (show hp ws p + 1 ≤ hp ws q from l); omega
    · exact l
    · have := stt_mono ws (show hp ws q + 1 ≤ hp ws p from l); omega
  have eg : ws.getD p 0 = ws.getD q 0 := by rw [← (hp_cast W hp').1, ← (hp_cast W hq).1, eh]
  have kp := kk_lt W hp'
  have kq := kk_lt W hq
  have ek : kk ws p = kk ws q := by
    unfold dr at e
    rw [eh] at e kp
    split at e <;> omega
  rcases Nat.lt_trichotomy p q with l | l | l
  · have := kk_lt_kk W l hq eg; omega
  · exact l
  · have := kk_lt_kk W l hp' eg.symm; omega
theorem ord_drawn {h n : Nat} {bs : List Bool} {ws : List Int} (W : Wd h n ws) : Ord n (drawn bs ws) where
  len := by rw [drawn_length, W.len]
  nd := by
    unfold drawn List.Nodup
    rw [List.pairwise_map]
    refine List.Pairwise.imp_of_mem ?_ (List.nodup_range (n := ws.length))
    intro a b ha hb hab e
    have ha' := List.mem_range.mp ha
    have hb' := List.mem_range.mp hb
    rw [W.len] at ha' hb'
    exact hab (dr_inj W ha' hb' (Int.ofNat.inj e))
  bd := by
    intro c hc
    obtain ⟨p, hp', rfl⟩ := List.mem_map.mp hc
    have hp2 := List.mem_range.mp hp'
    rw [W.len] at hp2
    have := dr_lt (bs := bs) W hp2
    omega
/-- the sizes of the heaps -/
def szs (h : Nat) (ws : List Int) : List Int := (List.range h).map fun i => ((cn ws i : Nat) : Int)
theorem szs_length (h : Nat) (ws : List Int) : (szs h ws).length = h := by simp [szs]
/-- the places of the tops -/
def tops (bs : List Bool) (ws : List Int) (i : Nat) : List Int :=
  (List.range bs.length).map fun h => if bs.getD h false = true then ((stt ws h : Nat) : Int) + (cn ws h : Nat) - 1 - ((ws.take i).count ((h : Nat) : Int) : Nat) else ((stt ws h : Nat) : Int) + ((ws.take i).count ((h : Nat) : Int) : Nat)
theorem tops_length (bs : List Bool) (ws : List Int) (i : Nat) : (tops bs ws i).length = bs.length := by simp [tops]
theorem tops_getD {bs : List Bool} {ws : List Int} {i h : Nat} (hh : h < bs.length) : (tops bs ws i).getD h 0 = if bs.getD h false = true then ((stt ws h : Nat) : Int) + (cn ws h : Nat) - 1 - ((ws.take i).count ((h : Nat) : Int) : Nat) else ((stt ws h : Nat) : Int) + ((ws.take i).count ((h : Nat) : Int) : Nat) := by
  simp [tops, List.getD, hh]
theorem tops_dr {n : Nat} {bs : List Bool} {ws : List Int} (W : Wd bs.length n ws) {i : Nat} (hi : i < n) : (tops bs ws i).getD (hp ws i) 0 = ((dr bs ws i : Nat) : Int) := by
  have c := hp_cast W hi
  have k := kk_lt W hi
  rw [tops_getD c.2, c.1]
  unfold dr
  unfold kk at k ⊢
  split <;> omega
theorem take_succ_count {ws : List Int} {i : Nat} (hi : i < ws.length) (x : Int) : (ws.take (i + 1)).count x = (ws.take i).count x + if ws.getD i 0 = x then 1 else 0 := by
  have e : ws.getD i 0 = ws[i] := by simp [List.getD, List.getElem?_eq_getElem hi]
  rw [List.take_succ_eq_append_getElem hi, List.count_append, List.count_cons, List.count_nil, e]
  by_cases h : ws[i] = x
  · simp [h]
  · rw [if_neg (show ¬ ((ws[i] == x) = true) by simpa using h), if_neg h]
theorem tops_succ {n : Nat} {bs : List Bool} {ws : List Int} (W : Wd bs.length n ws) {i : Nat} (hi : i < n) :
    (tops bs ws i).set (hp ws i) (if bs.getD (hp ws i) false = true then (tops bs ws i).getD (hp ws i) 0 - 1 else (tops bs ws i).getD (hp ws i) 0 + 1) = tops bs ws (i + 1) := by
  have c := hp_cast W hi
  have hl : i < ws.length := by rw [W.len]; exact hi
  apply List.ext_getElem?
  intro j
  by_cases hj : j < bs.length
  · have ht : (tops bs ws (i + 1))[j]? = some ((tops bs ws (i + 1)).getD j 0) := by
      rw [List.getElem?_eq_getElem (by rw [tops_length]; exact hj)]
      simp [List.getD, List.getElem?_eq_getElem (show j < (tops bs ws (i + 1)).length by rw [tops_length]; exact hj)]
    rw [ht, tops_getD hj, take_succ_count hl]
    by_cases e : hp ws i = j
    · subst e
      rw [List.getElem?_set_self (by rw [tops_length]; exact hj), tops_getD hj, if_pos c.1.symm]
      congr 1
      split <;> omega
    · rw [List.getElem?_set_ne e]
      have ht : (tops bs ws i)[j]? = some ((tops bs ws i).getD j 0) := by
        rw [List.getElem?_eq_getElem (by rw [tops_length]; exact hj)]
        simp [List.getD, List.getElem?_eq_getElem (show j < (tops bs ws i).length by rw [tops_length]; exact hj)]
      rw [ht, tops_getD hj, if_neg (show ¬ ws.getD i 0 = (j : Int) by rw [← c.1]; omega)]
      rfl
  · rw [List.getElem?_eq_none (by rw [List.length_set, tops_length]; omega), List.getElem?_eq_none (by rw [tops_length]; omega)]
theorem drawn_take {bs : List Bool} {ws : List Int} {i : Nat} : ((List.range (i + 1)).map fun p => ((dr bs ws p : Nat) : Int)) = ((List.range i).map fun p => ((dr bs ws p : Nat) : Int)) ++ [((dr bs ws i : Nat) : Int)] := by
  rw [List.range_succ, List.map_append]; rfl
/-- heap h, cut from the order and turned over where it is to be -/
def hc (bs : List Bool) (ws os : List Int) (h : Nat) : List Int :=
  if bs.getD h false = true then ((os.drop (stt ws h)).take (cn ws h)).reverse else (os.drop (stt ws h)).take (cn ws h)
theorem hc_length {n : Nat} {bs : List Bool} {ws os : List Int} (W : Wd bs.length n ws) (lo : os.length = n) {h : Nat} (hh : h < bs.length) : (hc bs ws os h).length = cn ws h := by
  have m := stt_mono ws (show h + 1 ≤ bs.length from hh)
  rw [stt_all W.bd, W.len, stt] at m
  unfold hc
  split
  · rw [List.length_reverse, List.length_take, List.length_drop]; omega
  · rw [List.length_take, List.length_drop]; omega
theorem hc_get {n : Nat} {bs : List Bool} {ws os : List Int} (W : Wd bs.length n ws) (lo : os.length = n) {i : Nat} (hi : i < n) : (hc bs ws os (hp ws i))[kk ws i]? = some (os.getD (dr bs ws i) 0) := by
  have c := hp_cast W hi
  have k := kk_lt W hi
  have d := dr_lt (bs := bs) W hi
  have m := stt_mono ws (show hp ws i + 1 ≤ bs.length from c.2)
  rw [stt_all W.bd, W.len, stt] at m
  have ed : os[dr bs ws i]? = some (os.getD (dr bs ws i) 0) := by
    rw [List.getElem?_eq_getElem (by omega)]
    simp [List.getD, List.getElem?_eq_getElem (show dr bs ws i < os.length by omega)]
  rw [← ed]
  unfold hc dr
  have hl : ((os.drop (stt ws (hp ws i))).take (cn ws (hp ws i))).length = cn ws (hp ws i) := by rw [List.length_take, List.length_drop]; omega
  split
  · rw [List.getElem?_reverse (by rw [hl]; exact k), hl, List.getElem?_take, if_pos (by omega), List.getElem?_drop]
    congr 1
    omega
  · rw [List.getElem?_take, if_pos k, List.getElem?_drop]
theorem lay_drawn {n : Nat} {bs : List Bool} {ws os : List Int} (W : Wd bs.length n ws) : lay os (drawn bs ws) = (List.range n).map fun p => os.getD (dr bs ws p) 0 := by
  unfold lay drawn
  rw [List.map_map, W.len]
  refine List.map_congr_left fun p _ => ?_
  show os.getD ((dr bs ws p : Nat) : Int).toNat 0 = _
  rw [Int.toNat_natCast]
end M
namespace M
theorem Ord.perm {n : Nat} {a : List Int} (o : Ord n a) : a.Perm (iota n) := by
  rw [List.perm_ext_iff_of_nodup o.nd (iota_nodup n)]
  intro c
  rw [mem_iota]
  exact ⟨o.bd c, fun h => o.has h.1 h.2⟩
theorem lay_id {n : Nat} {a : List Int} (h : a.length = n) : lay a (iota n) = a := by
  unfold lay iota
  rw [List.map_map]
  apply List.ext_getElem?
  intro i
  by_cases hi : i < n
  · rw [List.getElem?_map, List.getElem?_range hi, List.getElem?_eq_getElem (by omega)]
    simp [List.getD, List.getElem?_eq_getElem (show i < a.length by omega)]
  · rw [List.getElem?_eq_none (by simp; omega), List.getElem?_eq_none (by omega)]
theorem lay_back {n : Nat} {a d : List Int} (h : a.length = n) (o : Ord n d) : lay (lay a (plc n d)) d = a := by
  rw [lay_assoc (ord_plc o) o]
  have e := lay_plc (ord_plc o)
  rw [plc_plc o] at e
  rw [e, lay_id h]
theorem lay_forth {n : Nat} {a d : List Int} (h : a.length = n) (o : Ord n d) : lay (lay a d) (plc n d) = a := by
  rw [lay_assoc o (ord_plc o), lay_plc o, lay_id h]
end M
namespace M
/-- the sum of f from h on below a -/
def sm (f : Nat → Nat) (a h : Nat) : Nat := ((List.range (a - h)).map fun j => f (h + j)).sum
theorem sm_stop {f : Nat → Nat} {a h : Nat} (e : a ≤ h) : sm f a h = 0 := by unfold sm; rw [Nat.sub_eq_zero_of_le e]; rfl
theorem sm_step {f : Nat → Nat} {a h : Nat} (e : h < a) : sm f a h = f h + sm f a (h + 1) := by
  unfold sm
  obtain ⟨k, hk⟩ : ∃ k, a - h = k + 1 := ⟨a - h - 1, by omega⟩
  rw [hk, show a - (h + 1) = k by omega, List.range_succ_eq_map, List.map_cons, List.sum_cons, List.map_map, Nat.add_zero]
  congr 2
  refine List.map_congr_left fun j _ => ?_
  show f (h + (j + 1)) = f (h + 1 + j)
  congr 1
  omega
theorem sm_congr {f g : Nat → Nat} {a : Nat} : ∀ {k h : Nat}, a - h = k → (∀ x, h ≤ x → x < a → f x = g x) → sm f a h = sm g a h
  | 0, h, e, _ => by rw [sm_stop (by omega), sm_stop (by omega)]
  | k + 1, h, e, q => by rw [sm_step (f := f) (by omega), sm_step (f := g) (by omega), q h (by omega) (by omega), sm_congr (k := k) (by omega) fun x h1 h2 => q x (by omega) h2]
/-- the least heap for the next card -/
def lf (ab : Bool) (bs : List Bool) (h : Nat) : Nat := if (ab != bs.getD h false) = true then h else h + 1
/-- in how many ways the cards go from heap h on: one flag a card, whether it lies above its next one -/
def wy (bs : List Bool) : List Bool → Nat → Nat
  | [], _ => 1
  | ab :: r, h => sm (fun x => wy bs r (lf ab bs x)) bs.length h
theorem wy_cons (bs : List Bool) (ab : Bool) (r : List Bool) (h : Nat) : wy bs (ab :: r) h = sm (fun x => wy bs r (lf ab bs x)) bs.length h := rfl
theorem wy_stop {bs : List Bool} {ab : Bool} {r : List Bool} {h : Nat} (e : bs.length ≤ h) : wy bs (ab :: r) h = 0 := by rw [wy_cons, sm_stop e]
theorem wy_step {bs : List Bool} {ab : Bool} {r : List Bool} {h : Nat} (e : h < bs.length) : wy bs (ab :: r) h = wy bs r (lf ab bs h) + wy bs (ab :: r) (h + 1) := by rw [wy_cons, sm_step e, wy_cons]
/-- the sums of a column of the numbers of ways to choose -/
theorem stick {e m : Nat} (he : e ≤ m) : ∀ k, sm (fun t => ch (t + e) m) k 0 = ch (k + e) (m + 1)
  | 0 => by rw [sm_stop (Nat.le_refl _), Nat.zero_add, ch_lt (by omega)]
  | k + 1 => by
    have ih := stick he k
    unfold sm at ih ⊢
    rw [Nat.sub_zero] at ih ⊢
    rw [List.range_succ, List.map_append, List.sum_append, ih]
    show _ + (ch (0 + k + e) m + 0) = _
    rw [show k + 1 + e = (k + e) + 1 by omega, ch_ss, Nat.zero_add]
    omega
theorem sm_flip (f : Nat → Nat) : ∀ (k h a : Nat), a - h = k → sm (fun x => f (a - 1 - x)) a h = sm f (a - h) 0
  | 0, h, a, e => by rw [sm_stop (by omega), sm_stop (by omega)]
  | k + 1, h, a, e => by
    rw [sm_step (by omega)]
    have ih := sm_flip f k (h + 1) a (by omega)
    rw [ih]
    unfold sm
    rw [Nat.sub_zero, Nat.sub_zero, show a - h = (a - (h + 1)) + 1 by omega, List.range_succ, List.map_append, List.sum_append]
    show _ = _ + (f (0 + (a - (h + 1))) + 0)
    rw [Nat.zero_add, show a - (h + 1) = a - 1 - h by omega]
    omega
/-- how many flags but the last are t -/
def steps (t : Bool) : List Bool → Nat
  | [] => 0
  | [_] => 0
  | x :: y :: r => (if x = t then 1 else 0) + steps t (y :: r)
theorem steps_le (t : Bool) : ∀ av : List Bool, steps t av ≤ av.length - 1
  | [] => Nat.le_refl _
  | [_] => Nat.le_refl _
  | x :: y :: r => by
    have := steps_le t (y :: r)
    show (if x = t then 1 else 0) + steps t (y :: r) ≤ _
    simp only [List.length_cons] at this ⊢
    split <;> omega
theorem getD_rep {a h : Nat} {t : Bool} (hh : h < a) : (List.replicate a t).getD h false = t := by simp [List.getD, hh]
/-- a heaps of one kind -/
theorem wy_one (a : Nat) (t : Bool) : ∀ (av : List Bool), av ≠ [] → ∀ h, h ≤ a → wy (List.replicate a t) av h = ch ((a - h) + (av.length - 1 - steps t av)) av.length
  | [], q, _, _ => absurd rfl q
  | [x], _, h, hh => by
    rw [wy_cons, List.length_replicate]
    show sm (fun _ => 1) a h = ch ((a - h) + 0) 1
    have e1 : sm (fun _ => 1) a h = a - h := by
      unfold sm
      have : ∀ k, ((List.range k).map fun _ => 1).sum = k := fun k => by
        induction k with
        | zero => rfl
        | succ k ih => rw [List.range_succ, List.map_append, List.sum_append, ih]; rfl
      exact this _
    have e2 : ∀ n, ch n 1 = n := fun n => by
      induction n with
      | zero => rfl
      | succ n ih => rw [ch_ss, ih, ch_zero]; omega
    rw [e1, Nat.add_zero, e2]
  | x :: y :: r, _, h, hh => by
    have hs := steps_le t (y :: r)
    simp only [List.length_cons] at hs
    have ih := wy_one a t (y :: r) (by simp)
    simp only [List.length_cons] at ih ⊢
    rw [wy_cons, List.length_replicate]
    have hst : steps t (x :: y :: r) = (if x = t then 1 else 0) + steps t (y :: r) := rfl
    by_cases hx : x = t
    · have e1 : sm (fun z => wy (List.replicate a t) (y :: r) (lf x (List.replicate a t) z)) a h = sm (fun z => (fun k => ch (k + (r.length - steps t (y :: r))) (r.length + 1)) (a - 1 - z)) a h := by
        refine sm_congr rfl fun z h1 h2 => ?_
        have : lf x (List.replicate a t) z = z + 1 := by unfold lf; rw [getD_rep h2, hx, if_neg (by cases t <;> decide)]
        rw [this, ih (z + 1) (by omega)]
        congr 1
        omega
      rw [e1]
      refine (sm_flip (fun k => ch (k + (r.length - steps t (y :: r))) (r.length + 1)) _ h a rfl).trans ?_
      rw [stick (by omega), hst, if_pos hx]
      congr 1
      omega
    · have e1 : sm (fun z => wy (List.replicate a t) (y :: r) (lf x (List.replicate a t) z)) a h = sm (fun z => (fun k => ch (k + (r.length - steps t (y :: r) + 1)) (r.length + 1)) (a - 1 - z)) a h := by
        refine sm_congr rfl fun z h1 h2 => ?_
        have : lf x (List.replicate a t) z = z := by unfold lf; rw [getD_rep h2, if_pos (by cases x <;> cases t <;> simp_all)]
        rw [this, ih z (by omega)]
        congr 1
        omega
      rw [e1]
      refine (sm_flip (fun k => ch (k + (r.length - steps t (y :: r) + 1)) (r.length + 1)) _ h a rfl).trans ?_
      rw [stick (by omega), hst, if_neg hx]
      congr 1
      omega
/-- whether each card lies above its next one -/
def abv (n : Nat) (ns : List Int) : List Bool := (List.range (n - 1)).map (fun c => decide ((plc n ns).getD c 0 < (plc n ns).getD (c + 1) 0)) ++ [true]
theorem abv_length {n : Nat} (ns : List Int) (h : 1 ≤ n) : (abv n ns).length = n := by simp [abv]; omega
theorem steps_app (t : Bool) : ∀ (l : List Bool) (x : Bool), steps t (l ++ [x]) = (l.filter fun y => decide (y = t)).length
  | [], _ => rfl
  | [y], x => by
    show (if y = t then 1 else 0) + 0 = _
    by_cases e : y = t <;> simp [e]
  | y :: z :: l, x => by
    have ih := steps_app t (z :: l) x
    show (if y = t then 1 else 0) + steps t ((z :: l) ++ [x]) = _
    rw [ih, List.filter_cons (x := y)]
    by_cases e : y = t
    · rw [if_pos e, if_pos (decide_eq_true e), List.length_cons]; omega
    · rw [if_neg e, if_neg (by rw [decide_eq_false e]; decide)]; omega
theorem filter_map_len {α β : Type} (f : α → β) (p : β → Bool) : ∀ l : List α, ((l.map f).filter p).length = (l.filter fun x => p (f x)).length
  | [] => rfl
  | a :: l => by
    rw [List.map_cons, List.filter_cons, List.filter_cons]
    split <;> simp [filter_map_len f p l]
theorem plc_getD {n c : Nat} {ns : List Int} (h : c < n) : (plc n ns).getD c 0 = ((pos ns c : Nat) : Int) := by
  rw [List.getD, plc_get h]; rfl
theorem pos_ne_succ {n : Nat} {ns : List Int} (o : Ord n ns) {c : Nat} (h : c + 1 < n) : pos ns c ≠ pos ns (c + 1) := fun e => by
  have h1 := getElem_idx o (c := (c : Int)) (by omega) (by omega)
  have h2 := getElem_idx o (c := ((c + 1 : Nat) : Int)) (by omega) (by omega)
  unfold pos at e
  rw [e, h2] at h1
  have := Option.some.inj h1
  omega
/-- the falls among the places are the cards that lie below their next ones -/
theorem steps_false {n : Nat} {ns : List Int} (o : Ord n ns) : steps false (abv n ns) = flN (plc n ns) := by
  unfold abv
  rw [steps_app, filter_map_len, flN_plc]
  show cnt (n - 1) _ = _
  refine cnt_congr fun c hc => ?_
  rw [plc_getD (by omega), plc_getD (by omega)]
  have := pos_ne_succ o (c := c) (by omega)
  unfold dsc
  by_cases q : pos ns (c + 1) < pos ns c
  · rw [decide_eq_true q, decide_eq_false (show ¬ ((pos ns c : Nat) : Int) < ((pos ns (c + 1) : Nat) : Int) by omega)]; rfl
  · rw [decide_eq_false q, decide_eq_true (show ((pos ns c : Nat) : Int) < ((pos ns (c + 1) : Nat) : Int) by omega)]; rfl
end M
namespace M
/-- how heap g of b is counted behind a heap that is turned or not -/
def see (t : Bool) (b g : Nat) : Nat := if t = true then b - 1 - g else g
def jm (ms os : List Bool) : List Bool := (List.range (ms.length * os.length)).map fun h => (ms.getD (h / os.length) false) != (os.getD (see (ms.getD (h / os.length) false) os.length (h % os.length)) false)
theorem jm_length (ms os : List Bool) : (jm ms os).length = ms.length * os.length := by simp [jm]
def row (os : List Bool) (m : Bool) : List Bool := (if m = true then os.reverse else os).map fun o => (m != o)
def jd (ms os : List Bool) : List Bool := ms.flatMap (row os)
end M
namespace M
theorem kk_iff {h n : Nat} {ws : List Int} (W : Wd h n ws) {p q : Nat} (hp' : p < n) (hq : q < n) (e : hp ws p = hp ws q) : kk ws p < kk ws q ↔ p < q := by
  have eg : ws.getD p 0 = ws.getD q 0 := by rw [← (hp_cast W hp').1, ← (hp_cast W hq).1, e]
  constructor
  · intro l
    rcases Nat.lt_trichotomy p q with z | z | z
    · exact z
    · subst z; omega
    · have := kk_lt_kk W z hp' eg.symm; omega
  · intro l
    exact kk_lt_kk W l hq eg
/-- how the places that are drawn from lie to one another -/
theorem dr_iff {h n : Nat} {bs : List Bool} {ws : List Int} (W : Wd h n ws) {p q : Nat} (hp' : p < n) (hq : q < n) :
    dr bs ws p < dr bs ws q ↔ hp ws p < hp ws q ∨ (hp ws p = hp ws q ∧ (if bs.getD (hp ws p) false = true then q < p else p < q)) := by
  have bp := dr_bd (bs := bs) W hp'
  have bq := dr_bd (bs := bs) W hq
  rcases Nat.lt_trichotomy (hp ws p) (hp ws q) with l | l | l
  · have := stt_mono ws (show hp ws p + 1 ≤ hp ws q from l)
    constructor
    · intro _; exact .inl l
    · intro _; omega
  · have k1 := kk_iff W hp' hq l
    have k2 := kk_iff W hq hp' l.symm
    have kp := kk_lt W hp'
    have kq := kk_lt W hq
    unfold dr
    rw [l] at kp ⊢
    split
    · constructor
      · intro z; exact .inr ⟨rfl, k2.mp (by omega)⟩
      · rintro (z | ⟨_, z⟩)
        · omega
        · have := k2.mpr z; omega
    · constructor
      · intro z; exact .inr ⟨rfl, k1.mp (by omega)⟩
      · rintro (z | ⟨_, z⟩)
        · omega
        · have := k1.mpr z; omega
  · have := stt_mono ws (show hp ws q + 1 ≤ hp ws p from l)
    constructor
    · intro z; omega
    · rintro (z | ⟨z, _⟩) <;> omega
theorem cnt_getD {n : Nat} {a : List Int} (h : a.length = n) (P : Int → Bool) : cnt n (fun q => P (a.getD q 0)) = (a.filter P).length := by
  have e : a = (List.range n).map fun q => a.getD q 0 := by
    apply List.ext_getElem?
    intro i
    by_cases hi : i < n
    · rw [List.getElem?_map, List.getElem?_range hi, List.getElem?_eq_getElem (by omega)]
      simp [List.getD, List.getElem?_eq_getElem (show i < a.length by omega)]
    · rw [List.getElem?_eq_none (by omega), List.getElem?_eq_none (by simp; omega)]
  have e2 : (a.filter P).length = (((List.range n).map fun q => a.getD q 0).filter P).length := by rw [← e]
  rw [e2]
  unfold cnt
  induction List.range n with
  | nil => rfl
  | cons x l ih =>
    rw [List.map_cons, List.filter_cons, List.filter_cons]
    split
    · rw [List.length_cons, List.length_cons, ih]
    · exact ih
theorem iota_below (n : Nat) : ∀ c : Nat, c ≤ n → ((iota n).filter fun x => decide (x < (c : Int))).length = c := by
  induction n with
  | zero => intro c h; have : c = 0 := by omega
            subst this; rfl
  | succ n ih =>
    intro c h
    unfold iota at ih ⊢
    rw [List.range_succ, List.map_append, List.filter_append, List.length_append]
    by_cases e : c = n + 1
    · subst e
      have : ((List.range n).map (fun i => ((i : Nat) : Int))).filter (fun x => decide (x < ((n + 1 : Nat) : Int))) = (List.range n).map (fun i => ((i : Nat) : Int)) := by
        rw [List.filter_eq_self]
        intro x hx
        obtain ⟨i, hi, rfl⟩ := List.mem_map.mp hx
        have := List.mem_range.mp hi
        simp
        omega
      have h1 : (([n].map fun i => ((i : Nat) : Int)).filter fun x => decide (x < ((n + 1 : Nat) : Int))) = [((n : Nat) : Int)] := by
        show List.filter _ [((n : Nat) : Int)] = _
        rw [List.filter_cons, if_pos (by rw [decide_eq_true_eq]; omega)]
        rfl
      rw [this, h1, List.length_map, List.length_range]
      rfl
    · rw [ih c (by omega)]
      have : ([n].map (fun i => ((i : Nat) : Int))).filter (fun x => decide (x < (c : Int))) = [] := by
        simp
        omega
      rw [this]
      rfl
theorem ord_rank {n : Nat} {a : List Int} (o : Ord n a) {p : Nat} (h : p < n) : a.getD p 0 = ((cnt n fun q => decide (a.getD q 0 < a.getD p 0) : Nat) : Int) := by
  have b := o.getD_bd h
  rw [cnt_getD o.len (fun x => decide (x < a.getD p 0)), (o.perm.filter _).length_eq]
  have := iota_below n (a.getD p 0).toNat (by omega)
  rw [show (((a.getD p 0).toNat : Nat) : Int) = a.getD p 0 by omega] at this
  omega
/-- an order is told by how its cards lie to one another -/
theorem ord_same {n : Nat} {a b : List Int} (oa : Ord n a) (ob : Ord n b) (h : ∀ p q, p < n → q < n → (a.getD p 0 < a.getD q 0 ↔ b.getD p 0 < b.getD q 0)) : a = b := by
  apply List.ext_getElem?
  intro i
  by_cases hi : i < n
  · have ea : a[i]? = some (a.getD i 0) := by
      rw [List.getElem?_eq_getElem (by rw [oa.len]; exact hi)]
      simp [List.getD, List.getElem?_eq_getElem (show i < a.length by rw [oa.len]; exact hi)]
    have eb : b[i]? = some (b.getD i 0) := by
      rw [List.getElem?_eq_getElem (by rw [ob.len]; exact hi)]
      simp [List.getD, List.getElem?_eq_getElem (show i < b.length by rw [ob.len]; exact hi)]
    rw [ea, eb, ord_rank oa hi, ord_rank ob hi]
    congr 2
    refine cnt_congr fun q hq => ?_
    have := h q i hq hi
    by_cases z : a.getD q 0 < a.getD i 0
    · rw [decide_eq_true z, decide_eq_true (this.mp z)]
    · rw [decide_eq_false z, decide_eq_false fun w => z (this.mpr w)]
  · rw [List.getElem?_eq_none (by rw [oa.len]; omega), List.getElem?_eq_none (by rw [ob.len]; omega)]
theorem drawn_getD {n h : Nat} {bs : List Bool} {ws : List Int} (W : Wd h n ws) {p : Nat} (hp' : p < n) : (drawn bs ws).getD p 0 = ((dr bs ws p : Nat) : Int) := by
  have : p < ws.length := by rw [W.len]; exact hp'
  simp [drawn, List.getD, this]
/-- the joined word -/
def jw (ms os : List Bool) (w1 w2 : List Int) : List Int :=
  (List.range w2.length).map fun p => (((hp w1 (dr os w2 p)) * os.length + see (ms.getD (hp w1 (dr os w2 p)) false) os.length (hp w2 p) : Nat) : Int)
theorem jw_length (ms os : List Bool) (w1 w2 : List Int) : (jw ms os w1 w2).length = w2.length := by simp [jw]
theorem see_lt {t : Bool} {b g : Nat} (h : g < b) : see t b g < b := by unfold see; split <;> omega
theorem see_see {t : Bool} {b g : Nat} (h : g < b) : see t b (see t b g) = g := by unfold see; split <;> omega
theorem jw_hp {n : Nat} {ms os : List Bool} {w1 w2 : List Int} (W2 : Wd os.length n w2) {p : Nat} (h : p < n) : hp (jw ms os w1 w2) p = (hp w1 (dr os w2 p)) * os.length + see (ms.getD (hp w1 (dr os w2 p)) false) os.length (hp w2 p) := by
  have : p < w2.length := by rw [W2.len]; exact h
  unfold hp
  have e : (jw ms os w1 w2).getD p 0 = (((hp w1 (dr os w2 p)) * os.length + see (ms.getD (hp w1 (dr os w2 p)) false) os.length (hp w2 p) : Nat) : Int) := by
    simp [jw, List.getD, this]
  rw [e, Int.toNat_natCast]
  rfl
theorem jw_wd {n : Nat} {ms os : List Bool} {w1 w2 : List Int} (W1 : Wd ms.length n w1) (W2 : Wd os.length n w2) : Wd (ms.length * os.length) n (jw ms os w1 w2) where
  len := by rw [jw_length, W2.len]
  bd := by
    intro x hx
    obtain ⟨p, hp', rfl⟩ := List.mem_map.mp hx
    have hp2 := List.mem_range.mp hp'
    rw [W2.len] at hp2
    have c1 := (hp_cast W1 (dr_lt (bs := os) W2 hp2)).2
    have c2 := (hp_cast W2 hp2).2
    have s := see_lt (t := ms.getD (hp w1 (dr os w2 p)) false) c2
    refine ⟨Int.natCast_nonneg _, Int.ofNat_lt.mpr ?_⟩
    calc hp w1 (dr os w2 p) * os.length + see (ms.getD (hp w1 (dr os w2 p)) false) os.length (hp w2 p)
        < hp w1 (dr os w2 p) * os.length + os.length := by omega
      _ = (hp w1 (dr os w2 p) + 1) * os.length := by rw [Nat.succ_mul]
      _ ≤ ms.length * os.length := Nat.mul_le_mul_right _ c1
theorem pair_lt {a a' b g g' : Nat} (h : g < b) (h' : g' < b) : a * b + g < a' * b + g' ↔ a < a' ∨ (a = a' ∧ g < g') := by
  rcases Nat.lt_trichotomy a a' with l | l | l
  · have : (a + 1) * b ≤ a' * b := Nat.mul_le_mul_right _ l
    rw [Nat.succ_mul] at this
    constructor
    · intro _; exact .inl l
    · intro _; omega
  · subst l
    constructor
    · intro z; exact .inr ⟨rfl, by omega⟩
    · rintro (z | ⟨_, z⟩) <;> omega
  · have : (a' + 1) * b ≤ a * b := Nat.mul_le_mul_right _ l
    rw [Nat.succ_mul] at this
    constructor
    · intro z; omega
    · rintro (z | ⟨z, _⟩) <;> omega
theorem pair_eq {a a' b g g' : Nat} (h : g < b) (h' : g' < b) : a * b + g = a' * b + g' ↔ a = a' ∧ g = g' := by
  constructor
  · intro e
    have l1 := pair_lt (a := a) (a' := a') h h'
    have l2 := pair_lt (a := a') (a' := a) h' h
    have n1 : ¬ (a < a' ∨ (a = a' ∧ g < g')) := fun z => by have := l1.mpr z; omega
    have n2 : ¬ (a' < a ∨ (a' = a ∧ g' < g)) := fun z => by have := l2.mpr z; omega
    constructor <;> omega
  · rintro ⟨rfl, rfl⟩; rfl
theorem jm_at {ms os : List Bool} {a g : Nat} (ha : a < ms.length) (hg : g < os.length) : (jm ms os).getD (a * os.length + see (ms.getD a false) os.length g) false = (ms.getD a false != os.getD g false) := by
  have s := see_lt (t := ms.getD a false) hg
  have hlt : a * os.length + see (ms.getD a false) os.length g < ms.length * os.length := by
    calc a * os.length + see (ms.getD a false) os.length g < a * os.length + os.length := by omega
      _ = (a + 1) * os.length := by rw [Nat.succ_mul]
      _ ≤ ms.length * os.length := Nat.mul_le_mul_right _ ha
  have hd : (a * os.length + see (ms.getD a false) os.length g) / os.length = a := by
    rw [Nat.mul_comm, Nat.mul_add_div (by omega), Nat.div_eq_of_lt s]; omega
  have hm : (a * os.length + see (ms.getD a false) os.length g) % os.length = see (ms.getD a false) os.length g := by
    rw [Nat.mul_comm, Nat.mul_add_mod, Nat.mod_eq_of_lt s]
  unfold jm
  rw [List.getD, List.getElem?_map, List.getElem?_range hlt, Option.map_some, Option.getD_some, hd, hm, see_see hg]
/-- two riffles, one behind the other, draw as the joined one does -/
theorem drawn_joined {n : Nat} {ms os : List Bool} {w1 w2 : List Int} (W1 : Wd ms.length n w1) (W2 : Wd os.length n w2) : drawn (jm ms os) (jw ms os w1 w2) = lay (drawn ms w1) (drawn os w2) := by
  have WJ := jw_wd W1 W2
  refine ord_same (ord_drawn WJ) (ord_lay (ord_drawn W1) (ord_drawn W2)) fun p q hp' hq => ?_
  rw [drawn_getD WJ hp', drawn_getD WJ hq]
  rw [lay_getD (by rw [drawn_length, W2.len]; exact hp'), lay_getD (by rw [drawn_length, W2.len]; exact hq), drawn_getD W2 hp', drawn_getD W2 hq, Int.toNat_natCast, Int.toNat_natCast]
  have x := dr_lt (bs := os) W2 hp'
  have y := dr_lt (bs := os) W2 hq
  rw [drawn_getD W1 x, drawn_getD W1 y]
  have i1 := dr_iff (bs := ms) W1 x y
  have i2 := dr_iff (bs := os) W2 hp' hq
  have i2' := dr_iff (bs := os) W2 hq hp'
  have iJ := dr_iff (bs := jm ms os) WJ hp' hq
  have inj := fun e => dr_inj (bs := os) W2 hp' hq e
  have c1p := (hp_cast W1 x).2
  have c1q := (hp_cast W1 y).2
  have c2p := (hp_cast W2 hp').2
  have c2q := (hp_cast W2 hq).2
  rw [jw_hp W2 hp', jw_hp W2 hq] at iJ
  rw [jm_at c1p c2p] at iJ
  have sp := see_lt (t := ms.getD (hp w1 (dr os w2 p)) false) c2p
  have sq := see_lt (t := ms.getD (hp w1 (dr os w2 q)) false) c2q
  rw [pair_lt sp sq, pair_eq sp sq] at iJ
  generalize hp w1 (dr os w2 p) = a at *
  generalize hp w1 (dr os w2 q) = a' at *
  generalize hp w2 p = g at *
  generalize hp w2 q = g' at *
  generalize dr os w2 p = X at *
  generalize dr os w2 q = Y at *
  generalize dr ms w1 X = D at *
  generalize dr ms w1 Y = D' at *
  generalize dr (jm ms os) (jw ms os w1 w2) p = J at *
  generalize dr (jm ms os) (jw ms os w1 w2) q = J' at *
  have main : J < J' ↔ D < D' := by
    rw [iJ, i1]
    by_cases ea : a = a'
    · subst ea
      generalize ms.getD a false = t at *
      by_cases eg : g = g'
      · subst eg
        generalize os.getD g false = u at *
        unfold see
        cases t <;> cases u <;> simp at i2 i2' ⊢ <;> omega
      · have : see t os.length g ≠ see t os.length g' := by unfold see; split <;> omega
        have i3 : X < Y ↔ g < g' := by rw [i2]; constructor
                                       · rintro (z | ⟨z, _⟩)
                                         · exact z
                                         · exact absurd z eg
                                       · exact .inl
        have i3' : Y < X ↔ g' < g := by rw [i2']; constructor
                                        · rintro (z | ⟨z, _⟩)
                                          · exact z
                                          · exact absurd z.symm eg
                                        · exact .inl
        unfold see at this ⊢
        cases t <;> simp at this ⊢ <;> omega
    · simp [ea]
  omega
end M
namespace M
theorem wy_anti {bs : List Bool} {ab : Bool} {r : List Bool} : ∀ {k h h' : Nat}, h' - h = k → h ≤ h' → wy bs (ab :: r) h' ≤ wy bs (ab :: r) h
  | 0, h, h', e, l => by have : h = h' := by omega
                         subst this; exact Nat.le_refl _
  | k + 1, h, h', e, l => by
    have ih := wy_anti (bs := bs) (ab := ab) (r := r) (k := k) (h := h + 1) (h' := h') (by omega) (by omega)
    by_cases q : h < bs.length
    · rw [wy_step q]; omega
    · rw [wy_stop (h := h') (by omega)]; exact Nat.zero_le _
/-- the first h from there on that has P -/
def fnd (P : Nat → Bool) : Nat → Nat → Nat
  | 0, h => h
  | k + 1, h => if P h = true then h else fnd P k (h + 1)
theorem fnd_spec {P : Nat → Bool} : ∀ {k h x : Nat}, h ≤ x → x < h + k → P x = true → h ≤ fnd P k h ∧ fnd P k h < h + k ∧ P (fnd P k h) = true ∧ ∀ y, h ≤ y → y < fnd P k h → P y = false
  | 0, h, x, h1, h2, _ => by omega
  | k + 1, h, x, h1, h2, hp => by
    unfold fnd
    by_cases q : P h = true
    · rw [if_pos q]
      exact ⟨Nat.le_refl _, by omega, q, fun y a b => by omega⟩
    · rw [if_neg q]
      have hx : h + 1 ≤ x := by
        rcases Nat.lt_or_ge h x with z | z
        · exact z
        · have : h = x := by omega
          subst this
          exact absurd hp q
      obtain ⟨a, b, c, d⟩ := fnd_spec (P := P) (k := k) (h := h + 1) hx (by omega) hp
      refine ⟨by omega, by omega, c, fun y y1 y2 => ?_⟩
      by_cases z : y = h
      · subst z; exact Bool.eq_false_iff.mpr q
      · exact d y (by omega) y2
/-- the heap of the next card, of the way of number k from heap l on -/
def nxt (bs av : List Bool) (l k : Nat) : Nat := fnd (fun h => decide (k < wy bs av l - wy bs av (h + 1))) (bs.length - l) l
theorem nxt_spec {bs : List Bool} {ab : Bool} {r : List Bool} {l k : Nat} (h : k < wy bs (ab :: r) l) :
    l ≤ nxt bs (ab :: r) l k ∧ nxt bs (ab :: r) l k < bs.length ∧ wy bs (ab :: r) l - wy bs (ab :: r) (nxt bs (ab :: r) l k) ≤ k ∧ k < wy bs (ab :: r) l - wy bs (ab :: r) (nxt bs (ab :: r) l k + 1) := by
  have hl : l < bs.length := by
    rcases Nat.lt_or_ge l bs.length with z | z
    · exact z
    · rw [wy_stop z] at h; omega
  have hp : (fun h => decide (k < wy bs (ab :: r) l - wy bs (ab :: r) (h + 1))) (bs.length - 1) = true := by
    show decide _ = true
    rw [decide_eq_true_eq, wy_stop (h := bs.length - 1 + 1) (by omega)]
    omega
  obtain ⟨a, b, c, d⟩ := fnd_spec (P := fun h => decide (k < wy bs (ab :: r) l - wy bs (ab :: r) (h + 1))) (k := bs.length - l) (h := l) (x := bs.length - 1) (by omega) (by omega) hp
  have e : fnd (fun h => decide (k < wy bs (ab :: r) l - wy bs (ab :: r) (h + 1))) (bs.length - l) l = nxt bs (ab :: r) l k := rfl
  rw [e] at a b c d
  refine ⟨a, by omega, ?_, by simpa using c⟩
  by_cases z : nxt bs (ab :: r) l k = l
  · rw [z]; omega
  · have := d (nxt bs (ab :: r) l k - 1) (by omega) (by omega)
    rw [decide_eq_false_iff_not, show nxt bs (ab :: r) l k - 1 + 1 = nxt bs (ab :: r) l k by omega] at this
    omega
/-- the heaps of the cards, of the way of number k -/
def wayH (bs : List Bool) : List Bool → Nat → Nat → List Nat
  | [], _, _ => []
  | ab :: r, l, k => nxt bs (ab :: r) l k :: wayH bs r (lf ab bs (nxt bs (ab :: r) l k)) (k - (wy bs (ab :: r) l - wy bs (ab :: r) (nxt bs (ab :: r) l k)))
theorem wayH_length (bs : List Bool) : ∀ (av : List Bool) (l k : Nat), (wayH bs av l k).length = av.length
  | [], _, _ => rfl
  | ab :: r, l, k => by show (wayH bs r _ _).length + 1 = _; rw [wayH_length bs r]; rfl
theorem left_lt {bs : List Bool} {ab : Bool} {r : List Bool} {l k : Nat} (h : k < wy bs (ab :: r) l) :
    k - (wy bs (ab :: r) l - wy bs (ab :: r) (nxt bs (ab :: r) l k)) < wy bs r (lf ab bs (nxt bs (ab :: r) l k)) := by
  obtain ⟨a, b, c, d⟩ := nxt_spec h
  have st := wy_step (bs := bs) (ab := ab) (r := r) b
  have an := wy_anti (bs := bs) (ab := ab) (r := r) rfl a
  omega
/-- heaps card by card that make a way -/
def Gd (bs : List Bool) : List Bool → Nat → List Nat → Prop
  | [], _, [] => True
  | ab :: r, l, h :: t => l ≤ h ∧ h < bs.length ∧ Gd bs r (lf ab bs h) t
  | _, _, _ => False
theorem gd_way (bs : List Bool) : ∀ (av : List Bool) (l k : Nat), k < wy bs av l → Gd bs av l (wayH bs av l k)
  | [], _, _, _ => True.intro
  | ab :: r, l, k, h => by
    obtain ⟨a, b, c, d⟩ := nxt_spec h
    exact ⟨a, b, gd_way bs r _ _ (left_lt h)⟩
theorem gd_len {bs : List Bool} : ∀ {av : List Bool} {l : Nat} {hs : List Nat}, Gd bs av l hs → hs.length = av.length
  | [], _, [], _ => rfl
  | ab :: r, l, h :: t, g => by show t.length + 1 = r.length + 1; rw [gd_len g.2.2]
  | [], _, _ :: _, g => g.elim
  | _ :: _, _, [], g => g.elim
theorem gd_lt {bs : List Bool} : ∀ {av : List Bool} {l : Nat} {hs : List Nat}, Gd bs av l hs → ∀ h ∈ hs, h < bs.length
  | [], _, [], _, h, hh => by cases hh
  | ab :: r, l, x :: t, g, h, hh => by
    rcases List.mem_cons.mp hh with rfl | hh
    · exact g.2.1
    · exact gd_lt g.2.2 h hh
  | [], _, _ :: _, g, _, _ => g.elim
  | _ :: _, _, [], g, _, _ => g.elim
theorem gd_step {bs : List Bool} : ∀ {av : List Bool} {l : Nat} {hs : List Nat}, Gd bs av l hs → ∀ c, c + 1 < av.length → lf (av.getD c false) bs (hs.getD c 0) ≤ hs.getD (c + 1) 0
  | [], _, [], _, c, hc => by simp at hc
  | [_], _, _ :: _, g, c, hc => by simp at hc
  | x :: y :: r, l, h :: h2 :: t, g, c, hc => by
    cases c with
    | zero => exact g.2.2.1
    | succ c => exact gd_step g.2.2 c (by simp at hc ⊢; omega)
  | _ :: _ :: _, _, [_], g, _, _ => g.2.2.elim
  | [], _, _ :: _, g, _, _ => g.elim
  | _ :: _, _, [], g, _, _ => g.elim
theorem gd_of {bs : List Bool} : ∀ {av : List Bool} {l : Nat} {hs : List Nat}, hs.length = av.length → (∀ h ∈ hs, h < bs.length) → (∀ c, c + 1 < av.length → lf (av.getD c false) bs (hs.getD c 0) ≤ hs.getD (c + 1) 0) → (av ≠ [] → l ≤ hs.getD 0 0) → Gd bs av l hs
  | [], _, [], _, _, _, _ => True.intro
  | [], _, _ :: _, e, _, _, _ => by simp at e
  | _ :: _, _, [], e, _, _, _ => by simp at e
  | ab :: r, l, h :: t, e, b, s, z => by
    refine ⟨z (by simp), b h (by simp), gd_of (by simpa using e) (fun x hx => b x (by simp [hx])) (fun c hc => ?_) fun hr => ?_⟩
    · exact s (c + 1) (by simp at hc ⊢; omega)
    · cases r with
      | nil => exact absurd rfl hr
      | cons y r => exact s 0 (by simp)
/-- the number of a way -/
def num (bs : List Bool) : List Bool → Nat → List Nat → Nat
  | ab :: r, l, h :: t => (wy bs (ab :: r) l - wy bs (ab :: r) h) + num bs r (lf ab bs h) t
  | _, _, _ => 0
theorem num_lt {bs : List Bool} : ∀ {av : List Bool} {l : Nat} {hs : List Nat}, Gd bs av l hs → num bs av l hs < wy bs av l
  | [], _, [], _ => Nat.one_pos
  | ab :: r, l, h :: t, g => by
    have ih := num_lt g.2.2
    have st := wy_step (bs := bs) (ab := ab) (r := r) g.2.1
    have an := wy_anti (bs := bs) (ab := ab) (r := r) rfl g.1
    show (wy bs (ab :: r) l - wy bs (ab :: r) h) + num bs r (lf ab bs h) t < _
    omega
  | [], _, _ :: _, g => g.elim
  | _ :: _, _, [], g => g.elim
theorem nxt_uniq {bs : List Bool} {ab : Bool} {r : List Bool} {l k h : Nat} (g1 : l ≤ h) (g2 : h < bs.length) (g3 : wy bs (ab :: r) l - wy bs (ab :: r) h ≤ k) (g4 : k < wy bs (ab :: r) l - wy bs (ab :: r) (h + 1)) : nxt bs (ab :: r) l k = h := by
  have hk : k < wy bs (ab :: r) l := by omega
  obtain ⟨a, b, c, d⟩ := nxt_spec hk
  rcases Nat.lt_trichotomy (nxt bs (ab :: r) l k) h with z | z | z
  · have an := wy_anti (bs := bs) (ab := ab) (r := r) rfl (show nxt bs (ab :: r) l k + 1 ≤ h from z)
    omega
  · exact z
  · have an := wy_anti (bs := bs) (ab := ab) (r := r) rfl (show h + 1 ≤ nxt bs (ab :: r) l k from z)
    omega
theorem way_num {bs : List Bool} : ∀ {av : List Bool} {l : Nat} {hs : List Nat}, Gd bs av l hs → wayH bs av l (num bs av l hs) = hs
  | [], _, [], _ => rfl
  | ab :: r, l, h :: t, g => by
    have lt := num_lt g.2.2
    have st := wy_step (bs := bs) (ab := ab) (r := r) g.2.1
    have an := wy_anti (bs := bs) (ab := ab) (r := r) rfl g.1
    have e : nxt bs (ab :: r) l (num bs (ab :: r) l (h :: t)) = h := by
      refine nxt_uniq g.1 g.2.1 ?_ ?_
      · show _ ≤ (wy bs (ab :: r) l - wy bs (ab :: r) h) + num bs r (lf ab bs h) t; omega
      · show (wy bs (ab :: r) l - wy bs (ab :: r) h) + num bs r (lf ab bs h) t < _; omega
    show nxt bs (ab :: r) l (num bs (ab :: r) l (h :: t)) :: wayH bs r (lf ab bs (nxt bs (ab :: r) l (num bs (ab :: r) l (h :: t)))) (num bs (ab :: r) l (h :: t) - (wy bs (ab :: r) l - wy bs (ab :: r) (nxt bs (ab :: r) l (num bs (ab :: r) l (h :: t))))) = _
    rw [e]
    congr 1
    have e2 : num bs (ab :: r) l (h :: t) - (wy bs (ab :: r) l - wy bs (ab :: r) h) = num bs r (lf ab bs h) t := by
      show (wy bs (ab :: r) l - wy bs (ab :: r) h) + num bs r (lf ab bs h) t - _ = _
      omega
    rw [e2]
    exact way_num g.2.2
  | [], _, _ :: _, g => g.elim
  | _ :: _, _, [], g => g.elim
theorem num_way (bs : List Bool) : ∀ (av : List Bool) (l k : Nat), k < wy bs av l → num bs av l (wayH bs av l k) = k
  | [], _, k, h => by have : k = 0 := by have h : k < 1 := h; omega
                      subst this; rfl
  | ab :: r, l, k, h => by
    obtain ⟨a, b, c, d⟩ := nxt_spec h
    have ih := num_way bs r _ _ (left_lt h)
    show (wy bs (ab :: r) l - wy bs (ab :: r) (nxt bs (ab :: r) l k)) + num bs r _ (wayH bs r _ _) = k
    rw [ih]
    omega
end M
namespace M
/-- the word that has the heaps by cards -/
def wo (ns : List Int) (hs : List Nat) : List Int := ns.map fun c => ((hs.getD c.toNat 0 : Nat) : Int)
theorem wo_length (ns : List Int) (hs : List Nat) : (wo ns hs).length = ns.length := by simp [wo]
theorem wo_getD {ns : List Int} {hs : List Nat} {p : Nat} (h : p < ns.length) : (wo ns hs).getD p 0 = ((hs.getD (ns.getD p 0).toNat 0 : Nat) : Int) := by
  simp [wo, List.getD, h]
theorem wo_hp {ns : List Int} {hs : List Nat} {p : Nat} (h : p < ns.length) : hp (wo ns hs) p = hs.getD (ns.getD p 0).toNat 0 := by
  unfold hp
  rw [wo_getD h, Int.toNat_natCast]
theorem wo_wd {n : Nat} {bs : List Bool} {ns : List Int} {hs : List Nat} (o : Ord n ns) (hl : hs.length = n) (hb : ∀ h ∈ hs, h < bs.length) : Wd bs.length n (wo ns hs) where
  len := by rw [wo_length, o.len]
  bd := by
    intro x hx
    obtain ⟨c, hc, rfl⟩ := List.mem_map.mp hx
    have b := o.bd c hc
    have hlt : c.toNat < hs.length := by omega
    have e : hs.getD c.toNat 0 = hs[c.toNat] := by simp [List.getD, List.getElem?_eq_getElem hlt]
    have := hb _ (List.getElem_mem hlt)
    rw [e]
    omega
theorem abv_getD {n c : Nat} {ns : List Int} (h : c + 1 < n) : (abv n ns).getD c false = decide (pos ns c < pos ns (c + 1)) := by
  unfold abv
  rw [List.getD, List.getElem?_append_left (by simp; omega), List.getElem?_map, List.getElem?_range (by omega), Option.map_some, Option.getD_some, plc_getD (by omega), plc_getD (by omega)]
  by_cases q : pos ns c < pos ns (c + 1)
  · rw [decide_eq_true q, decide_eq_true (by omega)]
  · rw [decide_eq_false q, decide_eq_false (by omega)]
theorem step_in {n : Nat} {bs : List Bool} {ns : List Int} {hs : List Nat} (o : Ord n ns) (h1 : 1 ≤ n) (g : Gd bs (abv n ns) 0 hs) {c : Nat} (hc : c + 1 < n) :
    hs.getD c 0 ≤ hs.getD (c + 1) 0 ∧ (hs.getD c 0 = hs.getD (c + 1) 0 → (bs.getD (hs.getD c 0) false = false → pos ns c < pos ns (c + 1)) ∧ (bs.getD (hs.getD c 0) false = true → pos ns (c + 1) < pos ns c)) := by
  have s := gd_step g c (by rw [abv_length ns h1]; exact hc)
  rw [abv_getD hc] at s
  have ne := pos_ne_succ o hc
  unfold lf at s
  by_cases q : pos ns c < pos ns (c + 1)
  · rw [decide_eq_true q] at s
    cases hb : bs.getD (hs.getD c 0) false
    · rw [hb, if_pos (by decide)] at s
      exact ⟨s, fun _ => ⟨fun _ => q, fun z => (by cases z)⟩⟩
    · rw [hb, if_neg (by decide)] at s
      exact ⟨by omega, fun z => by omega⟩
  · rw [decide_eq_false q] at s
    cases hb : bs.getD (hs.getD c 0) false
    · rw [hb, if_neg (by decide)] at s
      exact ⟨by omega, fun z => by omega⟩
    · rw [hb, if_pos (by decide)] at s
      exact ⟨s, fun _ => ⟨fun z => (by cases z), fun _ => by omega⟩⟩
theorem chain_in {n : Nat} {bs : List Bool} {ns : List Int} {hs : List Nat} (o : Ord n ns) (h1 : 1 ≤ n) (g : Gd bs (abv n ns) 0 hs) {c : Nat} : ∀ {e : Nat}, c + (e + 1) < n →
    hs.getD c 0 ≤ hs.getD (c + (e + 1)) 0 ∧ (hs.getD c 0 = hs.getD (c + (e + 1)) 0 → (bs.getD (hs.getD c 0) false = false → pos ns c < pos ns (c + (e + 1))) ∧ (bs.getD (hs.getD c 0) false = true → pos ns (c + (e + 1)) < pos ns c))
  | 0, he => step_in o h1 g he
  | e + 1, he => by
    obtain ⟨a1, a2⟩ := chain_in o h1 g (c := c) (e := e) (by omega)
    obtain ⟨b1, b2⟩ := step_in o h1 g (c := c + (e + 1)) (by omega)
    rw [show c + (e + 1 + 1) = c + (e + 1) + 1 by omega]
    refine ⟨by omega, fun z => ?_⟩
    have z1 : hs.getD c 0 = hs.getD (c + (e + 1)) 0 := by omega
    obtain ⟨p1, p2⟩ := a2 z1
    obtain ⟨q1, q2⟩ := b2 (by omega)
    rw [← z1] at q1 q2
    exact ⟨fun w => by have := p1 w; have := q1 w; omega, fun w => by have := p2 w; have := q2 w; omega⟩
theorem both_in {n : Nat} {bs : List Bool} {ns : List Int} {hs : List Nat} (o : Ord n ns) (h1 : 1 ≤ n) (g : Gd bs (abv n ns) 0 hs) {c d : Nat} (hcd : c < d) (hd : d < n) :
    hs.getD c 0 ≤ hs.getD d 0 ∧ (hs.getD c 0 = hs.getD d 0 → (bs.getD (hs.getD c 0) false = false → pos ns c < pos ns d) ∧ (bs.getD (hs.getD c 0) false = true → pos ns d < pos ns c)) := by
  obtain ⟨e, rfl⟩ : ∃ e, d = c + (e + 1) := ⟨d - c - 1, by omega⟩
  exact chain_in o h1 g hd
theorem pos_at {n : Nat} {ns : List Int} (o : Ord n ns) {p : Nat} (h : p < n) : pos ns (ns.getD p 0).toNat = p := by
  have b := o.getD_bd h
  unfold pos
  rw [show (((ns.getD p 0).toNat : Nat) : Int) = ns.getD p 0 by omega]
  refine idx_of_get o ?_
  rw [List.getElem?_eq_getElem (by rw [o.len]; exact h)]
  simp [List.getD, List.getElem?_eq_getElem (show p < ns.length by rw [o.len]; exact h)]
/-- heaps that make a way lead to the order -/
theorem leads {n : Nat} {bs : List Bool} {ns : List Int} {hs : List Nat} (o : Ord n ns) (h1 : 1 ≤ n) (g : Gd bs (abv n ns) 0 hs) : drawn bs (wo ns hs) = ns := by
  have hl : hs.length = n := by rw [gd_len g, abv_length ns h1]
  have W := wo_wd o hl (gd_lt g)
  refine ord_same (ord_drawn W) o fun p q hp' hq => ?_
  rw [drawn_getD W hp', drawn_getD W hq]
  have i := dr_iff (bs := bs) W hp' hq
  rw [wo_hp (by rw [o.len]; exact hp'), wo_hp (by rw [o.len]; exact hq)] at i
  have bp := o.getD_bd hp'
  have bq := o.getD_bd hq
  have pp := pos_at o hp'
  have pq := pos_at o hq
  have k1 : (ns.getD p 0 < ns.getD q 0) ↔ (ns.getD p 0).toNat < (ns.getD q 0).toNat := by omega
  rw [k1]
  have cb : (ns.getD p 0).toNat < n := by omega
  have db : (ns.getD q 0).toNat < n := by omega
  generalize (ns.getD p 0).toNat = c at *
  generalize (ns.getD q 0).toNat = d at *
  generalize dr bs (wo ns hs) p = D at *
  generalize dr bs (wo ns hs) q = D' at *
  have main : D < D' ↔ c < d := by
    rw [i]
    rcases Nat.lt_trichotomy c d with z | z | z
    · obtain ⟨a1, a2⟩ := both_in o h1 g z db
      constructor
      · intro _; exact z
      · intro _
        by_cases e : hs.getD c 0 = hs.getD d 0
        · obtain ⟨q1, q2⟩ := a2 e
          rw [pp, pq] at q1 q2
          cases hb : bs.getD (hs.getD c 0) false
          · exact .inr ⟨e, by simpa using q1 hb⟩
          · exact .inr ⟨e, by simpa using q2 hb⟩
        · exact .inl (by omega)
    · subst z
      have : p = q := by rw [← pp, ← pq]
      subst this
      constructor
      · rintro (w | ⟨_, w⟩)
        · omega
        · split at w <;> omega
      · intro w; omega
    · obtain ⟨a1, a2⟩ := both_in o h1 g z cb
      constructor
      · rintro (w | ⟨e, w⟩)
        · omega
        · obtain ⟨q1, q2⟩ := a2 e.symm
          rw [pp, pq] at q1 q2
          rw [← e] at q1 q2
          split at w
          · rename_i hb
            have := q2 hb; omega
          · rename_i hb
            have := q1 (Bool.eq_false_iff.mpr hb); omega
      · intro w; omega
  omega
/-- the heaps of the cards of a word -/
def heapsOf (n : Nat) (ns ws : List Int) : List Nat := (List.range n).map fun c => hp ws (pos ns c)
theorem heapsOf_getD {n c : Nat} {ns ws : List Int} (h : c < n) : (heapsOf n ns ws).getD c 0 = hp ws (pos ns c) := by simp [heapsOf, List.getD, h]
theorem dr_pos {n h : Nat} {bs : List Bool} {ns ws : List Int} (W : Wd h n ws) (o : Ord n ns) (e : drawn bs ws = ns) {c : Nat} (hc : c < n) : dr bs ws (pos ns c) = c := by
  have hp' : pos ns c < n := idx_lt o (by omega) (by omega)
  have g := getElem_idx o (c := (c : Int)) (by omega) (by omega)
  have d := drawn_getD (bs := bs) W hp'
  rw [e, List.getD] at d
  unfold pos at d ⊢
  rw [g] at d
  have : ((c : Nat) : Int) = ((dr bs ws (ns.idxOf (c : Int)) : Nat) : Int) := d
  omega
/-- a word that leads to the order has heaps that make a way -/
theorem leads_back {n : Nat} {bs : List Bool} {ns ws : List Int} (h1 : 1 ≤ n) (W : Wd bs.length n ws) (e : drawn bs ws = ns) : Gd bs (abv n ns) 0 (heapsOf n ns ws) := by
  have o : Ord n ns := by rw [← e]; exact ord_drawn W
  refine gd_of (by rw [abv_length ns h1]; simp [heapsOf]) (fun h hh => ?_) (fun c hc => ?_) fun _ => Nat.zero_le _
  · obtain ⟨c, hc, rfl⟩ := List.mem_map.mp hh
    have := List.mem_range.mp hc
    exact (hp_cast W (idx_lt o (c := (c : Int)) (by omega) (by omega))).2
  · rw [abv_length ns h1] at hc
    rw [abv_getD hc, heapsOf_getD (by omega), heapsOf_getD hc]
    have p1 : pos ns c < n := idx_lt o (by omega) (by omega)
    have p2 : pos ns (c + 1) < n := idx_lt o (by omega) (by omega)
    have i := dr_iff (bs := bs) W p1 p2
    rw [dr_pos W o e (by omega), dr_pos W o e hc] at i
    have ne := pos_ne_succ o hc
    rcases i.mp (by omega) with z | ⟨z, w⟩
    · unfold lf; split <;> omega
    · unfold lf
      split at w
      · rename_i hb
        rw [hb, decide_eq_false (by omega), if_pos (by decide)]
        omega
      · rename_i hb
        rw [Bool.eq_false_iff.mpr hb, decide_eq_true w, if_pos (by decide)]
        omega
theorem wo_heaps {n h : Nat} {ns ws : List Int} (o : Ord n ns) (W : Wd h n ws) : wo ns (heapsOf n ns ws) = ws := by
  apply List.ext_getElem?
  intro i
  by_cases hi : i < n
  · have b := o.getD_bd hi
    have e1 : (wo ns (heapsOf n ns ws))[i]? = some ((wo ns (heapsOf n ns ws)).getD i 0) := by
      rw [List.getElem?_eq_getElem (by rw [wo_length, o.len]; exact hi)]
      simp [List.getD, List.getElem?_eq_getElem (show i < (wo ns (heapsOf n ns ws)).length by rw [wo_length, o.len]; exact hi)]
    have e2 : ws[i]? = some (ws.getD i 0) := by
      rw [List.getElem?_eq_getElem (by rw [W.len]; exact hi)]
      simp [List.getD, List.getElem?_eq_getElem (show i < ws.length by rw [W.len]; exact hi)]
    rw [e1, e2, wo_getD (by rw [o.len]; exact hi), heapsOf_getD (by omega), pos_at o hi, (hp_cast W hi).1]
  · rw [List.getElem?_eq_none (by rw [wo_length, o.len]; omega), List.getElem?_eq_none (by rw [W.len]; omega)]
theorem heaps_wo {n : Nat} {ns : List Int} {hs : List Nat} (o : Ord n ns) (hl : hs.length = n) : heapsOf n ns (wo ns hs) = hs := by
  apply List.ext_getElem?
  intro c
  by_cases hc : c < n
  · have p1 : pos ns c < n := idx_lt o (by omega) (by omega)
    have g := getElem_idx o (c := (c : Int)) (by omega) (by omega)
    have e1 : (heapsOf n ns (wo ns hs))[c]? = some ((heapsOf n ns (wo ns hs)).getD c 0) := by
      rw [List.getElem?_eq_getElem (by simp [heapsOf]; exact hc)]
      simp [List.getD, List.getElem?_eq_getElem (show c < (heapsOf n ns (wo ns hs)).length by simp [heapsOf]; exact hc)]
    have e2 : hs[c]? = some (hs.getD c 0) := by
      rw [List.getElem?_eq_getElem (by omega)]
      simp [List.getD, List.getElem?_eq_getElem (show c < hs.length by omega)]
    have e3 : ns.getD (pos ns c) 0 = (c : Int) := by unfold pos; rw [List.getD, g]; rfl
    rw [e1, e2, heapsOf_getD hc, wo_hp (by rw [o.len]; exact p1), e3, Int.toNat_natCast]
  · rw [List.getElem?_eq_none (by simp [heapsOf]; omega), List.getElem?_eq_none (by omega)]
end M
namespace M
/-- by cards, as far as the first i places tell -/
def byc (n : Nat) (ns ws : List Int) (i : Nat) : List Int := (List.range n).map fun c => if ((c : Nat) : Int) ∈ ns.take i then ws.getD (ns.idxOf ((c : Nat) : Int)) 0 else 0
end M
namespace M
end M
set_option linter.all false
namespace M
theorem see_lt' {t : Bool} {b g : Nat} (h : g < b) : see t b g < b := by unfold see; split <;> omega
theorem see_see' {t : Bool} {b g : Nat} (h : g < b) : see t b (see t b g) = g := by unfold see; cases t <;> simp <;> omega
def fir (b : Nat) (w : List Int) : List Int := w.map fun x => x / (b : Int)
def mor (ms os : List Bool) (w : List Int) : List Int := w.map fun x => ((see (ms.getD (x / (os.length : Int)).toNat false) os.length (x % (os.length : Int)).toNat : Nat) : Int)
theorem map_getD {f : Int → Int} {w : List Int} {i : Nat} (h : i < w.length) : (w.map f).getD i 0 = f (w.getD i 0) := by
  rw [List.getD, List.getElem?_map, List.getElem?_eq_getElem h, List.getD, List.getElem?_eq_getElem h]
  rfl
theorem ext_getD {xs ys : List Int} {n : Nat} (hx : xs.length = n) (hy : ys.length = n) (h : ∀ i, i < n → xs.getD i 0 = ys.getD i 0) : xs = ys := by
  apply List.ext_getElem (by omega)
  intro i h1 h2
  have := h i (by omega)
  rw [List.getD, List.getElem?_eq_getElem h1, List.getD, List.getElem?_eq_getElem h2] at this
  exact this
theorem wd_at {h n : Nat} {w : List Int} (W : Wd h n w) {i : Nat} (hi : i < n) : 0 ≤ w.getD i 0 ∧ w.getD i 0 < h := by
  have hl : i < w.length := by rw [W.len]; exact hi
  refine W.bd _ ?_
  rw [List.getD, List.getElem?_eq_getElem hl]
  exact List.getElem_mem hl
theorem div_at {a b : Nat} {x : Int} (h0 : 0 ≤ x) (h1 : x < ((a * b : Nat) : Int)) (hb : 0 < b) : 0 ≤ x / b ∧ x / b < a ∧ 0 ≤ x % b ∧ x % b < b := by
  refine ⟨Int.ediv_nonneg h0 (by omega), Int.ediv_lt_of_lt_mul (by omega) (by rw [← Int.natCast_mul]; exact h1), Int.emod_nonneg _ (by omega), Int.emod_lt_of_pos _ (by omega)⟩
theorem fir_wd {a b n : Nat} {w : List Int} (W : Wd (a * b) n w) (hb : 0 < b) : Wd a n (fir b w) where
  len := by unfold fir; rw [List.length_map, W.len]
  bd := fun x hx => by
    unfold fir at hx
    obtain ⟨y, hy, rfl⟩ := List.mem_map.mp hx
    have := W.bd y hy
    have := div_at this.1 this.2 hb
    exact ⟨this.1, this.2.1⟩
theorem mor_wd {ms os : List Bool} {n : Nat} {w : List Int} (W : Wd (ms.length * os.length) n w) (hb : 0 < os.length) : Wd os.length n (mor ms os w) where
  len := by unfold mor; rw [List.length_map, W.len]
  bd := fun x hx => by
    unfold mor at hx
    obtain ⟨y, hy, rfl⟩ := List.mem_map.mp hx
    have h1 := W.bd y hy
    have := div_at h1.1 h1.2 hb
    have := see_lt' (t := ms.getD (y / (os.length : Int)).toNat false) (show (y % (os.length : Int)).toNat < os.length by omega)
    omega
theorem jw_len (ms os : List Bool) (w1 w2 : List Int) : (jw ms os w1 w2).length = w2.length := by unfold jw; simp
theorem jw_getD {ms os : List Bool} {w1 w2 : List Int} {i : Nat} (h : i < w2.length) : (jw ms os w1 w2).getD i 0 = (((hp w1 (dr os w2 i)) * os.length + see (ms.getD (hp w1 (dr os w2 i)) false) os.length (hp w2 i) : Nat) : Int) := by
  unfold jw
  rw [List.getD, List.getElem?_map, List.getElem?_range h]
  rfl
theorem drawn_at {os : List Bool} {w2 : List Int} {i : Nat} (h : i < w2.length) : (drawn os w2).getD i 0 = ((dr os w2 i : Nat) : Int) := by
  unfold drawn
  rw [List.getD, List.getElem?_map, List.getElem?_range h]
  rfl
/-- the joined word, parted -/
theorem part_jw {ms os : List Bool} {w1 w2 : List Int} {n : Nat} (W1 : Wd ms.length n w1) (W2 : Wd os.length n w2) : fir os.length (jw ms os w1 w2) = lay w1 (drawn os w2) ∧ mor ms os (jw ms os w1 w2) = w2 := by
  have hl : (jw ms os w1 w2).length = n := by rw [jw_len, W2.len]
  have key : ∀ i, i < n → (jw ms os w1 w2).getD i 0 / (os.length : Int) = w1.getD (dr os w2 i) 0 ∧ ((see (ms.getD ((jw ms os w1 w2).getD i 0 / (os.length : Int)).toNat false) os.length ((jw ms os w1 w2).getD i 0 % (os.length : Int)).toNat : Nat) : Int) = w2.getD i 0 := fun i hi => by
    have c1 := hp_cast W1 (dr_lt (bs := os) W2 hi)
    have c2 := hp_cast W2 hi
    have s := see_lt' (t := ms.getD (hp w1 (dr os w2 i)) false) c2.2
    rw [jw_getD (by rw [W2.len]; exact hi)]
    have e1 : ((((hp w1 (dr os w2 i)) * os.length + see (ms.getD (hp w1 (dr os w2 i)) false) os.length (hp w2 i) : Nat) : Int)) / (os.length : Int) = ((hp w1 (dr os w2 i) : Nat) : Int) := by
      rw [← Int.natCast_ediv]
      congr 1
      rw [Nat.mul_comm, Nat.mul_add_div (by omega), Nat.div_eq_of_lt s, Nat.add_zero]
    have e2 : ((((hp w1 (dr os w2 i)) * os.length + see (ms.getD (hp w1 (dr os w2 i)) false) os.length (hp w2 i) : Nat) : Int)) % (os.length : Int) = ((see (ms.getD (hp w1 (dr os w2 i)) false) os.length (hp w2 i) : Nat) : Int) := by
      rw [← Int.natCast_emod]
      congr 1
      rw [Nat.mul_comm, Nat.mul_add_mod, Nat.mod_eq_of_lt s]
    rw [e1, e2]
    refine ⟨c1.1, ?_⟩
    rw [Int.toNat_natCast, Int.toNat_natCast, see_see' c2.2, c2.1]
  constructor
  · refine ext_getD (n := n) (by unfold fir; rw [List.length_map, hl]) (by rw [lay_length, drawn_length, W2.len]) fun i hi => ?_
    unfold fir
    rw [map_getD (by rw [hl]; exact hi), (key i hi).1, lay_getD (by rw [drawn_length, W2.len]; exact hi), drawn_at (by rw [W2.len]; exact hi), Int.toNat_natCast]
  · refine ext_getD (n := n) (by unfold mor; rw [List.length_map, hl]) W2.len fun i hi => ?_
    unfold mor
    rw [map_getD (by rw [hl]; exact hi)]
    exact (key i hi).2
/-- the parts, joined again -/
theorem jw_part {ms os : List Bool} {w : List Int} {n : Nat} (W : Wd (ms.length * os.length) n w) (hb : 0 < os.length) : Wd ms.length n (lay (fir os.length w) (plc n (drawn os (mor ms os w)))) ∧ jw ms os (lay (fir os.length w) (plc n (drawn os (mor ms os w)))) (mor ms os w) = w := by
  have Wf := fir_wd W hb
  have Wm := mor_wd W hb
  have od : Ord n (drawn os (mor ms os w)) := ord_drawn Wm
  have hback := lay_back (a := fir os.length w) Wf.len od
  generalize hw1 : lay (fir os.length w) (plc n (drawn os (mor ms os w))) = w1 at hback
  have W1 : Wd ms.length n w1 := by
    rw [← hw1]
    refine ⟨by rw [lay_length, plc_length], fun x hx => ?_⟩
    unfold lay at hx
    obtain ⟨c, hc, rfl⟩ := List.mem_map.mp hx
    have b := (ord_plc od).bd c hc
    exact wd_at Wf (by omega)
  refine ⟨W1, ?_⟩
  refine ext_getD (n := n) (by rw [jw_len, Wm.len]) W.len fun i hi => ?_
  have him : i < (mor ms os w).length := by rw [Wm.len]; exact hi
  rw [jw_getD him]
  have hw := wd_at W hi
  have hdv := div_at hw.1 hw.2 hb
  have a1 : w1.getD (dr os (mor ms os w) i) 0 = w.getD i 0 / (os.length : Int) := by
    have := congrArg (fun l : List Int => l.getD i 0) hback
    have e1 : (lay w1 (drawn os (mor ms os w))).getD i 0 = w1.getD (dr os (mor ms os w) i) 0 := by
      rw [lay_getD (by rw [drawn_length]; exact him), drawn_at him, Int.toNat_natCast]
    have e2 : (fir os.length w).getD i 0 = w.getD i 0 / (os.length : Int) := by
      unfold fir
      rw [map_getD (by rw [W.len]; exact hi)]
    rw [← e1, ← e2]
    exact this
  have a2 : (mor ms os w).getD i 0 = ((see (ms.getD (w.getD i 0 / (os.length : Int)).toNat false) os.length (w.getD i 0 % (os.length : Int)).toNat : Nat) : Int) := by
    unfold mor
    rw [map_getD (by rw [W.len]; exact hi)]
  have h1 : hp w1 (dr os (mor ms os w) i) = (w.getD i 0 / (os.length : Int)).toNat := by unfold hp; rw [a1]
  have h2 : hp (mor ms os w) i = see (ms.getD (w.getD i 0 / (os.length : Int)).toNat false) os.length (w.getD i 0 % (os.length : Int)).toNat := by unfold hp; rw [a2, Int.toNat_natCast]
  rw [h1, h2, see_see' (by omega)]
  have hm := Int.emod_add_mul_ediv (w.getD i 0) (os.length : Int)
  rw [Int.natCast_add, Int.natCast_mul, Int.toNat_of_nonneg hdv.1, Int.toNat_of_nonneg hdv.2.2.1, Int.mul_comm]
  omega
end M
/-! all words, and how many pairs of words lead to an order -/
set_option maxHeartbeats 2000000
namespace M
theorem inj_le {α β : Type} [DecidableEq β] {f : α → β} : ∀ {l1 : List α} {l2 : List β}, l1.Nodup → (∀ x ∈ l1, f x ∈ l2) → (∀ x ∈ l1, ∀ y ∈ l1, f x = f y → x = y) → l1.length ≤ l2.length
  | [], _, _, _, _ => Nat.zero_le _
  | x :: r, l2, hn, hm, hi => by
    have hx := hm x List.mem_cons_self
    have hn' := List.pairwise_cons.mp hn
    have ih := inj_le (f := f) (l1 := r) (l2 := l2.erase (f x)) hn'.2 (fun y hy => by
      refine (List.mem_erase_of_ne fun e => ?_).mpr (hm y (List.mem_cons_of_mem _ hy))
      exact hn'.1 y hy (hi x List.mem_cons_self y (List.mem_cons_of_mem _ hy) e.symm)) (fun y hy z hz => hi y (List.mem_cons_of_mem _ hy) z (List.mem_cons_of_mem _ hz))
    rw [List.length_erase_of_mem hx] at ih
    have : 0 < l2.length := List.length_pos_of_mem hx
    show r.length + 1 ≤ _
    omega
/-- all words of n cards and b heaps -/
def allw (b : Nat) : Nat → List (List Int)
  | 0 => [[]]
  | n + 1 => (allw b n).flatMap fun w => (List.range b).map fun i => w ++ [((i : Nat) : Int)]
theorem mem_allw {b : Nat} : ∀ {n : Nat} {w : List Int}, w ∈ allw b n ↔ Wd b n w
  | 0, w => by
    unfold allw
    rw [List.mem_singleton]
    exact ⟨fun e => by subst e; exact ⟨rfl, fun x hx => by cases hx⟩, fun W => List.length_eq_zero_iff.mp W.len⟩
  | n + 1, w => by
    unfold allw
    rw [List.mem_flatMap]
    constructor
    · rintro ⟨v, hv, hw⟩
      rw [List.mem_map] at hw
      obtain ⟨i, hi, rfl⟩ := hw
      have V := mem_allw.mp hv
      have hi := List.mem_range.mp hi
      refine ⟨by rw [List.length_append, V.len]; rfl, fun x hx => ?_⟩
      rcases List.mem_append.mp hx with z | z
      · exact V.bd x z
      · rw [List.mem_singleton] at z
        omega
    · intro W
      have hne : w ≠ [] := fun e => by have := W.len; rw [e] at this; cases this
      have hl := W.bd _ (List.getLast_mem hne)
      refine ⟨w.dropLast, mem_allw.mpr ⟨by rw [List.length_dropLast, W.len]; rfl, fun x hx => W.bd x (by rw [List.dropLast_eq_take] at hx; exact List.mem_of_mem_take hx)⟩, ?_⟩
      rw [List.mem_map]
      refine ⟨(w.getLast hne).toNat, List.mem_range.mpr (by omega), ?_⟩
      rw [Int.toNat_of_nonneg hl.1]
      exact List.dropLast_concat_getLast hne
theorem nd_allw (b : Nat) : ∀ n : Nat, (allw b n).Nodup
  | 0 => by unfold allw; simp
  | n + 1 => by
    unfold allw
    refine List.pairwise_flatMap.mpr ⟨fun w _ => ?_, ?_⟩
    · refine List.pairwise_map.mpr (List.nodup_range.imp fun {i j} h e => ?_)
      have := List.append_cancel_left e
      simp at this
      omega
    · refine (nd_allw b n).imp fun {v w} h x hx y hy e => ?_
      rw [List.mem_map] at hx hy
      obtain ⟨i, _, rfl⟩ := hx
      obtain ⟨j, _, rfl⟩ := hy
      exact h (List.append_inj_left' e rfl)
theorem allw_length (b : Nat) : ∀ n : Nat, (allw b n).length = b ^ n
  | 0 => rfl
  | n + 1 => by
    unfold allw
    rw [List.length_flatMap]
    simp only [List.length_map, List.length_range]
    rw [List.map_const', List.sum_replicate_nat, allw_length b n, Nat.pow_succ]
/-- all pairs of words -/
def pairsW (n a b : Nat) : List (List Int × List Int) := (allw a n).flatMap fun v => (allw b n).map fun w => (v, w)
theorem mem_pairsW {n a b : Nat} {p : List Int × List Int} : p ∈ pairsW n a b ↔ Wd a n p.1 ∧ Wd b n p.2 := by
  unfold pairsW
  rw [List.mem_flatMap]
  constructor
  · rintro ⟨v, hv, hp⟩
    rw [List.mem_map] at hp
    obtain ⟨w, hw, rfl⟩ := hp
    exact ⟨mem_allw.mp hv, mem_allw.mp hw⟩
  · rintro ⟨h1, h2⟩
    exact ⟨p.1, mem_allw.mpr h1, List.mem_map.mpr ⟨p.2, mem_allw.mpr h2, rfl⟩⟩
theorem nd_pairsW (n a b : Nat) : (pairsW n a b).Nodup := by
  unfold pairsW
  refine List.pairwise_flatMap.mpr ⟨fun v _ => ?_, ?_⟩
  · exact List.pairwise_map.mpr ((nd_allw b n).imp fun {x y} h e => h (Prod.mk.inj e).2)
  · refine (nd_allw a n).imp fun {v w} h x hx y hy e => ?_
    rw [List.mem_map] at hx hy
    obtain ⟨i, _, rfl⟩ := hx
    obtain ⟨j, _, rfl⟩ := hy
    exact h (Prod.mk.inj e).1
/-- the order that two riffles lead to -/
def led (ms os : List Bool) (p : List Int × List Int) : List Int := lay (drawn ms p.1) (drawn os p.2)
/-- the parted word -/
def qw (ms os : List Bool) (n : Nat) (w : List Int) : List Int × List Int := (lay (fir os.length w) (plc n (drawn os (mor ms os w))), mor ms os w)
theorem qw_jw {ms os : List Bool} {n : Nat} {p : List Int × List Int} (W1 : Wd ms.length n p.1) (W2 : Wd os.length n p.2) : qw ms os n (jw ms os p.1 p.2) = p := by
  unfold qw
  rw [(part_jw W1 W2).1, (part_jw W1 W2).2, lay_forth W1.len (ord_drawn W2)]
/-- how many pairs of words lead to an order: as many as the joined marks have ways -/
theorem pairs_count {n : Nat} {ms os : List Bool} {ns : List Int} (h1 : 1 ≤ n) (o : Ord n ns) (hb : 0 < os.length) :
    ((pairsW n ms.length os.length).filter fun p => decide (led ms os p = ns)).length = wy (jm ms os) (abv n ns) 0 := by
  have hl : (jm ms os).length = ms.length * os.length := jm_length ms os
  have back : ∀ p ∈ (pairsW n ms.length os.length).filter fun p => decide (led ms os p = ns), Wd ms.length n p.1 ∧ Wd os.length n p.2 ∧ Wd (jm ms os).length n (jw ms os p.1 p.2) ∧ Gd (jm ms os) (abv n ns) 0 (heapsOf n ns (jw ms os p.1 p.2)) := fun p hp => by
    rw [List.mem_filter] at hp
    obtain ⟨W1, W2⟩ := mem_pairsW.mp hp.1
    have e : led ms os p = ns := of_decide_eq_true hp.2
    have WJ : Wd (jm ms os).length n (jw ms os p.1 p.2) := by rw [hl]; exact jw_wd W1 W2
    exact ⟨W1, W2, WJ, leads_back h1 WJ ((drawn_joined W1 W2).trans e)⟩
  have nd0 : ((pairsW n ms.length os.length).filter fun p => decide (led ms os p = ns)).Nodup := List.Pairwise.filter _ (nd_pairsW n ms.length os.length)
  refine Nat.le_antisymm ?_ ?_
  · have := inj_le (f := fun p : List Int × List Int => num (jm ms os) (abv n ns) 0 (heapsOf n ns (jw ms os p.1 p.2))) (l1 := (pairsW n ms.length os.length).filter fun p => decide (led ms os p = ns)) (l2 := List.range (wy (jm ms os) (abv n ns) 0)) nd0 (fun p hp => List.mem_range.mpr (num_lt (back p hp).2.2.2)) (fun p hp p' hp' e => by
      obtain ⟨W1, W2, WJ, g⟩ := back p hp
      obtain ⟨W1', W2', WJ', g'⟩ := back p' hp'
      have e : num (jm ms os) (abv n ns) 0 (heapsOf n ns (jw ms os p.1 p.2)) = num (jm ms os) (abv n ns) 0 (heapsOf n ns (jw ms os p'.1 p'.2)) := e
      have e2 : heapsOf n ns (jw ms os p.1 p.2) = heapsOf n ns (jw ms os p'.1 p'.2) := by rw [← way_num g, ← way_num g', e]
      have e3 : jw ms os p.1 p.2 = jw ms os p'.1 p'.2 := by rw [← wo_heaps o WJ, ← wo_heaps o WJ', e2]
      rw [← qw_jw W1 W2, ← qw_jw W1' W2', e3])
    rw [List.length_range] at this
    exact this
  · have front : ∀ k, k < wy (jm ms os) (abv n ns) 0 → Wd (ms.length * os.length) n (wo ns (wayH (jm ms os) (abv n ns) 0 k)) ∧ Gd (jm ms os) (abv n ns) 0 (wayH (jm ms os) (abv n ns) 0 k) ∧ (wayH (jm ms os) (abv n ns) 0 k).length = n := fun k hk => by
      have g := gd_way (jm ms os) (abv n ns) 0 k hk
      have gl : (wayH (jm ms os) (abv n ns) 0 k).length = n := by rw [wayH_length, abv_length ns h1]
      refine ⟨?_, g, gl⟩
      rw [← hl]
      exact wo_wd o gl (gd_lt g)
    have := inj_le (f := fun k => qw ms os n (wo ns (wayH (jm ms os) (abv n ns) 0 k))) (l1 := List.range (wy (jm ms os) (abv n ns) 0)) (l2 := (pairsW n ms.length os.length).filter fun p => decide (led ms os p = ns)) List.nodup_range (fun k hk => by
      obtain ⟨W, g, gl⟩ := front k (List.mem_range.mp hk)
      have j := jw_part W hb
      refine List.mem_filter.mpr ⟨mem_pairsW.mpr ⟨j.1, mor_wd W hb⟩, decide_eq_true ?_⟩
      show lay (drawn ms (qw ms os n (wo ns (wayH (jm ms os) (abv n ns) 0 k))).1) (drawn os (qw ms os n (wo ns (wayH (jm ms os) (abv n ns) 0 k))).2) = ns
      rw [← drawn_joined (w1 := (qw ms os n (wo ns (wayH (jm ms os) (abv n ns) 0 k))).1) (w2 := (qw ms os n (wo ns (wayH (jm ms os) (abv n ns) 0 k))).2) j.1 (mor_wd W hb)]
      show drawn (jm ms os) (jw ms os (lay (fir os.length _) _) (mor ms os _)) = ns
      rw [j.2]
      exact leads o h1 g) (fun k hk k' hk' e => by
      obtain ⟨W, g, gl⟩ := front k (List.mem_range.mp hk)
      obtain ⟨W', g', gl'⟩ := front k' (List.mem_range.mp hk')
      have e : qw ms os n (wo ns (wayH (jm ms os) (abv n ns) 0 k)) = qw ms os n (wo ns (wayH (jm ms os) (abv n ns) 0 k')) := e
      have e2 : wo ns (wayH (jm ms os) (abv n ns) 0 k) = wo ns (wayH (jm ms os) (abv n ns) 0 k') := by
        rw [← (jw_part W hb).2, ← (jw_part W' hb).2]
        have e3 := (Prod.mk.inj e).1
        have e4 := (Prod.mk.inj e).2
        rw [e3, e4]
      have e5 : wayH (jm ms os) (abv n ns) 0 k = wayH (jm ms os) (abv n ns) 0 k' := by rw [← heaps_wo o gl, ← heaps_wo o gl', e2]
      rw [← num_way (jm ms os) (abv n ns) 0 k (List.mem_range.mp hk), ← num_way (jm ms os) (abv n ns) 0 k' (List.mem_range.mp hk'), e5])
    rw [List.length_range] at this
    exact this
end M
namespace M
/-- one card more -/
def more (cs : List Int) : List Int := (List.range (cs.length + 1)).map fun (j : Nat) => ((j : Int) + 1) * (cs ++ [0]).getD j 0 + ((cs.length : Int) + 1 - j) * (0 :: cs).getD j 0
def eul : Nat → List Int
  | 0 => [1]
  | n + 1 => more (eul n)
def at_ (cs : List Int) : Nat → Int
  | 0 => 0
  | j + 1 => cs.getD j 0
/-! bounds -/
/-! read backwards -/
/-! the powers -/
def sumI (f : Nat → Int) : Nat → Int
  | 0 => 0
  | n + 1 => sumI f n + f n
theorem sumI_add (f g : Nat → Int) : ∀ n, sumI (fun i => f i + g i) n = sumI f n + sumI g n
  | 0 => rfl
  | n + 1 => by show sumI _ n + (f n + g n) = (sumI f n + f n) + (sumI g n + g n); rw [sumI_add f g n]; omega
theorem sumI_mul (c : Int) (f : Nat → Int) : ∀ n, sumI (fun i => c * f i) n = c * sumI f n
  | 0 => (Int.mul_zero c).symm
  | n + 1 => by show sumI _ n + _ = c * (sumI f n + f n); rw [sumI_mul c f n, Int.mul_add]
theorem sumI_congr {f g : Nat → Int} : ∀ {n}, (∀ i, i < n → f i = g i) → sumI f n = sumI g n
  | 0, _ => rfl
  | n + 1, h => by show sumI f n + f n = sumI g n + g n; rw [sumI_congr fun i hi => h i (by omega), h n (by omega)]
theorem sumI_shift (f : Nat → Int) : ∀ n, sumI f (n + 1) = f 0 + sumI (fun i => f (i + 1)) n
  | 0 => by show (0 : Int) + f 0 = f 0 + 0; omega
  | n + 1 => by show sumI f (n + 1) + f (n + 1) = f 0 + (sumI (fun i => f (i + 1)) n + f (n + 1)); rw [sumI_shift f n]; omega
end M
set_option linter.all false
namespace M
/-! a row multiplied out with a table -/
def lin (row : List Int) (tbl : List (List Int)) (m i : Nat) : List Int := (List.range m).map fun j => sumI (fun k => row.getD k 0 * (tbl.getD k []).getD j 0) i
def idt (m : Nat) : List (List Int) := (List.range m).map fun i => (List.range m).map fun j => if i = j then 1 else 0
theorem sumI_one (f : Nat → Int) (j : Nat) : ∀ n, sumI (fun k => f k * (if k = j then 1 else 0)) n = if j < n then f j else 0
  | 0 => by simp [sumI]
  | n + 1 => by
    show sumI _ n + f n * (if n = j then 1 else 0) = _
    rw [sumI_one f j n]
    by_cases h : n = j
    · subst h; simp
    · by_cases h2 : j < n
      · rw [if_pos h2, if_neg h, if_pos (by omega)]; omega
      · rw [if_neg h2, if_neg h, if_neg (by omega)]; omega
/-! by turns -/
def sg : Nat → Int
  | 0 => 1
  | n + 1 => - sg n
def chs (n t : Nat) : Int := ((ch n t : Nat) : Int)
theorem chs_ss (n t : Nat) : chs (n + 1) (t + 1) = chs n t + chs n (t + 1) := by unfold chs; rw [ch_ss]; simp
theorem sumI_sub (f g : Nat → Int) : ∀ n, sumI (fun i => f i - g i) n = sumI f n - sumI g n
  | 0 => rfl
  | n + 1 => by show sumI _ n + (f n - g n) = (sumI f n + f n) - (sumI g n + g n); rw [sumI_sub f g n]; omega
theorem alt_step (n : Nat) (F : Nat → Int) : sumI (fun t => sg t * chs n t * (F t - F (t + 1))) (n + 1) = sumI (fun t => sg t * chs (n + 1) t * F t) (n + 2) := by
  have e1 : sumI (fun t => sg t * chs n t * F t) (n + 2) = sumI (fun t => sg t * chs n t * F t) (n + 1) := by
    show sumI _ (n + 1) + sg (n + 1) * chs n (n + 1) * F (n + 1) = _
    have : chs n (n + 1) = 0 := by unfold chs; rw [ch_lt (by omega)]; rfl
    rw [this]; simp
  have e2 : sumI (fun t => sg t * chs n t * (F t - F (t + 1))) (n + 1) = sumI (fun t => sg t * chs n t * F t) (n + 1) - sumI (fun t => sg t * chs n t * F (t + 1)) (n + 1) := by
    rw [← sumI_sub]
    exact sumI_congr fun t _ => Int.mul_sub ..
  rw [e2, ← e1, sumI_shift (fun t => sg t * chs n t * F t), sumI_shift (fun t => sg t * chs (n + 1) t * F t)]
  have a0 : chs (n + 1) 0 = chs n 0 := by unfold chs; rw [ch_zero, ch_zero]
  have e3 : sumI (fun t => sg (t + 1) * chs (n + 1) (t + 1) * F (t + 1)) (n + 1) = sumI (fun t => sg (t + 1) * chs n (t + 1) * F (t + 1)) (n + 1) - sumI (fun t => sg t * chs n t * F (t + 1)) (n + 1) := by
    rw [← sumI_sub]
    refine sumI_congr fun t _ => ?_
    rw [chs_ss]
    show -sg t * _ * _ = -sg t * _ * _ - _
    rw [Int.mul_add, Int.add_mul, Int.neg_mul, Int.neg_mul]
    omega
  rw [a0, e3]
  omega
/-! rows of figures that come to at most so much -/
theorem sumI_zero {f : Nat → Int} : ∀ {n : Nat}, (∀ i, i < n → f i = 0) → sumI f n = 0
  | 0, _ => rfl
  | n + 1, h => by show sumI f n + f n = 0; rw [sumI_zero fun i hi => h i (by omega), h n (by omega)]; rfl
theorem sumI_cut {f : Nat → Int} {n : Nat} : ∀ {k : Nat}, (∀ i, n ≤ i → f i = 0) → sumI f (n + k) = sumI f n
  | 0, _ => rfl
  | k + 1, h => by show sumI f (n + k) + f (n + k) = _; rw [sumI_cut h, h _ (by omega)]; omega
theorem sumI_cut' {f : Nat → Int} {n k : Nat} (h : ∀ i, n ≤ i → f i = 0) (hk : n ≤ k) : sumI f k = sumI f n := by
  obtain ⟨d, rfl⟩ : ∃ d, k = n + d := ⟨k - n, by omega⟩
  exact sumI_cut h
def am (m b : Nat) (T : Int) : Int := sumI (fun t => sg t * chs m t * chI (T - (t : Int) * b + m) m) (m + 1)
/-- the number in list i at place j -/
def ca (m b i j : Nat) : Int := sumI (fun t => sg t * chs (m + 1) t * chI ((m : Int) - 1 - i + ((j : Int) + 1 - t) * b) m) (j + 1)
theorem ca_am {m b i j : Nat} : ca m b i j = am m b (((j : Int) + 1) * b - 1 - i) - am m b ((j : Int) * b - 1 - i) := by
  have z1 : ∀ t, j + 1 ≤ t → sg t * chs (m + 1) t * chI ((m : Int) - 1 - i + ((j : Int) + 1 - t) * b) m = 0 := fun t ht => by
    have : ((j : Int) + 1 - t) * b ≤ 0 := Int.mul_nonpos_of_nonpos_of_nonneg (by omega) (by omega)
    rw [chI_out (.inr (by omega)), Int.mul_zero]
  have z2 : ∀ t, m + 2 ≤ t → sg t * chs (m + 1) t * chI ((m : Int) - 1 - i + ((j : Int) + 1 - t) * b) m = 0 := fun t ht => by
    have : chs (m + 1) t = 0 := by unfold chs; rw [ch_lt (by omega)]; rfl
    rw [this]; simp
  have e1 : ca m b i j = sumI (fun t => sg t * chs (m + 1) t * chI ((m : Int) - 1 - i + ((j : Int) + 1 - t) * b) m) (m + 2) := by
    unfold ca
    rw [← sumI_cut' z1 (show j + 1 ≤ j + m + 2 by omega), ← sumI_cut' z2 (show m + 2 ≤ j + m + 2 by omega)]
  rw [e1, ← alt_step m fun t => chI ((m : Int) - 1 - i + ((j : Int) + 1 - (t : Nat)) * b) m]
  unfold am
  rw [← sumI_sub]
  refine sumI_congr fun t _ => ?_
  rw [← Int.mul_sub]
  congr 2
  · congr 1
    rw [Int.sub_mul]; omega
  · congr 1
    rw [show ((j : Int) + 1 - ((t + 1 : Nat) : Int)) = (j : Int) - t by omega, Int.sub_mul]; omega
/-! sums over all rows of figures -/
def S : Nat → Nat → (Int → Int) → Int
  | 0, _, f => f 0
  | m + 1, b, f => sumI (fun d => S m b fun x => f (x + d)) b
theorem S_congr {b : Nat} : ∀ {m : Nat} {f g : Int → Int}, (∀ x : Int, 0 ≤ x → x ≤ (m : Int) * (b - 1) → f x = g x) → S m b f = S m b g
  | 0, f, g, h => h 0 (by omega) (by omega)
  | m + 1, f, g, h => by
    refine sumI_congr fun d hd => S_congr fun x h0 h1 => h _ (by omega) ?_
    rw [show (((m + 1 : Nat) : Int)) * ((b : Int) - 1) = (m : Int) * (b - 1) + (b - 1) by rw [show (((m + 1 : Nat) : Int)) = (m : Int) + 1 by omega, Int.add_mul, Int.one_mul]]
    omega
theorem S_add {b : Nat} : ∀ (m : Nat) (f g : Int → Int), S m b (fun x => f x + g x) = S m b f + S m b g
  | 0, f, g => rfl
  | m + 1, f, g => by
    show sumI _ b = sumI _ b + sumI _ b
    rw [← sumI_add]
    exact sumI_congr fun d _ => S_add m _ _
theorem S_mul {b : Nat} (c : Int) : ∀ (m : Nat) (f : Int → Int), S m b (fun x => c * f x) = c * S m b f
  | 0, f => rfl
  | m + 1, f => by
    show sumI _ b = c * sumI _ b
    rw [← sumI_mul]
    exact sumI_congr fun d _ => S_mul c m _
theorem S_zero {b : Nat} (m : Nat) : S m b (fun _ => 0) = 0 := by
  have := S_mul (b := b) 0 m (fun _ => 0)
  simp only [Int.zero_mul] at this
  exact this
theorem S_sum {b : Nat} (m : Nat) (h : Nat → Int → Int) : ∀ n, S m b (fun x => sumI (fun d => h d x) n) = sumI (fun d => S m b (h d)) n
  | 0 => S_zero m
  | n + 1 => by
    show S m b (fun x => sumI (fun d => h d x) n + h n x) = _
    rw [S_add, S_sum m h n]; rfl
/-- at most so much -/
def ind (p : Prop) [Decidable p] : Int := if p then 1 else 0
theorem hock (m : Nat) (N : Int) : ∀ b : Nat, sumI (fun d => chI (N - d + m) m) b = chI (N + m + 1) (m + 1) - chI (N - b + m + 1) (m + 1)
  | 0 => by show (0 : Int) = _; simp
  | b + 1 => by
    show sumI _ b + chI (N - b + m) m = _
    rw [hock m N b]
    have e : chI (N - (b : Int) + m + 1) (m + 1) = chI (N - b + m) (m + 1) + chI (N - b + m) m := by
      by_cases h : 0 < N - (b : Int) + m + 1
      · have := chI_pascal (n := N - (b : Int) + m + 1) (k := (m : Int) + 1) h
        rw [show N - (b : Int) + m + 1 - 1 = N - b + m by omega, show (m : Int) + 1 - 1 = m by omega] at this
        omega
      · rw [chI_out (.inr (by omega)), chI_out (.inr (by omega)), chI_out (.inr (by omega))]; rfl
    rw [e, show N - (((b + 1 : Nat)) : Int) + m + 1 = N - b + m by omega]
    omega
theorem am_S {b : Nat} : ∀ (m : Nat) (T : Int), S m b (fun x => ind (x ≤ T)) = am m b T
  | 0, T => by
    show ind (0 ≤ T) = (0 : Int) + 1 * chs 0 0 * chI (T - ((0 : Nat) : Int) * b + ((0 : Nat) : Int)) ((0 : Nat) : Int)
    have e0 : chs 0 0 = 1 := rfl
    rw [e0]
    unfold ind
    by_cases h : 0 ≤ T
    · rw [if_pos h, chI_in (by omega) (by simp; omega)]
      show (1 : Int) = 0 + 1 * 1 * ((ch _ 0 : Nat) : Int)
      rw [ch_zero]; rfl
    · rw [if_neg h, chI_out (.inr (by simp; omega))]; rfl
  | m + 1, T => by
    show sumI (fun d => S m b fun x => ind (x + d ≤ T)) b = _
    have e1 : ∀ d : Nat, d < b → (S m b fun x => ind (x + d ≤ T)) = am m b (T - d) := fun d _ => by
      rw [← am_S m (T - d)]
      refine S_congr fun x _ _ => ?_
      unfold ind
      by_cases h : x + (d : Int) ≤ T
      · rw [if_pos h, if_pos (by omega)]
      · rw [if_neg h, if_neg (by omega)]
    rw [sumI_congr e1]
    have sw : ∀ (f : Nat → Nat → Int) (n k : Nat), sumI (fun d => sumI (fun t => f d t) k) n = sumI (fun t => sumI (fun d => f d t) n) k := fun f n k => by
      induction n with
      | zero => exact (sumI_zero fun i _ => rfl).symm
      | succ n ih =>
        show sumI _ n + _ = _
        rw [ih, ← sumI_add]
        rfl
    unfold am
    rw [sw]
    have e2 : ∀ t : Nat, t < m + 1 → sumI (fun d => sg t * chs m t * chI (T - d - (t : Int) * b + m) m) b = sg t * chs m t * (chI (T - (t : Int) * b + ((m + 1 : Nat) : Int)) ((m + 1 : Nat) : Int) - chI (T - ((t + 1 : Nat) : Int) * b + ((m + 1 : Nat) : Int)) ((m + 1 : Nat) : Int)) := fun t _ => by
      rw [sumI_mul]
      congr 1
      have := hock m (T - (t : Int) * b) b
      have c : ∀ d : Nat, d < b → chI (T - d - (t : Int) * b + m) m = chI (T - (t : Int) * b - d + m) m := fun d _ => by congr 1; omega
      rw [sumI_congr c, this]
      have m1 : (((t + 1 : Nat) : Int)) * (b : Int) = (t : Int) * b + b := by rw [show (((t + 1 : Nat) : Int)) = (t : Int) + 1 by omega, Int.add_mul, Int.one_mul]
      have m2 : T - ((t + 1 : Nat) : Int) * b + ((m + 1 : Nat) : Int) = T - (t : Int) * b - b + m + 1 := by rw [m1]; omega
      have m3 : T - (t : Int) * b + ((m + 1 : Nat) : Int) = T - (t : Int) * b + m + 1 := by omega
      rw [m2, m3]
      rfl
    rw [sumI_congr e2]
    exact alt_step m fun t => chI (T - (t : Int) * b + ((m + 1 : Nat) : Int)) ((m + 1 : Nat) : Int)
/-- what the number counts -/
theorem ca_S {m b i j : Nat} : ca m b i j = S m b fun x => ind ((j : Int) * b ≤ x + i ∧ x + i < ((j : Int) + 1) * b) := by
  rw [ca_am, ← am_S, ← am_S]
  have e : (S m b fun x => ind (x ≤ ((j : Int) + 1) * b - 1 - i)) = (S m b fun x => ind (x ≤ (j : Int) * b - 1 - i)) + S m b fun x => ind ((j : Int) * b ≤ x + i ∧ x + i < ((j : Int) + 1) * b) := by
    rw [← S_add]
    refine S_congr fun x _ _ => ?_
    have hb : ((j : Int) + 1) * b = (j : Int) * b + b := by rw [Int.add_mul, Int.one_mul]
    rw [hb]
    unfold ind
    generalize (j : Int) * b = c
    by_cases h1 : x ≤ c - 1 - i
    · rw [if_pos (by omega), if_pos h1, if_neg (by omega)]; rfl
    · by_cases h2 : x ≤ c + b - 1 - i
      · rw [if_pos h2, if_neg h1, if_pos (by omega)]; rfl
      · rw [if_neg h2, if_neg h1, if_neg (by omega)]; rfl
  omega
/-- just one list place is met -/
theorem ind_div {y b : Int} {j : Nat} (hb : 0 < b) : ind ((j : Int) * b ≤ y ∧ y < ((j : Int) + 1) * b) = if y / b = j then 1 else 0 := by
  unfold ind
  by_cases h : (j : Int) * b ≤ y ∧ y < ((j : Int) + 1) * b
  · rw [if_pos h, if_pos]
    have h1 := Int.le_ediv_of_mul_le hb h.1
    have h2 := Int.ediv_lt_of_lt_mul hb h.2
    omega
  · rw [if_neg h, if_neg]
    intro e
    apply h
    have h1 := Int.ediv_mul_le y (show b ≠ 0 by omega)
    have h2 := Int.lt_ediv_add_one_mul_self y hb
    rw [e] at h1 h2
    exact ⟨h1, h2⟩
theorem div_bd {m b i : Nat} {x : Int} (hb : 1 ≤ b) (hi : i < m) (h0 : 0 ≤ x) (h1 : x ≤ (m : Int) * (b - 1)) : 0 ≤ (x + i) / b ∧ (x + i) / b < m := by
  refine ⟨Int.ediv_nonneg (by omega) (by omega), Int.ediv_lt_of_lt_mul (by omega) ?_⟩
  rw [Int.mul_sub, Int.mul_one] at h1
  omega
/-! read from the end -/
/-! the table for a times b -/
theorem sumI_swap (f : Nat → Nat → Int) (k : Nat) : ∀ n, sumI (fun d => sumI (fun t => f d t) k) n = sumI (fun t => sumI (fun d => f d t) n) k
  | 0 => (sumI_zero fun i _ => rfl).symm
  | n + 1 => by
    show sumI _ n + _ = _
    rw [sumI_swap f k n, ← sumI_add]
    rfl
theorem sumI_append (f : Nat → Int) (n : Nat) : ∀ k, sumI f (n + k) = sumI f n + sumI (fun d => f (n + d)) k
  | 0 => (Int.add_zero _).symm
  | k + 1 => by show sumI f (n + k) + f (n + k) = _; rw [sumI_append f n k]; show _ = sumI f n + (sumI _ k + f (n + k)); omega
theorem sumI_times (f : Nat → Int) (a : Nat) : ∀ b, sumI f (a * b) = sumI (fun e => sumI (fun d => f (d + a * e)) a) b
  | 0 => rfl
  | b + 1 => by
    rw [Nat.mul_succ, sumI_append, sumI_times f a b]
    show _ = sumI _ b + sumI _ a
    congr 1
    exact sumI_congr fun d _ => by congr 1; omega
theorem S_times {a b : Nat} : ∀ (m : Nat) (f : Int → Int), S m (a * b) f = S m a fun x => S m b fun y => f (x + a * y)
  | 0, f => by show f 0 = f (0 + a * 0); simp
  | m + 1, f => by
    show sumI _ (a * b) = sumI (fun d => S m a fun x => sumI (fun e => S m b fun y => f (x + d + a * (y + e))) b) a
    rw [sumI_times, sumI_swap]
    refine sumI_congr fun d _ => ?_
    rw [S_sum]
    refine sumI_congr fun e _ => ?_
    rw [S_times m]
    refine S_congr fun x _ _ => S_congr fun y _ _ => ?_
    congr 1
    rw [Int.mul_add, show (((d + a * e : Nat)) : Int) = (d : Int) + a * e by simp]
    omega
theorem ca_prod {m a b i j : Nat} (ha : 1 ≤ a) (hb : 1 ≤ b) (hi : i < m) : sumI (fun k => ca m a i k * ca m b k j) m = ca m (a * b) i j := by
  have hab : 0 < ((a * b : Nat) : Int) := by have := Nat.mul_pos ha hb; omega
  have e1 : ∀ k, k < m → ca m a i k * ca m b k j = S m a fun x => (if (x + i) / a = (k : Int) then 1 else 0) * ca m b k j := fun k _ => by
    have := S_mul (b := a) (ca m b k j) m (fun x => if (x + i) / a = (k : Int) then 1 else 0)
    rw [ca_S (b := a), Int.mul_comm, ← S_mul]
    refine S_congr fun x _ _ => ?_
    rw [ind_div (by omega), Int.mul_comm]
  rw [sumI_congr e1, ← S_sum, ca_S (b := a * b), S_times]
  refine S_congr fun x h0 h1 => ?_
  have hd := div_bd ha hi h0 h1
  obtain ⟨q, hq⟩ : ∃ q : Nat, (x + i) / a = (q : Int) := ⟨((x + i) / a).toNat, by omega⟩
  have e2 : ∀ k, k < m → (if (x + i) / a = (k : Int) then 1 else 0) * ca m b k j = ca m b k j * (if k = q then 1 else 0) := fun k _ => by
    rw [hq, Int.mul_comm]
    by_cases h : k = q
    · rw [if_pos h, if_pos (by omega)]
    · rw [if_neg h, if_neg (by omega)]
  rw [sumI_congr e2, sumI_one (fun k => ca m b k j), if_pos (by omega), ca_S]
  refine S_congr fun y _ _ => ?_
  have e3 : (((a * b : Nat)) : Int) = (a : Int) * b := by simp
  rw [ind_div (by omega), ind_div hab, e3]
  have e4 : (x + (a : Int) * y + i) / ((a : Int) * b) = (y + q) / b := by
    rw [← Int.ediv_ediv_of_nonneg (by omega), show x + (a : Int) * y + i = x + i + a * y by omega, Int.add_mul_ediv_left _ _ (by omega), hq, Int.add_comm]
  rw [e4]
/-! the row that is kept -/
/-- the table -/
def cat (m b : Nat) : List (List Int) := (List.range m).map fun i => (List.range m).map fun j => ca m b i j
theorem cat_length (m b : Nat) : (cat m b).length = m := by simp [cat]
theorem cat_row {m b i : Nat} (h : i < m) : (cat m b).getD i [] = (List.range m).map fun j => ca m b i j := by
  unfold cat
  rw [List.getD, List.getElem?_map, List.getElem?_range h]
  rfl
theorem sg_one : ∀ t, sg t = 1 ∨ sg t = -1
  | 0 => .inl rfl
  | t + 1 => by
    rcases sg_one t with h | h
    · right; show -sg t = -1; rw [h]
    · left; show -sg t = 1; rw [h]; rfl
theorem chI_bits {n : Int} {m : Nat} (h : n ≤ 10 ^ 30) : (chI n m).natAbs < 2 ^ (100 * m + 1) := by
  by_cases q : n < (m : Int)
  · rw [chI_out (.inr q)]; exact Nat.two_pow_pos _
  · rw [chI_in (by omega) (by omega), Int.natAbs_natCast, Int.toNat_natCast]
    exact ch_bits (by omega) m
/-! all sums, one by one -/
def sms (b : Nat) : Nat → List Int
  | 0 => [0]
  | m + 1 => (sms b m).flatMap fun x => (List.range b).map fun d => x + (d : Nat)
def sumL (f : Int → Int) : List Int → Int
  | [] => 0
  | x :: xs => f x + sumL f xs
/-- how many of the first k sums come to place j -/
def tal (m b i : Nat) (xs : List Int) : List Int := (List.range m).map fun (j : Nat) => sumL (fun x => if (x + i) / b = (j : Int) then 1 else 0) xs
end M
set_option linter.all false
/-! falls behind a riffle of plain heaps, from any order: they are the carries' -/
namespace M
abbrev pl (b : Nat) : List Bool := List.replicate b false
theorem pl_len (b : Nat) : (pl b).length = b := List.length_replicate ..
def rho (os : List Int) (b : Nat) (ws : List Int) : List Int := lay os (drawn (pl b) ws)
def ff (os : List Int) (b : Nat) (ws : List Int) : Nat := flN (rho os b ws)
def nj (os : List Int) (b n j : Nat) : Nat := ((allw b n).filter fun w => ff os b w == j).length
theorem lay_inv {n : Nat} {p z : List Int} (o : Ord n p) (oz : Ord n z) : lay p z = iota n ↔ z = plc n p := by
  constructor
  · intro e
    have h1 : lay (plc n p) p = iota n := by
      have := lay_plc (ord_plc o)
      rw [plc_plc o] at this
      exact this
    have h2 : lay (plc n p) (lay p z) = plc n p := by rw [e]; exact lay_id (plc_length n p)
    rw [← lay_assoc o oz, h1, lay_iota oz] at h2
    exact h2
  · rintro rfl
    exact lay_plc o
theorem led_iff {n : Nat} {os X Y : List Int} (o : Ord n os) (oX : Ord n X) (oY : Ord n Y) : lay X Y = plc n os ↔ Y = plc n (lay os X) := by
  rw [← lay_inv o (ord_lay oX oY), ← lay_assoc oX oY, lay_inv (ord_lay o oX) oY]
/-- as many plain words lead to an order as there are ways -/
theorem one_count {n c : Nat} {ns : List Int} (h1 : 1 ≤ n) (o : Ord n ns) : ((allw c n).filter fun v => decide (drawn (pl c) v = ns)).length = ch (c + (n - 1 - flN (plc n ns))) n := by
  have hw : wy (pl c) (abv n ns) 0 = ch (c + (n - 1 - flN (plc n ns))) n := by
    have hl := abv_length ns h1
    rw [wy_one c false (abv n ns) (fun z => by rw [z] at hl; simp at hl; omega) 0 (Nat.zero_le _), hl, steps_false o, Nat.sub_zero]
  rw [← hw]
  have nd : ((allw c n).filter fun v => decide (drawn (pl c) v = ns)).Nodup := List.Pairwise.filter _ (nd_allw c n)
  have back : ∀ v ∈ (allw c n).filter fun v => decide (drawn (pl c) v = ns), Wd (pl c).length n v ∧ Gd (pl c) (abv n ns) 0 (heapsOf n ns v) := fun v hv => by
    rw [List.mem_filter] at hv
    have W : Wd (pl c).length n v := by rw [pl_len]; exact mem_allw.mp hv.1
    exact ⟨W, leads_back h1 W (of_decide_eq_true hv.2)⟩
  refine Nat.le_antisymm ?_ ?_
  · have := inj_le (f := fun v => num (pl c) (abv n ns) 0 (heapsOf n ns v)) (l2 := List.range (wy (pl c) (abv n ns) 0)) nd (fun v hv => List.mem_range.mpr (num_lt (back v hv).2)) (fun v hv v' hv' e => by
      obtain ⟨W, g⟩ := back v hv
      obtain ⟨W', g'⟩ := back v' hv'
      have e : num (pl c) (abv n ns) 0 (heapsOf n ns v) = num (pl c) (abv n ns) 0 (heapsOf n ns v') := e
      have e2 : heapsOf n ns v = heapsOf n ns v' := by rw [← way_num g, ← way_num g', e]
      rw [← wo_heaps o W, ← wo_heaps o W', e2])
    rw [List.length_range] at this
    exact this
  · have front : ∀ k, k < wy (pl c) (abv n ns) 0 → Wd (pl c).length n (wo ns (wayH (pl c) (abv n ns) 0 k)) ∧ Gd (pl c) (abv n ns) 0 (wayH (pl c) (abv n ns) 0 k) ∧ (wayH (pl c) (abv n ns) 0 k).length = n := fun k hk => by
      have g := gd_way (pl c) (abv n ns) 0 k hk
      have gl : (wayH (pl c) (abv n ns) 0 k).length = n := by rw [wayH_length, abv_length ns h1]
      exact ⟨wo_wd o gl (gd_lt g), g, gl⟩
    have := inj_le (f := fun k => wo ns (wayH (pl c) (abv n ns) 0 k)) (l1 := List.range (wy (pl c) (abv n ns) 0)) (l2 := (allw c n).filter fun v => decide (drawn (pl c) v = ns)) List.nodup_range (fun k hk => by
      obtain ⟨W, g, gl⟩ := front k (List.mem_range.mp hk)
      rw [pl_len] at W
      exact List.mem_filter.mpr ⟨mem_allw.mpr W, decide_eq_true (leads o h1 g)⟩) (fun k hk k' hk' e => by
      obtain ⟨W, g, gl⟩ := front k (List.mem_range.mp hk)
      obtain ⟨W', g', gl'⟩ := front k' (List.mem_range.mp hk')
      have e2 : wayH (pl c) (abv n ns) 0 k = wayH (pl c) (abv n ns) 0 k' := by rw [← heaps_wo o gl, ← heaps_wo o gl', show wo ns (wayH (pl c) (abv n ns) 0 k) = wo ns (wayH (pl c) (abv n ns) 0 k') from e]
      rw [← num_way (pl c) (abv n ns) 0 k (List.mem_range.mp hk), ← num_way (pl c) (abv n ns) 0 k' (List.mem_range.mp hk'), e2])
    rw [List.length_range] at this
    exact this
theorem jm_pl (b c : Nat) : jm (pl b) (pl c) = pl (b * c) := by
  unfold jm
  rw [pl_len, pl_len]
  apply List.ext_getElem?
  intro i
  have g : ∀ k x, (pl k).getD x false = false := fun k x => by
    rw [List.getD, List.getElem?_replicate]
    split <;> rfl
  rcases Nat.lt_or_ge i (b * c) with h | h
  · rw [List.getElem?_map, List.getElem?_range h, List.getElem?_replicate, if_pos h]
    show some ((pl b).getD (i / c) false != (pl c).getD (see ((pl b).getD (i / c) false) c (i % c)) false) = some false
    rw [g, g]
    rfl
  · rw [List.getElem?_eq_none (by simpa using h), List.getElem?_eq_none (by rw [pl_len]; exact h)]
theorem flat_count {α β : Type} (P : α × β → Bool) (m : List β) : ∀ l : List α, ((l.flatMap fun v => m.map fun w => (v, w)).filter P).length = (l.map fun v => (m.filter fun w => P (v, w)).length).sum
  | [] => rfl
  | a :: r => by
    rw [List.flatMap_cons, List.filter_append, List.length_append, flat_count P m r, List.map_cons, List.sum_cons, List.filter_map, List.length_map]
    rfl
theorem rho_ord {n b : Nat} {os ws : List Int} (o : Ord n os) (W : Wd b n ws) : Ord n (rho os b ws) := ord_lay o (ord_drawn W)
theorem sum_ways {n b c : Nat} {os : List Int} (h1 : 1 ≤ n) (o : Ord n os) (hc : 1 ≤ c) : ((allw b n).map fun w => ch (c + (n - 1 - ff os b w)) n).sum = ch (b * c + (n - 1 - flN os)) n := by
  have p := pairs_count (ms := pl b) (os := pl c) h1 (ord_plc o) (by rw [pl_len]; omega)
  have hl := abv_length (plc n os) h1
  rw [jm_pl, wy_one (b * c) false _ (fun z => by rw [z] at hl; simp at hl; omega) 0 (Nat.zero_le _), hl, steps_false (ord_plc o), plc_plc o, Nat.sub_zero, pl_len, pl_len] at p
  rw [← p]
  unfold pairsW
  rw [flat_count]
  congr 1
  refine List.map_congr_left fun w hw => ?_
  have W := mem_allw.mp hw
  have or := rho_ord (b := b) o W
  rw [show ff os b w = flN (plc n (plc n (rho os b w))) by rw [plc_plc or]; rfl, ← one_count h1 (ord_plc or)]
  congr 1
  refine List.filter_congr fun v hv => ?_
  have V := mem_allw.mp hv
  have := led_iff (X := drawn (pl b) w) (Y := drawn (pl c) v) o (ord_drawn W) (ord_drawn V)
  exact decide_eq_decide.mpr this.symm
theorem ff_lt {n b : Nat} {os ws : List Int} (h1 : 1 ≤ n) (W : Wd b n ws) : ff os b ws < n := by
  have hl : (rho os b ws).length = n := by unfold rho; rw [lay_length, drawn_length, W.len]
  unfold ff flN
  rw [hl]
  have := cnt_le (n - 1) fun p => decide ((rho os b ws).getD (p + 1) 0 < (rho os b ws).getD p 0)
  omega
theorem by_value {α : Type} (f : α → Nat) (g : Nat → Int) (n : Nat) : ∀ l : List α, (∀ x ∈ l, f x < n) → (l.map fun x => g (f x)).sum = sumI (fun j => (((l.filter fun x => f x == j).length : Nat) : Int) * g j) n
  | [], _ => by
    rw [sumI_zero fun i _ => by simp]
    rfl
  | a :: r, h => by
    rw [List.map_cons, List.sum_cons, by_value f g n r fun x hx => h x (List.mem_cons_of_mem _ hx)]
    have hit := sumI_one g (f a) n
    rw [if_pos (h a List.mem_cons_self)] at hit
    rw [← hit, ← sumI_add]
    refine sumI_congr fun j _ => ?_
    rw [List.filter_cons]
    by_cases e : f a = j
    · rw [if_pos e.symm, if_pos (by simpa using e), List.length_cons]
      simp [Int.add_mul]
      omega
    · rw [if_neg (fun z => e z.symm), if_neg (by simpa using e)]
      simp
theorem sumL_cast {α : Type} (f : α → Nat) : ∀ l : List α, (((l.map f).sum : Nat) : Int) = (l.map fun x => ((f x : Nat) : Int)).sum
  | [] => rfl
  | a :: r => by simp [sumL_cast f r]
theorem ca_zero (m b i : Nat) : ca m b i 0 = chI ((m : Int) - 1 - i + b) m := by
  unfold ca
  show sumI _ 0 + _ = _
  simp [sumI, sg, chs, ch_zero]
theorem uniq {n : Nat} {D : Nat → Int} (h : ∀ c : Nat, 1 ≤ c → sumI (fun k => D k * chI ((n : Int) - 1 - k + c) n) n = 0) : ∀ k, k < n → D k = 0 := by
  intro k
  induction k using Nat.strongRecOn with
  | _ k ih =>
    intro hk
    have e := h (k + 1) (by omega)
    have e2 : sumI (fun j => D j * chI ((n : Int) - 1 - j + ((k + 1 : Nat) : Int)) n) n = sumI (fun j => D j * (if j = k then 1 else 0)) n := sumI_congr fun j hj => by
      rcases Nat.lt_trichotomy j k with q | q | q
      · rw [ih j q hj, Int.zero_mul, Int.zero_mul]
      · subst q
        rw [if_pos rfl, chI_in (by omega) (by omega)]
        rw [show ((n : Int) - 1 - j + ((j + 1 : Nat) : Int)).toNat = n by omega, Int.toNat_natCast, ch_self]
        rfl
      · rw [if_neg (by omega), chI_out (.inr (by omega))]
    rw [e2, sumI_one, if_pos hk] at e
    exact e
/-- the falls behind a riffle from an order that has d falls are the carries from d -/
theorem nj_ca {n b j : Nat} {os : List Int} (h1 : 1 ≤ n) (hb : 1 ≤ b) (o : Ord n os) (hj : j < n) : ((nj os b n j : Nat) : Int) = ca n b (flN os) j := by
  have hd : flN os < n := by
    unfold flN
    have := cnt_le (os.length - 1) fun p => decide (os.getD (p + 1) 0 < os.getD p 0)
    rw [o.len] at this ⊢
    omega
  have z : (fun j => ((nj os b n j : Nat) : Int) - ca n b (flN os) j) j = 0 := by
    refine uniq (n := n) (D := fun j => ((nj os b n j : Nat) : Int) - ca n b (flN os) j) (fun c hc => ?_) j hj
    have e1 := sum_ways (b := b) h1 o hc
    have e2 := by_value (ff os b) (fun j => ((ch (c + (n - 1 - j)) n : Nat) : Int)) n (allw b n) fun w hw => ff_lt h1 (mem_allw.mp hw)
    rw [← sumL_cast (fun w => ch (c + (n - 1 - ff os b w)) n), e1] at e2
    have e3 := ca_prod (m := n) (a := b) (b := c) (i := flN os) (j := 0) hb hc hd
    rw [ca_zero] at e3
    have e4 : sumI (fun k => (((nj os b n k : Nat) : Int) - ca n b (flN os) k) * chI ((n : Int) - 1 - k + c) n) n = sumI (fun k => ((nj os b n k : Nat) : Int) * chI ((n : Int) - 1 - k + c) n) n - sumI (fun k => ca n b (flN os) k * chI ((n : Int) - 1 - k + c) n) n := by
      rw [← sumI_sub]
      exact sumI_congr fun k _ => Int.sub_mul ..
    have e5 : sumI (fun k => ca n b (flN os) k * chI ((n : Int) - 1 - k + c) n) n = chI ((n : Int) - 1 - flN os + ((b * c : Nat) : Int)) n := by
      rw [← e3]
      exact sumI_congr fun k _ => by rw [ca_zero]
    have conv : ∀ k x : Nat, k < n → chI ((n : Int) - 1 - k + x) n = ((ch (x + (n - 1 - k)) n : Nat) : Int) := fun k x hk => by
      rcases Nat.lt_or_ge (x + (n - 1 - k)) n with q | q
      · rw [chI_out (.inr (by omega)), ch_lt q]; rfl
      · rw [chI_in (by omega) (by omega), show ((n : Int) - 1 - k + x).toNat = x + (n - 1 - k) by omega, Int.toNat_natCast]
    rw [e4, e5, conv _ _ hd, e2]
    have e6 : sumI (fun k => ((nj os b n k : Nat) : Int) * chI ((n : Int) - 1 - k + c) n) n = sumI (fun k => ((nj os b n k : Nat) : Int) * ((ch (c + (n - 1 - k)) n : Nat) : Int)) n := sumI_congr fun k hk => by rw [conv k c hk]
    rw [e6]
    show sumI _ n - sumI _ n = 0
    exact Int.sub_self _
  simp only at z
  omega
end M
set_option linter.all false
namespace M
theorem nd_permM {α : Type} [BEq α] [LawfulBEq α] : ∀ {l m : List α}, l.Nodup → (∀ x ∈ l, x ∈ m) → m.length ≤ l.length → m.Perm l
  | [], m, _, _, h => by
    have : m = [] := List.length_eq_zero_iff.mp (by simpa using h)
    rw [this]
  | a :: r, m, nd, sub, h => by
    have ha : a ∈ m := sub a List.mem_cons_self
    obtain ⟨n1, n2⟩ := List.nodup_cons.mp nd
    refine (List.perm_cons_erase ha).trans (List.Perm.cons a (nd_permM n2 (fun x hx => ?_) ?_))
    · have hne : x ≠ a := fun e => n1 (e ▸ hx)
      exact (List.mem_erase_of_ne hne).mpr (sub x (List.mem_cons_of_mem _ hx))
    · rw [List.length_erase_of_mem ha]
      simp at h
      omega
/-- the figures of u, the smallest first -/
def dig (b : Nat) : Nat → Nat → List Int
  | 0, _ => []
  | n + 1, u => ((u % b : Nat) : Int) :: dig b n (u / b)
theorem dig_len (b : Nat) : ∀ n u, (dig b n u).length = n
  | 0, _ => rfl
  | n + 1, u => by rw [dig, List.length_cons, dig_len b n]
theorem dig_wd {b : Nat} (hb : 1 ≤ b) : ∀ n u, Wd b n (dig b n u)
  | 0, u => ⟨rfl, fun x hx => by cases hx⟩
  | n + 1, u => ⟨dig_len b _ u, fun x hx => by
    rcases List.mem_cons.mp hx with rfl | hx
    · have := Nat.mod_lt u (show 0 < b by omega)
      omega
    · exact (dig_wd hb n (u / b)).bd x hx⟩
theorem dig_inj {b : Nat} (hb : 1 ≤ b) : ∀ {n u v : Nat}, u < b ^ n → v < b ^ n → dig b n u = dig b n v → u = v
  | 0, u, v, hu, hv, _ => by rw [Nat.pow_zero] at hu hv; omega
  | n + 1, u, v, hu, hv, e => by
    rw [dig, dig] at e
    obtain ⟨e1, e2⟩ := List.cons.inj e
    have q := dig_inj hb (n := n) (Nat.div_lt_of_lt_mul (by rw [Nat.mul_comm, ← Nat.pow_succ]; exact hu)) (Nat.div_lt_of_lt_mul (by rw [Nat.mul_comm, ← Nat.pow_succ]; exact hv)) e2
    have m : u % b = v % b := by omega
    rw [← Nat.div_add_mod u b, ← Nat.div_add_mod v b, q, m]
theorem dig_perm {b : Nat} (hb : 1 ≤ b) (n : Nat) : (allw b n).Perm ((List.range (b ^ n)).map (dig b n)) := by
  refine nd_permM ?_ (fun x hx => ?_) ?_
  · refine List.pairwise_map.mpr ?_
    exact List.nodup_range.imp_of_mem fun {a c} ha hc hne e => hne (dig_inj hb (List.mem_range.mp ha) (List.mem_range.mp hc) e)
  · obtain ⟨u, _, rfl⟩ := List.mem_map.mp hx
    exact mem_allw.mpr (dig_wd hb n u)
  · rw [allw_length, List.length_map, List.length_range]
    exact Nat.le_refl _
/-- how many of the words have j falls behind the riffle -/
def cnts (os : List Int) (b n : Nat) (l : List (List Int)) : List Int := (List.range n).map fun j => (((l.filter fun w => ff os b w == j).length : Nat) : Int)
theorem cnts_len (os : List Int) (b n : Nat) (l : List (List Int)) : (cnts os b n l).length = n := by simp [cnts]
theorem cnts_nil (os : List Int) (b n : Nat) : cnts os b n [] = List.replicate n 0 := by
  unfold cnts
  apply List.ext_getElem?
  intro i
  rcases Nat.lt_or_ge i n with h | h
  · rw [List.getElem?_map, List.getElem?_range h, List.getElem?_replicate, if_pos h]; rfl
  · rw [List.getElem?_eq_none (by simpa using h), List.getElem?_eq_none (by simpa using h)]
theorem cnts_getD {os : List Int} {b n j : Nat} {l : List (List Int)} (h : j < n) : (cnts os b n l).getD j 0 = (((l.filter fun w => ff os b w == j).length : Nat) : Int) := by
  unfold cnts
  rw [List.getD, List.getElem?_map, List.getElem?_range h]
  rfl
theorem cnts_snoc {os : List Int} {b n : Nat} {l : List (List Int)} {w : List Int} (h : ff os b w < n) : (cnts os b n l).set (ff os b w) ((cnts os b n l).getD (ff os b w) 0 + 1) = cnts os b n (l ++ [w]) := by
  apply List.ext_getElem?
  intro i
  rcases Nat.lt_or_ge i n with q | q
  · by_cases e : ff os b w = i
    · subst e
      rw [List.getElem?_set_self (by rw [cnts_len]; exact h), cnts_getD h]
      unfold cnts
      rw [List.getElem?_map, List.getElem?_range h]
      simp only [Option.map_some, List.filter_append]
      simp
    · rw [List.getElem?_set_ne e]
      unfold cnts
      rw [List.getElem?_map, List.getElem?_map, List.getElem?_range q]
      simp only [Option.map_some, List.filter_append]
      simp [e]
  · rw [List.getElem?_eq_none (by rw [List.length_set, cnts_len]; exact q), List.getElem?_eq_none (by rw [cnts_len]; exact q)]
theorem cnts_perm {os : List Int} {b n : Nat} {l m : List (List Int)} (p : l.Perm m) : cnts os b n l = cnts os b n m := by
  unfold cnts
  refine List.map_congr_left fun j _ => ?_
  rw [(p.filter _).length_eq]
theorem cnts_all {os : List Int} {b n : Nat} (h1 : 1 ≤ n) (hb : 1 ≤ b) (o : Ord n os) : cnts os b n (allw b n) = (List.range n).map fun j => ca n b (flN os) j :=
  List.map_congr_left fun j hj => nj_ca h1 hb o (List.mem_range.mp hj)
/-- the heaps that are used alone, in their order: nothing changes -/
theorem std_same {n b : Nat} {ws vs : List Int} (W : Wd b n ws) (V : Wd n n vs) (h : ∀ p q, p < n → q < n → (vs.getD p 0 < vs.getD q 0 ↔ ws.getD p 0 < ws.getD q 0)) : drawn (pl n) vs = drawn (pl b) ws := by
  refine ord_same (ord_drawn V) (ord_drawn W) fun p q hp' hq => ?_
  rw [drawn_getD V hp', drawn_getD V hq, drawn_getD W hp', drawn_getD W hq]
  have a := dr_iff (bs := pl n) V hp' hq
  have c := dr_iff (bs := pl b) W hp' hq
  have g : ∀ k x, (pl k).getD x false = false := fun k x => by
    rw [List.getD, List.getElem?_replicate]
    split <;> rfl
  rw [g, if_neg (by decide)] at a c
  have v1 := (hp_cast V hp').1
  have v2 := (hp_cast V hq).1
  have w1 := (hp_cast W hp').1
  have w2 := (hp_cast W hq).1
  have i1 := h p q hp' hq
  have i2 := h q p hq hp'
  constructor
  · intro z
    have := a.mp (by omega)
    have := c.mpr (by omega)
    omega
  · intro z
    have := c.mp (by omega)
    have := a.mpr (by omega)
    omega
theorem idx_lt_iff {ms : List Int} (so : ms.Pairwise (· ≤ ·)) (nd : ms.Nodup) {x y : Int} (hx : x ∈ ms) (hy : y ∈ ms) : ms.idxOf x < ms.idxOf y ↔ x < y := by
  have ix := List.idxOf_lt_length_iff.mpr hx
  have iy := List.idxOf_lt_length_iff.mpr hy
  have ex : ms[ms.idxOf x] = x := List.getElem_idxOf ix
  have ey : ms[ms.idxOf y] = y := List.getElem_idxOf iy
  have pw := List.pairwise_iff_getElem.mp so
  have pn := List.pairwise_iff_getElem.mp nd
  constructor
  · intro h
    have a := pw _ _ ix iy h
    have b := pn _ _ ix iy h
    rw [ex, ey] at a b
    omega
  · intro h
    rcases Nat.lt_trichotomy (ms.idxOf x) (ms.idxOf y) with q | q | q
    · exact q
    · have : x = y := by rw [← ex, ← ey]; simp only [q]
      omega
    · have a := pw _ _ iy ix q
      rw [ex, ey] at a
      omega
end M
namespace M
/-- the order of a number: the next card is the so-manieth of those left -/
def pk : Nat → Nat → List Int → List Int
  | 0, _, _ => []
  | f + 1, u, left => left.getD (u % left.length) 0 :: pk f (u / left.length) (left.eraseIdx (u % left.length))
def flU (n u : Nat) : Nat := flN (pk n u (iota n))
/-- how many of the first m orders have so many falls -/
def lst (n m : Nat) : List Int := (List.range n).map fun j => ((cnt m fun u => flU n u == j : Nat) : Int)
def fa : Nat → Nat
  | 0 => 1
  | k + 1 => fa k * (k + 1)
theorem pow_bits {x : Nat} (h : x ≤ 10 ^ 20) : ∀ k, x ^ k < 2 ^ (67 * k + 1)
  | 0 => by rw [Nat.pow_zero]; decide
  | k + 1 => by
    have ih := pow_bits h k
    have hx : x ≤ 2 ^ 67 := Nat.le_trans h (by decide +kernel)
    rw [Nat.pow_succ, show 67 * (k + 1) + 1 = (67 * k + 1) + 67 by omega, Nat.pow_add]
    have hp : 0 < 2 ^ 67 := by decide
    calc x ^ k * x ≤ x ^ k * 2 ^ 67 := Nat.mul_le_mul_left _ hx
      _ < 2 ^ (67 * k + 1) * 2 ^ 67 := Nat.mul_lt_mul_of_pos_right ih hp
end M
set_option Elab.async false
set_option linter.all false
set_option maxRecDepth 100000
set_option maxHeartbeats 4000000
namespace K62
open PySem L2
local macro_rules | `(tactic| walk_at "sq") => `(tactic| first | assumption | (refine SqL.of ?_; assumption) | (refine SqL.of ?_; exact upd_same))
local macro_rules | `(tactic| walk_at "cj") => `(tactic| first | (with_reducible show (_ : Int) ≤ _; omega) | (with_reducible show (_ : Int) < _; omega) | exact rfl | assumption | omega | decide | (unfold CDiv; omega) | (unfold CPow; decide) | (show (0 : Int) < _; first | omega | decide) | (show _ ≤ sizeLine; rw [sizeLine_eq]; simp; done) | (refine mulS1 ?_ ?_ <;> omega) | (refine mulS2 ?_ ?_ <;> omega))
local macro_rules | `(tactic| walk_at "rd1") => `(tactic| first | refine ⟨_, rfl, ?_⟩ | refine ⟨_, _, rfl, rfl, ?_⟩ | refine ⟨_, _, rfl, ?_⟩ | refine ⟨_, _, _, rfl, ?_⟩ | refine ⟨_, _, _, _, rfl, ?_⟩ | refine ⟨_, _, _, _, _, rfl, ?_⟩ | refine ⟨_, _, rfl, .inl (by walk_at "sq"), ?_⟩ | refine And.intro (by walk_at "cj") ?_)
local macro_rules | `(tactic| walk_at "rd") => `(tactic| repeat walk_at "rd1")

def top (i : Nat) : Stmt := PySem.Challenge.pw_riftcarry_k62_falls_from_any_order.main.body.getD i (.Pass ⟨0, 0, 0, 0⟩)
abbrev s_is_whole : Stmt := top 5
abbrev s_power : Stmt := top 6
abbrev s_laid : Stmt := top 8
abbrev s_falls : Stmt := top 9
abbrev s_is_word : Stmt := top 11
abbrev s_is_heap : Stmt := top 12
abbrev s_check_word : Stmt := top 13
abbrev s_sizes : Stmt := top 14
abbrev s_riffled : Stmt := top 15
abbrev s_places_drawn_from : Stmt := top 16
abbrev s_places_of_tops : Stmt := top 17
abbrev s_falls_from : Stmt := top 20
abbrev s_all_words : Stmt := top 21
abbrev s_without_empty_heaps : Stmt := top 22
abbrev s_choose : Stmt := top 24
abbrev s_carries : Stmt := top 26
abbrev s_falls_table : Stmt := top 27
abbrev s_carries_from : Stmt := top 28
abbrev s_carries_from_to : Stmt := top 29
abbrev s_l_big : Stmt := top 31
abbrev s_l_whole : Stmt := top 32
abbrev s_l_order : Stmt := top 33
abbrev s_l_falls : Stmt := top 34
abbrev s_l_riffled : Stmt := top 35
abbrev s_l_due : Stmt := top 36
abbrev s_l_good : Stmt := top 37
abbrev s_law : Stmt := top 38
/-- the text as it stands behind the top -/
structure Txt (K : PySem.W.Frag) (mg : Str → Option Value) : Prop where
  f_is_whole : Def K mg "is_whole" s_is_whole ["thing"]
  f_power : Def K mg "power" s_power ["base", "times"]
  f_laid : Def K mg "laid" s_laid ["one", "other"]
  f_falls : Def K mg "falls" s_falls ["order"]
  f_is_word : Def K mg "is_word" s_is_word ["marks", "word", "n"]
  f_is_heap : Def K mg "is_heap" s_is_heap ["marks", "part"]
  f_check_word : Def K mg "check_word" s_check_word ["marks", "word", "n"]
  f_sizes : Def K mg "sizes" s_sizes ["marks", "word"]
  f_riffled : Def K mg "riffled" s_riffled ["order", "marks", "word"]
  f_places_drawn_from : Def K mg "places_drawn_from" s_places_drawn_from ["marks", "word"]
  f_places_of_tops : Def K mg "places_of_tops" s_places_of_tops ["marks", "counts"]
  f_falls_from : Def K mg "falls_from" s_falls_from ["order", "b"]
  f_all_words : Def K mg "all_words" s_all_words ["m", "b"]
  f_without_empty_heaps : Def K mg "without_empty_heaps" s_without_empty_heaps ["word"]
  f_choose : Def K mg "choose" s_choose ["n", "k"]
  f_carries : Def K mg "carries" s_carries ["m", "b"]
  f_falls_table : Def K mg "falls_table" s_falls_table ["m", "b"]
  f_carries_from : Def K mg "carries_from" s_carries_from ["m", "b", "i"]
  f_carries_from_to : Def K mg "carries_from_to" s_carries_from_to ["m", "b", "i", "j"]
  f_l_big : Def K mg "_law_big" s_l_big ["_law_script", "_law_k"]
  f_l_whole : Def K mg "_law_whole" s_l_whole ["_law_found"]
  f_l_order : Def K mg "_law_order" s_l_order ["_law_n", "_law_cell"]
  f_l_falls : Def K mg "_law_falls" s_l_falls ["_law_order_here"]
  f_l_riffled : Def K mg "_law_riffled" s_l_riffled ["_law_order_here", "_law_word", "_law_b"]
  f_l_due : Def K mg "_law_due" s_l_due ["_law_order_here", "_law_b"]
  f_l_good : Def K mg "_law_good" s_l_good ["_law_found", "_law_due_here"]
  f_law : Def K mg "law" s_law ["_law_script"]
  z_all : mg "all" = none
  z_bool : mg "bool" = none
  z_int : mg "int" = none
  z_isinstance : mg "isinstance" = none
  z_len : mg "len" = none
  z_list : mg "list" = none
  z_min : mg "min" = none
  z_range : mg "range" = none
  z_set : mg "set" = none
  z_sorted : mg "sorted" = none
  z_zip : mg "zip" = none
  c_MOST_WORDS : ∃ t, mg "MOST_WORDS" = some (.int 4096 t)
theorem sc_is_whole : FnScope ["thing"] ["thing"] (defScope s_is_whole) := ⟨rfl, rfl, rfl, by decide +kernel, rfl, by decide +kernel, by decide +kernel⟩
theorem sc_power : FnScope ["base", "times", "number", "step"] ["base", "times"] (defScope s_power) := ⟨rfl, rfl, rfl, by decide +kernel, rfl, by decide +kernel, by decide +kernel⟩
theorem sc_laid : FnScope ["one", "other"] ["one", "other"] (defScope s_laid) := ⟨rfl, rfl, rfl, by decide +kernel, rfl, by decide +kernel, by decide +kernel⟩
theorem sc_falls : FnScope ["order"] ["order"] (defScope s_falls) := ⟨rfl, rfl, rfl, by decide +kernel, rfl, by decide +kernel, by decide +kernel⟩
theorem sc_is_word : FnScope ["marks", "word", "n"] ["marks", "word", "n"] (defScope s_is_word) := ⟨rfl, rfl, rfl, by decide +kernel, rfl, by decide +kernel, by decide +kernel⟩
theorem sc_is_heap : FnScope ["marks", "part"] ["marks", "part"] (defScope s_is_heap) := ⟨rfl, rfl, rfl, by decide +kernel, rfl, by decide +kernel, by decide +kernel⟩
theorem sc_check_word : FnScope ["marks", "word", "n"] ["marks", "word", "n"] (defScope s_check_word) := ⟨rfl, rfl, rfl, by decide +kernel, rfl, by decide +kernel, by decide +kernel⟩
theorem sc_sizes : FnScope ["marks", "word"] ["marks", "word"] (defScope s_sizes) := ⟨rfl, rfl, rfl, by decide +kernel, rfl, by decide +kernel, by decide +kernel⟩
theorem sc_riffled : FnScope ["order", "marks", "word"] ["order", "marks", "word"] (defScope s_riffled) := ⟨rfl, rfl, rfl, by decide +kernel, rfl, by decide +kernel, by decide +kernel⟩
theorem sc_places_drawn_from : FnScope ["marks", "word", "tops", "drawn", "heap"] ["marks", "word"] (defScope s_places_drawn_from) := ⟨rfl, rfl, rfl, by decide +kernel, rfl, by decide +kernel, by decide +kernel⟩
theorem sc_places_of_tops : FnScope ["marks", "counts", "tops", "start", "turned", "count"] ["marks", "counts"] (defScope s_places_of_tops) := ⟨rfl, rfl, rfl, by decide +kernel, rfl, by decide +kernel, by decide +kernel⟩
theorem sc_falls_from : FnScope ["order", "b", "m", "marks", "counts", "word", "reached"] ["order", "b"] (defScope s_falls_from) := ⟨rfl, rfl, rfl, by decide +kernel, rfl, by decide +kernel, by decide +kernel⟩
theorem sc_all_words : FnScope ["m", "b", "words", "place", "longer", "word"] ["m", "b"] (defScope s_all_words) := ⟨rfl, rfl, rfl, by decide +kernel, rfl, by decide +kernel, by decide +kernel⟩
theorem sc_without_empty_heaps : FnScope ["word", "used"] ["word"] (defScope s_without_empty_heaps) := ⟨rfl, rfl, rfl, by decide +kernel, rfl, by decide +kernel, by decide +kernel⟩
theorem sc_choose : FnScope ["n", "k", "ways", "taken"] ["n", "k"] (defScope s_choose) := ⟨rfl, rfl, rfl, by decide +kernel, rfl, by decide +kernel, by decide +kernel⟩
theorem sc_carries : FnScope ["m", "b"] ["m", "b"] (defScope s_carries) := ⟨rfl, rfl, rfl, by decide +kernel, rfl, by decide +kernel, by decide +kernel⟩
theorem sc_falls_table : FnScope ["m", "b"] ["m", "b"] (defScope s_falls_table) := ⟨rfl, rfl, rfl, by decide +kernel, rfl, by decide +kernel, by decide +kernel⟩
theorem sc_carries_from : FnScope ["m", "b", "i"] ["m", "b", "i"] (defScope s_carries_from) := ⟨rfl, rfl, rfl, by decide +kernel, rfl, by decide +kernel, by decide +kernel⟩
theorem sc_carries_from_to : FnScope ["m", "b", "i", "j", "count", "sign", "t"] ["m", "b", "i", "j"] (defScope s_carries_from_to) := ⟨rfl, rfl, rfl, by decide +kernel, rfl, by decide +kernel, by decide +kernel⟩
theorem sc_l_big : FnScope ["_law_script", "_law_k", "_law_cell", "_law_number", "_law_j", "_law_step"] ["_law_script", "_law_k"] (defScope s_l_big) := ⟨rfl, rfl, rfl, by decide +kernel, rfl, by decide +kernel, by decide +kernel⟩
theorem sc_l_whole : FnScope ["_law_found"] ["_law_found"] (defScope s_l_whole) := ⟨rfl, rfl, rfl, by decide +kernel, rfl, by decide +kernel, by decide +kernel⟩
theorem sc_l_order : FnScope ["_law_n", "_law_cell", "_law_left", "_law_order_here", "_law_k"] ["_law_n", "_law_cell"] (defScope s_l_order) := ⟨rfl, rfl, rfl, by decide +kernel, rfl, by decide +kernel, by decide +kernel⟩
theorem sc_l_falls : FnScope ["_law_order_here"] ["_law_order_here"] (defScope s_l_falls) := ⟨rfl, rfl, rfl, by decide +kernel, rfl, by decide +kernel, by decide +kernel⟩
theorem sc_l_riffled : FnScope ["_law_order_here", "_law_word", "_law_b", "_law_heaps", "_law_start", "_law_heap", "_law_size", "_law_new"] ["_law_order_here", "_law_word", "_law_b"] (defScope s_l_riffled) := ⟨rfl, rfl, rfl, by decide +kernel, rfl, by decide +kernel, by decide +kernel⟩
theorem sc_l_due : FnScope ["_law_order_here", "_law_b", "_law_row", "_law_many", "_law_card", "_law_number", "_law_word"] ["_law_order_here", "_law_b"] (defScope s_l_due) := ⟨rfl, rfl, rfl, by decide +kernel, rfl, by decide +kernel, by decide +kernel⟩
theorem sc_l_good : FnScope ["_law_found", "_law_due_here", "_law_number"] ["_law_found", "_law_due_here"] (defScope s_l_good) := ⟨rfl, rfl, rfl, by decide +kernel, rfl, by decide +kernel, by decide +kernel⟩
theorem sc_law : FnScope ["_law_script", "_law_k", "_law_cell", "_law_n", "_law_order_here", "_law_b", "_law_due_here", "_law_handed", "_law_found"] ["_law_script"] (defScope s_law) := ⟨rfl, rfl, rfl, by decide +kernel, rfl, by decide +kernel, by decide +kernel⟩

section
variable {P : Program} {w : World} {K : PySem.W.Frag} {mg : Str → Option Value} {base : Heap} {k : Nat}
abbrev iL (ns : List Int) : List V := ns.map V.int
abbrev bL (bs : List Bool) : List V := bs.map V.bl
theorem lt_line {n : Nat} (h : n ≤ 1000) : n ≤ sizeLine := by rw [sizeLine_eq]; omega
theorem lt_line' {n : Nat} (h : n ≤ 1000) : n < sizeLine := by rw [sizeLine_eq]; omega
theorem range_getD {α β : Type} (xs : List α) (d : α) (g : α → β) : (List.range xs.length).map (fun i => g (xs.getD i d)) = xs.map g := by
  apply List.ext_getElem?
  intro i
  by_cases h : i < xs.length
  · rw [List.getElem?_map, List.getElem?_range h, List.getElem?_map, List.getElem?_eq_getElem h]
    simp [List.getD, List.getElem?_eq_getElem h]
  · rw [List.getElem?_eq_none (by simp; omega), List.getElem?_eq_none (by simp; omega)]
theorem getD_some {α : Type} {xs : List α} {d v : α} {i : Nat} (h : xs[i]? = some v) : xs.getD i d = v := by rw [List.getD, h]; rfl
def sp_l_big (K : PySem.W.Frag) : Sp := sp2 fun a b H Q => ∃ (p : Addr) (ns : List Int) (k : Int), SqL K H p (iL ns) ∧ a = .ref p ∧ b = .int k ∧ 0 ≤ k ∧ ∀ c : Int, Q (.int c) H
theorem ok_l_big (T : Txt K mg)  : Has P w K mg base (k + 1) "_law_big" ["_law_script", "_law_k"] (sp_l_big K) := by
  refine T.f_l_big.has sc_l_big len2 (fun f cdv A outer s H vs Q E hr h => ?_)
  obtain ⟨a0, a1, rfl, h⟩ := h
  refine ⟨_, pss_cons (ps_set (i := 2) sc_l_big.nd rfl (Or.inl rfl) (pe_op op_add pe_int (pv 1)))
    (pss_cons (ps_if (pt_cmpR op_lt (pv 1) (pe_callB (k_len (K := K)) rfl T.z_len PySem.boot_len (pa_cons (pv 0) pa_nil)) (nomark _))
    (pss_one (ps_set (i := 2) sc_l_big.nd rfl (Or.inl rfl) (pe_ix (k_ix_list (K := K)) (pv 0) (pv 1) (fun _ _ => rfl))))
    (pss_nil))
    (pss_cons (ps_if (PW.pt (pw_or (pt_cmpR op_lt (pv 2) pe_int (nomark _)) (pw_or1 (pt_cmpR op_ge (pv 2) (pe_op op_pow pe_int pe_int) (nomark _)))))
    (pss_one (ps_ret (pv 2)))
    (pss_nil))
    (pss_cons (ps_set (i := 3) sc_l_big.nd rfl (Or.inl rfl) pe_int)
    (pss_cons (ps_for PassesOwn.never rfl (pi_range1 rfl T.z_range (pa_cons pe_int pa_nil)) (pg_name (i := 4) sc_l_big.nd rfl (Or.inl rfl))
    (pss_cons (ps_set (i := 5) sc_l_big.nd rfl (Or.inl rfl) (pe_op op_mod (pe_op op_mulB (pe_op op_mod (pe_op op_add (pe_op op_mulB (pv 2) pe_int) (pe_op op_mulB (pe_op op_mulB (pe_op op_add (pv 4) pe_int) (pe_op op_add (pe_op op_add (pv 1) (pv 4)) pe_int)) pe_int)) pe_int) pe_int) pe_int))
      (pss_one (ps_set (i := 3) sc_l_big.nd rfl (Or.inl rfl) (pe_op op_add (pe_op op_mulB (pv 3) pe_int) (pe_op op_mod (pe_op op_mulB (pv 5) (pe_op op_add (pv 4) pe_int)) pe_int))))))
    (pss_one (ps_ret (pv 3))))))), ?_⟩
  obtain ⟨p, ns, k, hS, rfl, rfl, h0, q⟩ := h
  walk_at "rd"
  refine ite2 (fun c => ?_) (fun c => ?_)
  · simp only [decide_eq_true_eq, List.length_map] at c
    walk_at "rd"
    refine ⟨p, _, _, _, rfl, rfl, hS, atI_int h0 c, ?_⟩
    generalize ns.getD k.toNat 0 = cell
    walk_at "rd"
    refine ite2 (fun c => iteT ⟨_, rfl, q _⟩) (fun c => ?_)
    walk_at "rd"
    refine ite2 (fun c => ⟨_, rfl, q _⟩) (fun c => ?_)
    walk_at "rd"
    refine for_range (fun i σ' H' => (∃ (d : Int) (t u : Option V), σ' = [some (.ref p), some (.int k), some (.int cell), some (.int d), t, u] ∧ H' = H) ∨ False) (.inl ⟨1, none, none, rfl, rfl⟩) ?_ ?_
    · intro i σ' H' hi z
      obtain ⟨d, t, u, rfl, rfl⟩ := z.resolve_right id
      walk_at "rd"
      exact .inl ⟨_, _, _, rfl, rfl⟩
    · intro σ' H' z
      obtain ⟨d, t, u, rfl, rfl⟩ := z.resolve_right id
      walk_at "rd"
      exact q _
  · walk_at "rd"
    refine ite2 (fun c => iteT ⟨_, rfl, q _⟩) (fun c => ?_)
    walk_at "rd"
    refine ite2 (fun c => ⟨_, rfl, q _⟩) (fun c => ?_)
    walk_at "rd"
    refine for_range (fun i σ' H' => (∃ (d : Int) (t u : Option V), σ' = [some (.ref p), some (.int k), some (.int (7 + k)), some (.int d), t, u] ∧ H' = H) ∨ False) (.inl ⟨1, none, none, rfl, rfl⟩) ?_ ?_
    · intro i σ' H' hi z
      obtain ⟨d, t, u, rfl, rfl⟩ := z.resolve_right id
      walk_at "rd"
      exact .inl ⟨_, _, _, rfl, rfl⟩
    · intro σ' H' z
      obtain ⟨d, t, u, rfl, rfl⟩ := z.resolve_right id
      walk_at "rd"
      exact q _
def isW : V → Bool
  | .int _ => true
  | _ => false
inductive Kd (H : Hp) : V → Prop where
  | flat {x : V} : flatV x = true → Kd H x
  | lst {a : Addr} {xs : List V} : H a = some (.lst xs) → Kd H (.ref a)
  | tup {a : Addr} {xs : List V} : H a = some (.tup xs) → Kd H (.ref a)
def sp_is_whole (K : PySem.W.Frag) : Sp := sp1 fun a H Q => Kd H a ∧ Q (.bl (isW a)) H
theorem ok_is_whole (T : Txt K mg)  : Has P w K mg base (k + 1) "is_whole" ["thing"] (sp_is_whole K) := by
  refine T.f_is_whole.has sc_is_whole len1 (fun f cdv A outer s H vs Q E hr h => ?_)
  obtain ⟨a0, rfl, h⟩ := h
  refine ⟨_, pss_one (ps_ret (pe_and (pe_callB (k_isinst (K := K)) rfl T.z_isinstance PyProof.Rows.boot_isinstance (pa_cons (pv 0) (pa_cons (pe_bltn (v := .ty "int") rfl T.z_int PyProof.Rows.boot_int rfl) pa_nil))) (pe_one (pe_not (pe_callB (k_isinst (K := K)) rfl T.z_isinstance PyProof.Rows.boot_isinstance (pa_cons (pv 0) (pa_cons (pe_bltn (v := .ty "bool") rfl T.z_bool PyProof.Rows.boot_bool rfl) pa_nil))))))), ?_⟩
  obtain ⟨hk, q⟩ := h
  cases hk with
  | flat hf =>
    cases a0 with
    | non => walk_at "rd"; refine ⟨_, _, _, _, rfl, .non, rfl, ?_⟩; walk_at "rd"; exact iteF q
    | bl b => walk_at "rd"; refine ⟨_, _, _, _, rfl, .bl _, rfl, ?_⟩; walk_at "rd"; refine ⟨_, _, _, _, rfl, .bl _, rfl, ?_⟩; walk_at "rd"; exact q
    | int b => walk_at "rd"; refine ⟨_, _, _, _, rfl, .int _, rfl, ?_⟩; walk_at "rd"; refine ⟨_, _, _, _, rfl, .int _, rfl, ?_⟩; walk_at "rd"; exact q
    | str b => walk_at "rd"; refine ⟨_, _, _, _, rfl, .str _, rfl, ?_⟩; walk_at "rd"; exact iteF q
    | byt _ => cases hf
    | flt _ => cases hf
    | ref _ => cases hf
    | ty _ => cases hf
  | lst e => walk_at "rd"; refine ⟨_, _, _, _, rfl, .lst e, rfl, ?_⟩; walk_at "rd"; exact iteF q
  | tup e => walk_at "rd"; refine ⟨_, _, _, _, rfl, .tup e, rfl, ?_⟩; walk_at "rd"; exact iteF q
def isH (n : Nat) : V → Bool
  | .int i => decide (0 ≤ i) && decide (i < n)
  | _ => false
def sp_is_heap (K : PySem.W.Frag) : Sp := sp2 fun a b H Q => ∃ (p : Addr) (bs : List Bool), SqL K H p (bL bs) ∧ a = .ref p ∧ flatV b = true ∧ Q (.bl (isH bs.length b)) H
theorem ok_is_heap (T : Txt K mg) (g_is_whole : Has P w K mg base k "is_whole" ["thing"] (sp_is_whole K)) : Has P w K mg base (k + 1) "is_heap" ["marks", "part"] (sp_is_heap K) := by
  refine T.f_is_heap.has sc_is_heap len2 (fun f cdv A outer s H vs Q E hr h => ?_)
  obtain ⟨a0, a1, rfl, h⟩ := h
  refine ⟨_, pss_one (ps_ret (pe_and (pe_callH g_is_whole hr (pa_cons (pv 1) pa_nil)) (pe_one (pe_chain op_le op_lt pe_int (pv 1) (pe_callB (k_len (K := K)) rfl T.z_len PySem.boot_len (pa_cons (pv 0) pa_nil)))))), ?_⟩
  obtain ⟨p, bs, hS, rfl, hf, q⟩ := h
  have hl : (bL bs).length = bs.length := List.length_map _
  cases a1 with
  | int i =>
    walk_at "rd"
    refine ⟨.flat rfl, ?_⟩
    walk_at "rd"
    refine ite2 (fun c => ?_) (fun c => ?_)
    · walk_at "rd"
      rw [hl]
      have e : isH bs.length (.int i) = decide (i < (bs.length : Int)) := by rw [isH, c, Bool.true_and]
      rw [e] at q
      exact q
    · have e : isH bs.length (.int i) = false := by rw [isH, Bool.eq_false_iff.mpr c, Bool.false_and]
      rw [e] at q
      exact q
  | non => walk_at "rd"; refine ⟨.flat rfl, ?_⟩; walk_at "rd"; exact iteF q
  | bl _ => walk_at "rd"; refine ⟨.flat rfl, ?_⟩; walk_at "rd"; exact iteF q
  | str _ => walk_at "rd"; refine ⟨.flat rfl, ?_⟩; walk_at "rd"; exact iteF q
  | byt _ => cases hf
  | flt _ => cases hf
  | ref _ => cases hf
  | ty _ => cases hf
def sp_is_word (K : PySem.W.Frag) : Sp := sp3 fun a b c H Q => ∃ (p r : Addr) (bs : List Bool) (xs : List V) (n : Int), SqL K H p (bL bs) ∧ SqL K H r xs ∧ a = .ref p ∧ b = .ref r ∧ c = .int n ∧ xs.all flatV = true ∧ xs.length ≤ 1000 ∧ ∀ H', Same H H' → Q (.bl (decide ((xs.length : Int) = n) && xs.all (isH bs.length))) H'
theorem ok_is_word (T : Txt K mg) (g_is_heap : Has P w K mg base k "is_heap" ["marks", "part"] (sp_is_heap K)) : Has P w K mg base (k + 1) "is_word" ["marks", "word", "n"] (sp_is_word K) := by
  refine T.f_is_word.has sc_is_word len3 (fun f cdv A outer s H vs Q E hr h => ?_)
  obtain ⟨a0, a1, a2, rfl, h⟩ := h
  refine ⟨_, pss_one (ps_ret (pe_and (pe_cmpR op_eq (pe_callB (k_len (K := K)) rfl T.z_len PySem.boot_len (pa_cons (pv 1) pa_nil)) (pv 2) (nomark _)) (pe_one (pe_callB (k_all (K := K) rfl) rfl T.z_all PyProof.Rows.boot_all (pa_cons (pe_comp (vars := ["part"]) (caps := [0]) (CompScope.of (outer := defScope s_is_word) (N := ["marks", "word", "n"]) rfl rfl ⟨by decide +kernel⟩) rfl (k_pi_list (K := K) (pv 1)) ⟨fun _ _ _ _ => ⟨(pg_name (i := 0) (show List.Nodup (["part", "marks"] : List Str) by decide +kernel) rfl (Or.inl rfl)), pts_nil, (pe_callH g_is_heap hr (pa_cons (pv 1) (pa_cons (pv 0) pa_nil)))⟩⟩) pa_nil))))), ?_⟩
  obtain ⟨p, r, bs, xs, n, hS, hR, rfl, rfl, rfl, hf, hl, q⟩ := h
  walk_at "rd"
  refine ite2 (fun c => ?_) (fun c => ?_)
  · walk_at "rd"
    refine ⟨⟨_, hR⟩, ?_⟩
    refine comp_list (fun i => .bl (isH bs.length (xs.getD i .non))) (fun _ => true) (lt_line hl) hR ?_ ?_
    · intro i v t acc ys N Kt hi hv hacc k1 _
      have s1 := Same.new hacc (.lst ys)
      walk_at "rd"
      refine ⟨p, bs, s1.seq hS, rfl, List.all_eq_true.mp hf v (List.mem_of_getElem? hv), ?_⟩
      have := k1 (some v) rfl
      rw [getD_some hv] at this
      exact this
    · rw [filter_true, range_getD xs .non fun v => V.bl (isH bs.length v)]
      intro l hl
      refine ⟨l, xs.map (isH bs.length), rfl, SqL.of (by rw [upd_same, List.map_map]; rfl), ?_⟩
      have z := q _ (Same.new hl (.lst (xs.map fun v => V.bl (isH bs.length v))))
      have c' : decide ((xs.length : Int) = n) = true := by simpa using c
      rw [c', Bool.true_and] at z
      rw [List.all_map]
      exact z
  · have z := q _ (Same.refl H)
    have c' : decide ((xs.length : Int) = n) = false := by simpa using c
    rw [c', Bool.false_and] at z
    exact z
theorem all_isH {h n : Nat} {ws : List Int} (W : M.Wd h n ws) : (iL ws).all (isH h) = true := by
  rw [List.all_eq_true]
  intro x hx
  obtain ⟨c, hc, rfl⟩ := List.mem_map.mp hx
  have := W.bd c hc
  simp only [isH, Bool.and_eq_true, decide_eq_true_eq]
  exact this
def sp_check_word (K : PySem.W.Frag) : Sp := sp3 fun a b c H Q => ∃ (p r : Addr) (bs : List Bool) (ws : List Int) (n : Nat), SqL K H p (bL bs) ∧ SqL K H r (iL ws) ∧ a = .ref p ∧ b = .ref r ∧ c = .int n ∧ M.Wd bs.length n ws ∧ n ≤ 1000 ∧ ∀ H', Same H H' → Q .non H'
theorem ok_check_word (T : Txt K mg) (g_is_word : Has P w K mg base k "is_word" ["marks", "word", "n"] (sp_is_word K)) : Has P w K mg base (k + 1) "check_word" ["marks", "word", "n"] (sp_check_word K) := by
  refine T.f_check_word.has sc_check_word len3 (fun f cdv A outer s H vs Q E hr h => ?_)
  obtain ⟨a0, a1, a2, rfl, h⟩ := h
  refine ⟨_, pss_one (ps_if (pt_not (pt_val (pe_callH g_is_word hr (pa_cons (pv 0) (pa_cons (pv 1) (pa_cons (pv 2) pa_nil))))))
    (pss_one (ps_never))
    (pss_nil)), ?_⟩
  obtain ⟨p, r, bs, ws, n, hS, hR, rfl, rfl, rfl, W, hl, q⟩ := h
  walk_at "rd"
  refine ⟨p, r, bs, _, _, hS, hR, rfl, rfl, rfl, flat_ints ws, by rw [List.length_map, W.len]; exact hl, fun H1 s1 => ?_⟩
  rw [all_isH W, List.length_map, W.len, decide_eq_true rfl]
  walk_at "rd"
  exact q _ s1
def sp_sizes (K : PySem.W.Frag) : Sp := sp2 fun a b H Q => ∃ (p r : Addr) (bs : List Bool) (ws : List Int) (n : Nat), SqL K H p (bL bs) ∧ SqL K H r (iL ws) ∧ a = .ref p ∧ b = .ref r ∧ M.Wd bs.length n ws ∧ n ≤ 1000 ∧ bs.length ≤ 1000 ∧ rNew (iL (M.szs bs.length ws)) H Q
theorem ok_sizes (T : Txt K mg) (g_check_word : Has P w K mg base k "check_word" ["marks", "word", "n"] (sp_check_word K)) : Has P w K mg base (k + 1) "sizes" ["marks", "word"] (sp_sizes K) := by
  refine T.f_sizes.has sc_sizes len2 (fun f cdv A outer s H vs Q E hr h => ?_)
  obtain ⟨a0, a1, rfl, h⟩ := h
  refine ⟨_, pss_cons (ps_expr (pe_callH g_check_word hr (pa_cons (pv 0) (pa_cons (pv 1) (pa_cons (pe_callB (k_len (K := K)) rfl T.z_len PySem.boot_len (pa_cons (pv 1) pa_nil)) pa_nil)))))
    (pss_one (ps_ret (pe_comp (vars := ["heap"]) (caps := [1]) (CompScope.of (outer := defScope s_sizes) (N := ["marks", "word"]) rfl rfl ⟨by decide +kernel⟩) rfl (pi_range1 rfl T.z_range (pa_cons (pe_callB (k_len (K := K)) rfl T.z_len PySem.boot_len (pa_cons (pv 0) pa_nil)) pa_nil)) ⟨fun _ _ _ _ => ⟨(pg_name (i := 0) (show List.Nodup (["heap", "word"] : List Str) by decide +kernel) rfl (Or.inl rfl)), pts_nil, (k_bm (K := K) PySem.F.plainAttrs_list PySem.F.slot_list_count PySem.F.type_list_count (k_count (K := K)) (pv 1) (pa_cons (pv 0) pa_nil))⟩⟩))), ?_⟩
  obtain ⟨p, r, bs, ws, n, hS, hR, rfl, rfl, W, hl, hb, q⟩ := h
  have hl1 : (iL ws).length = n := by rw [List.length_map, W.len]
  have hl2 : (bL bs).length = bs.length := List.length_map _
  walk_at "rd"
  rw [hl1]
  refine ⟨p, r, bs, ws, n, hS, hR, rfl, rfl, rfl, W, hl, fun H1 s1 => ?_⟩
  have hS1 := s1.seq hS
  have hR1 := s1.seq hR
  walk_at "rd"
  rw [hl2, Int.toNat_natCast]
  refine comp_range (fun i => .int ((M.cn ws i : Nat) : Int)) (fun _ => true) (lt_line hb) ?_ ?_
  · intro i t acc ys N Kt hi hacc k1 _
    have hR2 := (Same.new hacc (.lst ys)).seq hR1
    walk_at "rd"
    refine ⟨.inl ⟨rfl, _, hR2⟩, ?_⟩
    walk_at "rd"
    have k2 := k1 (some (.int (0 + i))) rfl
    rw [Int.zero_add] at k2 ⊢
    refine ⟨r, _, _, rfl, rfl, hR2, rfl, flat_ints ws, ?_⟩
    rw [count_ints]
    exact k2
  rw [filter_true]
  intro l hl
  exact q l _ (s1.put (s1.free hl)) (s1.free hl) (by rw [upd_same, M.szs, iL, List.map_map]; rfl)
def sp_laid (K : PySem.W.Frag) : Sp := sp2 fun a b H Q => ∃ (p q : Addr) (ns ms : List Int), SqL K H p (iL ns) ∧ SqL K H q (iL ms) ∧ a = .ref p ∧ b = .ref q ∧ ms.length ≤ 1000 ∧ (∀ c ∈ ms, 0 ≤ c ∧ c < (ns.length : Int)) ∧ rNew (iL (M.lay ns ms)) H Q
theorem ok_laid (T : Txt K mg)  : Has P w K mg base (k + 1) "laid" ["one", "other"] (sp_laid K) := by
  refine T.f_laid.has sc_laid len2 (fun f cdv A outer s H vs Q E hr h => ?_)
  obtain ⟨a0, a1, rfl, h⟩ := h
  refine ⟨_, pss_one (ps_ret (pe_comp (vars := ["card"]) (caps := [0]) (CompScope.of (outer := defScope s_laid) (N := ["one", "other"]) rfl rfl ⟨by decide +kernel⟩) rfl (k_pi_list (K := K) (pv 1)) ⟨fun _ _ _ _ => ⟨(pg_name (i := 0) (show List.Nodup (["card", "one"] : List Str) by decide +kernel) rfl (Or.inl rfl)), pts_nil, (pe_ix (k_ix_list (K := K)) (pv 1) (pv 0) (fun _ _ => rfl))⟩⟩)), ?_⟩
  obtain ⟨p, q', ns, ms, hp, hq, rfl, rfl, hm, hb, q⟩ := h
  walk_at "rd"
  refine ⟨⟨_, hq⟩, ?_⟩
  refine comp_list (xs := iL ms) (fun i => .int (ns.getD (ms.getD i 0).toNat 0)) (fun _ => true) (by rw [List.length_map]; exact lt_line hm) hq ?_ ?_
  · intro i v t acc ys N Kt hi hv hacc k1 _
    rw [List.getElem?_map] at hv
    cases ec : ms[i]? with
    | none => rw [ec] at hv; cases hv
    | some c =>
      rw [ec] at hv
      cases hv
      have b := hb c (List.mem_of_getElem? ec)
      walk_at "rd"
      refine ⟨p, _, _, _, rfl, rfl, (Same.new hacc _).seq hp, atI_int b.1 b.2, ?_⟩
      have := k1 (some (.int c)) rfl
      rw [show ms.getD i 0 = c by simp [List.getD, ec]] at this
      exact this
  · rw [filter_true]
    have e : ((List.range (iL ms).length).map fun i => V.int (ns.getD (ms.getD i 0).toNat 0)) = iL (M.lay ns ms) := by
      unfold M.lay
      apply List.ext_getElem?
      intro i
      by_cases h : i < ms.length <;> simp [h, List.getD]
    rw [e]
    exact q.made
def sp_places_of_tops (K : PySem.W.Frag) : Sp := sp2 fun a b H Q => ∃ (p r : Addr) (bs : List Bool) (ws : List Int), SqL K H p (bL bs) ∧ SqL K H r (iL (M.szs bs.length ws)) ∧ a = .ref p ∧ b = .ref r ∧ bs.length ≤ 1000 ∧ rNew (iL (M.tops bs ws 0)) H Q
theorem ok_places_of_tops (T : Txt K mg)  : Has P w K mg base (k + 1) "places_of_tops" ["marks", "counts"] (sp_places_of_tops K) := by
  refine T.f_places_of_tops.has sc_places_of_tops len2 (fun f cdv A outer s H vs Q E hr h => ?_)
  obtain ⟨a0, a1, rfl, h⟩ := h
  refine ⟨_, pss_cons (ps_set (i := 2) sc_places_of_tops.nd rfl (Or.inl rfl) (pe_lst pa_nil))
    (pss_cons (ps_set (i := 3) sc_places_of_tops.nd rfl (Or.inl rfl) pe_int)
    (pss_cons (ps_for PassesOwn.never rfl (k_pi_zip (K := K) rfl T.z_zip (pa_cons (pv 0) (pa_cons (pv 1) pa_nil))) (k_pg_tup (K := K) (n := 2) rfl (pgs_cons (pg_name (i := 4) sc_places_of_tops.nd rfl (Or.inl rfl)) (pgs_cons (pg_name (i := 5) sc_places_of_tops.nd rfl (Or.inl rfl)) pgs_nil)))
    (pss_cons (ps_expr (k_bm (K := K) PySem.F.plainAttrs_list PySem.F.slot_list_append PySem.F.type_list_append mt_append (pv 2) (pa_cons (pe_ifExp (pt_val (pv 4)) (pe_op op_sub (pe_op op_add (pv 3) (pv 5)) pe_int) (pv 3)) pa_nil)))
      (pss_one (ps_set (i := 3) sc_places_of_tops.nd rfl (Or.inl rfl) (pe_op op_add (pv 3) (pv 5))))))
    (pss_one (ps_ret (pv 2))))), ?_⟩
  obtain ⟨p, r, bs, ws, hp, hr', rfl, rfl, hb, q⟩ := h
  have hl2 : (bL bs).length = bs.length := List.length_map _
  walk_at "rd"
  intro t ht
  generalize e1 : upd H t _ = H1
  obtain ⟨s1, et⟩ := new_is ht e1
  clear e1
  walk_at "rd"
  refine ⟨⟨_, s1.seq hp⟩, ⟨_, s1.seq hr'⟩, ?_⟩
  refine for_zip (xs := bL bs) (ys := iL (M.szs bs.length ws)) (by rw [List.length_map, List.length_map, M.szs_length]) (fun i σ' H' => (∃ t1 t2, σ' = [some (.ref p), some (.ref r), some (.ref t), some (.int (M.stt ws i : Nat)), t1, t2] ∧ Same H H' ∧ H' t = some (.lst (iL ((M.tops bs ws 0).take i)))) ∨ False) (.inl ⟨_, _, rfl, s1, et⟩) ?_ ?_ ?_
  · intro i σ' H' _ z
    obtain ⟨t1, t2, rfl, s3, _⟩ := z.resolve_right id
    exact ⟨s3.seq hp, s3.seq hr'⟩
  · intro i x y σ' H' T hx hy z hT
    obtain ⟨t1, t2, rfl, s3, e3⟩ := z.resolve_right id
    have hib : i < bs.length := by
      have := (List.getElem?_eq_some_iff.mp hx).1
      rw [List.length_map] at this
      exact this
    have ex : x = .bl (bs.getD i false) := by
      rw [List.getElem?_map, List.getElem?_eq_getElem hib] at hx
      rw [← Option.some.inj hx]
      simp [List.getD, List.getElem?_eq_getElem hib]
    have ey : y = .int ((M.cn ws i : Nat) : Int) := by
      rw [List.getElem?_map, M.szs, List.getElem?_map, List.getElem?_range hib] at hy
      exact (Option.some.inj hy).symm
    subst ex ey
    have htT : t ≠ T := ne_of_none e3 hT
    have hl3 : ((M.tops bs ws 0).take i).length = i := by rw [List.length_take, M.tops_length]; omega
    have etop : (M.tops bs ws 0).take (i + 1) = (M.tops bs ws 0).take i ++ [(M.tops bs ws 0).getD i 0] := by
      rw [List.take_succ_eq_append_getElem (by rw [M.tops_length]; exact hib)]
      simp [List.getD, List.getElem?_eq_getElem (show i < (M.tops bs ws 0).length by rw [M.tops_length]; exact hib)]
    have eg := M.tops_getD (ws := ws) (i := 0) hib
    rw [List.take_zero, List.count_nil] at eg
    have s4 : Same H (upd H' T (.tup [.bl (bs.getD i false), .int ((M.cn ws i : Nat) : Int)])) := s3.put (s3.free hT)
    refine ⟨T, _, rfl, SqT.of upd_same, rfl, ?_⟩
    walk_at "rd"
    refine ⟨.inl ⟨rfl, _, SqL.of (by rw [upd_ne htT]; exact e3)⟩, ?_⟩
    walk_at "rd"
    refine ite2 (fun c => ?_) (fun c => ?_)
    · walk_at "rd"
      refine ⟨t, _, _, rfl, rfl, by rw [upd_ne htT]; exact e3, by rw [List.length_map, hl3]; exact lt_line' (by omega), ?_⟩
      walk_at "rd"
      refine .inl ⟨_, _, rfl, s4.put ht, ?_⟩
      rw [upd_same, etop, eg, if_pos c]
      simp
    · walk_at "rd"
      refine ⟨t, _, _, rfl, rfl, by rw [upd_ne htT]; exact e3, by rw [List.length_map, hl3]; exact lt_line' (by omega), ?_⟩
      walk_at "rd"
      refine .inl ⟨_, _, rfl, s4.put ht, ?_⟩
      rw [upd_same, etop, eg, if_neg c]
      simp
  · intro σ' H' z
    obtain ⟨t1, t2, rfl, s3, e3⟩ := z.resolve_right id
    walk_at "rd"
    refine q t H' s3 ht ?_
    rw [e3, List.take_of_length_le (by rw [M.tops_length, List.length_map]; exact Nat.le_refl _)]
def sp_places_drawn_from (K : PySem.W.Frag) : Sp := sp2 fun a b H Q => ∃ (p r : Addr) (bs : List Bool) (ws : List Int) (n : Nat), SqL K H p (bL bs) ∧ SqL K H r (iL ws) ∧ a = .ref p ∧ b = .ref r ∧ M.Wd bs.length n ws ∧ n ≤ 1000 ∧ bs.length ≤ 1000 ∧ rNew (iL (M.drawn bs ws)) H Q
theorem ok_places_drawn_from (T : Txt K mg) (g_places_of_tops : Has P w K mg base k "places_of_tops" ["marks", "counts"] (sp_places_of_tops K)) (g_sizes : Has P w K mg base k "sizes" ["marks", "word"] (sp_sizes K)) : Has P w K mg base (k + 1) "places_drawn_from" ["marks", "word"] (sp_places_drawn_from K) := by
  refine T.f_places_drawn_from.has sc_places_drawn_from len2 (fun f cdv A outer s H vs Q E hr h => ?_)
  obtain ⟨a0, a1, rfl, h⟩ := h
  refine ⟨_, pss_cons (ps_set (i := 2) sc_places_drawn_from.nd rfl (Or.inl rfl) (pe_callH g_places_of_tops hr (pa_cons (pv 0) (pa_cons (pe_callH g_sizes hr (pa_cons (pv 0) (pa_cons (pv 1) pa_nil))) pa_nil))))
    (pss_cons (ps_set (i := 3) sc_places_drawn_from.nd rfl (Or.inl rfl) (pe_lst pa_nil))
    (pss_cons (ps_for PassesOwn.never rfl (k_pi_list (K := K) (pv 1)) (pg_name (i := 4) sc_places_drawn_from.nd rfl (Or.inl rfl))
    (pss_cons (ps_expr (k_bm (K := K) PySem.F.plainAttrs_list PySem.F.slot_list_append PySem.F.type_list_append mt_append (pv 3) (pa_cons (pe_ix (k_ix_list (K := K)) (pv 2) (pv 4) (fun _ _ => rfl)) pa_nil)))
      (pss_one (ps_asg (pe_ifExp (pt_val (pe_ix (k_ix_list (K := K)) (pv 0) (pv 4) (fun _ _ => rfl))) (pe_op op_sub (pe_ix (k_ix_list (K := K)) (pv 2) (pv 4) (fun _ _ => rfl)) pe_int) (pe_op op_add (pe_ix (k_ix_list (K := K)) (pv 2) (pv 4) (fun _ _ => rfl)) pe_int)) (pg_sub (pv 2) (pv 4) set_list)))))
    (pss_one (ps_ret (pv 3))))), ?_⟩
  obtain ⟨p, r, bs, ws, n, hp, hr', rfl, rfl, W, hn, hb, q⟩ := h
  have hl1 : (iL ws).length = n := by rw [List.length_map, W.len]
  walk_at "rd"
  refine ⟨p, r, bs, ws, n, hp, hr', rfl, rfl, W, hn, hb, fun z H1 s1 hz ez => ?_⟩
  walk_at "rd"
  refine ⟨p, z, bs, ws, s1.seq hp, SqL.of ez, rfl, rfl, hb, fun t H2 s2 ht et => ?_⟩
  have s02 := s1.trans s2
  have ht0 : H t = none := s1.free ht
  walk_at "rd"
  intro d hd
  generalize e3 : upd H2 d _ = H3
  obtain ⟨s3, ed⟩ := new_is hd e3
  clear e3
  have hd0 : H d = none := s02.free hd
  have htd : t ≠ d := ne_of_none et hd
  walk_at "rd"
  refine ⟨⟨_, (s02.trans s3).seq hr'⟩, ?_⟩
  refine for_list (xs := iL ws) (fun i σ' H' => (∃ t1, σ' = [some (.ref p), some (.ref r), some (.ref t), some (.ref d), t1] ∧ Same H H' ∧ H' t = some (.lst (iL (M.tops bs ws i))) ∧ H' d = some (.lst (iL ((List.range i).map fun p => ((M.dr bs ws p : Nat) : Int))))) ∨ False) (.inl ⟨_, rfl, s02.trans s3, s3 _ _ et, ed⟩) ?_ ?_ ?_
  · intro i σ' H' _ z
    obtain ⟨t1, rfl, sm, _, _⟩ := z.resolve_right id
    exact sm.seq hr'
  · intro i x σ' H' hx z
    obtain ⟨t1, rfl, sm, e1, e2⟩ := z.resolve_right id
    have hin : i < n := by
      have := (List.getElem?_eq_some_iff.mp hx).1
      rw [hl1] at this
      exact this
    have c := M.hp_cast W hin
    have ex : x = .int ((M.hp ws i : Nat) : Int) := by
      rw [List.getElem?_map, List.getElem?_eq_getElem (by rw [W.len]; exact hin)] at hx
      rw [c.1, ← Option.some.inj hx]
      simp [List.getD, List.getElem?_eq_getElem (show i < ws.length by rw [W.len]; exact hin)]
    subst ex
    have hat : atI (iL (M.tops bs ws i)) ((M.hp ws i : Nat) : Int) = some (.int ((M.tops bs ws i).getD (M.hp ws i) 0)) := by
      have := atI_int (ns := M.tops bs ws i) (k := ((M.hp ws i : Nat) : Int)) (by omega) (by rw [M.tops_length]; omega)
      rw [Int.toNat_natCast] at this
      exact this
    have hab : atI (bL bs) ((M.hp ws i : Nat) : Int) = some (.bl (bs.getD (M.hp ws i) false)) := by
      have := atI_bl (bs := bs) (k := ((M.hp ws i : Nat) : Int)) (by omega) (by omega)
      rw [Int.toNat_natCast] at this
      exact this
    have hix : ixN (iL (M.tops bs ws i)).length ((M.hp ws i : Nat) : Int) = some (M.hp ws i) := by
      unfold ixN
      rw [if_pos (by omega), if_pos (by rw [List.length_map, M.tops_length]; omega), Int.toNat_natCast]
    walk_at "rd"
    refine ⟨.inl ⟨rfl, _, SqL.of e2⟩, ?_⟩
    walk_at "rd"
    refine ⟨t, _, _, _, rfl, rfl, SqL.of e1, hat, ?_⟩
    walk_at "rd"
    refine ⟨d, _, _, rfl, rfl, e2, by rw [List.length_map, List.length_map, List.length_range]; exact lt_line' (by omega), ?_⟩
    generalize e4 : upd H' d _ = H4
    obtain ⟨s4, ed4⟩ := set_is hd0 sm e4
    have et4 : H4 t = some (.lst (iL (M.tops bs ws i))) := by rw [← e4, upd_ne htd]; exact e1
    clear e4
    rw [M.tops_dr W hin] at ed4
    walk_at "rd"
    refine ⟨p, _, _, _, rfl, rfl, s4.seq hp, hab, ?_⟩
    walk_at "rd"
    have es := M.tops_succ W hin
    refine ite2 (fun cc => ?_) (fun cc => ?_)
    · walk_at "rd"
      refine ⟨t, _, _, _, rfl, rfl, SqL.of et4, hat, ?_⟩
      walk_at "rd"
      refine ⟨t, _, _, _, rfl, rfl, et4, hix, ?_⟩
      refine .inl ⟨_, rfl, s4.put ht0, ?_, ?_⟩
      · rw [if_pos cc] at es
        rw [upd_same, ← es]
        simp [List.map_set]
      · rw [upd_ne (Ne.symm htd), ed4, M.drawn_take]
        simp
    · walk_at "rd"
      refine ⟨t, _, _, _, rfl, rfl, SqL.of et4, hat, ?_⟩
      walk_at "rd"
      refine ⟨t, _, _, _, rfl, rfl, et4, hix, ?_⟩
      refine .inl ⟨_, rfl, s4.put ht0, ?_, ?_⟩
      · rw [if_neg cc] at es
        rw [upd_same, ← es]
        simp [List.map_set]
      · rw [upd_ne (Ne.symm htd), ed4, M.drawn_take]
        simp
  · intro σ' H' z
    obtain ⟨t1, rfl, sm, e1, e2⟩ := z.resolve_right id
    walk_at "rd"
    refine q d H' sm hd0 ?_
    rw [e2, List.length_map]
    rfl
def sp_riffled (K : PySem.W.Frag) : Sp := sp3 fun a b c H Q => ∃ (o p r : Addr) (os : List Int) (bs : List Bool) (ws : List Int) (n : Nat), SqL K H o (iL os) ∧ SqL K H p (bL bs) ∧ SqL K H r (iL ws) ∧ a = .ref o ∧ b = .ref p ∧ c = .ref r ∧ os.length = n ∧ M.Wd bs.length n ws ∧ n ≤ 1000 ∧ bs.length ≤ 1000 ∧ rNew (iL (M.lay os (M.drawn bs ws))) H Q
theorem ok_riffled (T : Txt K mg) (g_check_word : Has P w K mg base k "check_word" ["marks", "word", "n"] (sp_check_word K)) (g_laid : Has P w K mg base k "laid" ["one", "other"] (sp_laid K)) (g_places_drawn_from : Has P w K mg base k "places_drawn_from" ["marks", "word"] (sp_places_drawn_from K)) : Has P w K mg base (k + 1) "riffled" ["order", "marks", "word"] (sp_riffled K) := by
  refine T.f_riffled.has sc_riffled len3 (fun f cdv A outer s H vs Q E hr h => ?_)
  obtain ⟨a0, a1, a2, rfl, h⟩ := h
  refine ⟨_, pss_cons (ps_expr (pe_callH g_check_word hr (pa_cons (pv 1) (pa_cons (pv 2) (pa_cons (pe_callB (k_len (K := K)) rfl T.z_len PySem.boot_len (pa_cons (pv 0) pa_nil)) pa_nil)))))
    (pss_one (ps_ret (pe_callH g_laid hr (pa_cons (pv 0) (pa_cons (pe_callH g_places_drawn_from hr (pa_cons (pv 1) (pa_cons (pv 2) pa_nil))) pa_nil))))), ?_⟩
  obtain ⟨o, p, r, os, bs, ws, n, ho, hp, hr', rfl, rfl, rfl, lo, W, hn, hb, q⟩ := h
  have hl1 : (iL os).length = n := by rw [List.length_map, lo]
  walk_at "rd"
  rw [hl1]
  refine ⟨p, r, bs, ws, n, hp, hr', rfl, rfl, rfl, W, hn, fun H1 s1 => ?_⟩
  walk_at "rd"
  refine ⟨p, r, bs, ws, n, s1.seq hp, s1.seq hr', rfl, rfl, W, hn, hb, fun z H2 s2 hz ez => ?_⟩
  have s02 := s1.trans s2
  walk_at "rd"
  refine ⟨o, z, os, _, s02.seq ho, SqL.of ez, rfl, rfl, by rw [M.drawn_length, W.len]; exact hn, ?_, fun u H3 s3 hu eu => ?_⟩
  · intro c hc
    have := (M.ord_drawn W).bd c hc
    rw [lo]
    exact this
  · exact q u H3 (s02.trans s3) (s02.free hu) eu
def sp_power (K : PySem.W.Frag) : Sp := sp2 fun a b H Q => ∃ x n : Nat, a = .int x ∧ b = .int n ∧ (x ≤ 10 ^ 20 ∧ n ≤ 60) ∧ Q (.int ((x ^ n : Nat) : Int)) H
theorem ok_power (T : Txt K mg)  : Has P w K mg base (k + 1) "power" ["base", "times"] (sp_power K) := by
  refine T.f_power.has sc_power len2 (fun f cdv A outer s H vs Q E hr h => ?_)
  obtain ⟨a0, a1, rfl, h⟩ := h
  refine ⟨_, pss_cons (ps_set (i := 2) sc_power.nd rfl (Or.inl rfl) pe_int)
    (pss_cons (ps_for PassesOwn.never rfl (pi_range1 rfl T.z_range (pa_cons (pv 1) pa_nil)) (pg_name (i := 3) sc_power.nd rfl (Or.inl rfl))
    (pss_one (ps_set (i := 2) sc_power.nd rfl (Or.inl rfl) (pe_op op_mulB (pv 2) (pv 0)))))
    (pss_one (ps_ret (pv 2)))), ?_⟩
  obtain ⟨x, n, rfl, rfl, ⟨h1, h2⟩, q⟩ := h
  walk_at "rd"
  rw [Int.toNat_natCast]
  refine for_range (fun i σ' H' => (∃ t, σ' = [some (.int x), some (.int n), some (.int ((x ^ i : Nat) : Int)), t] ∧ H' = H) ∨ False) (.inl ⟨none, by rw [Nat.pow_zero]; rfl, rfl⟩) ?_ ?_
  · intro i σ' H' hi z
    obtain ⟨t, rfl, rfl⟩ := z.resolve_right id
    have hb := M.pow_bits h1 i
    walk_at "rd"
    refine ⟨mulOk_of (m := 67 * i + 1) (n := 67) (by simpa using hb) (by rw [Int.natAbs_natCast]; exact Nat.lt_of_le_of_lt h1 (by decide +kernel)) (by omega), ?_⟩
    refine .inl ⟨some (.int (0 + i)), ?_, rfl⟩
    rw [Nat.pow_succ, Int.natCast_mul]
    rfl
  · intro σ' H' z
    obtain ⟨t, rfl, rfl⟩ := z.resolve_right id
    walk_at "rd"
    exact q
def sp_falls (K : PySem.W.Frag) : Sp := sp1 fun a H Q => ∃ (p : Addr) (ns : List Int), SqL K H p (iL ns) ∧ a = .ref p ∧ ns.length ≤ 1000 ∧ ∀ H', Same H H' → Q (.int (M.flN ns : Nat)) H'
theorem ok_falls (T : Txt K mg)  : Has P w K mg base (k + 1) "falls" ["order"] (sp_falls K) := by
  refine T.f_falls.has sc_falls len1 (fun f cdv A outer s H vs Q E hr h => ?_)
  obtain ⟨a0, rfl, h⟩ := h
  refine ⟨_, pss_one (ps_ret (pe_callB (k_len (K := K)) rfl T.z_len PySem.boot_len (pa_cons (pe_comp (vars := ["p"]) (caps := [0]) (CompScope.of (outer := defScope s_falls) (N := ["order"]) rfl rfl ⟨by decide +kernel⟩) rfl (pi_range1 rfl T.z_range (pa_cons (pe_op op_sub (pe_callB (k_len (K := K)) rfl T.z_len PySem.boot_len (pa_cons (pv 0) pa_nil)) pe_int) pa_nil)) ⟨fun _ _ _ _ => ⟨(pg_name (i := 0) (show List.Nodup (["p", "order"] : List Str) by decide +kernel) rfl (Or.inl rfl)), (pts_one (pt_cmpR op_lt (pe_ix (k_ix_list (K := K)) (pv 1) (pe_op op_add (pv 0) pe_int) (fun _ _ => rfl)) (pe_ix (k_ix_list (K := K)) (pv 1) (pv 0) (fun _ _ => rfl)) (nomark _))), (pv 0)⟩⟩) pa_nil))), ?_⟩
  obtain ⟨p, ns, hS, rfl, hn, q⟩ := h
  have hl : (iL ns).length = ns.length := List.length_map _
  walk_at "rd"
  rw [hl]
  refine comp_range (fun i => .int (0 + (i : Int))) (fun i => decide (ns.getD (i + 1) 0 < ns.getD i 0)) (lt_line (by omega)) ?_ ?_
  · intro i t acc ys N Kt hi hacc k1 k2
    have S1 := (Same.new hacc (.lst ys)).seq hS
    walk_at "rd"
    refine ⟨p, _, _, _, rfl, rfl, S1, atI_int (by omega) (by omega), ?_⟩
    walk_at "rd"
    refine ⟨p, _, _, _, rfl, rfl, S1, atI_int (by omega) (by omega), ?_⟩
    walk_at "rd"
    have e1 : (0 + (i : Int) + 1).toNat = i + 1 := by omega
    have e2 : (0 + (i : Int)).toNat = i := by omega
    rw [e1, e2]
    refine ite2 (fun c => ?_) (fun c => ?_)
    · walk_at "rd"
      exact k1 _ c
    · exact k2 _ (Bool.eq_false_iff.mpr c)
  · intro l hl
    refine ⟨_, _, rfl, .inl (SqL.of upd_same), ?_⟩
    have e : ((((List.range ((ns.length : Int) - 1).toNat).filter fun i => decide (ns.getD (i + 1) 0 < ns.getD i 0)).map fun i : Nat => V.int (0 + (i : Int))).length : Int) = (M.flN ns : Nat) := by
      rw [List.length_map, show ((ns.length : Int) - 1).toNat = ns.length - 1 by omega]
      rfl
    have z := q _ (Same.new hl (.lst (((List.range ((ns.length : Int) - 1).toNat).filter fun i => decide (ns.getD (i + 1) 0 < ns.getD i 0)).map fun i : Nat => V.int (0 + (i : Int)))))
    rw [← e] at z
    exact z
def tL (tbl : List (List Int)) : List (List V) := tbl.map fun r => iL r
theorem tL_length (tbl : List (List Int)) : (tL tbl).length = tbl.length := List.length_map _
theorem tL_at {tbl : List (List Int)} {i : Nat} (h : i < tbl.length) : (tL tbl)[i]? = some (iL (tbl.getD i [])) := by
  unfold tL
  rw [List.getElem?_map, List.getElem?_eq_getElem h, List.getD, List.getElem?_eq_getElem h]
  rfl
/-- m lists of m numbers, none too great -/
structure Tm (m : Nat) (tbl : List (List Int)) : Prop where
  len : tbl.length = m
  row : ∀ k, k < m → (tbl.getD k []).length = m
  bd : ∀ k j, ((tbl.getD k []).getD j 0).natAbs < 2 ^ 10000
  le : m ≤ 60
def Bd (row : List Int) : Prop := ∀ k, (row.getD k 0).natAbs < 2 ^ 10000
theorem at_int {ns : List Int} {i : Nat} {x : V} (h : (iL ns)[i]? = some x) : i < ns.length ∧ x = .int (ns.getD i 0) := by
  have hl := (List.getElem?_eq_some_iff.mp h).1
  rw [List.length_map] at hl
  refine ⟨hl, ?_⟩
  rw [List.getElem?_map, List.getElem?_eq_getElem hl] at h
  rw [← Option.some.inj h, List.getD, List.getElem?_eq_getElem hl]
  rfl
/-- n from 0 on and not too great, k in reach -/
def Fit (n k : Int) : Prop := 0 ≤ n ∧ n ≤ 10 ^ 30 ∧ (n < 1000 ∨ k ≤ 60)
def sp_choose (K : PySem.W.Frag) : Sp := sp2 fun a b H Q => ∃ n k : Int, a = .int n ∧ b = .int k ∧ Fit n k ∧ Q (.int (M.chI n k)) H
theorem ok_choose (T : Txt K mg)  : Has P w K mg base (k + 1) "choose" ["n", "k"] (sp_choose K) := by
  refine T.f_choose.has sc_choose len2 (fun f cdv A outer s H vs Q E hr h => ?_)
  obtain ⟨a0, a1, rfl, h⟩ := h
  refine ⟨_, pss_cons (ps_if (PW.pt (pw_or (pt_cmpR op_lt (pv 1) pe_int (nomark _)) (pw_or1 (pt_cmpR op_gt (pv 1) (pv 0) (nomark _)))))
    (pss_one (ps_ret pe_int))
    (pss_nil))
    (pss_cons (ps_set (i := 2) sc_choose.nd rfl (Or.inl rfl) pe_int)
    (pss_cons (ps_for PassesOwn.never rfl (pi_range1 rfl T.z_range (pa_cons (pe_callB (call_min2 rfl) rfl T.z_min PyProof.Rows.boot_min (pa_cons (pv 1) (pa_cons (pe_op op_sub (pv 0) (pv 1)) pa_nil))) pa_nil)) (pg_name (i := 3) sc_choose.nd rfl (Or.inl rfl))
    (pss_one (ps_set (i := 2) sc_choose.nd rfl (Or.inl rfl) (pe_op op_fdiv (pe_op op_mulB (pv 2) (pe_op op_sub (pv 0) (pv 3))) (pe_op op_add (pv 3) pe_int)))))
    (pss_one (ps_ret (pv 2))))), ?_⟩
  obtain ⟨n, k, rfl, rfl, hf, q⟩ := h
  obtain ⟨f0, f1, f2⟩ := hf
  walk_at "rd"
  refine ite2 (fun c => ?_) (fun c => ?_) <;> simp only [decide_eq_true_eq] at c
  · refine ite2 (fun d => ?_) (fun d => absurd rfl d)
    rw [M.chI_out (.inl c)] at q
    exact q
  walk_at "rd"
  refine ite2 (fun d => ?_) (fun d => ?_) <;> simp only [decide_eq_true_eq] at d
  · rw [M.chI_out (.inr d)] at q
    exact q
  walk_at "rd"
  refine for_range (fun i σ' H' => (∃ t, σ' = [some (.int n), some (.int k), some (.int (M.ch n.toNat i : Nat)), t] ∧ H' = H) ∨ False) (.inl ⟨none, by rw [M.ch_zero]; rfl, rfl⟩) ?_ ?_
  · intro i σ' H' hi z
    obtain ⟨t, rfl, rfl⟩ := z.resolve_right id
    have hi' : (i : Int) < if n - k < k then n - k else k := by omega
    have h2 : (i : Int) ≤ n := by split at hi' <;> omega
    have hn : n.toNat ≤ 10 ^ 30 := by omega
    have hb := M.ch_bits hn i
    walk_at "rd"
    refine ⟨mulOk_of (m := 100 * i + 1) (n := 100) (by simpa using hb) (Nat.lt_of_le_of_lt (show _ ≤ 10 ^ 30 by omega) (by decide +kernel)) (by split at hi' <;> omega), ?_⟩
    walk_at "rd"
    refine .inl ⟨some (.int (0 + i)), ?_, rfl⟩
    have e : ((M.ch n.toNat i : Nat) : Int) * (n - (0 + i)) / (0 + i + 1) = ((M.ch n.toNat (i + 1) : Nat) : Int) := by
      rw [← M.ch_div, show n - (0 + (i : Int)) = ((n.toNat - i : Nat) : Int) by omega, show (0 + (i : Int) + 1) = ((i + 1 : Nat) : Int) by omega, ← Int.natCast_mul, ← Int.natCast_ediv]
    rw [← e]
    rfl
  · intro σ' H' z
    obtain ⟨t, rfl, rfl⟩ := z.resolve_right id
    walk_at "rd"
    have e : M.chI n k = ((M.ch n.toNat (if n - k < k then n - k else k).toNat : Nat) : Int) := by
      rw [M.chI_in (by omega) (by omega)]
      split
      · rw [show (n - k).toNat = n.toNat - k.toNat by omega, M.ch_symm (by omega)]
      · rfl
    rw [e] at q
    exact q
theorem sgS (t : Nat) : -(2 ^ 64) < M.sg t ∧ M.sg t < 2 ^ 64 := by rcases M.sg_one t with h | h <;> rw [h] <;> decide
def Mb (m b : Nat) : Prop := 1 ≤ m ∧ m ≤ 12 ∧ 1 ≤ b ∧ b ≤ 10 ^ 20
def sp_carries_from_to (K : PySem.W.Frag) : Sp := sp4 fun a b c d H Q => ∃ m n i j : Nat, a = .int m ∧ b = .int n ∧ c = .int i ∧ d = .int j ∧ (Mb m n ∧ i < m ∧ j < m) ∧ Q (.int (M.ca m n i j)) H
theorem ok_carries_from_to (T : Txt K mg) (g_choose : Has P w K mg base k "choose" ["n", "k"] (sp_choose K)) : Has P w K mg base (k + 1) "carries_from_to" ["m", "b", "i", "j"] (sp_carries_from_to K) := by
  refine T.f_carries_from_to.has sc_carries_from_to len4 (fun f cdv A outer s H vs Q E hr h => ?_)
  obtain ⟨a0, a1, a2, a3, rfl, h⟩ := h
  refine ⟨_, pss_cons (ps_set (i := 4) sc_carries_from_to.nd rfl (Or.inl rfl) pe_int)
    (pss_cons (ps_set (i := 5) sc_carries_from_to.nd rfl (Or.inl rfl) pe_int)
    (pss_cons (ps_for PassesOwn.never rfl (pi_range1 rfl T.z_range (pa_cons (pe_op op_add (pv 3) pe_int) pa_nil)) (pg_name (i := 6) sc_carries_from_to.nd rfl (Or.inl rfl))
    (pss_cons (ps_set (i := 4) sc_carries_from_to.nd rfl (Or.inl rfl) (pe_op op_add (pv 4) (pe_op op_mulB (pe_op op_mulB (pv 5) (pe_callH g_choose hr (pa_cons (pe_op op_add (pv 0) pe_int) (pa_cons (pv 6) pa_nil)))) (pe_callH g_choose hr (pa_cons (pe_op op_add (pe_op op_sub (pe_op op_sub (pv 0) pe_int) (pv 2)) (pe_op op_mulB (pe_op op_sub (pe_op op_add (pv 3) pe_int) (pv 6)) (pv 1))) (pa_cons (pv 0) pa_nil))))))
      (pss_one (ps_set (i := 5) sc_carries_from_to.nd rfl (Or.inl rfl) (pe_un un_neg (pv 5))))))
    (pss_one (ps_ret (pv 4))))), ?_⟩
  obtain ⟨m, b, i, j, rfl, rfl, rfl, rfl, ⟨⟨m1, m2, b1, b2⟩, hi, hj⟩, q⟩ := h
  walk_at "rd"
  rw [show ((j : Int) + 1).toNat = j + 1 by omega]
  refine for_range (fun t σ' H' => (∃ t6 : Option V, σ' = [some (.int m), some (.int b), some (.int i), some (.int j), some (.int (M.sumI (fun t => M.sg t * M.chs (m + 1) t * M.chI ((m : Int) - 1 - i + ((j : Int) + 1 - t) * b) m) t)), some (.int (M.sg t)), t6] ∧ H' = H) ∨ False) (.inl ⟨_, rfl, rfl⟩) ?_ ?_
  · intro t σ' H' ht z
    obtain ⟨t6, rfl, rfl⟩ := z.resolve_right id
    rw [Int.zero_add (t : Int)]
    have e1 : M.chI ((m : Int) + 1) t = M.chs (m + 1) t := by rw [M.chI_in (by omega) (by omega)]; rfl
    have hs := sgS t
    have hprod : ((j : Int) + 1 - t) * b ≤ 13 * 10 ^ 20 := Int.le_trans (Int.mul_le_mul (show (j : Int) + 1 - t ≤ 13 by omega) (show (b : Int) ≤ 10 ^ 20 by omega) (by omega) (by omega)) (by decide)
    have hprod0 : 0 ≤ ((j : Int) + 1 - t) * b := Int.mul_nonneg (by omega) (by omega)
    have hn : (m : Int) - 1 - i + ((j : Int) + 1 - t) * b ≤ 10 ^ 30 := by omega
    have hbits := M.chI_bits (m := m) hn
    have hb2 : (M.chs (m + 1) t).natAbs < 2 ^ (100 * t + 1) := by rw [← e1]; exact M.chI_bits (by omega)
    have hb3 : (M.sg t * M.chs (m + 1) t).natAbs < 2 ^ (100 * t + 1) := by
      rw [Int.natAbs_mul]
      rcases M.sg_one t with h | h <;> rw [h] <;> simpa using hb2
    walk_at "rd"
    refine ⟨⟨by omega, by omega, .inl (by omega)⟩, ?_⟩
    rw [e1]
    walk_at "rd"
    refine ⟨⟨by omega, hn, .inr (by omega)⟩, ?_⟩
    walk_at "rd"
    refine ⟨mulOk_of hb3 hbits (by omega), ?_⟩
    walk_at "rd"
    exact .inl ⟨_, rfl, rfl⟩
  · intro σ' H' z
    obtain ⟨t6, rfl, rfl⟩ := z.resolve_right id
    walk_at "rd"
    exact q
def sp_carries_from (K : PySem.W.Frag) : Sp := sp3 fun a b c H Q => ∃ m n i : Nat, a = .int m ∧ b = .int n ∧ c = .int i ∧ (Mb m n ∧ i < m) ∧ rNew (iL ((List.range m).map fun j => M.ca m n i j)) H Q
theorem ok_carries_from (T : Txt K mg) (g_carries_from_to : Has P w K mg base k "carries_from_to" ["m", "b", "i", "j"] (sp_carries_from_to K)) : Has P w K mg base (k + 1) "carries_from" ["m", "b", "i"] (sp_carries_from K) := by
  refine T.f_carries_from.has sc_carries_from len3 (fun f cdv A outer s H vs Q E hr h => ?_)
  obtain ⟨a0, a1, a2, rfl, h⟩ := h
  refine ⟨_, pss_one (ps_ret (pe_comp (vars := ["j"]) (caps := [0, 1, 2]) (CompScope.of (outer := defScope s_carries_from) (N := ["m", "b", "i"]) rfl rfl ⟨by decide +kernel⟩) rfl (pi_range1 rfl T.z_range (pa_cons (pv 0) pa_nil)) ⟨fun _ _ _ _ => ⟨(pg_name (i := 0) (show List.Nodup (["j", "m", "b", "i"] : List Str) by decide +kernel) rfl (Or.inl rfl)), pts_nil, (pe_callH g_carries_from_to hr (pa_cons (pv 1) (pa_cons (pv 2) (pa_cons (pv 3) (pa_cons (pv 0) pa_nil)))))⟩⟩)), ?_⟩
  obtain ⟨m, b, i, rfl, rfl, rfl, ⟨mb, hi⟩, q⟩ := h
  have hm := mb.2.1
  walk_at "rd"
  rw [Int.toNat_natCast]
  refine comp_range (fun j => .int (M.ca m b i j)) (fun _ => true) (lt_line (by omega)) ?_ ?_
  · intro j t acc ys N Kt hj hacc k1 _
    have k2 := k1 (some (.int (0 + j))) rfl
    rw [Int.zero_add (j : Int)] at k2 ⊢
    walk_at "rd"
    refine ⟨m, b, i, j, rfl, rfl, rfl, rfl, ⟨mb, hi, hj⟩, ?_⟩
    exact k2
  · rw [filter_true]
    have e : ((List.range m).map fun j => V.int (M.ca m b i j)) = iL ((List.range m).map fun j => M.ca m b i j) := by rw [iL, List.map_map]; rfl
    rw [e]
    exact q.made
def sp_carries (K : PySem.W.Frag) : Sp := sp2 fun a b H Q => ∃ m n : Nat, a = .int m ∧ b = .int n ∧ Mb m n ∧ rNewT (tL (M.cat m n)) H Q
theorem ok_carries (T : Txt K mg) (g_carries_from : Has P w K mg base k "carries_from" ["m", "b", "i"] (sp_carries_from K)) : Has P w K mg base (k + 1) "carries" ["m", "b"] (sp_carries K) := by
  refine T.f_carries.has sc_carries len2 (fun f cdv A outer s H vs Q E hr h => ?_)
  obtain ⟨a0, a1, rfl, h⟩ := h
  refine ⟨_, pss_one (ps_ret (pe_comp (vars := ["i"]) (caps := [0, 1]) (CompScope.of (outer := defScope s_carries) (N := ["m", "b"]) rfl rfl ⟨by decide +kernel⟩) rfl (pi_range1 rfl T.z_range (pa_cons (pv 0) pa_nil)) ⟨fun _ _ _ _ => ⟨(pg_name (i := 0) (show List.Nodup (["i", "m", "b"] : List Str) by decide +kernel) rfl (Or.inl rfl)), pts_nil, (pe_callH g_carries_from hr (pa_cons (pv 1) (pa_cons (pv 2) (pa_cons (pv 0) pa_nil))))⟩⟩)), ?_⟩
  obtain ⟨m, b, rfl, rfl, mb, q⟩ := h
  have hm := mb.2.1
  walk_at "rd"
  rw [Int.toNat_natCast]
  refine comp_rowsR (fun i => iL ((List.range m).map fun j => M.ca m b i j)) (lt_line (by omega)) ?_ ?_
  · intro i t H' N Kt hi sm k1
    rw [Int.zero_add (i : Int)]
    walk_at "rd"
    refine ⟨m, b, i, rfl, rfl, rfl, ⟨mb, hi⟩, ?_⟩
    exact k1 _
  · have e : (List.range m).map (fun i => iL ((List.range m).map fun j => M.ca m b i j)) = tL (M.cat m b) := by rw [tL, M.cat, List.map_map]; rfl
    rw [e]
    exact q
def sp_falls_table (K : PySem.W.Frag) : Sp := sp2 fun a b H Q => ∃ m n : Nat, a = .int m ∧ b = .int n ∧ Mb m n ∧ rNewT (tL (M.cat m n)) H Q
theorem ok_falls_table (T : Txt K mg) (g_carries : Has P w K mg base k "carries" ["m", "b"] (sp_carries K)) : Has P w K mg base (k + 1) "falls_table" ["m", "b"] (sp_falls_table K) := by
  refine T.f_falls_table.has sc_falls_table len2 (fun f cdv A outer s H vs Q E hr h => ?_)
  obtain ⟨a0, a1, rfl, h⟩ := h
  refine ⟨_, pss_one (ps_ret (pe_callH g_carries hr (pa_cons (pv 0) (pa_cons (pv 1) pa_nil)))), ?_⟩
  obtain ⟨m, b, rfl, rfl, mb, q⟩ := h
  walk_at "rd"
  exact q
def sp_l_whole (K : PySem.W.Frag) : Sp := sp1 fun a H Q => Kd H a ∧ Q (.bl (isW a)) H
theorem ok_l_whole (T : Txt K mg)  : Has P w K mg base (k + 1) "_law_whole" ["_law_found"] (sp_l_whole K) := by
  refine T.f_l_whole.has sc_l_whole len1 (fun f cdv A outer s H vs Q E hr h => ?_)
  obtain ⟨a0, rfl, h⟩ := h
  refine ⟨_, pss_one (ps_ret (pe_and (pe_callB (k_isinst (K := K)) rfl T.z_isinstance PyProof.Rows.boot_isinstance (pa_cons (pv 0) (pa_cons (pe_bltn (v := .ty "int") rfl T.z_int PyProof.Rows.boot_int rfl) pa_nil))) (pe_one (pe_not (pe_callB (k_isinst (K := K)) rfl T.z_isinstance PyProof.Rows.boot_isinstance (pa_cons (pv 0) (pa_cons (pe_bltn (v := .ty "bool") rfl T.z_bool PyProof.Rows.boot_bool rfl) pa_nil))))))), ?_⟩
  obtain ⟨hk, q⟩ := h
  cases hk with
  | flat hf =>
    cases a0 with
    | non => walk_at "rd"; refine ⟨_, _, _, _, rfl, .non, rfl, ?_⟩; walk_at "rd"; exact iteF q
    | bl b => walk_at "rd"; refine ⟨_, _, _, _, rfl, .bl _, rfl, ?_⟩; walk_at "rd"; refine ⟨_, _, _, _, rfl, .bl _, rfl, ?_⟩; walk_at "rd"; exact q
    | int b => walk_at "rd"; refine ⟨_, _, _, _, rfl, .int _, rfl, ?_⟩; walk_at "rd"; refine ⟨_, _, _, _, rfl, .int _, rfl, ?_⟩; walk_at "rd"; exact q
    | str b => walk_at "rd"; refine ⟨_, _, _, _, rfl, .str _, rfl, ?_⟩; walk_at "rd"; exact iteF q
    | byt _ => cases hf
    | flt _ => cases hf
    | ref _ => cases hf
    | ty _ => cases hf
  | lst e => walk_at "rd"; refine ⟨_, _, _, _, rfl, .lst e, rfl, ?_⟩; walk_at "rd"; exact iteF q
  | tup e => walk_at "rd"; refine ⟨_, _, _, _, rfl, .tup e, rfl, ?_⟩; walk_at "rd"; exact iteF q
end
end K62
set_option Elab.async false
set_option linter.all false
set_option maxRecDepth 100000
set_option maxHeartbeats 4000000
namespace K62
open PySem L2
local macro_rules | `(tactic| walk_at "sq") => `(tactic| first | assumption | (refine SqL.of ?_; assumption) | (refine SqL.of ?_; exact upd_same))
local macro_rules | `(tactic| walk_at "cj") => `(tactic| first | (with_reducible show (_ : Int) ≤ _; omega) | (with_reducible show (_ : Int) < _; omega) | exact rfl | assumption | omega | decide | (unfold CDiv; omega) | (unfold CPow; decide) | (show (0 : Int) < _; first | omega | decide) | (show _ ≤ sizeLine; rw [sizeLine_eq]; simp; done) | (refine mulS1 ?_ ?_ <;> omega) | (refine mulS2 ?_ ?_ <;> omega))
local macro_rules | `(tactic| walk_at "rd1") => `(tactic| first | refine ⟨_, rfl, ?_⟩ | refine ⟨_, _, rfl, rfl, ?_⟩ | refine ⟨_, _, rfl, ?_⟩ | refine ⟨_, _, _, rfl, ?_⟩ | refine ⟨_, _, _, _, rfl, ?_⟩ | refine ⟨_, _, _, _, _, rfl, ?_⟩ | refine ⟨_, _, rfl, .inl (by walk_at "sq"), ?_⟩ | refine And.intro (by walk_at "cj") ?_)
local macro_rules | `(tactic| walk_at "rd") => `(tactic| repeat walk_at "rd1")

section
variable {P : Program} {w : World} {K : PySem.W.Frag} {mg : Str → Option Value} {base : Heap} {k : Nat}
/-- a list of words, each a new list -/
def Gz (H0 H : Hp) (r : Addr) (ls : List (List Int)) : Prop := ∃ adr : List Addr, (H0 r = none ∧ H r = some (.lst (adr.map V.ref))) ∧ adr.length = ls.length ∧ ∀ (i : Nat) (a : Addr), adr[i]? = some a → (H0 a = none ∧ a ≠ r) ∧ ∃ ws, ls[i]? = some ws ∧ H a = some (.lst (iL ws))
def sp_all_words (K : PySem.W.Frag) : Sp := sp2 fun a b H Q => ∃ m c : Nat, a = .int m ∧ b = .int c ∧ (m ≤ 6 ∧ 1 ≤ c ∧ c ^ m ≤ 4096) ∧ ∀ r H', Same H H' → Gz H H' r (M.allw c m) → Q (.ref r) H'
theorem line8 {n : Nat} (h : n ≤ 10000) : n ≤ sizeLine := by rw [sizeLine_eq]; omega
theorem ne_of_none' {H : Hp} {a b : Addr} {o : HO} (h1 : H b = some o) (h2 : H a = none) : a ≠ b := fun e => by rw [e, h1] at h2; cases h2
def ext1 (c : Nat) (l : List (List Int)) : List (List Int) := l.flatMap fun w => (List.range c).map fun i => w ++ [((i : Nat) : Int)]
theorem ext1_snoc (c : Nat) (l : List (List Int)) (w : List Int) : ext1 c (l ++ [w]) = ext1 c l ++ (List.range c).map fun i => w ++ [((i : Nat) : Int)] := by
  unfold ext1
  rw [List.flatMap_append]
  simp
theorem ext1_len (c : Nat) (l : List (List Int)) : (ext1 c l).length = l.length * c := by
  unfold ext1
  rw [List.length_flatMap]
  simp [List.map_const', List.sum_replicate_nat]
theorem take_snoc {α : Type} {l : List α} {j : Nat} {x : α} (h : l[j]? = some x) : l.take (j + 1) = l.take j ++ [x] := by
  rw [List.take_add_one, h]
  rfl
theorem ok_all_words (T : Txt K mg)  : Has P w K mg base (k + 1) "all_words" ["m", "b"] (sp_all_words K) := by
  refine T.f_all_words.has sc_all_words len2 (fun f cdv A outer s H vs Q E hr h => ?_)
  obtain ⟨a0, a1, rfl, h⟩ := h
  refine ⟨_, pss_cons (ps_set (i := 2) sc_all_words.nd rfl (Or.inl rfl) (pe_lst (pa_cons (pe_lst pa_nil) pa_nil)))
    (pss_cons (ps_for PassesOwn.never rfl (pi_range1 rfl T.z_range (pa_cons (pv 0) pa_nil)) (pg_name (i := 3) sc_all_words.nd rfl (Or.inl rfl))
    (pss_cons (ps_set (i := 4) sc_all_words.nd rfl (Or.inl rfl) (pe_lst pa_nil))
      (pss_cons (ps_for PassesOwn.never rfl (k_pi_list (K := K) (pv 2)) (pg_name (i := 5) sc_all_words.nd rfl (Or.inr rfl))
      (pss_one (ps_expr (k_bm (K := K) PySem.F.plainAttrs_list PySem.F.slot_list_extend PySem.F.type_list_extend mt_extend (pv 4) (pa_cons (pe_comp (vars := ["heap"]) (caps := [5]) (CompScope.of (outer := defScope s_all_words) (N := ["m", "b", "words", "place", "longer", "word"]) rfl rfl ⟨by decide +kernel⟩) rfl (pi_range1 rfl T.z_range (pa_cons (pv 1) pa_nil)) ⟨fun _ _ _ _ => ⟨(pg_name (i := 0) (show List.Nodup (["heap", "word"] : List Str) by decide +kernel) rfl (Or.inl rfl)), pts_nil, (pe_op op_cat (pv 1) (pe_lst (pa_cons (pv 0) pa_nil)))⟩⟩) pa_nil)))))
      (pss_one (ps_set (i := 2) sc_all_words.nd rfl (Or.inl rfl) (pv 4))))))
    (pss_one (ps_ret (pv 2)))), ?_⟩
  obtain ⟨m, c, rfl, rfl, ⟨m6, c1, hp⟩, q⟩ := h
  have pw : ∀ i, i ≤ m → c ^ i ≤ 4096 := fun i hi => Nat.le_trans (Nat.pow_le_pow_right c1 hi) hp
  walk_at "rd"
  intro E0 hE0
  generalize e1 : upd H E0 _ = H1
  obtain ⟨s1, eE0⟩ := new_is hE0 e1
  clear e1
  walk_at "rd"
  intro R0 hR0
  generalize e2 : upd H1 R0 _ = H2
  obtain ⟨s2, eR0⟩ := new_is hR0 e2
  clear e2
  have g0 : Gz H H2 R0 (M.allw c 0) := ⟨[E0], ⟨s1.free hR0, eR0⟩, rfl, fun i a ha => by
    match i, ha with
    | 0, ha =>
      cases ha
      exact ⟨⟨hE0, ne_of_none eE0 hR0⟩, [], rfl, s2 _ _ eE0⟩⟩
  walk_at "rd"
  rw [Int.toNat_natCast]
  refine for_range (fun i σ' H' => (∃ (r : Addr) (t3 t4 t5 : Option V), σ' = [some (.int m), some (.int c), some (.ref r), t3, t4, t5] ∧ Same H H' ∧ Gz H H' r (M.allw c i)) ∨ False) (.inl ⟨_, _, _, _, rfl, s1.trans s2, g0⟩) ?_ ?_
  · intro i σ' H3 hi z
    obtain ⟨r, t3, t4, t5, rfl, s3, g3⟩ := z.resolve_right id
    walk_at "rd"
    intro L hL
    generalize e4 : upd H3 L _ = H4
    obtain ⟨s4, eL⟩ := new_is hL e4
    clear e4
    obtain ⟨adr, ⟨_, er⟩, la, hA⟩ := g3
    have pwi := pw (i + 1) (by omega)
    rw [Nat.pow_succ, ← M.allw_length, ← la] at pwi
    have g4 : Gz H H4 L (ext1 c ((M.allw c i).take 0)) := ⟨[], ⟨s3.free hL, eL⟩, by simp [ext1], fun i a ha => by cases ha⟩
    walk_at "rd"
    refine ⟨⟨_, SqL.of (s4 _ _ er)⟩, ?_⟩
    refine for_list (xs := adr.map V.ref) (fun j σ' H' => (∃ (t5 : Option V), σ' = [some (.int m), some (.int c), some (.ref r), some (.int (0 + (i : Int))), some (.ref L), t5] ∧ Same H3 H' ∧ Gz H H' L (ext1 c ((M.allw c i).take j))) ∨ False) (.inl ⟨_, rfl, s4, g4⟩) ?_ ?_ ?_
    · intro j σ' H' _ z
      obtain ⟨t5, rfl, sm, _⟩ := z.resolve_right id
      exact SqL.of (sm _ _ er)
    · intro j x σ' H5 hx z
      obtain ⟨t5, rfl, s5, adrL, ⟨hL0, eL5⟩, laL, hAL⟩ := z.resolve_right id
      have hj : j < adr.length := by have := (List.getElem?_eq_some_iff.mp hx).1; rw [List.length_map] at this; exact this
      have e0 : adr[j]? = some adr[j] := List.getElem?_eq_getElem hj
      obtain ⟨_, wd, ewd, eh⟩ := hA j adr[j] e0
      have W : M.Wd c i wd := M.mem_allw.mp (List.mem_of_getElem? ewd)
      rw [List.getElem?_map, e0] at hx
      cases hx
      generalize adr[j] = a at eh ⊢
      have ea5 := s5 _ _ eh
      have cj : (j + 1) * c ≤ adr.length * c := Nat.mul_le_mul_right c (by omega)
      rw [Nat.succ_mul] at cj
      have laL' : adrL.length = j * c := by rw [laL, ext1_len, List.length_take, Nat.min_eq_left (by omega)]
      walk_at "rd"
      refine ⟨.inl ⟨rfl, _, SqL.of eL5⟩, ?_⟩
      walk_at "rd"
      have cc : c ≤ 4096 := Nat.le_trans (Nat.le_mul_of_pos_left c (show 0 < adr.length by omega)) pwi
      rw [Int.toNat_natCast]
      refine comp_rowsR (fun i2 => iL (wd ++ [(i2 : Int)])) (line8 (by omega)) ?_ ?_
      · intro i2 t H6 N Kt hi2 sm6 k1
        have ea6 := sm6 _ _ ea5
        have lw := W.len
        walk_at "rd"
        intro A hA'
        generalize e7 : upd H6 A _ = H7
        obtain ⟨s7, eA⟩ := new_is hA' e7
        clear e7
        walk_at "rd"
        refine ⟨a, A, _, _, rfl, rfl, s7 _ _ ea6, eA, lt_line (by rw [List.length_map, lw]; show i + 1 ≤ _; omega), ?_⟩
        intro B hB
        refine k1 _ B _ (s7.trans (Same.new hB _)) (s7.free hB) ?_
        rw [upd_same]
        simp [iL]
      intro C H6 s6 hC tbC
      obtain ⟨adrC, eC, lC, ndC, hAC⟩ := tbC.ex
      rw [List.length_map, List.length_range] at lC
      walk_at "rd"
      refine ⟨L, C, _, _, rfl, rfl, s6 _ _ eL5, eC, line8 (by rw [List.length_map, List.length_map, laL', lC]; omega), ?_⟩
      generalize e7 : upd H6 L _ = H7
      obtain ⟨s7, eL7⟩ := set_is hL (s5.trans s6) e7
      refine .inl ⟨_, rfl, s7, adrL ++ adrC, ⟨hL0, by rw [eL7, List.map_append]⟩, by rw [List.length_append, laL', lC, ext1_len, List.length_take, Nat.min_eq_left (by omega), Nat.succ_mul], fun i' a' ha' => ?_⟩
      rw [take_snoc ewd, ext1_snoc]
      rcases Nat.lt_or_ge i' adrL.length with hq | hq
      · rw [List.getElem?_append_left hq] at ha'
        obtain ⟨n1, ws, W1, e1⟩ := hAL i' a' ha'
        exact ⟨n1, ws, by rw [List.getElem?_append_left (by omega)]; exact W1, by rw [← e7, upd_ne n1.2]; exact s6 _ _ e1⟩
      · rw [List.getElem?_append_right hq] at ha'
        obtain ⟨f1, f2, xs, ex, eh'⟩ := hAC (i' - adrL.length) a' ha'
        have hi' := (List.getElem?_eq_some_iff.mp ha').1
        have ne : a' ≠ L := ne_of_none' eL5 f1
        rw [List.getElem?_map, List.getElem?_range (by omega)] at ex
        cases ex
        exact ⟨⟨(s3.trans s5).free f1, ne⟩, wd ++ [((i' - adrL.length : Nat) : Int)], by rw [List.getElem?_append_right (by omega), ← laL, List.getElem?_map, List.getElem?_range (by omega)]; rfl, by rw [← e7, upd_ne ne]; exact eh'⟩
    · intro σ' H5 z
      obtain ⟨t5, rfl, s5, g5⟩ := z.resolve_right id
      walk_at "rd"
      refine .inl ⟨L, _, _, _, rfl, s3.trans s5, ?_⟩
      rw [List.length_map, la, List.take_length] at g5
      exact g5
  · intro σ' H3 z
    obtain ⟨r, t3, t4, t5, rfl, s3, g3⟩ := z.resolve_right id
    walk_at "rd"
    exact q _ _ s3 g3
/-- the word with the heaps that are used alone -/
def sp_without_empty_heaps (K : PySem.W.Frag) : Sp := sp1 fun a H Q => ∃ (p : Addr) (ws : List Int) (b : Nat), SqL K H p (iL ws) ∧ a = .ref p ∧ (M.Wd b ws.length ws ∧ ws.length ≤ 6) ∧ ∀ vs : List Int, M.Wd ws.length ws.length vs → M.drawn (M.pl ws.length) vs = M.drawn (M.pl b) ws → rNew (iL vs) H Q
theorem met_len_le (ws : List Int) : (met ws).length ≤ ws.length := PyProof.Rows.firstMet_length_le _ _
theorem met_has {ws : List Int} {x : Int} (h : x ∈ ws) : x ∈ met ws := by
  obtain ⟨j, hj, e⟩ := List.mem_iff_getElem.mp h
  have := (met_mem (fun i => ws.getD i 0) ws.length x).mpr ⟨j, hj, by rw [List.getD, List.getElem?_eq_getElem hj]; exact e⟩
  obtain ⟨y, hy, q⟩ := List.any_eq_true.mp this
  have : y = x := by simpa using q
  subst this
  exact hy
theorem ok_without_empty_heaps (T : Txt K mg)  : Has P w K mg base (k + 1) "without_empty_heaps" ["word"] (sp_without_empty_heaps K) := by
  refine T.f_without_empty_heaps.has sc_without_empty_heaps len1 (fun f cdv A outer s H vs Q E hr h => ?_)
  obtain ⟨a0, rfl, h⟩ := h
  refine ⟨_, pss_cons (ps_set (i := 1) sc_without_empty_heaps.nd rfl (Or.inr rfl) (pe_sortedSet (K := K) rfl rfl T.z_sorted rfl T.z_set (pa_cons (pv 0) pa_nil)))
    (pss_one (ps_ret (pe_comp (vars := ["heap"]) (caps := [1]) (CompScope.of (outer := defScope s_without_empty_heaps) (N := ["word", "used"]) rfl rfl ⟨by decide +kernel⟩) rfl (k_pi_list (K := K) (pv 0)) ⟨fun _ _ _ _ => ⟨(pg_name (i := 0) (show List.Nodup (["heap", "used"] : List Str) by decide +kernel) rfl (Or.inl rfl)), pts_nil, (k_bm (K := K) PySem.F.plainAttrs_list PySem.F.slot_list_index PySem.F.type_list_index (k_index (K := K)) (pv 1) (pa_cons (pv 0) pa_nil))⟩⟩))), ?_⟩
  obtain ⟨p, ws, b, hS, rfl, ⟨W, hl⟩, q⟩ := h
  have hli : (iL ws).length = ws.length := List.length_map _
  walk_at "rd"
  refine ⟨p, ws, rfl, hS, by omega, fun ms pm so => ?_⟩
  intro U hU
  generalize e1 : upd H U _ = H1
  obtain ⟨s1, eU⟩ := new_is hU e1
  clear e1
  have lm : ms.length ≤ ws.length := by rw [pm.length_eq]; exact met_len_le ws
  have has : ∀ x ∈ ws, x ∈ ms := fun x hx => pm.mem_iff.mpr (met_has hx)
  have nd : ms.Nodup := pm.nodup_iff.mpr (met_nd _ _)
  walk_at "rd"
  refine ⟨⟨_, s1.seq hS⟩, ?_⟩
  refine comp_list (xs := iL ws) (fun i => .int (ms.idxOf (ws.getD i 0) : Nat)) (fun _ => true) (lt_line (by omega)) (s1.seq hS) ?_ ?_
  · intro i v t acc ys N Kt hi hv hn k1 k2
    have hi' : i < ws.length := by omega
    have ed : ws.getD i 0 = ws[i] := by rw [List.getD, List.getElem?_eq_getElem hi']; rfl
    rw [List.getElem?_map, List.getElem?_eq_getElem hi'] at hv
    cases hv
    have SU := (Same.new hn (.lst ys)).seq (SqL.of (K := K) eU)
    walk_at "rd"
    refine ⟨.inl ⟨rfl, _, SU⟩, ?_⟩
    walk_at "rd"
    refine ⟨U, ms, _, rfl, rfl, SU, has _ (List.getElem_mem hi'), ?_⟩
    rw [← ed]
    exact k1 _ rfl
  rw [filter_true, hli, range_getD ws 0 (fun x => V.int (ms.idxOf x : Nat))]
  intro R hR
  generalize e2 : upd H1 R _ = H2
  obtain ⟨s2, eR⟩ := new_is hR e2
  clear e2
  have Vd : M.Wd ws.length ws.length (ws.map fun x => ((ms.idxOf x : Nat) : Int)) := ⟨List.length_map _, fun x hx => by
    obtain ⟨y, hy, rfl⟩ := List.mem_map.mp hx
    have := List.idxOf_lt_length_iff.mpr (has y hy)
    omega⟩
  refine q (ws.map fun x => ((ms.idxOf x : Nat) : Int)) Vd (M.std_same W Vd fun p q hp hq => ?_) R H2 (s1.trans s2) (s1.free hR) ?_
  · have g : ∀ p, p < ws.length → (ws.map fun x => ((ms.idxOf x : Nat) : Int)).getD p 0 = ((ms.idxOf (ws.getD p 0) : Nat) : Int) ∧ ws.getD p 0 ∈ ms := fun p hp => by
      have ed : ws.getD p 0 = ws[p] := by rw [List.getD, List.getElem?_eq_getElem hp]; rfl
      exact ⟨by rw [ed, List.getD, List.getElem?_map, List.getElem?_eq_getElem hp]; rfl, by rw [ed]; exact has _ (List.getElem_mem hp)⟩
    rw [(g p hp).1, (g q hq).1]
    have := M.idx_lt_iff so nd (g p hp).2 (g q hq).2
    omega
  · rw [eR, iL, List.map_map]
    rfl
end
end K62
set_option Elab.async false
set_option linter.all false
set_option maxRecDepth 100000
set_option maxHeartbeats 4000000
namespace K62
open PySem L2
local macro_rules | `(tactic| walk_at "sq") => `(tactic| first | assumption | (refine SqL.of ?_; assumption) | (refine SqL.of ?_; exact upd_same))
local macro_rules | `(tactic| walk_at "cj") => `(tactic| first | (with_reducible show (_ : Int) ≤ _; omega) | (with_reducible show (_ : Int) < _; omega) | exact rfl | assumption | omega | decide | (unfold CDiv; omega) | (unfold CPow; decide) | (show (0 : Int) < _; first | omega | decide) | (show _ ≤ sizeLine; rw [sizeLine_eq]; simp; done) | (refine mulS1 ?_ ?_ <;> omega) | (refine mulS2 ?_ ?_ <;> omega))
local macro_rules | `(tactic| walk_at "rd1") => `(tactic| first | refine ⟨_, rfl, ?_⟩ | refine ⟨_, _, rfl, rfl, ?_⟩ | refine ⟨_, _, rfl, ?_⟩ | refine ⟨_, _, _, rfl, ?_⟩ | refine ⟨_, _, _, _, rfl, ?_⟩ | refine ⟨_, _, _, _, _, rfl, ?_⟩ | refine ⟨_, _, rfl, .inl (by walk_at "sq"), ?_⟩ | refine And.intro (by walk_at "cj") ?_)
local macro_rules | `(tactic| walk_at "rd") => `(tactic| repeat walk_at "rd1")

section
variable {P : Program} {w : World} {K : PySem.W.Frag} {mg : Str → Option Value} {base : Heap} {k : Nat}
theorem ixN_in {n : Nat} {i : Nat} (h : i < n) : ixN n (i : Int) = some i := by
  unfold ixN
  rw [if_pos (by omega), if_pos (by omega), Int.toNat_natCast]
def off (H : Hp) (d : Addr) : Hp := fun b => if b = d then none else H b
theorem off_at {H : Hp} {d b : Addr} {o : HO} (h : b ≠ d) (e : H b = some o) : off H d b = some o := by unfold off; rw [if_neg h]; exact e
theorem off_self {H : Hp} {d : Addr} : off H d d = none := by unfold off; rw [if_pos rfl]
theorem off_same {H : Hp} {d : Addr} : Same (off H d) H := fun b o e => by
  unfold off at e
  split at e
  · cases e
  · exact e
/-- n cards, b heaps, not too many words -/
def Bn (n b : Nat) : Prop := 1 ≤ n ∧ n ≤ 6 ∧ 1 ≤ b ∧ b ≤ 4096 ∧ b ^ n ≤ 4096
def sp_falls_from (K : PySem.W.Frag) : Sp := sp2 fun a d H Q => ∃ (p : Addr) (os : List Int) (n b : Nat), SqL K H p (iL os) ∧ a = .ref p ∧ d = .int b ∧ (Bn n b ∧ M.Ord n os) ∧ rNew (iL (M.cnts os b n (M.allw b n))) H Q
theorem ok_falls_from (T : Txt K mg) (g_power : Has P w K mg base k "power" ["base", "times"] (sp_power K)) (g_all_words : Has P w K mg base k "all_words" ["m", "b"] (sp_all_words K)) (g_falls : Has P w K mg base k "falls" ["order"] (sp_falls K)) (g_riffled : Has P w K mg base k "riffled" ["order", "marks", "word"] (sp_riffled K)) (g_without_empty_heaps : Has P w K mg base k "without_empty_heaps" ["word"] (sp_without_empty_heaps K)) : Has P w K mg base (k + 1) "falls_from" ["order", "b"] (sp_falls_from K) := by
  refine T.f_falls_from.has sc_falls_from len2 (fun f cdv A outer s H vs Q E hr h => ?_)
  obtain ⟨a0, a1, rfl, h⟩ := h
  refine ⟨_, pss_cons (ps_set (i := 2) sc_falls_from.nd rfl (Or.inl rfl) (pe_callB (k_len (K := K)) rfl T.z_len PySem.boot_len (pa_cons (pv 0) pa_nil)))
    (pss_cons (ps_if (pt_cmpR op_gt (pe_callH g_power hr (pa_cons (pv 1) (pa_cons (pv 2) pa_nil))) (pe_glob (v := .int 4096) rfl T.c_MOST_WORDS.choose_spec ⟨_, rfl⟩) (nomark _))
    (pss_one (ps_never))
    (pss_nil))
    (pss_cons (ps_set (i := 3) sc_falls_from.nd rfl (Or.inl rfl) (pe_op op_rep (pe_lst (pa_cons pe_bl pa_nil)) (pv 2)))
    (pss_cons (ps_set (i := 4) sc_falls_from.nd rfl (Or.inl rfl) (pe_op op_rep (pe_lst (pa_cons pe_int pa_nil)) (pv 2)))
    (pss_cons (ps_for PassesOwn.never rfl (k_pi_list (K := K) (pe_callH g_all_words hr (pa_cons (pv 2) (pa_cons (pv 1) pa_nil)))) (pg_name (i := 5) sc_falls_from.nd rfl (Or.inl rfl))
    (pss_cons (ps_set (i := 6) sc_falls_from.nd rfl (Or.inl rfl) (pe_callH g_falls hr (pa_cons (pe_callH g_riffled hr (pa_cons (pv 0) (pa_cons (pv 3) (pa_cons (pe_callH g_without_empty_heaps hr (pa_cons (pv 5) pa_nil)) pa_nil)))) pa_nil)))
      (pss_one (ps_asg (pe_op op_add (pe_ix (k_ix_list (K := K)) (pv 4) (pv 6) (fun _ _ => rfl)) pe_int) (pg_sub (pv 4) (pv 6) set_list)))))
    (pss_one (ps_ret (pv 4))))))), ?_⟩
  obtain ⟨p, os, n, b, hS, rfl, rfl, ⟨⟨n1, n6, b1, b4, hp⟩, hO⟩, q⟩ := h
  have hn := hO.len
  have hl : (iL os).length = n := by rw [List.length_map]; exact hn
  walk_at "rd"
  rw [hl]
  rw [decide_eq_false (show ¬ (4096 : Int) < ((b ^ n : Nat) : Int) by omega)]
  walk_at "rd"
  intro A1 hA1
  generalize e1 : upd H A1 _ = H1
  obtain ⟨s1, eA1⟩ := new_is hA1 e1
  clear e1
  walk_at "rd"
  refine ⟨A1, _, _, rfl, rfl, eA1, by omega, by omega, by rw [sizeLine_eq]; simp; omega, fun A2 hA2 => ?_⟩
  rw [Int.toNat_natCast, show (List.replicate n [V.bl false]).flatten = bL (List.replicate n false) by simp [bL]]
  generalize e2 : upd H1 A2 _ = H2
  obtain ⟨s2, eM⟩ := new_is hA2 e2
  clear e2
  walk_at "rd"
  intro A3 hA3
  generalize e3 : upd H2 A3 _ = H3
  obtain ⟨s3, eA3⟩ := new_is hA3 e3
  clear e3
  walk_at "rd"
  refine ⟨A3, _, _, rfl, rfl, eA3, by omega, by omega, by rw [sizeLine_eq]; simp; omega, fun Cn hCn => ?_⟩
  rw [Int.toNat_natCast, show (List.replicate n [V.int 0]).flatten = iL (List.replicate n 0) by simp [iL]]
  generalize e4 : upd H3 Cn _ = H4
  obtain ⟨s4, eC⟩ := new_is hCn e4
  clear e4
  have s04 := s1.trans (s2.trans (s3.trans s4))
  have hC0 : H Cn = none := (s1.trans (s2.trans s3)).free hCn
  walk_at "rd"
  intro r H5 s5 ⟨adr, ⟨hr5, er⟩, la, hA⟩
  have eC5 := s5 _ _ eC
  have nr : r ≠ Cn := ne_of_none' eC hr5
  have SP : SqL K H5 p (iL os) := (s04.trans s5).seq hS
  have eM5 := (s3.trans (s4.trans s5)) _ _ eM
  have nM : A2 ≠ Cn := ne_of_none (s3 _ _ eM) hCn
  walk_at "rd"
  refine ⟨⟨_, SqL.of er⟩, ?_⟩
  refine for_list (xs := adr.map V.ref) (fun i σ' H' => (∃ (t5 t6 : Option V), σ' = [some (.ref p), some (.int b), some (.int n), some (.ref A2), some (.ref Cn), t5, t6] ∧ Same H H' ∧ Same (off H5 Cn) H' ∧ H' Cn = some (.lst (iL (M.cnts os b n ((M.allw b n).take i))))) ∨ False)
    (.inl ⟨_, _, rfl, s04.trans s5, off_same, by rw [List.take_zero, M.cnts_nil]; exact eC5⟩) ?_ ?_ ?_
  · intro i σ' H' _ y
    obtain ⟨t5, t6, rfl, sm, so, eH⟩ := y.resolve_right id
    exact SqL.of (so _ _ (off_at nr er))
  · intro i x σ' H6 hx y
    obtain ⟨t5, t6, rfl, sm, so, eH⟩ := y.resolve_right id
    have hi : i < adr.length := by have := (List.getElem?_eq_some_iff.mp hx).1; rw [List.length_map] at this; exact this
    have e0 : adr[i]? = some adr[i] := List.getElem?_eq_getElem hi
    obtain ⟨⟨f0, _⟩, ws, ewd, ew⟩ := hA i adr[i] e0
    have W : M.Wd b n ws := M.mem_allw.mp (List.mem_of_getElem? ewd)
    rw [List.getElem?_map, e0] at hx
    cases hx
    generalize adr[i] = a at f0 ew ⊢
    have na : a ≠ Cn := ne_of_none' eC f0
    have ew6 := so _ _ (off_at na ew)
    have eM6 := so _ _ (off_at nM eM5)
    have lw := W.len
    walk_at "rd"
    refine ⟨a, ws, b, SqL.of ew6, rfl, by rw [lw]; exact ⟨W, n6⟩, fun vs Wv same => ?_⟩
    rw [lw] at Wv same
    intro V1 H7 s7 hV1 eV1
    walk_at "rd"
    refine ⟨p, A2, V1, os, List.replicate n false, vs, n, (sm.trans s7).seq hS, SqL.of (s7 _ _ eM6), SqL.of eV1, rfl, rfl, rfl, hn, by rw [List.length_replicate]; exact Wv, by omega, by rw [List.length_replicate]; omega, ?_⟩
    intro R H8 s8 hR eR
    have ely : M.lay os (M.drawn (List.replicate n false) vs) = M.rho os b ws := by
      unfold M.rho
      rw [← same]
    rw [ely] at eR
    have ll : (M.rho os b ws).length = n := (M.rho_ord hO W).len
    have fl : M.flN (M.rho os b ws) < n := M.ff_lt n1 W
    have sn := M.cnts_snoc (os := os) (l := (M.allw b n).take i) (show M.ff os b ws < n from fl)
    rw [← take_snoc ewd] at sn
    have lc := M.cnts_len os b n ((M.allw b n).take i)
    walk_at "rd"
    refine ⟨R, _, SqL.of eR, rfl, by omega, fun H9 s9 => ?_⟩
    have s69 := s7.trans (s8.trans s9)
    have eH9 := s69 _ _ eH
    walk_at "rd"
    refine ⟨Cn, _, _, _, rfl, rfl, SqL.of eH9, atI_int (by omega) (by omega), ?_⟩
    rw [Int.toNat_natCast]
    walk_at "rd"
    refine ⟨Cn, _, _, M.flN (M.rho os b ws), rfl, rfl, eH9, by rw [List.length_map]; exact ixN_in (by omega), ?_⟩
    generalize e10 : upd H9 Cn _ = H10
    obtain ⟨s10, eC10⟩ := set_is hC0 (sm.trans s69) e10
    obtain ⟨s11, _⟩ := set_is off_self (so.trans s69) e10
    refine .inl ⟨_, _, rfl, s10, s11, ?_⟩
    rw [eC10, ← sn, iL, iL, List.map_set]
    rfl
  · intro σ' H6 y
    obtain ⟨t5, t6, rfl, sm, so, eH⟩ := y.resolve_right id
    rw [List.length_map, la, List.take_length] at eH
    walk_at "rd"
    exact q Cn H6 sm hC0 eH
end
end K62
set_option Elab.async false
set_option linter.all false
set_option maxRecDepth 100000
set_option maxHeartbeats 4000000
namespace K62
open PySem L2
local macro_rules | `(tactic| walk_at "sq") => `(tactic| first | assumption | (refine SqL.of ?_; assumption) | (refine SqL.of ?_; exact upd_same))
local macro_rules | `(tactic| walk_at "cj") => `(tactic| first | (with_reducible show (_ : Int) ≤ _; omega) | (with_reducible show (_ : Int) < _; omega) | exact rfl | assumption | omega | decide | (unfold CDiv; omega) | (unfold CPow; decide) | (show (0 : Int) < _; first | omega | decide) | (show _ ≤ sizeLine; rw [sizeLine_eq]; simp; done) | (refine mulS1 ?_ ?_ <;> omega) | (refine mulS2 ?_ ?_ <;> omega))
local macro_rules | `(tactic| walk_at "rd1") => `(tactic| first | refine ⟨_, rfl, ?_⟩ | refine ⟨_, _, rfl, rfl, ?_⟩ | refine ⟨_, _, rfl, ?_⟩ | refine ⟨_, _, _, rfl, ?_⟩ | refine ⟨_, _, _, _, rfl, ?_⟩ | refine ⟨_, _, _, _, _, rfl, ?_⟩ | refine ⟨_, _, rfl, .inl (by walk_at "sq"), ?_⟩ | refine And.intro (by walk_at "cj") ?_)
local macro_rules | `(tactic| walk_at "rd") => `(tactic| repeat walk_at "rd1")

section
variable {P : Program} {w : World} {K : PySem.W.Frag} {mg : Str → Option Value} {base : Heap} {k : Nat}
theorem rangeL_iota (n : Nat) : rangeL 0 n = M.iota n := by simp [rangeL, M.iota]
def sp_l_order (K : PySem.W.Frag) : Sp := sp2 fun a b H Q => ∃ (n : Nat) (c : Int), a = .int n ∧ b = .int c ∧ (1 ≤ n ∧ n ≤ 6) ∧ ∀ as : List Int, M.Ord n as → rNew (iL as) H Q
theorem erase_map : ∀ (ls : List Int) (i : Nat), (iL ls).eraseIdx i = iL (ls.eraseIdx i)
  | [], _ => rfl
  | _ :: _, 0 => rfl
  | a :: r, i + 1 => by
    have := erase_map r i
    simp only [iL, List.map_cons, List.eraseIdx_cons_succ] at this ⊢
    rw [this]
theorem pop_one {H : Hp} {L : Addr} {ls : List Int} {j : Int} {R : VK} (e : H L = some (.lst (iL ls))) (h0 : 0 ≤ j) (h1 : j < (ls.length : Int)) (h2 : ls.length ≤ 1000) (q : ∀ h : j.toNat < ls.length, R (.int ls[j.toNat]) (upd H L (.lst (iL (ls.eraseIdx j.toNat))))) : rPopAt (.ref L) [.int j] H R := by
  have hj : j.toNat < ls.length := by omega
  have e3 : (iL ls).eraseIdx j.toNat = iL (ls.eraseIdx j.toNat) := erase_map ls j.toNat
  refine ⟨L, _, j, j.toNat, .int ls[j.toNat], rfl, rfl, e, by omega, by omega, ?_, ?_, ?_⟩
  · rw [List.length_map]; exact seqIndex_of h0 h1
  · rw [List.getElem?_map, List.getElem?_eq_getElem hj]; rfl
  · rw [e3]
    exact q hj
theorem ok_l_order (T : Txt K mg)  : Has P w K mg base (k + 1) "_law_order" ["_law_n", "_law_cell"] (sp_l_order K) := by
  refine T.f_l_order.has sc_l_order len2 (fun f cdv A outer s H vs Q E hr h => ?_)
  obtain ⟨a0, a1, rfl, h⟩ := h
  refine ⟨_, pss_cons (ps_set (i := 2) sc_l_order.nd rfl (Or.inl rfl) (pe_listRange1 rfl rfl T.z_list rfl T.z_range (pa_cons (pv 0) pa_nil)))
    (pss_cons (ps_set (i := 3) sc_l_order.nd rfl (Or.inl rfl) (pe_lst pa_nil))
    (pss_cons (ps_for PassesOwn.never rfl (pi_range1 rfl T.z_range (pa_cons (pv 0) pa_nil)) (pg_name (i := 4) sc_l_order.nd rfl (Or.inl rfl))
    (pss_cons (ps_expr (k_bm (K := K) PySem.F.plainAttrs_list PySem.F.slot_list_append PySem.F.type_list_append mt_append (pv 3) (pa_cons (k_bm (K := K) PySem.F.plainAttrs_list PySem.F.slot_list_pop PySem.F.type_list_pop mt_popAt (pv 2) (pa_cons (pe_op op_mod (pv 1) (pe_callB (k_len (K := K)) rfl T.z_len PySem.boot_len (pa_cons (pv 2) pa_nil))) pa_nil)) pa_nil)))
      (pss_one (ps_set (i := 1) sc_l_order.nd rfl (Or.inl rfl) (pe_op op_fdiv (pv 1) (pe_op op_sub (pv 0) (pv 4)))))))
    (pss_one (ps_ret (pv 3))))), ?_⟩
  obtain ⟨n, c, rfl, rfl, ⟨h1, h6⟩, q⟩ := h
  walk_at "rd"
  intro L hL
  rw [Int.toNat_natCast, rangeL_iota]
  generalize e1 : upd H L _ = H1
  obtain ⟨s1, eL⟩ := new_is hL e1
  clear e1
  walk_at "rd"
  intro O hO
  generalize e2 : upd H1 O _ = H2
  obtain ⟨s2, eO⟩ := new_is hO e2
  clear e2
  have hO0 : H O = none := s1.free hO
  have nLO : L ≠ O := ne_of_none eL hO
  walk_at "rd"
  rw [Int.toNat_natCast]
  refine for_range (fun i σ' H' => (∃ (c' : Int) (ls as : List Int) (t : Option V), σ' = [some (.int n), some (.int c'), some (.ref L), some (.ref O), t] ∧ Same H H' ∧ H' L = some (.lst (iL ls)) ∧ H' O = some (.lst (iL as)) ∧ (as ++ ls).Perm (M.iota n) ∧ as.length = i) ∨ False)
    (.inl ⟨_, _, [], _, rfl, s1.trans s2, s2 _ _ eL, eO, by simp, rfl⟩) ?_ ?_
  · intro i σ' H3 hi y
    obtain ⟨c', ls, as, t, rfl, sm, eL3, eO3, pm, la⟩ := y.resolve_right id
    have ll : as.length + ls.length = n := by
      have := pm.length_eq
      rw [List.length_append, M.iota_length] at this
      exact this
    have hll : (iL ls).length = ls.length := List.length_map _
    have m0 : 0 ≤ c' % (ls.length : Int) := Int.emod_nonneg _ (by omega)
    have m1 : c' % (ls.length : Int) < (ls.length : Int) := Int.emod_lt_of_pos _ (by omega)
    walk_at "rd"
    refine ⟨.inl ⟨rfl, _, SqL.of eO3⟩, ?_⟩
    walk_at "rd"
    refine ⟨.inl ⟨rfl, _, SqL.of eL3⟩, ?_⟩
    walk_at "rd"
    refine ⟨L, _, rfl, .inl (SqL.of eL3), ?_⟩
    walk_at "rd"
    rw [hll]
    refine pop_one (j := c' % (ls.length : Int)) eL3 m0 m1 (by omega) fun hj => ?_
    walk_at "rd"
    refine ⟨O, _, _, rfl, rfl, by rw [upd_ne (Ne.symm nLO)]; exact eO3, by rw [List.length_map]; exact lt_line' (by omega), ?_⟩
    walk_at "rd"
    refine .inl ⟨_, ls.eraseIdx (c' % (ls.length : Int)).toNat, as ++ [ls[(c' % (ls.length : Int)).toNat]], _, rfl, (sm.put hL).put hO0, ?_, ?_, M.draw_perm pm hj, ?_⟩
    · rw [upd_ne nLO, upd_same]
    · rw [upd_same]; simp [iL]
    · rw [List.length_append, la]; rfl
  · intro σ' H3 y
    obtain ⟨c', ls, as, t, rfl, sm, eL3, eO3, pm, la⟩ := y.resolve_right id
    have hls : ls = [] := by
      have := pm.length_eq
      rw [List.length_append, M.iota_length] at this
      exact List.eq_nil_of_length_eq_zero (by omega)
    rw [hls, List.append_nil] at pm
    walk_at "rd"
    exact q as (M.Ord.of_perm pm) O H3 sm hO0 eO3
def sp_l_falls (K : PySem.W.Frag) : Sp := sp1 fun a H Q => ∃ (p : Addr) (ns : List Int), SqL K H p (iL ns) ∧ a = .ref p ∧ ns.length ≤ 1000 ∧ ∀ H', Same H H' → Q (.int (M.flN ns : Nat)) H'
theorem ok_l_falls (T : Txt K mg)  : Has P w K mg base (k + 1) "_law_falls" ["_law_order_here"] (sp_l_falls K) := by
  refine T.f_l_falls.has sc_l_falls len1 (fun f cdv A outer s H vs Q E hr h => ?_)
  obtain ⟨a0, rfl, h⟩ := h
  refine ⟨_, pss_one (ps_ret (pe_callB (k_len (K := K)) rfl T.z_len PySem.boot_len (pa_cons (pe_comp (vars := ["_law_p"]) (caps := [0]) (CompScope.of (outer := defScope s_l_falls) (N := ["_law_order_here"]) rfl rfl ⟨by decide +kernel⟩) rfl (pi_range1 rfl T.z_range (pa_cons (pe_op op_sub (pe_callB (k_len (K := K)) rfl T.z_len PySem.boot_len (pa_cons (pv 0) pa_nil)) pe_int) pa_nil)) ⟨fun _ _ _ _ => ⟨(pg_name (i := 0) (show List.Nodup (["_law_p", "_law_order_here"] : List Str) by decide +kernel) rfl (Or.inl rfl)), (pts_one (pt_cmpR op_lt (pe_ix (k_ix_list (K := K)) (pv 1) (pe_op op_add (pv 0) pe_int) (fun _ _ => rfl)) (pe_ix (k_ix_list (K := K)) (pv 1) (pv 0) (fun _ _ => rfl)) (nomark _))), (pv 0)⟩⟩) pa_nil))), ?_⟩
  obtain ⟨p, ns, hS, rfl, hn, q⟩ := h
  have hl : (iL ns).length = ns.length := List.length_map _
  walk_at "rd"
  rw [hl]
  refine comp_range (fun i => .int (0 + (i : Int))) (fun i => decide (ns.getD (i + 1) 0 < ns.getD i 0)) (lt_line (by omega)) ?_ ?_
  · intro i t acc ys N Kt hi hacc k1 k2
    have S1 := (Same.new hacc (.lst ys)).seq hS
    walk_at "rd"
    refine ⟨p, _, _, _, rfl, rfl, S1, atI_int (by omega) (by omega), ?_⟩
    walk_at "rd"
    refine ⟨p, _, _, _, rfl, rfl, S1, atI_int (by omega) (by omega), ?_⟩
    walk_at "rd"
    have e1 : (0 + (i : Int) + 1).toNat = i + 1 := by omega
    have e2 : (0 + (i : Int)).toNat = i := by omega
    rw [e1, e2]
    refine ite2 (fun c => ?_) (fun c => ?_)
    · walk_at "rd"
      exact k1 _ c
    · exact k2 _ (Bool.eq_false_iff.mpr c)
  · intro l hl
    refine ⟨_, _, rfl, .inl (SqL.of upd_same), ?_⟩
    have e : ((((List.range ((ns.length : Int) - 1).toNat).filter fun i => decide (ns.getD (i + 1) 0 < ns.getD i 0)).map fun i : Nat => V.int (0 + (i : Int))).length : Int) = (M.flN ns : Nat) := by
      rw [List.length_map, show ((ns.length : Int) - 1).toNat = ns.length - 1 by omega]
      rfl
    have z := q _ (Same.new hl (.lst (((List.range ((ns.length : Int) - 1).toNat).filter fun i => decide (ns.getD (i + 1) 0 < ns.getD i 0)).map fun i : Nat => V.int (0 + (i : Int)))))
    rw [← e] at z
    exact z
theorem hc_pl (b : Nat) (ws os : List Int) (i : Nat) : M.hc (M.pl b) ws os i = (os.drop (M.stt ws i)).take (M.cn ws i) := by
  unfold M.hc
  rw [if_neg]
  have : (M.pl b).getD i false = false := by
    unfold M.pl
    rw [List.getD, List.getElem?_replicate]
    split <;> rfl
  rw [this]
  decide
def sp_l_riffled (K : PySem.W.Frag) : Sp := sp3 fun a c d H Q => ∃ (o r : Addr) (os ws : List Int) (n b : Nat), SqL K H o (iL os) ∧ SqL K H r (iL ws) ∧ a = .ref o ∧ c = .ref r ∧ d = .int b ∧ os.length = n ∧ M.Wd b n ws ∧ n ≤ 1000 ∧ b ≤ 1000 ∧ rNew (iL (M.rho os b ws)) H Q
theorem ok_l_riffled (T : Txt K mg)  : Has P w K mg base (k + 1) "_law_riffled" ["_law_order_here", "_law_word", "_law_b"] (sp_l_riffled K) := by
  refine T.f_l_riffled.has sc_l_riffled len3 (fun f cdv A outer s H vs Q E hr h => ?_)
  obtain ⟨a0, a1, a2, rfl, h⟩ := h
  refine ⟨_, pss_cons (ps_set (i := 3) sc_l_riffled.nd rfl (Or.inl rfl) (pe_lst pa_nil))
    (pss_cons (ps_set (i := 4) sc_l_riffled.nd rfl (Or.inl rfl) pe_int)
    (pss_cons (ps_for PassesOwn.never rfl (pi_range1 rfl T.z_range (pa_cons (pv 2) pa_nil)) (pg_name (i := 5) sc_l_riffled.nd rfl (Or.inl rfl))
    (pss_cons (ps_set (i := 6) sc_l_riffled.nd rfl (Or.inl rfl) (k_bm (K := K) PySem.F.plainAttrs_list PySem.F.slot_list_count PySem.F.type_list_count (k_count (K := K)) (pv 1) (pa_cons (pv 5) pa_nil)))
      (pss_cons (ps_expr (k_bm (K := K) PySem.F.plainAttrs_list PySem.F.slot_list_append PySem.F.type_list_append mt_append (pv 3) (pa_cons (pe_slice (k_sl_list (K := K)) (pv 0) (po_some (pv 4)) (po_some (pe_op op_add (pv 4) (pv 6)))) pa_nil)))
      (pss_one (ps_set (i := 4) sc_l_riffled.nd rfl (Or.inl rfl) (pe_op op_add (pv 4) (pv 6)))))))
    (pss_cons (ps_set (i := 7) sc_l_riffled.nd rfl (Or.inl rfl) (pe_lst pa_nil))
    (pss_cons (ps_for PassesOwn.never rfl (k_pi_list (K := K) (pv 1)) (pg_name (i := 5) sc_l_riffled.nd rfl (Or.inl rfl))
    (pss_one (ps_expr (k_bm (K := K) PySem.F.plainAttrs_list PySem.F.slot_list_append PySem.F.type_list_append mt_append (pv 7) (pa_cons (k_bm (K := K) PySem.F.plainAttrs_list PySem.F.slot_list_pop PySem.F.type_list_pop mt_popAt (pe_ix (k_ix_list (K := K)) (pv 3) (pv 5) (fun _ _ => rfl)) (pa_cons pe_int pa_nil)) pa_nil)))))
    (pss_one (ps_ret (pv 7))))))), ?_⟩
  obtain ⟨o, r, os, ws, n, b, ho, hr', rfl, rfl, rfl, lo, W0, hn, hb, q⟩ := h
  generalize hbs : M.pl b = bs
  have hl2 : bs.length = b := by rw [← hbs]; exact M.pl_len b
  have W : M.Wd bs.length n ws := by rw [hl2]; exact W0
  have hl1 : (iL ws).length = n := by rw [List.length_map, W.len]
  have hcp : ∀ i, M.hc bs ws os i = (os.drop (M.stt ws i)).take (M.cn ws i) := fun i => by rw [← hbs]; exact hc_pl b ws os i
  walk_at "rd"
  intro Z hZ
  generalize e1 : upd H Z _ = H1
  obtain ⟨s1, eZ1⟩ := new_is hZ e1
  clear e1
  walk_at "rd"
  rw [Int.toNat_natCast]
  refine for_range (fun i σ' H' => (∃ (adr : List Addr) (t5 t6 t7 : Option V), σ' = [some (.ref o), some (.ref r), some (.int b), some (.ref Z), some (.int (M.stt ws i : Nat)), t5, t6, t7] ∧ Same H H' ∧ H' Z = some (.lst (adr.map V.ref)) ∧ adr.length = i ∧ (∀ (h : Nat) (a : Addr), adr[h]? = some a → H' a = some (.lst (iL (M.hc bs ws os h))) ∧ a ≠ Z ∧ H a = none) ∧ ∀ (h h' : Nat) (a : Addr), adr[h]? = some a → adr[h']? = some a → h = h') ∨ False)
    (.inl ⟨[], _, _, _, rfl, s1, eZ1, rfl, fun h a ha => (by cases ha), fun h h' a ha _ => (by cases ha)⟩) ?_ ?_
  · intro i σ' H' hi z
    obtain ⟨adr, t5, t6, t7, rfl, sm, eZ, la, hA, hinj⟩ := z.resolve_right id
    rw [Int.zero_add (i : Int)]
    have m := M.stt_mono ws (show i + 1 ≤ bs.length by omega)
    rw [M.stt_all W.bd, W.len, M.stt] at m
    have hR := sm.seq hr'
    walk_at "rd"
    refine ⟨.inl ⟨rfl, _, hR⟩, ?_⟩
    walk_at "rd"
    refine ⟨r, _, _, rfl, rfl, hR, rfl, flat_ints ws, ?_⟩
    rw [count_ints]
    walk_at "rd"
    refine ⟨.inl ⟨rfl, _, SqL.of eZ⟩, ?_⟩
    walk_at "rd"
    refine ⟨o, _, rfl, sm.seq ho, ?_⟩
    intro A hA0
    generalize e2 : upd H' A _ = HC
    obtain ⟨s2, eA⟩ := new_is hA0 e2
    clear e2
    rw [show List.count (i : Int) ws = M.cn ws i from rfl, cut_mid (by rw [List.length_map, lo]; omega), ← List.map_drop, ← List.map_take, ← hcp] at eA
    have hCZ : A ≠ Z := fun e => ne_of_none eZ hA0 e.symm
    have eZ' := s2 _ _ eZ
    walk_at "rd"
    refine ⟨Z, _, _, rfl, rfl, eZ', by rw [List.length_map]; exact lt_line' (by omega), ?_⟩
    generalize e9 : upd HC Z _ = H9
    obtain ⟨s9, eZ9⟩ := set_is hZ (sm.trans s2) e9
    walk_at "rd"
    refine .inl ⟨adr ++ [A], _, _, _, rfl, s9, by rw [eZ9]; simp, by simp; omega, fun h a ha => ?_, fun h h' a ha ha' => ?_⟩
    · rcases Nat.lt_or_ge h adr.length with hh | hh
      · rw [List.getElem?_append_left hh] at ha
        obtain ⟨q1, q2, q3⟩ := hA h a ha
        exact ⟨by rw [← e9, upd_ne q2]; exact s2 _ _ q1, q2, q3⟩
      · rw [List.getElem?_append_right hh] at ha
        have eh : h - adr.length = 0 := by
          rcases Nat.eq_zero_or_pos (h - adr.length) with z | z
          · exact z
          · rw [List.getElem?_eq_none (by simp; omega)] at ha; cases ha
        rw [eh] at ha
        cases ha
        have : h = i := by omega
        subst this
        exact ⟨by rw [← e9, upd_ne hCZ]; exact eA, hCZ, sm.free hA0⟩
    · have one : ∀ h, (adr ++ [A])[h]? = some A → h = i := fun h e => by
        rcases Nat.lt_or_ge h adr.length with hh | hh
        · rw [List.getElem?_append_left hh] at e
          exact absurd rfl (ne_of_none (hA h A e).1 hA0)
        · have := (List.getElem?_eq_some_iff.mp e).1
          simp at this
          omega
      have isC : ∀ h, adr.length ≤ h → (adr ++ [A])[h]? = some a → a = A := fun h hh e => by
        rw [List.getElem?_append_right hh] at e
        have eh : h - adr.length = 0 := by
          rcases Nat.eq_zero_or_pos (h - adr.length) with z | z
          · exact z
          · rw [List.getElem?_eq_none (by simp; omega)] at e; cases e
        rw [eh] at e
        cases e; rfl
      rcases Nat.lt_or_ge h adr.length with hh | hh
      · rcases Nat.lt_or_ge h' adr.length with hh' | hh'
        · rw [List.getElem?_append_left hh] at ha
          rw [List.getElem?_append_left hh'] at ha'
          exact hinj h h' a ha ha'
        · have e' := isC h' hh' ha'
          subst e'
          rw [one h ha, one h' ha']
      · have e' := isC h hh ha
        subst e'
        rw [one h ha, one h' ha']
  · intro σ' H' z
    obtain ⟨adr, t5, t6, t7, rfl, sm, eZ, la, hA, hinj⟩ := z.resolve_right id
    walk_at "rd"
    intro O hO
    generalize e2 : upd H' O _ = H2
    obtain ⟨s2, eO2⟩ := new_is hO e2
    clear e2
    have hO0 : H O = none := sm.free hO
    have hOZ : O ≠ Z := fun e => ne_of_none eZ hO e.symm
    walk_at "rd"
    refine ⟨⟨_, (sm.trans s2).seq hr'⟩, ?_⟩
    refine for_list (xs := iL ws) (fun i σ' H' => (∃ (t4 t5 t6 : Option V), σ' = [some (.ref o), some (.ref r), some (.int b), some (.ref Z), t4, t5, t6, some (.ref O)] ∧ Same H H' ∧ H' Z = some (.lst (adr.map V.ref)) ∧ (∀ (h : Nat) (a : Addr), adr[h]? = some a → H' a = some (.lst (iL ((M.hc bs ws os h).drop ((ws.take i).count (h : Int)))))) ∧ H' O = some (.lst (iL ((List.range i).map fun p => os.getD (M.dr bs ws p) 0)))) ∨ False)
      (.inl ⟨_, _, _, rfl, sm.trans s2, s2 _ _ eZ, fun h a ha => by rw [s2 _ _ (hA h a ha).1]; simp, eO2⟩) ?_ ?_ ?_
    · intro i σ' H' _ z
      obtain ⟨t4, t5, t6, rfl, sm, _⟩ := z.resolve_right id
      exact sm.seq hr'
    · intro i x σ' H3 hx z
      obtain ⟨t4, t5, t6, rfl, sm3, eZ3, hA3, eO⟩ := z.resolve_right id
      have hin : i < n := by
        have := (List.getElem?_eq_some_iff.mp hx).1
        rw [hl1] at this
        exact this
      have c := M.hp_cast W hin
      have ex : x = .int ((M.hp ws i : Nat) : Int) := by
        rw [List.getElem?_map, List.getElem?_eq_getElem (by rw [W.len]; exact hin)] at hx
        rw [c.1, ← Option.some.inj hx]
        simp [List.getD, List.getElem?_eq_getElem (show i < ws.length by rw [W.len]; exact hin)]
      subst ex
      obtain ⟨a, ha⟩ : ∃ a, adr[M.hp ws i]? = some a := ⟨_, List.getElem?_eq_getElem (by have := c.2; omega)⟩
      have ea := hA3 _ a ha
      have haZ : a ≠ Z := (hA _ a ha).2.1
      have ha0 : H a = none := (hA _ a ha).2.2
      have haO : a ≠ O := ne_of_none (hA _ a ha).1 hO
      have ek : (ws.take i).count ((M.hp ws i : Nat) : Int) = M.kk ws i := by rw [c.1]; rfl
      rw [ek] at ea
      have hkk := M.kk_lt W hin
      have hat : atI (adr.map V.ref) ((M.hp ws i : Nat) : Int) = some (.ref a) := atV (by omega) (by rw [Int.toNat_natCast, List.getElem?_map, ha]; rfl)
      have hge := M.hc_get W lo hin
      have hl : i < ws.length := by rw [W.len]; exact hin
      have hlen : ((M.hc bs ws os (M.hp ws i)).drop (M.kk ws i)).length = M.cn ws (M.hp ws i) - M.kk ws i := by rw [List.length_drop, M.hc_length W lo c.2]
      walk_at "rd"
      refine ⟨.inl ⟨rfl, _, SqL.of eO⟩, ?_⟩
      walk_at "rd"
      refine ⟨Z, _, _, _, rfl, rfl, SqL.of eZ3, hat, ?_⟩
      refine ⟨.inl ⟨rfl, _, SqL.of ea⟩, ?_⟩
      walk_at "rd"
      refine ⟨a, _, 0, 0, .int (os.getD (M.dr bs ws i) 0), rfl, rfl, ea, by omega, by omega, ?_, ?_, ?_⟩
      · exact seqIndex_of (by omega) (by rw [List.length_map, hlen]; omega)
      · rw [List.getElem?_map, List.getElem?_drop, Nat.add_zero, hge]; rfl
      generalize e4 : upd H3 a _ = H4
      obtain ⟨s4, ea4⟩ := set_is ha0 sm3 e4
      have eO4 : H4 O = some (.lst (iL ((List.range i).map fun p => os.getD (M.dr bs ws p) 0))) := by rw [← e4, upd_ne (Ne.symm haO)]; exact eO
      walk_at "rd"
      refine ⟨O, _, _, rfl, rfl, eO4, by rw [List.length_map, List.length_map, List.length_range]; exact lt_line' (by omega), ?_⟩
      generalize e5 : upd H4 O _ = H5
      obtain ⟨s5, eO5⟩ := set_is hO0 s4 e5
      refine .inl ⟨_, _, _, rfl, s5, ?_, fun h b' hb' => ?_, ?_⟩
      · rw [← e5, upd_ne (Ne.symm hOZ), ← e4, upd_ne (Ne.symm haZ)]; exact eZ3
      · have hbO : b' ≠ O := ne_of_none (hA h b' hb').1 hO
        rw [← e5, upd_ne hbO, M.take_succ_count hl, ← c.1]
        by_cases e : M.hp ws i = h
        · subst e
          rw [ha] at hb'
          cases hb'
          rw [ea4, if_pos rfl, ek, List.eraseIdx_zero, ← List.map_tail, List.tail_drop]
        · rw [if_neg (by omega), ← e4, upd_ne (fun z => e (by subst z; exact hinj _ _ _ ha hb'))]
          exact hA3 h b' hb'
      · rw [eO5, List.range_succ, List.map_append]
        simp
    · intro σ' H3 z
      obtain ⟨t4, t5, t6, rfl, sm3, eZ3, hA3, eO⟩ := z.resolve_right id
      walk_at "rd"
      refine q O H3 sm3 hO0 ?_
      unfold M.rho
      rw [hbs, eO, M.lay_drawn W, List.length_map, W.len]
end
end K62
set_option Elab.async false
set_option linter.all false
set_option maxRecDepth 100000
set_option maxHeartbeats 4000000
namespace K62
open PySem L2
local macro_rules | `(tactic| walk_at "sq") => `(tactic| first | assumption | (refine SqL.of ?_; assumption) | (refine SqL.of ?_; exact upd_same))
local macro_rules | `(tactic| walk_at "cj") => `(tactic| first | (with_reducible show (_ : Int) ≤ _; omega) | (with_reducible show (_ : Int) < _; omega) | exact rfl | assumption | omega | decide | (unfold CDiv; omega) | (unfold CPow; decide) | (show (0 : Int) < _; first | omega | decide) | (show _ ≤ sizeLine; rw [sizeLine_eq]; simp; done) | (refine mulS1 ?_ ?_ <;> omega) | (refine mulS2 ?_ ?_ <;> omega))
local macro_rules | `(tactic| walk_at "rd1") => `(tactic| first | refine ⟨_, rfl, ?_⟩ | refine ⟨_, _, rfl, rfl, ?_⟩ | refine ⟨_, _, rfl, ?_⟩ | refine ⟨_, _, _, rfl, ?_⟩ | refine ⟨_, _, _, _, rfl, ?_⟩ | refine ⟨_, _, _, _, _, rfl, ?_⟩ | refine ⟨_, _, rfl, .inl (by walk_at "sq"), ?_⟩ | refine And.intro (by walk_at "cj") ?_)
local macro_rules | `(tactic| walk_at "rd") => `(tactic| repeat walk_at "rd1")

section
variable {P : Program} {w : World} {K : PySem.W.Frag} {mg : Str → Option Value} {base : Heap} {k : Nat}
theorem dig_snoc (b : Nat) : ∀ (j u : Nat), M.dig b (j + 1) u = M.dig b j u ++ [((u / b ^ j % b : Nat) : Int)]
  | 0, u => by simp [M.dig]
  | j + 1, u => by
    rw [M.dig, dig_snoc b j (u / b), M.dig, List.cons_append, Nat.div_div_eq_div_mul, ← Nat.pow_succ']
theorem up_snoc (n u b : Nat) : (List.range (u + 1)).map (M.dig b n) = (List.range u).map (M.dig b n) ++ [M.dig b n u] := by rw [List.range_succ, List.map_append]; rfl
theorem at_nat {xs : List Int} {i : Nat} (h : i < xs.length) : (iL xs)[((i : Nat) : Int).toNat]? = some (.int (xs.getD i 0)) := by
  rw [Int.toNat_natCast, List.getElem?_map, List.getElem?_eq_getElem h, List.getD, List.getElem?_eq_getElem h]
  rfl
def sp_l_due (K : PySem.W.Frag) : Sp := sp2 fun a d H Q => ∃ (p : Addr) (os : List Int) (n b : Nat), SqL K H p (iL os) ∧ a = .ref p ∧ d = .int b ∧ (Bn n b ∧ b ≤ 30 ∧ M.Ord n os) ∧ rNew (iL (M.cnts os b n (M.allw b n))) H Q
theorem ok_l_due (T : Txt K mg) (g_l_falls : Has P w K mg base k "_law_falls" ["_law_order_here"] (sp_l_falls K)) (g_l_riffled : Has P w K mg base k "_law_riffled" ["_law_order_here", "_law_word", "_law_b"] (sp_l_riffled K)) : Has P w K mg base (k + 1) "_law_due" ["_law_order_here", "_law_b"] (sp_l_due K) := by
  refine T.f_l_due.has sc_l_due len2 (fun f cdv A outer s H vs Q E hr h => ?_)
  obtain ⟨a0, a1, rfl, h⟩ := h
  refine ⟨_, pss_cons (ps_setC (i := 2) (vars := ["_law_card"]) (caps := []) (CompScope.of (outer := defScope s_l_due) (N := ["_law_order_here", "_law_b", "_law_row", "_law_many", "_law_card", "_law_number", "_law_word"]) rfl rfl ⟨by decide +kernel⟩) rfl sc_l_due.nd rfl rfl (k_pi_list (K := K) (pv 0)) ⟨fun _ _ _ _ => ⟨(pg_name (i := 0) (show List.Nodup (["_law_card"] : List Str) by decide +kernel) rfl (Or.inl rfl)), pts_nil, pe_int⟩⟩)
    (pss_cons (ps_set (i := 3) sc_l_due.nd rfl (Or.inl rfl) pe_int)
    (pss_cons (ps_for PassesOwn.never rfl (k_pi_list (K := K) (pv 0)) (pg_name (i := 4) sc_l_due.nd rfl (Or.inl rfl))
    (pss_one (ps_set (i := 3) sc_l_due.nd rfl (Or.inl rfl) (pe_op op_mulB (pv 3) (pv 1)))))
    (pss_cons (ps_for PassesOwn.never rfl (pi_range1 rfl T.z_range (pa_cons (pv 3) pa_nil)) (pg_name (i := 5) sc_l_due.nd rfl (Or.inl rfl))
    (pss_cons (ps_set (i := 6) sc_l_due.nd rfl (Or.inl rfl) (pe_lst pa_nil))
      (pss_cons (ps_for PassesOwn.never rfl (k_pi_list (K := K) (pv 0)) (pg_name (i := 4) sc_l_due.nd rfl (Or.inl rfl))
      (pss_cons (ps_expr (k_bm (K := K) PySem.F.plainAttrs_list PySem.F.slot_list_append PySem.F.type_list_append mt_append (pv 6) (pa_cons (pe_op op_mod (pv 5) (pv 1)) pa_nil)))
        (pss_one (ps_set (i := 5) sc_l_due.nd rfl (Or.inl rfl) (pe_op op_fdiv (pv 5) (pv 1))))))
      (pss_one (ps_augS (pv 2) (pe_callH g_l_falls hr (pa_cons (pe_callH g_l_riffled hr (pa_cons (pv 0) (pa_cons (pv 6) (pa_cons (pv 1) pa_nil)))) pa_nil)) (k_get (K := K)) pe_int ip_add set_list)))))
    (pss_one (ps_ret (pv 2)))))), ?_⟩
  obtain ⟨p, os, n, b, hS, rfl, rfl, ⟨⟨n1, n6, b1, b4, hp⟩, b30, hO⟩, q⟩ := h
  have hn := hO.len
  have hl : (iL os).length = n := by rw [List.length_map]; exact hn
  walk_at "rd"
  refine ⟨⟨_, hS⟩, ?_⟩
  refine comp_list (xs := iL os) (fun _ => .int 0) (fun _ => true) (lt_line (by omega)) hS ?_ ?_
  · intro i v t acc ys N Kt hi hv hacc k1 k2
    walk_at "rd"
    exact k1 _ rfl
  rw [filter_true, hl, show (List.range n).map (fun _ => V.int 0) = iL (M.cnts os b n ((List.range 0).map (M.dig b n))) by
    rw [show (List.range 0).map (M.dig b n) = [] from rfl, M.cnts_nil, iL, List.map_replicate, List.map_const', List.length_range]]
  intro R hR
  generalize e1 : upd H R _ = H1
  obtain ⟨s1, eR⟩ := new_is hR e1
  clear e1
  have hS1 := s1.seq hS
  walk_at "rd"
  refine ⟨⟨_, hS1⟩, ?_⟩
  refine for_list (xs := iL os) (fun i σ' H' => (∃ (t4 t5 t6 : Option V), σ' = [some (.ref p), some (.int b), some (.ref R), some (.int ((b ^ i : Nat) : Int)), t4, t5, t6] ∧ H' = H1) ∨ False) (.inl ⟨_, _, _, rfl, rfl⟩) ?_ ?_ ?_
  · intro i σ' H' _ z
    obtain ⟨t4, t5, t6, rfl, rfl⟩ := z.resolve_right id
    exact hS1
  · intro i x σ' H' hx z
    obtain ⟨t4, t5, t6, rfl, rfl⟩ := z.resolve_right id
    have hi : i < n := by have := (List.getElem?_eq_some_iff.mp hx).1; omega
    have pi : b ^ i ≤ 4096 := Nat.le_trans (Nat.pow_le_pow_right b1 (by omega)) hp
    walk_at "rd"
    refine .inl ⟨some x, t5, t6, ?_, rfl⟩
    rw [Nat.pow_succ, Int.natCast_mul]
    rfl
  intro σ' H' z
  obtain ⟨t4, t5, t6, rfl, rfl⟩ := z.resolve_right id
  rw [hl]
  walk_at "rd"
  rw [Int.toNat_natCast]
  refine for_range (fun u σ' H' => (∃ (t4 t5 t6 : Option V), σ' = [some (.ref p), some (.int b), some (.ref R), some (.int ((b ^ n : Nat) : Int)), t4, t5, t6] ∧ Same H H' ∧ H' R = some (.lst (iL (M.cnts os b n ((List.range u).map (M.dig b n)))))) ∨ False) (.inl ⟨_, _, _, rfl, s1, eR⟩) ?_ ?_
  · intro u σ' H2 hu z
    obtain ⟨t4, t5, t6, rfl, s2, eR2⟩ := z.resolve_right id
    rw [Int.zero_add (u : Int)]
    walk_at "rd"
    intro W hW
    generalize e3 : upd H2 W _ = H3
    obtain ⟨s3, eW⟩ := new_is hW e3
    clear e3
    have hW0 : H W = none := s2.free hW
    have nW : R ≠ W := ne_of_none eR2 hW
    have eR3 := s3 _ _ eR2
    have hS3 := (s2.trans s3).seq hS
    walk_at "rd"
    refine ⟨⟨_, hS3⟩, ?_⟩
    refine for_list (xs := iL os) (fun j σ' H' => (∃ (t4 : Option V), σ' = [some (.ref p), some (.int b), some (.ref R), some (.int ((b ^ n : Nat) : Int)), t4, some (.int ((u / b ^ j : Nat) : Int)), some (.ref W)] ∧ Same H H' ∧ H' R = some (.lst (iL (M.cnts os b n ((List.range u).map (M.dig b n))))) ∧ H' W = some (.lst (iL (M.dig b j u)))) ∨ False) (.inl ⟨_, by rw [Nat.pow_zero, Nat.div_one]; rfl, s2.trans s3, eR3, eW⟩) ?_ ?_ ?_
    · intro i σ' H' _ z
      obtain ⟨t4, rfl, s4, _⟩ := z.resolve_right id
      exact s4.seq hS
    · intro j x σ' H4 hx z
      obtain ⟨t4, rfl, s4, eR4, eW4⟩ := z.resolve_right id
      have hj : j < n := by have := (List.getElem?_eq_some_iff.mp hx).1; omega
      walk_at "rd"
      refine ⟨.inl ⟨rfl, _, SqL.of eW4⟩, ?_⟩
      walk_at "rd"
      refine ⟨W, _, _, rfl, rfl, eW4, by rw [List.length_map, M.dig_len]; exact lt_line' (by omega), ?_⟩
      generalize e5 : upd H4 W _ = H5
      obtain ⟨s5, eW5⟩ := set_is hW0 s4 e5
      walk_at "rd"
      refine .inl ⟨some x, ?_, s5, by rw [← e5, upd_ne nW]; exact eR4, ?_⟩
      · rw [Nat.pow_succ, ← Nat.div_div_eq_div_mul, Int.natCast_ediv]
        rfl
      · rw [eW5, dig_snoc, Int.natCast_emod]
        simp [iL]
    · intro σ' H4 z
      obtain ⟨t4, rfl, s4, eR4, eW4⟩ := z.resolve_right id
      rw [hl] at eW4 ⊢
      have Wd := M.dig_wd b1 n u
      have fl : M.flN (M.rho os b (M.dig b n u)) < n := M.ff_lt n1 Wd
      have ll : (M.rho os b (M.dig b n u)).length = n := (M.rho_ord hO Wd).len
      have sn := M.cnts_snoc (os := os) (l := (List.range u).map (M.dig b n)) (show M.ff os b (M.dig b n u) < n from fl)
      rw [← up_snoc] at sn
      have lc := M.cnts_len os b n ((List.range u).map (M.dig b n))
      walk_at "rd"
      refine ⟨p, W, os, M.dig b n u, n, b, s4.seq hS, SqL.of eW4, rfl, rfl, rfl, hn, Wd, by omega, by omega, ?_⟩
      intro Y H5 s5 hY eY
      walk_at "rd"
      refine ⟨Y, _, SqL.of eY, rfl, by omega, fun H6 s6 => ?_⟩
      have eR6 := s6 _ _ (s5 _ _ eR4)
      walk_at "rd"
      refine ⟨R, _, _, _, rfl, rfl, SqL.of eR6, by omega, (show (iL (M.cnts os b n ((List.range u).map (M.dig b n))))[((M.flN (M.rho os b (M.dig b n u)) : Nat) : Int).toNat]? = some (.int ((M.cnts os b n ((List.range u).map (M.dig b n))).getD (M.flN (M.rho os b (M.dig b n u))) 0)) from at_nat (by omega)), ?_⟩
      walk_at "rd"
      refine ⟨R, _, _, M.flN (M.rho os b (M.dig b n u)), rfl, rfl, eR6, by rw [List.length_map]; exact ixN_in (by omega), ?_⟩
      generalize e7 : upd H6 R _ = H7
      obtain ⟨s7, eR7⟩ := set_is hR (s4.trans (s5.trans s6)) e7
      refine .inl ⟨_, _, _, rfl, s7, ?_⟩
      rw [eR7, ← sn, iL, iL, List.map_set]
      rfl
  · intro σ' H2 z
    obtain ⟨t4, t5, t6, rfl, s2, eR2⟩ := z.resolve_right id
    walk_at "rd"
    refine q R H2 s2 hR ?_
    rw [eR2, M.cnts_perm (M.dig_perm b1 n)]
def sp_l_good (K : PySem.W.Frag) : Sp := sp2 fun a b H Q => ∃ (p r : Addr) (xs : List Int), H p = some (.lst (iL xs)) ∧ SqL K H r (iL xs) ∧ a = .ref p ∧ b = .ref r ∧ Q (.bl true) H
theorem ok_l_good (T : Txt K mg) (g_l_whole : Has P w K mg base k "_law_whole" ["_law_found"] (sp_l_whole K)) : Has P w K mg base (k + 1) "_law_good" ["_law_found", "_law_due_here"] (sp_l_good K) := by
  refine T.f_l_good.has sc_l_good len2 (fun f cdv A outer s H vs Q E hr h => ?_)
  obtain ⟨a0, a1, rfl, h⟩ := h
  refine ⟨_, pss_cons (ps_if (pt_not (pt_val (pe_callB (k_isinst (K := K)) rfl T.z_isinstance PyProof.Rows.boot_isinstance (pa_cons (pv 0) (pa_cons (pe_bltn (v := .ty "list") rfl T.z_list PyProof.Rows.boot_list rfl) pa_nil)))))
    (pss_one (ps_ret pe_bl))
    (pss_nil))
    (pss_cons (ps_for PassesOwn.never rfl (k_pi_list (K := K) (pv 0)) (pg_name (i := 2) sc_l_good.nd rfl (Or.inl rfl))
    (pss_one (ps_if (pt_not (pt_val (pe_callH g_l_whole hr (pa_cons (pv 2) pa_nil))))
      (pss_one (ps_ret pe_bl))
      (pss_nil))))
    (pss_one (ps_ret (pe_cmpR (k_eqD (K := K) hr.units) (pv 0) (pv 1) (nomark _))))), ?_⟩
  obtain ⟨p, r, xs, ep, hr', rfl, rfl, q⟩ := h
  have SP : SqL K H p (iL xs) := SqL.of ep
  walk_at "rd"
  refine ⟨_, _, _, _, rfl, .lst ep, rfl, ?_⟩
  walk_at "rd"
  refine ⟨⟨_, SP⟩, ?_⟩
  refine for_list (xs := iL xs) (fun i σ' H' => (∃ t2, σ' = [some (.ref p), some (.ref r), t2] ∧ H' = H) ∨ False) (.inl ⟨_, rfl, rfl⟩) ?_ ?_ ?_
  · intro i σ' H' _ z
    obtain ⟨t2, rfl, rfl⟩ := z.resolve_right id
    exact SP
  · intro i x σ' H' hx z
    obtain ⟨t2, rfl, rfl⟩ := z.resolve_right id
    obtain ⟨_, rfl⟩ := at_int hx
    walk_at "rd"
    refine ⟨.flat rfl, ?_⟩
    walk_at "rd"
    exact .inl ⟨_, rfl, rfl⟩
  · intro σ' H' z
    obtain ⟨t2, rfl, rfl⟩ := z.resolve_right id
    walk_at "rd"
    refine eqD_same SP hr' (flat_ints _) ?_
    exact q
end
end K62
set_option Elab.async false
set_option linter.all false
set_option maxRecDepth 100000
set_option maxHeartbeats 4000000
namespace K62
open PySem L2
local macro_rules | `(tactic| walk_at "sq") => `(tactic| first | assumption | (refine SqL.of ?_; assumption) | (refine SqL.of ?_; exact upd_same))
local macro_rules | `(tactic| walk_at "cj") => `(tactic| first | (with_reducible show (_ : Int) ≤ _; omega) | (with_reducible show (_ : Int) < _; omega) | exact rfl | assumption | omega | decide | (unfold CDiv; omega) | (unfold CPow; decide) | (show (0 : Int) < _; first | omega | decide) | (show _ ≤ sizeLine; rw [sizeLine_eq]; simp; done) | (refine mulS1 ?_ ?_ <;> omega) | (refine mulS2 ?_ ?_ <;> omega))
local macro_rules | `(tactic| walk_at "rd1") => `(tactic| first | refine ⟨_, rfl, ?_⟩ | refine ⟨_, _, rfl, rfl, ?_⟩ | refine ⟨_, _, rfl, ?_⟩ | refine ⟨_, _, _, rfl, ?_⟩ | refine ⟨_, _, _, _, rfl, ?_⟩ | refine ⟨_, _, _, _, _, rfl, ?_⟩ | refine ⟨_, _, rfl, .inl (by walk_at "sq"), ?_⟩ | refine And.intro (by walk_at "cj") ?_)
local macro_rules | `(tactic| walk_at "rd") => `(tactic| repeat walk_at "rd1")

section
variable {P : Program} {w : World} {K : PySem.W.Frag} {mg : Str → Option Value} {base : Heap} {k : Nat}
def sp_law (K : PySem.W.Frag) : Sp := sp1 fun a H Q => ∃ (p : Addr) (ns : List Int), SqL K H p (iL ns) ∧ a = .ref p ∧ ns.length ≤ 63 ∧ ∀ H', Same H H' → Q (.bl true) H'
abbrev mst : List Int := [30, 16, 6, 4, 3, 2]
theorem mst_in {n : Nat} (h1 : 1 ≤ n) (h6 : n ≤ 6) : 2 ≤ mst.getD (n - 1) 0 ∧ mst.getD (n - 1) 0 ≤ 30 := by
  match n, h1, h6 with
  | 1, _, _ => decide
  | 2, _, _ => decide
  | 3, _, _ => decide
  | 4, _, _ => decide
  | 5, _, _ => decide
  | 6, _, _ => decide
theorem bn_in {n b : Nat} (h1 : 1 ≤ n) (h6 : n ≤ 6) (b1 : 1 ≤ b) (hb : (b : Int) ≤ mst.getD (n - 1) 0) : Bn n b := by
  have m := mst_in h1 h6
  have key : ∀ a m : Nat, b ≤ a → a ^ m ≤ 4096 → b ^ m ≤ 4096 := fun a m h q => Nat.le_trans (Nat.pow_le_pow_left h m) q
  refine ⟨h1, h6, b1, by omega, ?_⟩
  match n, h1, h6, hb with
  | 1, _, _, hb => exact key 30 1 (by have : (b : Int) ≤ 30 := hb; omega) (by decide)
  | 2, _, _, hb => exact key 16 2 (by have : (b : Int) ≤ 16 := hb; omega) (by decide)
  | 3, _, _, hb => exact key 6 3 (by have : (b : Int) ≤ 6 := hb; omega) (by decide)
  | 4, _, _, hb => exact key 4 4 (by have : (b : Int) ≤ 4 := hb; omega) (by decide)
  | 5, _, _, hb => exact key 3 5 (by have : (b : Int) ≤ 3 := hb; omega) (by decide)
  | 6, _, _, hb => exact key 2 6 (by have : (b : Int) ≤ 2 := hb; omega) (by decide)
theorem flO_lt {n : Nat} {os : List Int} (h1 : 1 ≤ n) (o : M.Ord n os) : M.flN os < n := by
  unfold M.flN M.cnt
  have := List.length_filter_le (fun p => decide (os.getD (p + 1) 0 < os.getD p 0)) (List.range (os.length - 1))
  rw [List.length_range, o.len] at this
  rw [o.len]
  omega
theorem row_is {n b : Nat} {os : List Int} (h1 : 1 ≤ n) (hb : 1 ≤ b) (o : M.Ord n os) : (M.cat n b).getD (M.flN os) [] = M.cnts os b n (M.allw b n) := by
  rw [M.cat_row (flO_lt h1 o), M.cnts_all h1 hb o]
theorem ok_law (T : Txt K mg) (g_l_big : Has P w K mg base k "_law_big" ["_law_script", "_law_k"] (sp_l_big K)) (g_l_order : Has P w K mg base k "_law_order" ["_law_n", "_law_cell"] (sp_l_order K)) (g_l_due : Has P w K mg base k "_law_due" ["_law_order_here", "_law_b"] (sp_l_due K)) (g_falls_from : Has P w K mg base k "falls_from" ["order", "b"] (sp_falls_from K)) (g_l_good : Has P w K mg base k "_law_good" ["_law_found", "_law_due_here"] (sp_l_good K)) (g_falls_table : Has P w K mg base k "falls_table" ["m", "b"] (sp_falls_table K)) (g_l_falls : Has P w K mg base k "_law_falls" ["_law_order_here"] (sp_l_falls K)) : Has P w K mg base (k + 1) "law" ["_law_script"] (sp_law K) := by
  refine T.f_law.has sc_law len1 (fun f cdv A outer s H vs Q E hr h => ?_)
  obtain ⟨a0, rfl, h⟩ := h
  refine ⟨_, pss_cons (ps_for PassesOwn.never rfl (pi_range3 rfl T.z_range (pa_cons pe_int (pa_cons (pe_op op_add (pe_callB (call_min2 rfl) rfl T.z_min PyProof.Rows.boot_min (pa_cons pe_int (pa_cons (pe_callB (k_len (K := K)) rfl T.z_len PySem.boot_len (pa_cons (pv 0) pa_nil)) pa_nil))) pe_int) (pa_cons pe_int pa_nil)))) (pg_name (i := 1) sc_law.nd rfl (Or.inl rfl))
    (pss_cons (ps_set (i := 2) sc_law.nd rfl (Or.inl rfl) (pe_callH g_l_big hr (pa_cons (pv 0) (pa_cons (pv 1) pa_nil))))
      (pss_cons (ps_set (i := 3) sc_law.nd rfl (Or.inl rfl) (pe_op op_add pe_int (pe_op op_mod (pv 2) pe_int)))
      (pss_cons (ps_set (i := 4) sc_law.nd rfl (Or.inl rfl) (pe_callH g_l_order hr (pa_cons (pv 3) (pa_cons (pe_op op_fdiv (pv 2) pe_int) pa_nil))))
      (pss_cons (ps_set (i := 5) sc_law.nd rfl (Or.inl rfl) (pe_op op_add pe_int (pe_op op_mod (pe_callH g_l_big hr (pa_cons (pv 0) (pa_cons (pe_op op_add (pv 1) pe_int) pa_nil))) (pe_ix (k_ix_list (K := K)) (pe_lst (pa_cons pe_int (pa_cons pe_int (pa_cons pe_int (pa_cons pe_int (pa_cons pe_int (pa_cons pe_int pa_nil))))))) (pe_op op_sub (pv 3) pe_int) (fun _ _ => rfl)))))
      (pss_cons (ps_set (i := 6) sc_law.nd rfl (Or.inl rfl) (pe_callH g_l_due hr (pa_cons (pv 4) (pa_cons (pv 5) pa_nil))))
      (pss_cons (ps_set (i := 7) sc_law.nd rfl (Or.inl rfl) (pe_callTy (k_list_of (K := K)) rfl T.z_list PyProof.Rows.boot_list (pa_cons (pv 4) pa_nil)))
      (pss_cons (ps_set (i := 8) sc_law.nd rfl (Or.inl rfl) (pe_callH g_falls_from hr (pa_cons (pv 7) (pa_cons (pv 5) pa_nil))))
      (pss_cons (ps_if (PW.pt (pw_or (pt_not (pt_val (pe_callH g_l_good hr (pa_cons (pv 8) (pa_cons (pv 6) pa_nil))))) (pw_or1 (pt_cmpR (k_neD (K := K) hr.units) (pv 7) (pv 4) (nomark _)))))
      (pss_one (ps_ret pe_bl))
      (pss_nil))
      (pss_cons (ps_expr (k_bm (K := K) PySem.F.plainAttrs_list PySem.F.slot_list_append PySem.F.type_list_append mt_append (pv 8) (pa_cons pe_int pa_nil)))
      (pss_one (ps_if (PW.pt (pw_or (pt_cmpR (k_neD (K := K) hr.units) (pe_callH g_falls_from hr (pa_cons (pv 7) (pa_cons (pv 5) pa_nil))) (pv 6) (nomark _)) (pw_or1 (pt_not (pt_val (pe_callH g_l_good hr (pa_cons (pe_ix (k_ix_list (K := K)) (pe_callH g_falls_table hr (pa_cons (pv 3) (pa_cons (pv 5) pa_nil))) (pe_callH g_l_falls hr (pa_cons (pv 4) pa_nil)) (fun _ _ => rfl)) (pa_cons (pv 6) pa_nil))))))))
      (pss_one (ps_ret pe_bl))
      (pss_nil)))))))))))))
    (pss_one (ps_ret pe_bl)), ?_⟩
  obtain ⟨p, ns, hS, rfl, h63, q⟩ := h
  walk_at "rd"
  have hl : ((if ((iL ns).length : Int) < 8 then ((iL ns).length : Int) else 8) + 1) < 100 := by split <;> omega
  have hl0 : 0 ≤ ((if ((iL ns).length : Int) < 8 then ((iL ns).length : Int) else 8) + 1) := by split <;> omega
  generalize ((if ((iL ns).length : Int) < 8 then ((iL ns).length : Int) else 8) + 1) = hi at hl hl0 ⊢
  obtain ⟨r1, r2, r3⟩ := range_up (lo := 0) (hi := hi) (c := 2) (by omega) (by omega) (by omega) (by omega) (by decide) (by decide)
  refine ⟨⟨r1, r2⟩, ?_⟩
  refine for_rangeS (fun i σ' H' => (∃ t1 t2 t3 t4 t5 t6 t7 t8 : Option V, σ' = [some (.ref p), t1, t2, t3, t4, t5, t6, t7, t8] ∧ Same H H') ∨ False) (.inl ⟨_, _, _, _, _, _, _, _, rfl, Same.refl _⟩) ?_ ?_
  · intro i σ' H' hi z
    obtain ⟨t1, t2, t3, t4, t5, t6, t7, t8, rfl, sm⟩ := z.resolve_right id
    have hSi := sm.seq hS
    walk_at "rd"
    refine ⟨p, ns, _, hSi, rfl, rfl, by omega, fun c1 => ?_⟩
    have n0 := Int.emod_nonneg c1 (show (6 : Int) ≠ 0 by decide)
    have n1 := Int.emod_lt_of_pos c1 (show (0 : Int) < 6 by decide)
    obtain ⟨n, hn⟩ : ∃ n : Nat, 1 + c1 % 6 = (n : Int) := ⟨(1 + c1 % 6).toNat, by omega⟩
    have hn' : (fun i j => V.int (i + j)) 1 (c1 % 6) = V.int n := congrArg V.int hn
    walk_at "rd"
    rw [hn']
    refine ⟨n, c1 / 6, rfl, rfl, ⟨by omega, by omega⟩, fun os o => ?_⟩
    intro O H2 s2 hO eO
    have m12 := mst_in (n := n) (by omega) (by omega)
    have tn : ((n : Int) - 1).toNat = n - 1 := by omega
    walk_at "rd"
    refine ⟨p, ns, _, s2.seq hSi, rfl, rfl, by omega, fun c2 => ?_⟩
    walk_at "rd"
    intro X hX
    generalize e3 : upd H2 X _ = H3
    obtain ⟨s3, eX⟩ := new_is hX e3
    clear e3
    walk_at "rd"
    refine ⟨X, _, _, _, rfl, rfl, SqL.of (show H3 X = some (.lst (iL mst)) from eX), atI_int (by omega) (by show (n : Int) - 1 < 6; omega), ?_⟩
    rw [tn]
    generalize hm : mst.getD (n - 1) 0 = m at m12 ⊢
    have o0 := Int.emod_nonneg c2 (show m ≠ 0 by omega)
    have o1 := Int.emod_lt_of_pos c2 (show (0 : Int) < m by omega)
    obtain ⟨b, hb⟩ : ∃ b : Nat, 1 + c2 % m = (b : Int) := ⟨(1 + c2 % m).toNat, by omega⟩
    have hb' : (fun i j => V.int (i + j)) 1 (c2 % m) = V.int b := congrArg V.int hb
    have bn : Bn n b := bn_in (by omega) (by omega) (by omega) (by rw [hm]; omega)
    have b30 : b ≤ 30 := by omega
    walk_at "rd"
    rw [hb']
    have eO3 := s3 _ _ eO
    refine ⟨O, os, n, b, SqL.of eO3, rfl, rfl, ⟨bn, b30, o⟩, ?_⟩
    intro D H4 s4 hD eD
    have eO4 := s4 _ _ eO3
    walk_at "rd"
    refine ⟨O, _, rfl, .inl (SqL.of eO4), ?_⟩
    intro C hC
    generalize e5 : upd H4 C _ = H5
    obtain ⟨s5, eC⟩ := new_is hC e5
    clear e5
    walk_at "rd"
    refine ⟨C, os, n, b, SqL.of eC, rfl, rfl, ⟨bn, o⟩, ?_⟩
    intro F H6 s6 hF eF
    have eD6 := s6 _ _ (s5 _ _ eD)
    have eO6 := s6 _ _ (s5 _ _ eO4)
    have eC6 := s6 _ _ eC
    walk_at "rd"
    refine ⟨F, D, _, eF, SqL.of eD6, rfl, rfl, ?_⟩
    walk_at "rd"
    refine eqD_same (SqL.of eC6) (SqL.of eO6) (flat_ints _) ?_
    walk_at "rd"
    refine ⟨.inl ⟨rfl, _, SqL.of eF⟩, ?_⟩
    walk_at "rd"
    have hF0 : H F = none := (sm.trans (s2.trans (s3.trans (s4.trans s5)))).free hF
    have s06 : Same H H6 := sm.trans (s2.trans (s3.trans (s4.trans (s5.trans s6))))
    refine ⟨F, _, _, rfl, rfl, eF, by rw [List.length_map, M.cnts_len]; exact lt_line' (by omega), ?_⟩
    have nD : D ≠ F := ne_of_none (s5 _ _ eD) hF
    have nO : O ≠ F := ne_of_none (s5 _ _ eO4) hF
    have nC : C ≠ F := ne_of_none eC hF
    generalize e7 : upd H6 F _ = H7
    obtain ⟨s7, eF7⟩ := set_is hF0 s06 e7
    have eD7 : H7 D = some (.lst (iL (M.cnts os b n (M.allw b n)))) := by rw [← e7, upd_ne nD]; exact eD6
    have eO7 : H7 O = some (.lst (iL os)) := by rw [← e7, upd_ne nO]; exact eO6
    have eC7 : H7 C = some (.lst (iL os)) := by rw [← e7, upd_ne nC]; exact eC6
    clear e7
    walk_at "rd"
    refine ⟨C, os, n, b, SqL.of eC7, rfl, rfl, ⟨bn, o⟩, ?_⟩
    intro G H8 s8 hG eG
    have eD8 := s8 _ _ eD7
    have eO8 := s8 _ _ eO7
    walk_at "rd"
    refine eqD_same (SqL.of eG) (SqL.of eD8) (flat_ints _) ?_
    walk_at "rd"
    refine ⟨⟨bn.1, by omega, bn.2.2.1, by omega⟩, ?_⟩
    intro T1 H9 s9 hT1 tb
    have eD9 := s9 _ _ eD8
    have eO9 := s9 _ _ eO8
    have fl := flO_lt bn.1 o
    have lo := o.len
    walk_at "rd"
    refine ⟨O, os, SqL.of eO9, rfl, by omega, fun H10 s10 => ?_⟩
    obtain ⟨adr, eT, lT, _, hT⟩ := (tb.same s10).ex
    rw [tL_length, M.cat_length] at lT
    have e0 : adr[M.flN os]? = some (adr[M.flN os]'(by omega)) := List.getElem?_eq_getElem (by omega)
    obtain ⟨_, _, xs, ex, eA⟩ := hT _ _ e0
    rw [tL_at (by rw [M.cat_length]; exact fl), row_is bn.1 bn.2.2.1 o] at ex
    cases ex
    generalize (adr[M.flN os]'(by omega)) = a at e0 eA
    walk_at "rd"
    refine ⟨T1, _, _, _, rfl, rfl, SqL.of eT, atV (v := .ref a) (by omega) (by rw [Int.toNat_natCast, List.getElem?_map, e0]; rfl), ?_⟩
    walk_at "rd"
    refine ⟨a, D, _, eA, SqL.of (s10 _ _ eD9), rfl, rfl, ?_⟩
    walk_at "rd"
    exact .inl ⟨_, _, _, _, _, _, _, _, rfl, s7.trans (s8.trans (s9.trans s10))⟩
  · intro σ' H' z
    obtain ⟨t1, t2, t3, t4, t5, t6, t7, t8, rfl, sm⟩ := z.resolve_right id
    walk_at "rd"
    exact q _ sm
end
end K62
set_option Elab.async false
set_option linter.all false
set_option maxRecDepth 100000
set_option maxHeartbeats 4000000
namespace K62
open PySem L2
local macro_rules | `(tactic| walk_at "sq") => `(tactic| first | assumption | (refine SqL.of ?_; assumption) | (refine SqL.of ?_; exact upd_same))
local macro_rules | `(tactic| walk_at "cj") => `(tactic| first | (with_reducible show (_ : Int) ≤ _; omega) | (with_reducible show (_ : Int) < _; omega) | exact rfl | assumption | omega | decide | (unfold CDiv; omega) | (unfold CPow; decide) | (show (0 : Int) < _; first | omega | decide) | (show _ ≤ sizeLine; rw [sizeLine_eq]; simp; done) | (refine mulS1 ?_ ?_ <;> omega) | (refine mulS2 ?_ ?_ <;> omega))
local macro_rules | `(tactic| walk_at "rd1") => `(tactic| first | refine ⟨_, rfl, ?_⟩ | refine ⟨_, _, rfl, rfl, ?_⟩ | refine ⟨_, _, rfl, ?_⟩ | refine ⟨_, _, _, rfl, ?_⟩ | refine ⟨_, _, _, _, rfl, ?_⟩ | refine ⟨_, _, _, _, _, rfl, ?_⟩ | refine ⟨_, _, rfl, .inl (by walk_at "sq"), ?_⟩ | refine And.intro (by walk_at "cj") ?_)
local macro_rules | `(tactic| walk_at "rd") => `(tactic| repeat walk_at "rd1")

-- the top
theorem txt_mk {K : PySem.W.Frag} {h : Heap} {mg : Str → Option Value} (X : K.In h) (G : h.Ns mainGlobals mg)
    {f0 : Addr} {od0 an0 : Option Addr} {sl0 : Array (Option Value)} {oc0 kV0 dc0 pm0 cd0 ct0 : Value} {f1 : Addr} {od1 an1 : Option Addr} {sl1 : Array (Option Value)} {oc1 kV1 dc1 pm1 cd1 ct1 : Value} {f2 : Addr} {od2 an2 : Option Addr} {sl2 : Array (Option Value)} {oc2 kV2 dc2 pm2 cd2 ct2 : Value} {f3 : Addr} {od3 an3 : Option Addr} {sl3 : Array (Option Value)} {oc3 kV3 dc3 pm3 cd3 ct3 : Value} {f4 : Addr} {od4 an4 : Option Addr} {sl4 : Array (Option Value)} {oc4 kV4 dc4 pm4 cd4 ct4 : Value} {f5 : Addr} {od5 an5 : Option Addr} {sl5 : Array (Option Value)} {oc5 kV5 dc5 pm5 cd5 ct5 : Value} {f6 : Addr} {od6 an6 : Option Addr} {sl6 : Array (Option Value)} {oc6 kV6 dc6 pm6 cd6 ct6 : Value} {f7 : Addr} {od7 an7 : Option Addr} {sl7 : Array (Option Value)} {oc7 kV7 dc7 pm7 cd7 ct7 : Value} {f8 : Addr} {od8 an8 : Option Addr} {sl8 : Array (Option Value)} {oc8 kV8 dc8 pm8 cd8 ct8 : Value} {f9 : Addr} {od9 an9 : Option Addr} {sl9 : Array (Option Value)} {oc9 kV9 dc9 pm9 cd9 ct9 : Value} {f10 : Addr} {od10 an10 : Option Addr} {sl10 : Array (Option Value)} {oc10 kV10 dc10 pm10 cd10 ct10 : Value} {f11 : Addr} {od11 an11 : Option Addr} {sl11 : Array (Option Value)} {oc11 kV11 dc11 pm11 cd11 ct11 : Value} {f12 : Addr} {od12 an12 : Option Addr} {sl12 : Array (Option Value)} {oc12 kV12 dc12 pm12 cd12 ct12 : Value} {f13 : Addr} {od13 an13 : Option Addr} {sl13 : Array (Option Value)} {oc13 kV13 dc13 pm13 cd13 ct13 : Value} {f14 : Addr} {od14 an14 : Option Addr} {sl14 : Array (Option Value)} {oc14 kV14 dc14 pm14 cd14 ct14 : Value} {f15 : Addr} {od15 an15 : Option Addr} {sl15 : Array (Option Value)} {oc15 kV15 dc15 pm15 cd15 ct15 : Value} {f16 : Addr} {od16 an16 : Option Addr} {sl16 : Array (Option Value)} {oc16 kV16 dc16 pm16 cd16 ct16 : Value} {f17 : Addr} {od17 an17 : Option Addr} {sl17 : Array (Option Value)} {oc17 kV17 dc17 pm17 cd17 ct17 : Value} {f18 : Addr} {od18 an18 : Option Addr} {sl18 : Array (Option Value)} {oc18 kV18 dc18 pm18 cd18 ct18 : Value} {f19 : Addr} {od19 an19 : Option Addr} {sl19 : Array (Option Value)} {oc19 kV19 dc19 pm19 cd19 ct19 : Value} {f20 : Addr} {od20 an20 : Option Addr} {sl20 : Array (Option Value)} {oc20 kV20 dc20 pm20 cd20 ct20 : Value} {f21 : Addr} {od21 an21 : Option Addr} {sl21 : Array (Option Value)} {oc21 kV21 dc21 pm21 cd21 ct21 : Value} {f22 : Addr} {od22 an22 : Option Addr} {sl22 : Array (Option Value)} {oc22 kV22 dc22 pm22 cd22 ct22 : Value} {f23 : Addr} {od23 an23 : Option Addr} {sl23 : Array (Option Value)} {oc23 kV23 dc23 pm23 cd23 ct23 : Value} {f24 : Addr} {od24 an24 : Option Addr} {sl24 : Array (Option Value)} {oc24 kV24 dc24 pm24 cd24 ct24 : Value} {f25 : Addr} {od25 an25 : Option Addr} {sl25 : Array (Option Value)} {oc25 kV25 dc25 pm25 cd25 ct25 : Value} {f26 : Addr} {od26 an26 : Option Addr} {sl26 : Array (Option Value)} {oc26 kV26 dc26 pm26 cd26 ct26 : Value}
    (a0 : PySem.W.nsIn K mainGlobals "is_whole" = some (some (.ref f0))) (l0 : K.lookup f0 = some ⟨oc0, od0, .func (PySem.W.fnOf "is_whole" "is_whole" (defArgs s_is_whole) (defBody s_is_whole) (defScope s_is_whole) .none kV0 dc0 pm0 an0 cd0 ct0), sl0⟩) (c0 : PySem.W.codeIn K cd0 "is_whole" = true) (k0 : PySem.W.keepIn K (.ref f0) = true)
    (a1 : PySem.W.nsIn K mainGlobals "power" = some (some (.ref f1))) (l1 : K.lookup f1 = some ⟨oc1, od1, .func (PySem.W.fnOf "power" "power" (defArgs s_power) (defBody s_power) (defScope s_power) .none kV1 dc1 pm1 an1 cd1 ct1), sl1⟩) (c1 : PySem.W.codeIn K cd1 "power" = true) (k1 : PySem.W.keepIn K (.ref f1) = true)
    (a2 : PySem.W.nsIn K mainGlobals "laid" = some (some (.ref f2))) (l2 : K.lookup f2 = some ⟨oc2, od2, .func (PySem.W.fnOf "laid" "laid" (defArgs s_laid) (defBody s_laid) (defScope s_laid) .none kV2 dc2 pm2 an2 cd2 ct2), sl2⟩) (c2 : PySem.W.codeIn K cd2 "laid" = true) (k2 : PySem.W.keepIn K (.ref f2) = true)
    (a3 : PySem.W.nsIn K mainGlobals "falls" = some (some (.ref f3))) (l3 : K.lookup f3 = some ⟨oc3, od3, .func (PySem.W.fnOf "falls" "falls" (defArgs s_falls) (defBody s_falls) (defScope s_falls) .none kV3 dc3 pm3 an3 cd3 ct3), sl3⟩) (c3 : PySem.W.codeIn K cd3 "falls" = true) (k3 : PySem.W.keepIn K (.ref f3) = true)
    (a4 : PySem.W.nsIn K mainGlobals "is_word" = some (some (.ref f4))) (l4 : K.lookup f4 = some ⟨oc4, od4, .func (PySem.W.fnOf "is_word" "is_word" (defArgs s_is_word) (defBody s_is_word) (defScope s_is_word) .none kV4 dc4 pm4 an4 cd4 ct4), sl4⟩) (c4 : PySem.W.codeIn K cd4 "is_word" = true) (k4 : PySem.W.keepIn K (.ref f4) = true)
    (a5 : PySem.W.nsIn K mainGlobals "is_heap" = some (some (.ref f5))) (l5 : K.lookup f5 = some ⟨oc5, od5, .func (PySem.W.fnOf "is_heap" "is_heap" (defArgs s_is_heap) (defBody s_is_heap) (defScope s_is_heap) .none kV5 dc5 pm5 an5 cd5 ct5), sl5⟩) (c5 : PySem.W.codeIn K cd5 "is_heap" = true) (k5 : PySem.W.keepIn K (.ref f5) = true)
    (a6 : PySem.W.nsIn K mainGlobals "check_word" = some (some (.ref f6))) (l6 : K.lookup f6 = some ⟨oc6, od6, .func (PySem.W.fnOf "check_word" "check_word" (defArgs s_check_word) (defBody s_check_word) (defScope s_check_word) .none kV6 dc6 pm6 an6 cd6 ct6), sl6⟩) (c6 : PySem.W.codeIn K cd6 "check_word" = true) (k6 : PySem.W.keepIn K (.ref f6) = true)
    (a7 : PySem.W.nsIn K mainGlobals "sizes" = some (some (.ref f7))) (l7 : K.lookup f7 = some ⟨oc7, od7, .func (PySem.W.fnOf "sizes" "sizes" (defArgs s_sizes) (defBody s_sizes) (defScope s_sizes) .none kV7 dc7 pm7 an7 cd7 ct7), sl7⟩) (c7 : PySem.W.codeIn K cd7 "sizes" = true) (k7 : PySem.W.keepIn K (.ref f7) = true)
    (a8 : PySem.W.nsIn K mainGlobals "riffled" = some (some (.ref f8))) (l8 : K.lookup f8 = some ⟨oc8, od8, .func (PySem.W.fnOf "riffled" "riffled" (defArgs s_riffled) (defBody s_riffled) (defScope s_riffled) .none kV8 dc8 pm8 an8 cd8 ct8), sl8⟩) (c8 : PySem.W.codeIn K cd8 "riffled" = true) (k8 : PySem.W.keepIn K (.ref f8) = true)
    (a9 : PySem.W.nsIn K mainGlobals "places_drawn_from" = some (some (.ref f9))) (l9 : K.lookup f9 = some ⟨oc9, od9, .func (PySem.W.fnOf "places_drawn_from" "places_drawn_from" (defArgs s_places_drawn_from) (defBody s_places_drawn_from) (defScope s_places_drawn_from) .none kV9 dc9 pm9 an9 cd9 ct9), sl9⟩) (c9 : PySem.W.codeIn K cd9 "places_drawn_from" = true) (k9 : PySem.W.keepIn K (.ref f9) = true)
    (a10 : PySem.W.nsIn K mainGlobals "places_of_tops" = some (some (.ref f10))) (l10 : K.lookup f10 = some ⟨oc10, od10, .func (PySem.W.fnOf "places_of_tops" "places_of_tops" (defArgs s_places_of_tops) (defBody s_places_of_tops) (defScope s_places_of_tops) .none kV10 dc10 pm10 an10 cd10 ct10), sl10⟩) (c10 : PySem.W.codeIn K cd10 "places_of_tops" = true) (k10 : PySem.W.keepIn K (.ref f10) = true)
    (a11 : PySem.W.nsIn K mainGlobals "falls_from" = some (some (.ref f11))) (l11 : K.lookup f11 = some ⟨oc11, od11, .func (PySem.W.fnOf "falls_from" "falls_from" (defArgs s_falls_from) (defBody s_falls_from) (defScope s_falls_from) .none kV11 dc11 pm11 an11 cd11 ct11), sl11⟩) (c11 : PySem.W.codeIn K cd11 "falls_from" = true) (k11 : PySem.W.keepIn K (.ref f11) = true)
    (a12 : PySem.W.nsIn K mainGlobals "all_words" = some (some (.ref f12))) (l12 : K.lookup f12 = some ⟨oc12, od12, .func (PySem.W.fnOf "all_words" "all_words" (defArgs s_all_words) (defBody s_all_words) (defScope s_all_words) .none kV12 dc12 pm12 an12 cd12 ct12), sl12⟩) (c12 : PySem.W.codeIn K cd12 "all_words" = true) (k12 : PySem.W.keepIn K (.ref f12) = true)
    (a13 : PySem.W.nsIn K mainGlobals "without_empty_heaps" = some (some (.ref f13))) (l13 : K.lookup f13 = some ⟨oc13, od13, .func (PySem.W.fnOf "without_empty_heaps" "without_empty_heaps" (defArgs s_without_empty_heaps) (defBody s_without_empty_heaps) (defScope s_without_empty_heaps) .none kV13 dc13 pm13 an13 cd13 ct13), sl13⟩) (c13 : PySem.W.codeIn K cd13 "without_empty_heaps" = true) (k13 : PySem.W.keepIn K (.ref f13) = true)
    (a14 : PySem.W.nsIn K mainGlobals "choose" = some (some (.ref f14))) (l14 : K.lookup f14 = some ⟨oc14, od14, .func (PySem.W.fnOf "choose" "choose" (defArgs s_choose) (defBody s_choose) (defScope s_choose) .none kV14 dc14 pm14 an14 cd14 ct14), sl14⟩) (c14 : PySem.W.codeIn K cd14 "choose" = true) (k14 : PySem.W.keepIn K (.ref f14) = true)
    (a15 : PySem.W.nsIn K mainGlobals "carries" = some (some (.ref f15))) (l15 : K.lookup f15 = some ⟨oc15, od15, .func (PySem.W.fnOf "carries" "carries" (defArgs s_carries) (defBody s_carries) (defScope s_carries) .none kV15 dc15 pm15 an15 cd15 ct15), sl15⟩) (c15 : PySem.W.codeIn K cd15 "carries" = true) (k15 : PySem.W.keepIn K (.ref f15) = true)
    (a16 : PySem.W.nsIn K mainGlobals "falls_table" = some (some (.ref f16))) (l16 : K.lookup f16 = some ⟨oc16, od16, .func (PySem.W.fnOf "falls_table" "falls_table" (defArgs s_falls_table) (defBody s_falls_table) (defScope s_falls_table) .none kV16 dc16 pm16 an16 cd16 ct16), sl16⟩) (c16 : PySem.W.codeIn K cd16 "falls_table" = true) (k16 : PySem.W.keepIn K (.ref f16) = true)
    (a17 : PySem.W.nsIn K mainGlobals "carries_from" = some (some (.ref f17))) (l17 : K.lookup f17 = some ⟨oc17, od17, .func (PySem.W.fnOf "carries_from" "carries_from" (defArgs s_carries_from) (defBody s_carries_from) (defScope s_carries_from) .none kV17 dc17 pm17 an17 cd17 ct17), sl17⟩) (c17 : PySem.W.codeIn K cd17 "carries_from" = true) (k17 : PySem.W.keepIn K (.ref f17) = true)
    (a18 : PySem.W.nsIn K mainGlobals "carries_from_to" = some (some (.ref f18))) (l18 : K.lookup f18 = some ⟨oc18, od18, .func (PySem.W.fnOf "carries_from_to" "carries_from_to" (defArgs s_carries_from_to) (defBody s_carries_from_to) (defScope s_carries_from_to) .none kV18 dc18 pm18 an18 cd18 ct18), sl18⟩) (c18 : PySem.W.codeIn K cd18 "carries_from_to" = true) (k18 : PySem.W.keepIn K (.ref f18) = true)
    (a19 : PySem.W.nsIn K mainGlobals "_law_big" = some (some (.ref f19))) (l19 : K.lookup f19 = some ⟨oc19, od19, .func (PySem.W.fnOf "_law_big" "_law_big" (defArgs s_l_big) (defBody s_l_big) (defScope s_l_big) .none kV19 dc19 pm19 an19 cd19 ct19), sl19⟩) (c19 : PySem.W.codeIn K cd19 "_law_big" = true) (k19 : PySem.W.keepIn K (.ref f19) = true)
    (a20 : PySem.W.nsIn K mainGlobals "_law_whole" = some (some (.ref f20))) (l20 : K.lookup f20 = some ⟨oc20, od20, .func (PySem.W.fnOf "_law_whole" "_law_whole" (defArgs s_l_whole) (defBody s_l_whole) (defScope s_l_whole) .none kV20 dc20 pm20 an20 cd20 ct20), sl20⟩) (c20 : PySem.W.codeIn K cd20 "_law_whole" = true) (k20 : PySem.W.keepIn K (.ref f20) = true)
    (a21 : PySem.W.nsIn K mainGlobals "_law_order" = some (some (.ref f21))) (l21 : K.lookup f21 = some ⟨oc21, od21, .func (PySem.W.fnOf "_law_order" "_law_order" (defArgs s_l_order) (defBody s_l_order) (defScope s_l_order) .none kV21 dc21 pm21 an21 cd21 ct21), sl21⟩) (c21 : PySem.W.codeIn K cd21 "_law_order" = true) (k21 : PySem.W.keepIn K (.ref f21) = true)
    (a22 : PySem.W.nsIn K mainGlobals "_law_falls" = some (some (.ref f22))) (l22 : K.lookup f22 = some ⟨oc22, od22, .func (PySem.W.fnOf "_law_falls" "_law_falls" (defArgs s_l_falls) (defBody s_l_falls) (defScope s_l_falls) .none kV22 dc22 pm22 an22 cd22 ct22), sl22⟩) (c22 : PySem.W.codeIn K cd22 "_law_falls" = true) (k22 : PySem.W.keepIn K (.ref f22) = true)
    (a23 : PySem.W.nsIn K mainGlobals "_law_riffled" = some (some (.ref f23))) (l23 : K.lookup f23 = some ⟨oc23, od23, .func (PySem.W.fnOf "_law_riffled" "_law_riffled" (defArgs s_l_riffled) (defBody s_l_riffled) (defScope s_l_riffled) .none kV23 dc23 pm23 an23 cd23 ct23), sl23⟩) (c23 : PySem.W.codeIn K cd23 "_law_riffled" = true) (k23 : PySem.W.keepIn K (.ref f23) = true)
    (a24 : PySem.W.nsIn K mainGlobals "_law_due" = some (some (.ref f24))) (l24 : K.lookup f24 = some ⟨oc24, od24, .func (PySem.W.fnOf "_law_due" "_law_due" (defArgs s_l_due) (defBody s_l_due) (defScope s_l_due) .none kV24 dc24 pm24 an24 cd24 ct24), sl24⟩) (c24 : PySem.W.codeIn K cd24 "_law_due" = true) (k24 : PySem.W.keepIn K (.ref f24) = true)
    (a25 : PySem.W.nsIn K mainGlobals "_law_good" = some (some (.ref f25))) (l25 : K.lookup f25 = some ⟨oc25, od25, .func (PySem.W.fnOf "_law_good" "_law_good" (defArgs s_l_good) (defBody s_l_good) (defScope s_l_good) .none kV25 dc25 pm25 an25 cd25 ct25), sl25⟩) (c25 : PySem.W.codeIn K cd25 "_law_good" = true) (k25 : PySem.W.keepIn K (.ref f25) = true)
    (a26 : PySem.W.nsIn K mainGlobals "law" = some (some (.ref f26))) (l26 : K.lookup f26 = some ⟨oc26, od26, .func (PySem.W.fnOf "law" "law" (defArgs s_law) (defBody s_law) (defScope s_law) .none kV26 dc26 pm26 an26 cd26 ct26), sl26⟩) (c26 : PySem.W.codeIn K cd26 "law" = true) (k26 : PySem.W.keepIn K (.ref f26) = true)
    (z0 : PySem.W.nsIn K mainGlobals "all" = some none)
    (z1 : PySem.W.nsIn K mainGlobals "bool" = some none)
    (z2 : PySem.W.nsIn K mainGlobals "int" = some none)
    (z3 : PySem.W.nsIn K mainGlobals "isinstance" = some none)
    (z4 : PySem.W.nsIn K mainGlobals "len" = some none)
    (z5 : PySem.W.nsIn K mainGlobals "list" = some none)
    (z6 : PySem.W.nsIn K mainGlobals "min" = some none)
    (z7 : PySem.W.nsIn K mainGlobals "range" = some none)
    (z8 : PySem.W.nsIn K mainGlobals "set" = some none)
    (z9 : PySem.W.nsIn K mainGlobals "sorted" = some none)
    (z10 : PySem.W.nsIn K mainGlobals "zip" = some none)
    {y0 : Tok} (x0 : PySem.W.nsIn K mainGlobals "MOST_WORDS" = some (some (.int 4096 y0)))
    : Txt K mg where
  f_is_whole := def_mk (st := s_is_whole) (ps := ["thing"]) X G a0 l0 c0 k0 fun _ _ _ _ _ _ us hl => match us, hl with | [_], _ => rfl
  f_power := def_mk (st := s_power) (ps := ["base", "times"]) X G a1 l1 c1 k1 fun _ _ _ _ _ _ us hl => match us, hl with | [_, _], _ => rfl
  f_laid := def_mk (st := s_laid) (ps := ["one", "other"]) X G a2 l2 c2 k2 fun _ _ _ _ _ _ us hl => match us, hl with | [_, _], _ => rfl
  f_falls := def_mk (st := s_falls) (ps := ["order"]) X G a3 l3 c3 k3 fun _ _ _ _ _ _ us hl => match us, hl with | [_], _ => rfl
  f_is_word := def_mk (st := s_is_word) (ps := ["marks", "word", "n"]) X G a4 l4 c4 k4 fun _ _ _ _ _ _ us hl => match us, hl with | [_, _, _], _ => rfl
  f_is_heap := def_mk (st := s_is_heap) (ps := ["marks", "part"]) X G a5 l5 c5 k5 fun _ _ _ _ _ _ us hl => match us, hl with | [_, _], _ => rfl
  f_check_word := def_mk (st := s_check_word) (ps := ["marks", "word", "n"]) X G a6 l6 c6 k6 fun _ _ _ _ _ _ us hl => match us, hl with | [_, _, _], _ => rfl
  f_sizes := def_mk (st := s_sizes) (ps := ["marks", "word"]) X G a7 l7 c7 k7 fun _ _ _ _ _ _ us hl => match us, hl with | [_, _], _ => rfl
  f_riffled := def_mk (st := s_riffled) (ps := ["order", "marks", "word"]) X G a8 l8 c8 k8 fun _ _ _ _ _ _ us hl => match us, hl with | [_, _, _], _ => rfl
  f_places_drawn_from := def_mk (st := s_places_drawn_from) (ps := ["marks", "word"]) X G a9 l9 c9 k9 fun _ _ _ _ _ _ us hl => match us, hl with | [_, _], _ => rfl
  f_places_of_tops := def_mk (st := s_places_of_tops) (ps := ["marks", "counts"]) X G a10 l10 c10 k10 fun _ _ _ _ _ _ us hl => match us, hl with | [_, _], _ => rfl
  f_falls_from := def_mk (st := s_falls_from) (ps := ["order", "b"]) X G a11 l11 c11 k11 fun _ _ _ _ _ _ us hl => match us, hl with | [_, _], _ => rfl
  f_all_words := def_mk (st := s_all_words) (ps := ["m", "b"]) X G a12 l12 c12 k12 fun _ _ _ _ _ _ us hl => match us, hl with | [_, _], _ => rfl
  f_without_empty_heaps := def_mk (st := s_without_empty_heaps) (ps := ["word"]) X G a13 l13 c13 k13 fun _ _ _ _ _ _ us hl => match us, hl with | [_], _ => rfl
  f_choose := def_mk (st := s_choose) (ps := ["n", "k"]) X G a14 l14 c14 k14 fun _ _ _ _ _ _ us hl => match us, hl with | [_, _], _ => rfl
  f_carries := def_mk (st := s_carries) (ps := ["m", "b"]) X G a15 l15 c15 k15 fun _ _ _ _ _ _ us hl => match us, hl with | [_, _], _ => rfl
  f_falls_table := def_mk (st := s_falls_table) (ps := ["m", "b"]) X G a16 l16 c16 k16 fun _ _ _ _ _ _ us hl => match us, hl with | [_, _], _ => rfl
  f_carries_from := def_mk (st := s_carries_from) (ps := ["m", "b", "i"]) X G a17 l17 c17 k17 fun _ _ _ _ _ _ us hl => match us, hl with | [_, _, _], _ => rfl
  f_carries_from_to := def_mk (st := s_carries_from_to) (ps := ["m", "b", "i", "j"]) X G a18 l18 c18 k18 fun _ _ _ _ _ _ us hl => match us, hl with | [_, _, _, _], _ => rfl
  f_l_big := def_mk (st := s_l_big) (ps := ["_law_script", "_law_k"]) X G a19 l19 c19 k19 fun _ _ _ _ _ _ us hl => match us, hl with | [_, _], _ => rfl
  f_l_whole := def_mk (st := s_l_whole) (ps := ["_law_found"]) X G a20 l20 c20 k20 fun _ _ _ _ _ _ us hl => match us, hl with | [_], _ => rfl
  f_l_order := def_mk (st := s_l_order) (ps := ["_law_n", "_law_cell"]) X G a21 l21 c21 k21 fun _ _ _ _ _ _ us hl => match us, hl with | [_, _], _ => rfl
  f_l_falls := def_mk (st := s_l_falls) (ps := ["_law_order_here"]) X G a22 l22 c22 k22 fun _ _ _ _ _ _ us hl => match us, hl with | [_], _ => rfl
  f_l_riffled := def_mk (st := s_l_riffled) (ps := ["_law_order_here", "_law_word", "_law_b"]) X G a23 l23 c23 k23 fun _ _ _ _ _ _ us hl => match us, hl with | [_, _, _], _ => rfl
  f_l_due := def_mk (st := s_l_due) (ps := ["_law_order_here", "_law_b"]) X G a24 l24 c24 k24 fun _ _ _ _ _ _ us hl => match us, hl with | [_, _], _ => rfl
  f_l_good := def_mk (st := s_l_good) (ps := ["_law_found", "_law_due_here"]) X G a25 l25 c25 k25 fun _ _ _ _ _ _ us hl => match us, hl with | [_, _], _ => rfl
  f_law := def_mk (st := s_law) (ps := ["_law_script"]) X G a26 l26 c26 k26 fun _ _ _ _ _ _ us hl => match us, hl with | [_], _ => rfl
  z_all := PySem.W.mg_none_of X G z0
  z_bool := PySem.W.mg_none_of X G z1
  z_int := PySem.W.mg_none_of X G z2
  z_isinstance := PySem.W.mg_none_of X G z3
  z_len := PySem.W.mg_none_of X G z4
  z_list := PySem.W.mg_none_of X G z5
  z_min := PySem.W.mg_none_of X G z6
  z_range := PySem.W.mg_none_of X G z7
  z_set := PySem.W.mg_none_of X G z8
  z_sorted := PySem.W.mg_none_of X G z9
  z_zip := PySem.W.mg_none_of X G z10
  c_MOST_WORDS := ⟨_, PySem.W.mg_of X G x0⟩

-- LAWHAS
section
variable {P : Program} {w : World} {K : PySem.W.Frag} {mg : Str → Option Value} {base : Heap}
theorem law_has (T : Txt K mg) : Has P w K mg base 9 "law" ["_law_script"] (sp_law K) := by
  have h_l_big := ok_l_big (P := P) (w := w) (base := base) (k := 0) T 
  have h_l_order := ok_l_order (P := P) (w := w) (base := base) (k := 0) T 
  have h_l_falls := ok_l_falls (P := P) (w := w) (base := base) (k := 0) T 
  have h_l_riffled := ok_l_riffled (P := P) (w := w) (base := base) (k := 0) T 
  have h_l_due := ok_l_due (P := P) (w := w) (base := base) (k := 1) T (h_l_falls.mono (by decide)) (h_l_riffled.mono (by decide))
  have h_power := ok_power (P := P) (w := w) (base := base) (k := 0) T 
  have h_all_words := ok_all_words (P := P) (w := w) (base := base) (k := 0) T 
  have h_falls := ok_falls (P := P) (w := w) (base := base) (k := 0) T 
  have h_is_whole := ok_is_whole (P := P) (w := w) (base := base) (k := 0) T 
  have h_is_heap := ok_is_heap (P := P) (w := w) (base := base) (k := 1) T (h_is_whole.mono (by decide))
  have h_is_word := ok_is_word (P := P) (w := w) (base := base) (k := 2) T (h_is_heap.mono (by decide))
  have h_check_word := ok_check_word (P := P) (w := w) (base := base) (k := 3) T (h_is_word.mono (by decide))
  have h_laid := ok_laid (P := P) (w := w) (base := base) (k := 0) T 
  have h_places_of_tops := ok_places_of_tops (P := P) (w := w) (base := base) (k := 0) T 
  have h_sizes := ok_sizes (P := P) (w := w) (base := base) (k := 4) T (h_check_word.mono (by decide))
  have h_places_drawn_from := ok_places_drawn_from (P := P) (w := w) (base := base) (k := 5) T (h_places_of_tops.mono (by decide)) (h_sizes.mono (by decide))
  have h_riffled := ok_riffled (P := P) (w := w) (base := base) (k := 6) T (h_check_word.mono (by decide)) (h_laid.mono (by decide)) (h_places_drawn_from.mono (by decide))
  have h_without_empty_heaps := ok_without_empty_heaps (P := P) (w := w) (base := base) (k := 0) T 
  have h_falls_from := ok_falls_from (P := P) (w := w) (base := base) (k := 7) T (h_power.mono (by decide)) (h_all_words.mono (by decide)) (h_falls.mono (by decide)) (h_riffled.mono (by decide)) (h_without_empty_heaps.mono (by decide))
  have h_l_whole := ok_l_whole (P := P) (w := w) (base := base) (k := 0) T 
  have h_l_good := ok_l_good (P := P) (w := w) (base := base) (k := 1) T (h_l_whole.mono (by decide))
  have h_choose := ok_choose (P := P) (w := w) (base := base) (k := 0) T 
  have h_carries_from_to := ok_carries_from_to (P := P) (w := w) (base := base) (k := 1) T (h_choose.mono (by decide))
  have h_carries_from := ok_carries_from (P := P) (w := w) (base := base) (k := 2) T (h_carries_from_to.mono (by decide))
  have h_carries := ok_carries (P := P) (w := w) (base := base) (k := 3) T (h_carries_from.mono (by decide))
  have h_falls_table := ok_falls_table (P := P) (w := w) (base := base) (k := 4) T (h_carries.mono (by decide))
  have h_law := ok_law (P := P) (w := w) (base := base) (k := 8) T (h_l_big.mono (by decide)) (h_l_order.mono (by decide)) (h_l_due.mono (by decide)) (h_falls_from.mono (by decide)) (h_l_good.mono (by decide)) (h_falls_table.mono (by decide)) (h_l_falls.mono (by decide))
  exact h_law
end
abbrev depth : Nat := 9

section
variable {P : Program} {w : World} {K : PySem.W.Frag} {mg : Str → Option Value} {base : Heap}
theorem sp_law_top {H : Hp} {a : Addr} {ns : List Int} (hl : ns.length ≤ 63) (hS : SqL K H a (ns.map V.int)) : sp_law K [.ref a] H (fun v _ => v = .bl true) fun _ _ _ => False := ⟨_, rfl, a, ns, hS, rfl, hl, fun _ _ => rfl⟩
end
end K62
def PySem.W.Fast.tw3019322270691164761 : Nat := 0
def PySem.W.Fast.tw17522948760538006191 : Nat := 0
def PySem.W.Fast.tw10881303280366611498 : Nat := 0
def PySem.W.Fast.tw1753563548912197725 : Nat := 0
def PySem.W.Fast.tw5266763341327517528 : Nat := 0
def PySem.W.Fast.tw6570614361423414301 : Nat := 0
def PySem.W.Fast.tw18183348412071961568 : Nat := 0
def PySem.W.Fast.tw4110603223415969168 : Nat := 0
def PySem.W.Fast.tw7759489161978541538 : Nat := 0
def PySem.W.Fast.tw6159490563302373490 : Nat := 0
def PySem.W.Fast.tw5784165963301148844 : Nat := 0
def PySem.W.Fast.tw1144389722541556929 : Nat := 0
-- FINAL
open PySem PySem.W PyProof.Rows
set_option maxRecDepth 100000 in
set_option maxHeartbeats 0 in
theorem PySem.Challenge.cw_riftcarry_k62_falls_from_any_order_holds : PySem.Challenge.rw_riftcarry_k62_falls_from_any_order.Holds := by
  w_on; o_law; k_head; (case hw => w_witness2)
  k_fill
  refine L2.walk_ofK (l := PySem.Challenge.rw_riftcarry_k62_falls_from_any_order) (n := 63) (k := K62.depth) (x := "_law_script") (CX := L2.CX0) (sp := K62.sp_law) rfl (by decide) rfl ⟨rfl, by decide, by decide⟩ (fun w h Y => PySem.W.kIn_of Y) ?F ?S ?C
  case F =>
    intro w mg fa h KX G hmg
    have T : K62.Txt (L2.KOf KX) mg := by
      dsimp only [L2.KOf]
      refine' K62.txt_mk KX G ?a0 ?l0 ?c0 ?k0 ?a1 ?l1 ?c1 ?k1 ?a2 ?l2 ?c2 ?k2 ?a3 ?l3 ?c3 ?k3 ?a4 ?l4 ?c4 ?k4 ?a5 ?l5 ?c5 ?k5 ?a6 ?l6 ?c6 ?k6 ?a7 ?l7 ?c7 ?k7 ?a8 ?l8 ?c8 ?k8 ?a9 ?l9 ?c9 ?k9 ?a10 ?l10 ?c10 ?k10 ?a11 ?l11 ?c11 ?k11 ?a12 ?l12 ?c12 ?k12 ?a13 ?l13 ?c13 ?k13 ?a14 ?l14 ?c14 ?k14 ?a15 ?l15 ?c15 ?k15 ?a16 ?l16 ?c16 ?k16 ?a17 ?l17 ?c17 ?k17 ?a18 ?l18 ?c18 ?k18 ?a19 ?l19 ?c19 ?k19 ?a20 ?l20 ?c20 ?k20 ?a21 ?l21 ?c21 ?k21 ?a22 ?l22 ?c22 ?k22 ?a23 ?l23 ?c23 ?k23 ?a24 ?l24 ?c24 ?k24 ?a25 ?l25 ?c25 ?k25 ?a26 ?l26 ?c26 ?k26 ?z0 ?z1 ?z2 ?z3 ?z4 ?z5 ?z6 ?z7 ?z8 ?z9 ?z10 ?x0
      (case a0 => k_is)
      (case l0 => k_is)
      (case c0 => k_is)
      (case k0 => k_is)
      (case a1 => k_is)
      (case l1 => k_is)
      (case c1 => k_is)
      (case k1 => k_is)
      (case a2 => k_is)
      (case l2 => k_is)
      (case c2 => k_is)
      (case k2 => k_is)
      (case a3 => k_is)
      (case l3 => k_is)
      (case c3 => k_is)
      (case k3 => k_is)
      (case a4 => k_is)
      (case l4 => k_is)
      (case c4 => k_is)
      (case k4 => k_is)
      (case a5 => k_is)
      (case l5 => k_is)
      (case c5 => k_is)
      (case k5 => k_is)
      (case a6 => k_is)
      (case l6 => k_is)
      (case c6 => k_is)
      (case k6 => k_is)
      (case a7 => k_is)
      (case l7 => k_is)
      (case c7 => k_is)
      (case k7 => k_is)
      (case a8 => k_is)
      (case l8 => k_is)
      (case c8 => k_is)
      (case k8 => k_is)
      (case a9 => k_is)
      (case l9 => k_is)
      (case c9 => k_is)
      (case k9 => k_is)
      (case a10 => k_is)
      (case l10 => k_is)
      (case c10 => k_is)
      (case k10 => k_is)
      (case a11 => k_is)
      (case l11 => k_is)
      (case c11 => k_is)
      (case k11 => k_is)
      (case a12 => k_is)
      (case l12 => k_is)
      (case c12 => k_is)
      (case k12 => k_is)
      (case a13 => k_is)
      (case l13 => k_is)
      (case c13 => k_is)
      (case k13 => k_is)
      (case a14 => k_is)
      (case l14 => k_is)
      (case c14 => k_is)
      (case k14 => k_is)
      (case a15 => k_is)
      (case l15 => k_is)
      (case c15 => k_is)
      (case k15 => k_is)
      (case a16 => k_is)
      (case l16 => k_is)
      (case c16 => k_is)
      (case k16 => k_is)
      (case a17 => k_is)
      (case l17 => k_is)
      (case c17 => k_is)
      (case k17 => k_is)
      (case a18 => k_is)
      (case l18 => k_is)
      (case c18 => k_is)
      (case k18 => k_is)
      (case a19 => k_is)
      (case l19 => k_is)
      (case c19 => k_is)
      (case k19 => k_is)
      (case a20 => k_is)
      (case l20 => k_is)
      (case c20 => k_is)
      (case k20 => k_is)
      (case a21 => k_is)
      (case l21 => k_is)
      (case c21 => k_is)
      (case k21 => k_is)
      (case a22 => k_is)
      (case l22 => k_is)
      (case c22 => k_is)
      (case k22 => k_is)
      (case a23 => k_is)
      (case l23 => k_is)
      (case c23 => k_is)
      (case k23 => k_is)
      (case a24 => k_is)
      (case l24 => k_is)
      (case c24 => k_is)
      (case k24 => k_is)
      (case a25 => k_is)
      (case l25 => k_is)
      (case c25 => k_is)
      (case k25 => k_is)
      (case a26 => k_is)
      (case l26 => k_is)
      (case c26 => k_is)
      (case k26 => k_is)
      (case z0 => k_is)
      (case z1 => k_is)
      (case z2 => k_is)
      (case z3 => k_is)
      (case z4 => k_is)
      (case z5 => k_is)
      (case z6 => k_is)
      (case z7 => k_is)
      (case z8 => k_is)
      (case z9 => k_is)
      (case z10 => k_is)
      (case x0 => k_is)
    obtain ⟨fd, hb, hF⟩ := L2.fin_of (P := PySem.Challenge.rw_riftcarry_k62_falls_from_any_order.prog) (w := w) (sp := K62.sp_law _) T.f_law hmg (fun base => K62.law_has T) (fun _ _ _ _ _ _ _ => rfl)
    exact ⟨fd, hb, fun base _ _ => hF base⟩
  case S => exact fun K H a ns hl hO hS => K62.sp_law_top hl hS
  case C => exact fun _ _ _ _ z => z
